import Derived.Test.YtgocemjopmgnaaaBMixAir
import Derived.Test.YtgocemjopmgnaaaChecked
import Derived.Test.YtgocemjopmgnaaaRows
import Derived.Laws.FloatArith
import Derived.ProofKit
import Derived.WalkKit
import Derived.WalkLawsBesides
import Derived.WalkSpells
import Derived.Deep.QuietTactic
import Derived.BigQuiet
import Derived.Deep.RegionHeld3
import Derived.ChangeKeysEq
import Derived.Laws.BitsAllLaws
import Derived.OpenShut
/- The law FnExactMixAir of chapter 1: at every argument the call returns true, and what was there before it is as it was. -/
namespace Go.Proofs.Ytgocemjopmgnaaa
open Go.RowKit Go.Fl

@[go_sem] theorem ext_f64bits (y : Nat) (w : World) : (callFunc 169 #[.float .f64 y]).run Try.prog w = .ok (.value (.int .u64 y)) w := by
  rw [run_callFunc_extern Try.func169 (by kernel_rfl) (by kernel_rfl) (by kernel_rfl) (e := Extern.MathFloatBits.float64bits) (by kernel_rfl)]
  rfl

@[go_sem] theorem ext_f64from (n : Int) (w : World) : (callFunc 177 #[.int .u64 n]).run Try.prog w = .ok (.value (.float .f64 n.toNat)) w := by
  rw [run_callFunc_extern Try.func177 (by kernel_rfl) (by kernel_rfl) (by kernel_rfl) (e := Extern.MathFloatBits.float64frombits) (by kernel_rfl)]
  rfl

theorem hid {p : Prop} (h : p) : Hid p := h

theorem clear_sign (y : Nat) (h : y < 18446744073709551616) : (bits BinOp.andNot IntKind.u64 (y : Int) 9223372036854775808).toNat = y % 9223372036854775808 := by
  rw [u64_andNot _ _ (by omega) (by omega) (by omega) (by omega)]
  rw [Int.toNat_natCast, Int.toNat_natCast]
  exact Nat.and_two_pow_sub_one_eq_mod y 63

theorem abs_f64 (y : Nat) (h : y < 18446744073709551616) (w : World) :
    Calls Try.prog 170 #[.float .f64 y] w fun e w' => e = .returned (.float .f64 (y % 9223372036854775808)) ∧ w = w' := by
  have hc := hid (clear_sign y h)
  clear h
  go_enter Try.func170, Try.ntmps170
  go_wp2
  go_ret
  exact ⟨by simp [hc.out], rfl⟩

theorem isNaN_f64 (y : Nat) (w : World) :
    Calls Try.prog 155 #[.float .f64 y] w fun e w' => e = .returned (.bool (FloatKind.f64.format.order y y != some .eq)) ∧ w = w' := by
  go_enter Try.func155, Try.ntmps155
  go_wp2
  go_ret
  exact ⟨rfl, rfl⟩

theorem isInf_f64 (y : Nat) (h : y < 18446744073709551616) (w : World) :
    Calls Try.prog 156 #[.float .f64 y, .int .i64 0] w fun e w' => e = .returned (.bool (FloatKind.f64.format.order (y % 9223372036854775808) 9218868437227405311 == some .gt)) ∧ w = w' := by
  have hc := hid h
  clear h
  go_enter Try.func156, Try.ntmps156
  go_wp2_with (go_at_call 170; refine (abs_f64 y hc.out _).mono ?_; rintro e w' ⟨rfl, rfl⟩)
  go_ret
  exact ⟨rfl, rfl⟩

theorem isFinite_t (x : Nat) (hx : x < 4294967296) (h : finB x = true) (w : World) :
    Calls Try.prog 106 #[.float .f32 x] w fun e w' => e = .returned (.bool true) ∧ w = w' := by
  rw [finB_iff] at h
  have hc := fun w => run_conv_wid (P := Try.prog) w 24 62 x hx Try.underlying24 Try.underlying62 h
  obtain ⟨a, b, m, e, hr⟩ := read_wid_fin hx h
  have hn : (FloatKind.f64.format.order (wid x) (wid x) != some .eq) = false := by
    show (D.order (wid x) (wid x) != some .eq) = false
    rw [order_self hr]; rfl
  have hi : (FloatKind.f64.format.order (wid x % 9223372036854775808) 9218868437227405311 == some .gt) = false := by
    show (D.order (wid x % 9223372036854775808) 9218868437227405311 == some .gt) = false
    rw [b, order_ltD a (by decide)]
    rw [DINF_val] at a
    have hle : wid (mg x) ≤ 9218868437227405311 := by omega
    rcases Nat.lt_or_eq_of_le hle with h' | h'
    · rw [Nat.compare_eq_lt.2 h']; rfl
    · rw [Nat.compare_eq_eq.2 h']; rfl
  have hw : wid x < 18446744073709551616 := D.write_lt _
  have Hn := hid hn
  have Hi := hid hi
  have Hw := hid hw
  clear hn hi hw hr a b h hx
  go_enter Try.func106, Try.ntmps106
  go_wp2_with (first | (go_at_call 155; refine (isNaN_f64 (wid x) _).mono ?_; rintro e w' ⟨rfl, rfl⟩; rw [Hn.out]) | (go_at_call 156; refine (isInf_f64 (wid x) Hw.out _).mono ?_; rintro e w' ⟨rfl, rfl⟩; rw [Hi.out]))
  go_ret
  exact ⟨rfl, rfl⟩

theorem isFinite_f (x : Nat) (hx : x < 4294967296) (h : finB x = false) (w : World) :
    Calls Try.prog 106 #[.float .f32 x] w fun e w' => e = .returned (.bool false) ∧ Below w.heap.size w w' := by
  rw [finB_iff'] at h
  rcases Nat.lt_or_eq_of_le h with h | h
  · obtain ⟨z, hc, h1, _⟩ := run_conv_nan (P := Try.prog) w 24 62 x Try.underlying24 Try.underlying62 h
    obtain ⟨s, t, hr⟩ := read_nanD h1
    have Hn := hid (show (FloatKind.f64.format.order z z != some .eq) = true by
      show (D.order z z != some .eq) = true
      rw [order_nan hr]; rfl)
    clear h h1 hr hx
    go_enter Try.func106, Try.ntmps106
    go_wp2_with (go_at_call 155; refine (isNaN_f64 z _).mono ?_; rintro e w' ⟨rfl, rfl⟩; rw [Hn.out])
    go_ret
    exact ⟨rfl, (Below.refl _ _).drew⟩
  · obtain ⟨z, hc, h1, h2⟩ := run_conv_inf (P := Try.prog) w 24 62 x hx Try.underlying24 Try.underlying62 h.symm
    have hr : D.read z = .infinity (decide (9223372036854775808 ≤ z)) := by rw [read_signD h2, h1, read_DINF]
    have Hn := hid (show (FloatKind.f64.format.order z z != some .eq) = false by
      show (D.order z z != some .eq) = false
      rw [order_inf hr]; rfl)
    have Hi := hid (show (FloatKind.f64.format.order (z % 9223372036854775808) 9218868437227405311 == some .gt) = true by
      rw [h1]; decide)
    have H2 := hid h2
    clear h h1 hr hx h2
    go_enter Try.func106, Try.ntmps106
    go_wp2_with (first | (go_at_call 155; refine (isNaN_f64 z _).mono ?_; rintro e w' ⟨rfl, rfl⟩; rw [Hn.out]) | (go_at_call 156; refine (isInf_f64 z H2.out _).mono ?_; rintro e w' ⟨rfl, rfl⟩; rw [Hi.out]))
    go_ret
    exact ⟨rfl, Below.refl _ _⟩

theorem signbit_f64 (y : Nat) (w : World) :
    Calls Try.prog 154 #[.float .f64 y] w fun e w' => e = .returned (.bool (decide (wrap64 (y : Int) < 0))) ∧ w = w' := by
  go_enter Try.func154, Try.ntmps154
  go_wp2
  go_ret
  exact ⟨rfl, rfl⟩

theorem and_sign (y : Nat) (h : y < 18446744073709551616) : (decide (wrap64 (y : Int) < 0)) = decide (9223372036854775808 ≤ y) := by
  unfold wrap64
  by_cases h' : 9223372036854775808 ≤ y
  · rw [decide_eq_true h']; simp; omega
  · rw [decide_eq_false h']; simp; omega

theorem isAmount_t (x : Nat) (h : amtB x = true) (w : World) :
    Calls Try.prog 104 #[.float .f32 x] w fun e w' => e = .returned (.bool true) ∧ w = w' := by
  have hf := amt_fin h
  rw [amtB_iff, INF_val] at h
  have hx : x < 4294967296 := by omega
  have hc := fun w => run_conv_wid (P := Try.prog) w 24 62 x hx Try.underlying24 Try.underlying62 (finB_iff.1 hf)
  have hw : wid x < 18446744073709551616 := D.write_lt _
  have Hs := hid (show (decide (wrap64 (wid x : Int) < 0)) = false by
    rw [and_sign _ hw]
    have := (wid_val (x := x) (by rw [INF_val]; omega)).1
    rw [DINF_val] at this
    simp; omega)
  have Hx := hid hx
  have Hf := hid hf
  clear h hf hx hw
  go_enter Try.func104, Try.ntmps104
  go_wp2_with (first | (go_at_call 106; refine (isFinite_t x Hx.out Hf.out _).mono ?_; rintro e w' ⟨rfl, rfl⟩) | (go_at_call 154; refine (signbit_f64 (wid x) _).mono ?_; rintro e w' ⟨rfl, rfl⟩; rw [Hs.out]))
  go_ret
  exact ⟨rfl, rfl⟩

theorem isAmount_f (x : Nat) (hx : x < 4294967296) (h : amtB x = false) (w : World) :
    Calls Try.prog 104 #[.float .f32 x] w fun e w' => e = .returned (.bool false) ∧ Below w.heap.size w w' := by
  rcases hf : finB x with _ | _
  · have Hx := hid hx
    have Hf := hid hf
    clear h hf hx
    go_enter Try.func104, Try.ntmps104
    go_wp2_with (go_at_call 106; refine (isFinite_f x Hx.out Hf.out _).mono ?_; rintro e w' ⟨rfl, hb⟩)
    go_ret
    exact ⟨rfl, hb⟩
  · have hc := fun w => run_conv_wid (P := Try.prog) w 24 62 x hx Try.underlying24 Try.underlying62 (finB_iff.1 hf)
    have hw : wid x < 18446744073709551616 := D.write_lt _
    have Hs := hid (show (decide (wrap64 (wid x : Int) < 0)) = true by
      rw [and_sign _ hw, wid_fin hx (finB_iff.1 hf)]
      rw [amtB_iff', INF_val] at h
      rw [finB_iff, INF_val] at hf
      unfold mg at hf ⊢
      rw [if_pos (by omega)]
      simp)
    have Hx := hid hx
    have Hf := hid hf
    clear h hf hx hw
    go_enter Try.func104, Try.ntmps104
    go_wp2_with (first | (go_at_call 106; refine (isFinite_t x Hx.out Hf.out _).mono ?_; rintro e w' ⟨rfl, rfl⟩) | (go_at_call 154; refine (signbit_f64 (wid x) _).mono ?_; rintro e w' ⟨rfl, rfl⟩; rw [Hs.out]))
    go_ret
    exact ⟨rfl, Below.refl _ _⟩

@[go_sem] theorem ext_f32bits (y : Nat) (w : World) : (callFunc 159 #[.float .f32 y]).run Try.prog w = .ok (.value (.int .u32 y)) w := by
  rw [run_callFunc_extern Try.func159 (by kernel_rfl) (by kernel_rfl) (by kernel_rfl) (e := Extern.MathFloatBits.float32bits) (by kernel_rfl)]
  rfl

theorem sFinite_t (x : Nat) (hx : x < 4294967296) (h : finB x = true) (w : World) :
    Calls Try.prog 110 #[.float .f32 x] w fun e w' => e = .returned (.bool true) ∧ w = w' := by
  have hr := fun w => run_float_arith (P := Try.prog) w .sub 24 .f32 x x 0 (sub_self_fin hx h)
  clear h hx
  go_enter Try.func110, Try.ntmps110
  go_wp2
  go_ret
  exact ⟨rfl, rfl⟩

theorem sFinite_f (x : Nat) (hx : x < 4294967296) (h : finB x = false) (w : World) :
    Calls Try.prog 110 #[.float .f32 x] w fun e w' => e = .returned (.bool false) ∧ Below w.heap.size w w' := by
  obtain ⟨z, hr, h1, _⟩ := run_arith_nan (P := Try.prog) w .sub (by simp) 24 x x (sub_self_none hx h)
  have Hn := hid (show (FloatKind.f32.format.order z 0 == some .eq) = false by
    show (S.order z 0 == some .eq) = false
    rw [order_nan32 h1]; rfl)
  clear h hx h1
  go_enter Try.func110, Try.ntmps110
  go_wp2
  go_ret
  exact ⟨by simp [Hn.out], (Below.refl _ _).drew⟩

theorem sAmount_t (x : Nat) (h : amtB x = true) (w : World) :
    Calls Try.prog 114 #[.float .f32 x] w fun e w' => e = .returned (.bool true) ∧ w = w' := by
  have hf := amt_fin h
  have h' := amtB_iff.1 h
  have hx : x < 4294967296 := by rw [INF_val] at h'; omega
  have Hx := hid hx
  have Hf := hid hf
  by_cases h0 : x = 0
  · subst h0
    clear h hf h' hx
    go_enter Try.func114, Try.ntmps114
    go_wp2_with (go_at_call 110; refine (sFinite_t 0 Hx.out Hf.out _).mono ?_; rintro e w' ⟨rfl, rfl⟩)
    go_ret
    exact ⟨rfl, rfl⟩
  · have hg : (FloatKind.f32.format.order x 0 == some .gt) = true := by
      show (S.order x 0 == some .gt) = true
      rw [order_zero_pos h', Nat.compare_eq_gt.2 (by omega)]; rfl
    clear h hf h' hx h0
    go_enter Try.func114, Try.ntmps114
    go_wp2_with (go_at_call 110; refine (sFinite_t x Hx.out Hf.out _).mono ?_; rintro e w' ⟨rfl, rfl⟩)
    go_ret
    exact ⟨rfl, rfl⟩

theorem sAmount_f (x : Nat) (hx : x < 4294967296) (h : amtB x = false) (w : World) :
    Calls Try.prog 114 #[.float .f32 x] w fun e w' => e = .returned (.bool false) ∧ Below w.heap.size w w' := by
  rcases hf : finB x with _ | _
  · have Hx := hid hx
    have Hf := hid hf
    clear h hf hx
    go_enter Try.func114, Try.ntmps114
    go_wp2_with (go_at_call 110; refine (sFinite_f x Hx.out Hf.out _).mono ?_; rintro e w' ⟨rfl, hb⟩)
    go_ret
    exact ⟨rfl, hb⟩
  · have hs : 2147483648 ≤ x := by
      rw [amtB_iff', INF_val] at h
      have := finB_iff.1 hf
      rw [INF_val] at this
      unfold mg at this
      omega
    have hg : (FloatKind.f32.format.order x 0 == some .gt) = false := order_neg_zero hx hf hs
    have hb : ((x : Int) == 0) = false := by simp; omega
    have Hx := hid hx
    have Hf := hid hf
    clear h hf hx hs
    go_enter Try.func114, Try.ntmps114
    go_wp2_with (go_at_call 110; refine (sFinite_t x Hx.out Hf.out _).mono ?_; rintro e w' ⟨rfl, rfl⟩)
    go_ret
    exact ⟨rfl, Below.refl _ _⟩

theorem div_one_some {y m : Nat} {s : Bool} {e : Int} (h : D.read y = .number s m e) : ∃ q, floatBits .quo .f64 4607182418800017408 y = some q := by
  have h1 : D.read 4607182418800017408 = .number false 4503599627370496 (-52) := by decide
  show ∃ q, D.div 4607182418800017408 y = some q
  unfold Ieee.Format.div
  rw [h, h1]
  simp only [Ieee.Datum.quotient]
  by_cases hm : m = 0
  · rw [if_pos hm]; exact ⟨_, rfl⟩
  · rw [if_neg hm]; exact ⟨_, rfl⟩

set_option maxRecDepth 100000 in
theorem sameFloat (x : Nat) (hx : x < 4294967296) (h : finB x = true) (w : World) :
    Calls Try.prog 62 #[.float .f64 (wid x), .float .f64 (wid x)] w fun e w' => e = .returned (.bool true) ∧ w = w' := by
  obtain ⟨a, b, m, e, hr⟩ := read_wid_fin hx (finB_iff.1 h)
  have hn : (FloatKind.f64.format.order (wid x) (wid x) != some .eq) = false := by
    show (D.order (wid x) (wid x) != some .eq) = false
    rw [order_self hr]; rfl
  have hq : (FloatKind.f64.format.order (wid x) (wid x) == some .eq) = true := by
    show (D.order (wid x) (wid x) == some .eq) = true
    rw [order_self hr]; rfl
  obtain ⟨q, hd⟩ := div_one_some hr
  have hdiv := fun w => run_float_arith (P := Try.prog) w .quo 62 .f64 4607182418800017408 (wid x) q hd
  clear hd hr a b h hx
  rcases hz : (FloatKind.f64.format.order (wid x) 0 == some .eq) with _ | _
  · go_enter Try.func62, Try.ntmps62
    go_wp2
    go_ret
    exact ⟨by simp, rfl⟩
  · go_enter Try.func62, Try.ntmps62
    go_wp2
    go_ret
    exact ⟨by simp, rfl⟩

def Share (x : Nat) : Prop := x ≤ 1065353216

theorem share_amt {x : Nat} (h : Share x) : amtB x = true := by unfold Share at h; rw [amtB_iff, INF_val]; omega

theorem leq_one_t {x : Nat} (h : Share x) : (FloatKind.f32.format.order x 1065353216 == some .lt || FloatKind.f32.format.order x 1065353216 == some .eq) = true := by
  show (S.order x 1065353216 == some .lt || S.order x 1065353216 == some .eq) = true
  rw [order_lt (amtB_iff.1 (share_amt h)) (by decide)]
  unfold Share at h
  rcases Nat.lt_or_eq_of_le h with h | h
  · rw [Nat.compare_eq_lt.2 h]; rfl
  · rw [Nat.compare_eq_eq.2 h]; rfl

theorem leq_one_f {x : Nat} (ha : amtB x = true) (h : ¬ Share x) : (FloatKind.f32.format.order x 1065353216 == some .lt || FloatKind.f32.format.order x 1065353216 == some .eq) = false := by
  show (S.order x 1065353216 == some .lt || S.order x 1065353216 == some .eq) = false
  rw [order_lt (amtB_iff.1 ha) (by decide)]
  unfold Share at h
  rw [Nat.compare_eq_gt.2 (by omega)]; rfl

theorem iShare_t (x : Nat) (h : Share x) (w : World) :
    Calls Try.prog 98 #[.float .f32 x] w fun e w' => e = .returned (.bool true) ∧ w = w' := by
  have ho := leq_one_t h
  have Ha := hid (share_amt h)
  clear h
  go_enter Try.func98, Try.ntmps98
  go_wp2_with fail
  refine (isAmount_t x Ha.out _).mono ?_
  rintro e w1 ⟨rfl, rfl⟩
  go_wp2
  go_ret
  exact ⟨by first | rfl | (simp; done), rfl⟩

theorem iShare_f (x : Nat) (hx : x < 4294967296) (h : ¬ Share x) (w : World) :
    Calls Try.prog 98 #[.float .f32 x] w fun e w' => e = .returned (.bool false) ∧ Below w.heap.size w w' := by
  rcases ha : amtB x with _ | _
  · have Ha := hid ha
    have Hx := hid hx
    clear h ha hx
    go_enter Try.func98, Try.ntmps98
    go_wp2_with fail
    refine (isAmount_f x Hx.out Ha.out _).mono ?_
    rintro e w1 ⟨rfl, hb⟩
    go_wp2
    go_ret
    exact ⟨rfl, hb⟩
  · have ho := leq_one_f ha h
    have Ha := hid ha
    clear h ha hx
    go_enter Try.func98, Try.ntmps98
    go_wp2_with fail
    refine (isAmount_t x Ha.out _).mono ?_
    rintro e w1 ⟨rfl, rfl⟩
    go_wp2
    go_ret
    exact ⟨by first | rfl | (simp; done), Below.refl _ _⟩

theorem sShare_t (x : Nat) (h : Share x) (w : World) :
    Calls Try.prog 136 #[.float .f32 x] w fun e w' => e = .returned (.bool true) ∧ w = w' := by
  have ho := leq_one_t h
  have Ha := hid (share_amt h)
  clear h
  go_enter Try.func136, Try.ntmps136
  go_wp2_with fail
  refine (sAmount_t x Ha.out _).mono ?_
  rintro e w1 ⟨rfl, rfl⟩
  go_wp2
  go_ret
  exact ⟨by first | rfl | (simp; done), rfl⟩

theorem sShare_f (x : Nat) (hx : x < 4294967296) (h : ¬ Share x) (w : World) :
    Calls Try.prog 136 #[.float .f32 x] w fun e w' => e = .returned (.bool false) ∧ Below w.heap.size w w' := by
  rcases ha : amtB x with _ | _
  · have Ha := hid ha
    have Hx := hid hx
    clear h ha hx
    go_enter Try.func136, Try.ntmps136
    go_wp2_with fail
    refine (sAmount_f x Hx.out Ha.out _).mono ?_
    rintro e w1 ⟨rfl, hb⟩
    go_wp2
    go_ret
    exact ⟨rfl, hb⟩
  · have ho := leq_one_f ha h
    have Ha := hid ha
    clear h ha hx
    go_enter Try.func136, Try.ntmps136
    go_wp2_with fail
    refine (sAmount_t x Ha.out _).mono ?_
    rintro e w1 ⟨rfl, rfl⟩
    go_wp2
    go_ret
    exact ⟨by first | rfl | (simp; done), Below.refl _ _⟩

theorem loose {P : Program} {f : FuncId} {args : Array Value} {w : World} {v : Value} (h : Calls P f args w fun e w' => e = .returned v ∧ w = w') : Calls P f args w fun e w' => e = .returned v ∧ Below w.heap.size w w' :=
  h.mono fun _ _ ⟨a, b⟩ => ⟨a, b ▸ Below.refl _ _⟩

theorem alloc_air (a : Operand → Value) (d : Option Tmp) (t : TypeId) (ps : String) (af : Array Edge) (gd : Option (Nat × Bool)) (w : World) :
    (execOp a ⟨d, .alloc 44, t, ps, af, gd⟩).run Try.prog w = .ok (.value (.pointer (some ⟨w.heap.size, 0, none⟩))) (w.alloc (.cells (#[.float .f32 0, .float .f32 0]) 44)) := by
  unfold execOp
  go_simp

theorem run_toAir1 (a : Act) (x0 : Operand) (v0 : Value) (h0 : a.eval x0 = v0) (d : Option Tmp) (ats : Array TypeId) (t : TypeId) (ps : String) (af : Array Edge) (gd : Option (Nat × Bool)) (w : World) :
    (execOp a.eval ⟨d, .call { callee := .value (.func 75), args := #[x0], argTypes := ats }, t, ps, af, gd⟩).run Try.prog w = .ok (.enter 75 #[v0]) w := by
  subst h0
  unfold execOp
  go_simp

theorem info_air : (Try.prog.info? 44).map (·.size) = some 2 := by kernel_rfl

theorem info_lair : (Try.prog.info? 70).map (·.size) = some 2 := by kernel_rfl

set_option maxRecDepth 100000 in
theorem toAir (h v : Nat) (w : World) :
    Calls Try.prog 75 #[.agg #[.float .f32 h, .float .f32 v]] w fun e w' => e = .returned (.agg #[.float .f32 h, .float .f32 v]) ∧ Below w.heap.size w w' := by
  have k0 : Hid (Kept w [(w.heap.size + 1, #[.float .f32 h, .float .f32 v], 44)] (((w.alloc (.cells #[.float .f32 h, .float .f32 v] 70)).alloc (.cells #[.float .f32 h, .float .f32 v] 44)).alloc (.cells #[.float .f32 h, .float .f32 v] 44))) := hid (((((Kept.nil w).push _ _).push _ _).push _ _).sub (by simp))
  go_enter Try.func75, Try.ntmps75
  go_wp2
  exact bodyPost_ret (results_cell_row rfl _ _ (w.heap.size + 1) 44 #[.float .f32 h, .float .f32 v] (0, 0) _ rfl (k0.out.at (x := (w.heap.size + 1, #[.float .f32 h, .float .f32 v], 44)) (by simp)) Try.underlying44 rfl info_air) rfl ⟨rfl, k0.out.1⟩

set_option maxRecDepth 100000 in
theorem eqAir (h v : Nat) (hh : h < 4294967296) (hv : v < 4294967296) (fh : finB h = true) (fv : finB v = true) (w : World) :
    Calls Try.prog 84 #[.agg #[.float .f32 h, .float .f32 v], .agg #[.float .f32 h, .float .f32 v]] w fun e w' => e = .returned (.bool true) ∧ Below w.heap.size w w' := by
  have hc0 := fun w => run_conv_wid (P := Try.prog) w 24 62 h hh Try.underlying24 Try.underlying62 (finB_iff.1 fh)
  have hc1 := fun w => run_conv_wid (P := Try.prog) w 24 62 v hv Try.underlying24 Try.underlying62 (finB_iff.1 fv)
  have Hh := hid hh
  have Hv := hid hv
  have Fh := hid fh
  have Fv := hid fv
  have b0 := boxed2 w (.cells #[.float .f32 h, .float .f32 v] 44) (.cells #[.float .f32 h, .float .f32 v] 44)
  clear hh hv fh fv
  go_enter Try.func84, Try.ntmps84
  go_wp2_with fail
  refine (sameFloat h Hh.out Fh.out _).mono ?_
  rintro e w1 ⟨rfl, rfl⟩
  go_wp2_with fail
  refine (sameFloat v Hv.out Fv.out _).mono ?_
  rintro e w1 ⟨rfl, rfl⟩
  go_wp2
  go_ret
  exact ⟨rfl, b0⟩

theorem iHeat (x : Nat) (q : Bool) (hq : heatB x = q) (w : World) :
    Calls Try.prog 118 #[.float .f32 x] w fun e w' => e = .returned (.bool q) ∧ w = w' := by
  have h1 : heatB x = ((FloatKind.f32.format.order x 3262119936 == some .gt || FloatKind.f32.format.order x 3262119936 == some .eq) && (FloatKind.f32.format.order x 1114636288 == some .lt || FloatKind.f32.format.order x 1114636288 == some .eq)) := rfl
  rw [h1] at hq
  clear h1
  rcases a : (FloatKind.f32.format.order x 3262119936 == some .gt || FloatKind.f32.format.order x 3262119936 == some .eq) with _ | _
  · rw [a] at hq
    simp only [Bool.false_and] at hq
    subst hq
    go_enter Try.func118, Try.ntmps118
    go_wp2
    go_ret
    exact ⟨rfl, rfl⟩
  · rw [a] at hq
    simp only [Bool.true_and] at hq
    cases q
    all_goals
      go_enter Try.func118, Try.ntmps118
      go_wp2
      go_ret
      exact ⟨rfl, rfl⟩

theorem sHeat (x : Nat) (q : Bool) (hq : heatB x = q) (w : World) :
    Calls Try.prog 140 #[.float .f32 x] w fun e w' => e = .returned (.bool q) ∧ w = w' := by
  have h1 : heatB x = ((FloatKind.f32.format.order x 3262119936 == some .gt || FloatKind.f32.format.order x 3262119936 == some .eq) && (FloatKind.f32.format.order x 1114636288 == some .lt || FloatKind.f32.format.order x 1114636288 == some .eq)) := rfl
  rw [h1] at hq
  clear h1
  rcases a : (FloatKind.f32.format.order x 3262119936 == some .gt || FloatKind.f32.format.order x 3262119936 == some .eq) with _ | _
  · rw [a] at hq
    simp only [Bool.false_and] at hq
    subst hq
    go_enter Try.func140, Try.ntmps140
    go_wp2
    go_ret
    exact ⟨rfl, rfl⟩
  · rw [a] at hq
    simp only [Bool.true_and] at hq
    cases q
    all_goals
      go_enter Try.func140, Try.ntmps140
      go_wp2
      go_ret
      exact ⟨rfl, rfl⟩

set_option maxRecDepth 100000 in
theorem iValidAir (h v : Nat) (hv : v < 4294967296) (q : Bool) (hq : airB h v = q) (w : World) :
    Calls Try.prog 52 #[.agg #[.float .f32 h, .float .f32 v]] w fun e w' => e = .returned (.bool q) ∧ Below w.heap.size w w' := by
  have b0 := boxed w (.cells #[.float .f32 h, .float .f32 v] 44)
  have Hv := hid hv
  have e1 : airB h v = (heatB h && amtB v && vapB v) := rfl
  rw [e1] at hq
  clear hv e1
  rcases a : heatB h with _ | _
  · have Ha := hid a
    rw [a] at hq
    simp only [Bool.false_and] at hq
    subst hq
    clear a
    go_enter Try.func52, Try.ntmps52
    go_wp2_with fail
    refine (iHeat h false Ha.out _).mono ?_
    rintro e w1 ⟨rfl, rfl⟩
    go_wp2
    go_ret
    exact ⟨rfl, b0⟩
  · have Ha := hid a
    rw [a] at hq
    clear a
    rcases b : amtB v with _ | _
    · have Hb := hid b
      rw [b] at hq
      simp only [Bool.and_false, Bool.false_and] at hq
      subst hq
      clear b
      go_enter Try.func52, Try.ntmps52
      go_wp2_with fail
      refine (iHeat h true Ha.out _).mono ?_
      rintro e w1 ⟨rfl, rfl⟩
      go_wp2_with fail
      refine (isAmount_f v Hv.out Hb.out _).mono ?_
      rintro e w1 ⟨rfl, hb1⟩
      go_wp2
      go_ret
      exact ⟨rfl, stp b0 (Nat.le_refl _) hb1⟩
    · have Hb := hid b
      rw [b] at hq
      simp only [Bool.true_and] at hq
      have hc : (FloatKind.f32.format.order v 1148846080 == some .lt || FloatKind.f32.format.order v 1148846080 == some .eq) = q := hq
      clear b hq
      cases q
      all_goals
        go_enter Try.func52, Try.ntmps52
        go_wp2_with fail
        refine (iHeat h true Ha.out _).mono ?_
        rintro e w1 ⟨rfl, rfl⟩
        go_wp2_with fail
        refine (isAmount_t v Hb.out _).mono ?_
        rintro e w1 ⟨rfl, rfl⟩
        go_wp2
        go_ret
        exact ⟨rfl, b0⟩

set_option maxRecDepth 100000 in
theorem sAirOk_f (h v : Nat) (hv : v < 4294967296) (hq : airB h v = false) (w : World) (g : Nat) (T : TypeId) (hg : airAt w g h v T) :
    Calls Try.prog 113 #[.pointer (some ⟨g, 0, none⟩)] w fun e w' => e = .returned (.bool false) ∧ Below w.heap.size w w' := by
  have c0 := hg.c0
  have c1 := hg.c1
  have Hv := hid hv
  have e1 : airB h v = (heatB h && amtB v && vapB v) := rfl
  rw [e1] at hq
  clear hv e1 hg
  rcases a : heatB h with _ | _
  · have Ha := hid a
    clear a hq
    go_enter Try.func113, Try.ntmps113
    go_wp2_with fail
    refine (sHeat h false Ha.out _).mono ?_
    rintro e w1 ⟨rfl, rfl⟩
    go_wp2
    go_ret
    exact ⟨rfl, Below.refl _ _⟩
  · have Ha := hid a
    rw [a] at hq
    clear a
    rcases b : amtB v with _ | _
    · have Hb := hid b
      clear b hq
      go_enter Try.func113, Try.ntmps113
      go_wp2_with fail
      refine (sHeat h true Ha.out _).mono ?_
      rintro e w1 ⟨rfl, rfl⟩
      go_wp2_with fail
      refine (sAmount_f v Hv.out Hb.out _).mono ?_
      rintro e w1 ⟨rfl, hb1⟩
      go_wp2
      go_ret
      exact ⟨rfl, hb1⟩
    · have Hb := hid b
      rw [b] at hq
      simp only [Bool.true_and] at hq
      have hc : (FloatKind.f32.format.order v 1148846080 == some .lt || FloatKind.f32.format.order v 1148846080 == some .eq) = false := hq
      clear b hq
      go_enter Try.func113, Try.ntmps113
      go_wp2_with fail
      refine (sHeat h true Ha.out _).mono ?_
      rintro e w1 ⟨rfl, rfl⟩
      go_wp2_with fail
      refine (sAmount_t v Hb.out _).mono ?_
      rintro e w1 ⟨rfl, rfl⟩
      go_wp2
      go_ret
      exact ⟨rfl, Below.refl _ _⟩

set_option maxRecDepth 100000 in
theorem sAirOk_t (h v : Nat) (hq : airB h v = true) (w : World) (g : Nat) (T : TypeId) (hg : airAt w g h v T) :
    Calls Try.prog 113 #[.pointer (some ⟨g, 0, none⟩)] w fun e w' => e = .returned (.bool true) ∧ w = w' := by
  have c0 := hg.c0
  have c1 := hg.c1
  obtain ⟨a, b, c⟩ := airB_iff.1 hq
  have hc : (FloatKind.f32.format.order v 1148846080 == some .lt || FloatKind.f32.format.order v 1148846080 == some .eq) = true := c
  have Ha := hid a
  have Hb := hid b
  clear a b c hq hg
  go_enter Try.func113, Try.ntmps113
  go_wp2_with fail
  refine (sHeat h true Ha.out _).mono ?_
  rintro e w1 ⟨rfl, rfl⟩
  go_wp2_with fail
  refine (sAmount_t v Hb.out _).mono ?_
  rintro e w1 ⟨rfl, rfl⟩
  go_wp2
  go_ret
  exact ⟨rfl, rfl⟩

theorem sAirOk (h v : Nat) (hv : v < 4294967296) (q : Bool) (hq : airB h v = q) (w : World) (g : Nat) (T : TypeId) (hg : airAt w g h v T) :
    Calls Try.prog 113 #[.pointer (some ⟨g, 0, none⟩)] w fun e w' => e = .returned (.bool q) ∧ Below w.heap.size w w' := by
  cases q
  · exact sAirOk_f h v hv hq w g T hg
  · exact loose (sAirOk_t h v hq w g T hg)

theorem iMixN (a b x : Nat) (M : MixF a b x) (w : World) :
    Calls Try.prog 146 #[.float .f32 a, .float .f32 b, .float .f32 x] w fun e w' => e = .returned (.float .f32 (mixW a b x)) ∧ w = w' := by
  have h1 := fun w => run_float_arith (P := Try.prog) w .sub 24 .f32 _ _ _ M.r
  have h2 := fun w => run_float_arith (P := Try.prog) w .mul 24 .f32 _ _ _ M.m1
  have h3 := fun w => run_float_arith (P := Try.prog) w .mul 24 .f32 _ _ _ M.m2
  have h4 := fun w => run_float_arith (P := Try.prog) w .add 24 .f32 _ _ _ M.s
  clear M
  go_enter Try.func146, Try.ntmps146
  go_wp2
  go_ret
  exact ⟨rfl, rfl⟩

set_option maxRecDepth 100000 in
theorem iMixAir_bad1 (ah av bh bv x : Nat) (hv1 : av < 4294967296) (hq1 : airB ah av = false) (w : World) :
    Calls Try.prog 88 #[.agg #[.float .f32 ah, .float .f32 av], .agg #[.float .f32 bh, .float .f32 bv], .float .f32 x] w fun e w' => e = .returned (.tuple #[.agg #[.float .f32 0, .float .f32 0], .int .i64 1]) ∧ Below w.heap.size w w' := by
  have k0 : Hid (Kept w [(w.heap.size, #[.float .f32 ah, .float .f32 av], 44), (w.heap.size + 1, #[.float .f32 bh, .float .f32 bv], 44), (w.heap.size + 1 + 1, #[.float .f32 0, .float .f32 0], 44)] (((w.alloc (.cells (#[.float .f32 ah, .float .f32 av]) 44)).alloc (.cells (#[.float .f32 bh, .float .f32 bv]) 44)).alloc (.cells (#[.float .f32 0, .float .f32 0]) 44))) := hid (((((Kept.nil w).push (#[.float .f32 ah, .float .f32 av]) 44).push (#[.float .f32 bh, .float .f32 bv]) 44).push (#[.float .f32 0, .float .f32 0]) 44).sub (by simp))
  have Hhv1 := hid hv1
  have Hhq1 := hid hq1
  clear hv1 hq1
  go_enter Try.func88, Try.ntmps88
  go_wp2_with (first | (refine wpList_load_row rfl 44 _ rfl (w.heap.size) rfl 44 (#[.float .f32 ah, .float .f32 av]) (0, 0) _ (k0.out.at (x := (w.heap.size, #[.float .f32 ah, .float .f32 av], 44)) (by simp)) Try.underlying44 rfl (info_air) ?_))
  refine (iValidAir ah av Hhv1.out false Hhq1.out _).mono ?_
  rintro e w0 ⟨rfl, hb0⟩
  have k1 := hid (k0.out.stay hb0)
  clear hb0
  go_wp2_with (first | (refine wpList_store_row rfl 44 _ _ rfl (w.heap.size + 1 + 1) (#[.float .f32 0, .float .f32 0]) rfl rfl 44 _ (k1.out.at (x := (w.heap.size + 1 + 1, #[.float .f32 0, .float .f32 0], 44)) (by simp)) (info_air) (by simp) (by simp [Value.oneCell']) ?_))
  exact bodyPost_ret (results_row_tmp rfl _ _ (w.heap.size + 1 + 1) 44 (#[.float .f32 0, .float .f32 0]) (0, 0) _ rfl (setRow_heap _ _ _ _ _ _ (k1.out.at (x := (w.heap.size + 1 + 1, #[.float .f32 0, .float .f32 0], 44)) (by simp))) Try.underlying44 rfl info_air) rfl ⟨rfl, below_row k1.out.1 (by omega) _⟩

set_option maxRecDepth 100000 in
theorem iMixAir_bad2 (ah av bh bv x : Nat) (hv1 : av < 4294967296) (hq1 : airB ah av = true) (hv2 : bv < 4294967296) (hq2 : airB bh bv = false) (w : World) :
    Calls Try.prog 88 #[.agg #[.float .f32 ah, .float .f32 av], .agg #[.float .f32 bh, .float .f32 bv], .float .f32 x] w fun e w' => e = .returned (.tuple #[.agg #[.float .f32 0, .float .f32 0], .int .i64 1]) ∧ Below w.heap.size w w' := by
  have k0 : Hid (Kept w [(w.heap.size, #[.float .f32 ah, .float .f32 av], 44), (w.heap.size + 1, #[.float .f32 bh, .float .f32 bv], 44), (w.heap.size + 1 + 1, #[.float .f32 0, .float .f32 0], 44)] (((w.alloc (.cells (#[.float .f32 ah, .float .f32 av]) 44)).alloc (.cells (#[.float .f32 bh, .float .f32 bv]) 44)).alloc (.cells (#[.float .f32 0, .float .f32 0]) 44))) := hid (((((Kept.nil w).push (#[.float .f32 ah, .float .f32 av]) 44).push (#[.float .f32 bh, .float .f32 bv]) 44).push (#[.float .f32 0, .float .f32 0]) 44).sub (by simp))
  have Hhv1 := hid hv1
  have Hhq1 := hid hq1
  have Hhv2 := hid hv2
  have Hhq2 := hid hq2
  clear hv1 hq1 hv2 hq2
  go_enter Try.func88, Try.ntmps88
  go_wp2_with (first | (refine wpList_load_row rfl 44 _ rfl (w.heap.size) rfl 44 (#[.float .f32 ah, .float .f32 av]) (0, 0) _ (k0.out.at (x := (w.heap.size, #[.float .f32 ah, .float .f32 av], 44)) (by simp)) Try.underlying44 rfl (info_air) ?_))
  refine (iValidAir ah av Hhv1.out true Hhq1.out _).mono ?_
  rintro e w0 ⟨rfl, hb0⟩
  have k1 := hid (k0.out.stay hb0)
  clear hb0
  go_wp2_with (first | (refine wpList_load_g rfl 44 _ rfl (w.heap.size + 1) rfl 44 (#[.float .f32 bh, .float .f32 bv]) (0, 0) _ (k1.out.at (x := (w.heap.size + 1, #[.float .f32 bh, .float .f32 bv], 44)) (by simp)) Try.underlying44 rfl (info_air) ?_))
  refine (iValidAir bh bv Hhv2.out false Hhq2.out _).mono ?_
  rintro e w1 ⟨rfl, hb1⟩
  have k2 := hid (k1.out.stay hb1)
  clear hb1
  go_wp2_with (first | (refine wpList_store_row rfl 44 _ _ rfl (w.heap.size + 1 + 1) (#[.float .f32 0, .float .f32 0]) rfl rfl 44 _ (k2.out.at (x := (w.heap.size + 1 + 1, #[.float .f32 0, .float .f32 0], 44)) (by simp)) (info_air) (by simp) (by simp [Value.oneCell']) ?_))
  exact bodyPost_ret (results_row_tmp rfl _ _ (w.heap.size + 1 + 1) 44 (#[.float .f32 0, .float .f32 0]) (0, 0) _ rfl (setRow_heap _ _ _ _ _ _ (k2.out.at (x := (w.heap.size + 1 + 1, #[.float .f32 0, .float .f32 0], 44)) (by simp))) Try.underlying44 rfl info_air) rfl ⟨rfl, below_row k2.out.1 (by omega) _⟩

set_option maxRecDepth 100000 in
theorem iMixAir_range (ah av bh bv x : Nat) (hv1 : av < 4294967296) (hq1 : airB ah av = true) (hv2 : bv < 4294967296) (hq2 : airB bh bv = true) (hx : x < 4294967296) (hn : ¬ Share x) (w : World) :
    Calls Try.prog 88 #[.agg #[.float .f32 ah, .float .f32 av], .agg #[.float .f32 bh, .float .f32 bv], .float .f32 x] w fun e w' => e = .returned (.tuple #[.agg #[.float .f32 0, .float .f32 0], .int .i64 2]) ∧ Below w.heap.size w w' := by
  have k0 : Hid (Kept w [(w.heap.size, #[.float .f32 ah, .float .f32 av], 44), (w.heap.size + 1, #[.float .f32 bh, .float .f32 bv], 44), (w.heap.size + 1 + 1, #[.float .f32 0, .float .f32 0], 44)] (((w.alloc (.cells (#[.float .f32 ah, .float .f32 av]) 44)).alloc (.cells (#[.float .f32 bh, .float .f32 bv]) 44)).alloc (.cells (#[.float .f32 0, .float .f32 0]) 44))) := hid (((((Kept.nil w).push (#[.float .f32 ah, .float .f32 av]) 44).push (#[.float .f32 bh, .float .f32 bv]) 44).push (#[.float .f32 0, .float .f32 0]) 44).sub (by simp))
  have Hhv1 := hid hv1
  have Hhq1 := hid hq1
  have Hhv2 := hid hv2
  have Hhq2 := hid hq2
  have Hhx := hid hx
  have Hhn := hid hn
  clear hv1 hq1 hv2 hq2 hx hn
  go_enter Try.func88, Try.ntmps88
  go_wp2_with (first | (refine wpList_load_row rfl 44 _ rfl (w.heap.size) rfl 44 (#[.float .f32 ah, .float .f32 av]) (0, 0) _ (k0.out.at (x := (w.heap.size, #[.float .f32 ah, .float .f32 av], 44)) (by simp)) Try.underlying44 rfl (info_air) ?_))
  refine (iValidAir ah av Hhv1.out true Hhq1.out _).mono ?_
  rintro e w0 ⟨rfl, hb0⟩
  have k1 := hid (k0.out.stay hb0)
  clear hb0
  go_wp2_with (first | (refine wpList_load_g rfl 44 _ rfl (w.heap.size + 1) rfl 44 (#[.float .f32 bh, .float .f32 bv]) (0, 0) _ (k1.out.at (x := (w.heap.size + 1, #[.float .f32 bh, .float .f32 bv], 44)) (by simp)) Try.underlying44 rfl (info_air) ?_))
  refine (iValidAir bh bv Hhv2.out true Hhq2.out _).mono ?_
  rintro e w1 ⟨rfl, hb1⟩
  have k2 := hid (k1.out.stay hb1)
  clear hb1
  go_wp2_with fail
  refine (iShare_f x Hhx.out Hhn.out _).mono ?_
  rintro e w2 ⟨rfl, hb2⟩
  have k3 := hid (k2.out.stay hb2)
  clear hb2
  go_wp2_with (first | (refine wpList_store_row rfl 44 _ _ rfl (w.heap.size + 1 + 1) (#[.float .f32 0, .float .f32 0]) rfl rfl 44 _ (k3.out.at (x := (w.heap.size + 1 + 1, #[.float .f32 0, .float .f32 0], 44)) (by simp)) (info_air) (by simp) (by simp [Value.oneCell']) ?_))
  exact bodyPost_ret (results_row_tmp rfl _ _ (w.heap.size + 1 + 1) 44 (#[.float .f32 0, .float .f32 0]) (0, 0) _ rfl (setRow_heap _ _ _ _ _ _ (k3.out.at (x := (w.heap.size + 1 + 1, #[.float .f32 0, .float .f32 0], 44)) (by simp))) Try.underlying44 rfl info_air) rfl ⟨rfl, below_row k3.out.1 (by omega) _⟩

set_option maxRecDepth 100000 in
theorem sMixAir_bad1 (ah av bh bv x : Nat) (hv1 : av < 4294967296) (hq1 : airB ah av = false) (w : World) :
    Calls Try.prog 87 #[.agg #[.float .f32 ah, .float .f32 av], .agg #[.float .f32 bh, .float .f32 bv], .float .f32 x] w fun e w' => e = .returned (.tuple #[.agg #[.float .f32 0, .float .f32 0], .int .i64 1]) ∧ Below w.heap.size w w' := by
  have k0 : Hid (Kept w [(w.heap.size, #[.float .f32 ah, .float .f32 av], 44), (w.heap.size + 1, #[.float .f32 bh, .float .f32 bv], 44), (w.heap.size + 1 + 1, #[.float .f32 0, .float .f32 0], 44)] (((w.alloc (.cells (#[.float .f32 ah, .float .f32 av]) 44)).alloc (.cells (#[.float .f32 bh, .float .f32 bv]) 44)).alloc (.cells (#[.float .f32 0, .float .f32 0]) 44))) := hid (((((Kept.nil w).push (#[.float .f32 ah, .float .f32 av]) 44).push (#[.float .f32 bh, .float .f32 bv]) 44).push (#[.float .f32 0, .float .f32 0]) 44).sub (by simp))
  have Hhv1 := hid hv1
  have Hhq1 := hid hq1
  clear hv1 hq1
  go_enter Try.func87, Try.ntmps87
  go_wp2_with fail
  refine (sAirOk ah av Hhv1.out false Hhq1.out _ (w.heap.size) 44 (k0.out.at (x := (w.heap.size, #[.float .f32 ah, .float .f32 av], 44)) (by simp))).mono ?_
  rintro e w0 ⟨rfl, hb0⟩
  have k1 := hid (k0.out.stay hb0)
  clear hb0
  go_wp2_with (first | (refine wpList_store_row rfl 44 _ _ rfl (w.heap.size + 1 + 1) (#[.float .f32 0, .float .f32 0]) rfl rfl 44 _ (k1.out.at (x := (w.heap.size + 1 + 1, #[.float .f32 0, .float .f32 0], 44)) (by simp)) (info_air) (by simp) (by simp [Value.oneCell']) ?_))
  exact bodyPost_ret (results_row_tmp rfl _ _ (w.heap.size + 1 + 1) 44 (#[.float .f32 0, .float .f32 0]) (0, 0) _ rfl (setRow_heap _ _ _ _ _ _ (k1.out.at (x := (w.heap.size + 1 + 1, #[.float .f32 0, .float .f32 0], 44)) (by simp))) Try.underlying44 rfl info_air) rfl ⟨rfl, below_row k1.out.1 (by omega) _⟩

set_option maxRecDepth 100000 in
theorem sMixAir_bad2 (ah av bh bv x : Nat) (hv1 : av < 4294967296) (hq1 : airB ah av = true) (hv2 : bv < 4294967296) (hq2 : airB bh bv = false) (w : World) :
    Calls Try.prog 87 #[.agg #[.float .f32 ah, .float .f32 av], .agg #[.float .f32 bh, .float .f32 bv], .float .f32 x] w fun e w' => e = .returned (.tuple #[.agg #[.float .f32 0, .float .f32 0], .int .i64 1]) ∧ Below w.heap.size w w' := by
  have k0 : Hid (Kept w [(w.heap.size, #[.float .f32 ah, .float .f32 av], 44), (w.heap.size + 1, #[.float .f32 bh, .float .f32 bv], 44), (w.heap.size + 1 + 1, #[.float .f32 0, .float .f32 0], 44)] (((w.alloc (.cells (#[.float .f32 ah, .float .f32 av]) 44)).alloc (.cells (#[.float .f32 bh, .float .f32 bv]) 44)).alloc (.cells (#[.float .f32 0, .float .f32 0]) 44))) := hid (((((Kept.nil w).push (#[.float .f32 ah, .float .f32 av]) 44).push (#[.float .f32 bh, .float .f32 bv]) 44).push (#[.float .f32 0, .float .f32 0]) 44).sub (by simp))
  have Hhv1 := hid hv1
  have Hhq1 := hid hq1
  have Hhv2 := hid hv2
  have Hhq2 := hid hq2
  clear hv1 hq1 hv2 hq2
  go_enter Try.func87, Try.ntmps87
  go_wp2_with fail
  refine (loose (sAirOk_t ah av Hhq1.out _ (w.heap.size) 44 (k0.out.at (x := (w.heap.size, #[.float .f32 ah, .float .f32 av], 44)) (by simp)))).mono ?_
  rintro e w0 ⟨rfl, hb0⟩
  have k1 := hid (k0.out.stay hb0)
  clear hb0
  go_wp2_with fail
  refine (sAirOk bh bv Hhv2.out false Hhq2.out _ (w.heap.size + 1) 44 (k1.out.at (x := (w.heap.size + 1, #[.float .f32 bh, .float .f32 bv], 44)) (by simp))).mono ?_
  rintro e w1 ⟨rfl, hb1⟩
  have k2 := hid (k1.out.stay hb1)
  clear hb1
  go_wp2_with (first | (refine wpList_store_row rfl 44 _ _ rfl (w.heap.size + 1 + 1) (#[.float .f32 0, .float .f32 0]) rfl rfl 44 _ (k2.out.at (x := (w.heap.size + 1 + 1, #[.float .f32 0, .float .f32 0], 44)) (by simp)) (info_air) (by simp) (by simp [Value.oneCell']) ?_))
  exact bodyPost_ret (results_row_tmp rfl _ _ (w.heap.size + 1 + 1) 44 (#[.float .f32 0, .float .f32 0]) (0, 0) _ rfl (setRow_heap _ _ _ _ _ _ (k2.out.at (x := (w.heap.size + 1 + 1, #[.float .f32 0, .float .f32 0], 44)) (by simp))) Try.underlying44 rfl info_air) rfl ⟨rfl, below_row k2.out.1 (by omega) _⟩

set_option maxRecDepth 100000 in
theorem sMixAir_range (ah av bh bv x : Nat) (hv1 : av < 4294967296) (hq1 : airB ah av = true) (hv2 : bv < 4294967296) (hq2 : airB bh bv = true) (hx : x < 4294967296) (hn : ¬ Share x) (w : World) :
    Calls Try.prog 87 #[.agg #[.float .f32 ah, .float .f32 av], .agg #[.float .f32 bh, .float .f32 bv], .float .f32 x] w fun e w' => e = .returned (.tuple #[.agg #[.float .f32 0, .float .f32 0], .int .i64 2]) ∧ Below w.heap.size w w' := by
  have k0 : Hid (Kept w [(w.heap.size, #[.float .f32 ah, .float .f32 av], 44), (w.heap.size + 1, #[.float .f32 bh, .float .f32 bv], 44), (w.heap.size + 1 + 1, #[.float .f32 0, .float .f32 0], 44)] (((w.alloc (.cells (#[.float .f32 ah, .float .f32 av]) 44)).alloc (.cells (#[.float .f32 bh, .float .f32 bv]) 44)).alloc (.cells (#[.float .f32 0, .float .f32 0]) 44))) := hid (((((Kept.nil w).push (#[.float .f32 ah, .float .f32 av]) 44).push (#[.float .f32 bh, .float .f32 bv]) 44).push (#[.float .f32 0, .float .f32 0]) 44).sub (by simp))
  have Hhv1 := hid hv1
  have Hhq1 := hid hq1
  have Hhv2 := hid hv2
  have Hhq2 := hid hq2
  have Hhx := hid hx
  have Hhn := hid hn
  clear hv1 hq1 hv2 hq2 hx hn
  go_enter Try.func87, Try.ntmps87
  go_wp2_with fail
  refine (loose (sAirOk_t ah av Hhq1.out _ (w.heap.size) 44 (k0.out.at (x := (w.heap.size, #[.float .f32 ah, .float .f32 av], 44)) (by simp)))).mono ?_
  rintro e w0 ⟨rfl, hb0⟩
  have k1 := hid (k0.out.stay hb0)
  clear hb0
  go_wp2_with fail
  refine (loose (sAirOk_t bh bv Hhq2.out _ (w.heap.size + 1) 44 (k1.out.at (x := (w.heap.size + 1, #[.float .f32 bh, .float .f32 bv], 44)) (by simp)))).mono ?_
  rintro e w1 ⟨rfl, hb1⟩
  have k2 := hid (k1.out.stay hb1)
  clear hb1
  go_wp2_with fail
  refine (sShare_f x Hhx.out Hhn.out _).mono ?_
  rintro e w2 ⟨rfl, hb2⟩
  have k3 := hid (k2.out.stay hb2)
  clear hb2
  go_wp2_with (first | (refine wpList_store_row rfl 44 _ _ rfl (w.heap.size + 1 + 1) (#[.float .f32 0, .float .f32 0]) rfl rfl 44 _ (k3.out.at (x := (w.heap.size + 1 + 1, #[.float .f32 0, .float .f32 0], 44)) (by simp)) (info_air) (by simp) (by simp [Value.oneCell']) ?_))
  exact bodyPost_ret (results_row_tmp rfl _ _ (w.heap.size + 1 + 1) 44 (#[.float .f32 0, .float .f32 0]) (0, 0) _ rfl (setRow_heap _ _ _ _ _ _ (k3.out.at (x := (w.heap.size + 1 + 1, #[.float .f32 0, .float .f32 0], 44)) (by simp))) Try.underlying44 rfl info_air) rfl ⟨rfl, below_row k3.out.1 (by omega) _⟩

set_option maxRecDepth 100000 in
set_option maxHeartbeats 2000000 in
theorem sMix (ah av bh bv x : Nat) (M1 : MixF ah bh x) (M2 : MixF av bv x) (w : World) (g k : Nat) (T T' : TypeId) (hg : airAt w g ah av T) (hk : airAt w k bh bv T') :
    Calls Try.prog 145 #[.pointer (some ⟨g, 0, none⟩), .pointer (some ⟨k, 0, none⟩), .float .f32 x] w fun e w' => e = .returned (.agg #[.float .f32 (mixW ah bh x), .float .f32 (mixW av bv x)]) ∧ Below w.heap.size w w' := by
  have kk : Kept w [(g, #[.float .f32 ah, .float .f32 av], T), (k, #[.float .f32 bh, .float .f32 bv], T')] w := ⟨Below.refl _ _, fun y hy => by
    simp only [List.mem_cons, List.not_mem_nil, or_false] at hy
    rcases hy with rfl | rfl
    · exact hg
    · exact hk⟩
  have k0 := hid (kk.push #[.float .f32 0, .float .f32 0] 44)
  have HN0 := hid kk.fresh
  have HB0 := hid (Nat.le_refl w.heap.size)
  have hr := hid (fun w => run_float_arith (P := Try.prog) w .sub 24 .f32 _ _ _ M1.r)
  have h1ah := hid (fun w => run_float_arith (P := Try.prog) w .mul 24 .f32 _ _ _ M1.m1)
  have h2bh := hid (fun w => run_float_arith (P := Try.prog) w .mul 24 .f32 _ _ _ M1.m2)
  have h3h := hid (fun w => run_float_arith (P := Try.prog) w .add 24 .f32 _ _ _ M1.s)
  have h1av := hid (fun w => run_float_arith (P := Try.prog) w .mul 24 .f32 _ _ _ M2.m1)
  have h2bv := hid (fun w => run_float_arith (P := Try.prog) w .mul 24 .f32 _ _ _ M2.m2)
  have h3v := hid (fun w => run_float_arith (P := Try.prog) w .add 24 .f32 _ _ _ M2.s)
  clear kk M1 M2 hg hk
  go_enter Try.func145, Try.ntmps145
  go_wp2_with fail
  refine region_kept (w0 := w) (l := [(g, #[.float .f32 ah, .float .f32 av], T), (k, #[.float .f32 bh, .float .f32 bv], T')]) 30 #[false, false, false, false, false, false, false, false, false, false, false, false, false, false, false, false, false, false, false, false, false, false, false, false, false, false, false, false, false, false] (by kernel_rfl) rfl rfl ?_
  have kd := k0.out.drew
  clear k0
  generalize World.drew _ = wd at kd ⊢
  refine take_val 0 { tmps := (.pointer (some ⟨g, 0, none⟩) :: .pointer (some ⟨k, 0, none⟩) :: .float .f32 x :: undef :: undef :: undef :: .pointer (some ⟨w.heap.size, 0, none⟩) :: .pointer (some ⟨g, 0, none⟩) :: undef :: undef :: undef :: undef :: undef :: undef :: undef :: undef :: undef :: undef :: undef :: undef :: undef :: undef :: undef :: undef :: undef :: undef :: undef :: undef :: undef :: undef :: undef :: undef :: undef :: undef :: undef :: undef :: []).toArray, defers := [] } #[true, false, false, false, false, false, false, false, false, false, false, false, false, false, false, false, false, false, false, false, false, false, false, false, false, false, false, false, false, false] (.pointer (some ⟨g, 0, none⟩)) rfl (by rfl) (by kernel_rfl) (by kernel_rfl) (by kernel_rfl) (fun w => by rfl) (by rfl) (by rfl) (kd.tail) ?_
  refine take_val 1 { tmps := (.pointer (some ⟨g, 0, none⟩) :: .pointer (some ⟨k, 0, none⟩) :: .float .f32 x :: undef :: undef :: undef :: .pointer (some ⟨w.heap.size, 0, none⟩) :: .pointer (some ⟨g, 0, none⟩) :: .pointer (some ⟨g, 0, none⟩) :: undef :: undef :: undef :: undef :: undef :: undef :: undef :: undef :: undef :: undef :: undef :: undef :: undef :: undef :: undef :: undef :: undef :: undef :: undef :: undef :: undef :: undef :: undef :: undef :: undef :: undef :: undef :: []).toArray, defers := [] } #[true, true, false, false, false, false, false, false, false, false, false, false, false, false, false, false, false, false, false, false, false, false, false, false, false, false, false, false, false, false] (.pointer (some ⟨g, 0, none⟩)) rfl (by rfl) (by kernel_rfl) (by kernel_rfl) (by kernel_rfl) (fun w => by unfold execOp; go_simp) (by rfl) (by rfl) (kd.tail) ?_
  refine take_val 2 { tmps := (.pointer (some ⟨g, 0, none⟩) :: .pointer (some ⟨k, 0, none⟩) :: .float .f32 x :: undef :: undef :: undef :: .pointer (some ⟨w.heap.size, 0, none⟩) :: .pointer (some ⟨g, 0, none⟩) :: .pointer (some ⟨g, 0, none⟩) :: .pointer (some ⟨g, 0, none⟩) :: undef :: undef :: undef :: undef :: undef :: undef :: undef :: undef :: undef :: undef :: undef :: undef :: undef :: undef :: undef :: undef :: undef :: undef :: undef :: undef :: undef :: undef :: undef :: undef :: undef :: undef :: []).toArray, defers := [] } #[true, true, true, false, false, false, false, false, false, false, false, false, false, false, false, false, false, false, false, false, false, false, false, false, false, false, false, false, false, false] (.pointer (some ⟨g, 0, none⟩)) rfl (by rfl) (by kernel_rfl) (by kernel_rfl) (by kernel_rfl) (fun w => by unfold execOp; go_simp) (by rfl) (by rfl) (kd.tail) ?_
  refine take_cell 3 { tmps := (.pointer (some ⟨g, 0, none⟩) :: .pointer (some ⟨k, 0, none⟩) :: .float .f32 x :: undef :: undef :: undef :: .pointer (some ⟨w.heap.size, 0, none⟩) :: .pointer (some ⟨g, 0, none⟩) :: .pointer (some ⟨g, 0, none⟩) :: .pointer (some ⟨g, 0, none⟩) :: .float .f32 ah :: undef :: undef :: undef :: undef :: undef :: undef :: undef :: undef :: undef :: undef :: undef :: undef :: undef :: undef :: undef :: undef :: undef :: undef :: undef :: undef :: undef :: undef :: undef :: undef :: undef :: []).toArray, defers := [] } #[true, true, true, true, false, false, false, false, false, false, false, false, false, false, false, false, false, false, false, false, false, false, false, false, false, false, false, false, false, false] (.float .f32 ah) rfl (by rfl) (by kernel_rfl) (by kernel_rfl) (by kernel_rfl) (fun wq hS => by have hcell : wq.cell? ⟨g, 0, none⟩ = some (.float .f32 ah) := (cell_of_row wq (g) 0 _ _ _ (hS.at (x := (g, #[.float .f32 ah, .float .f32 av], T)) (by simp))).trans rfl; clear hS; unfold execOp; go_simp) (by rfl) (by rfl) (kd.tail) ?_
  refine take_val 4 { tmps := (.pointer (some ⟨g, 0, none⟩) :: .pointer (some ⟨k, 0, none⟩) :: .float .f32 x :: undef :: undef :: undef :: .pointer (some ⟨w.heap.size, 0, none⟩) :: .pointer (some ⟨g, 0, none⟩) :: .pointer (some ⟨g, 0, none⟩) :: .pointer (some ⟨g, 0, none⟩) :: .float .f32 ah :: .float .f32 x :: undef :: undef :: undef :: undef :: undef :: undef :: undef :: undef :: undef :: undef :: undef :: undef :: undef :: undef :: undef :: undef :: undef :: undef :: undef :: undef :: undef :: undef :: undef :: undef :: []).toArray, defers := [] } #[true, true, true, true, true, false, false, false, false, false, false, false, false, false, false, false, false, false, false, false, false, false, false, false, false, false, false, false, false, false] (.float .f32 x) rfl (by rfl) (by kernel_rfl) (by kernel_rfl) (by kernel_rfl) (fun w => by rfl) (by rfl) (by rfl) (kd.tail) ?_
  refine take_val 5 { tmps := (.pointer (some ⟨g, 0, none⟩) :: .pointer (some ⟨k, 0, none⟩) :: .float .f32 x :: undef :: undef :: undef :: .pointer (some ⟨w.heap.size, 0, none⟩) :: .pointer (some ⟨g, 0, none⟩) :: .pointer (some ⟨g, 0, none⟩) :: .pointer (some ⟨g, 0, none⟩) :: .float .f32 ah :: .float .f32 x :: .float .f32 (restF x) :: undef :: undef :: undef :: undef :: undef :: undef :: undef :: undef :: undef :: undef :: undef :: undef :: undef :: undef :: undef :: undef :: undef :: undef :: undef :: undef :: undef :: undef :: undef :: []).toArray, defers := [] } #[true, true, true, true, true, true, false, false, false, false, false, false, false, false, false, false, false, false, false, false, false, false, false, false, false, false, false, false, false, false] (.float .f32 (restF x)) rfl (by rfl) (by kernel_rfl) (by kernel_rfl) (by kernel_rfl) (fun w => run_binop_val _ _ _ _ (by rfl) (by rfl) (by simp [eqGuard]) (hr.out w)) (by rfl) (by rfl) (kd.tail) ?_
  refine take_val 6 { tmps := (.pointer (some ⟨g, 0, none⟩) :: .pointer (some ⟨k, 0, none⟩) :: .float .f32 x :: undef :: undef :: undef :: .pointer (some ⟨w.heap.size, 0, none⟩) :: .pointer (some ⟨g, 0, none⟩) :: .pointer (some ⟨g, 0, none⟩) :: .pointer (some ⟨g, 0, none⟩) :: .float .f32 ah :: .float .f32 x :: .float .f32 (restF x) :: .float .f32 (fmul ah (restF x)) :: undef :: undef :: undef :: undef :: undef :: undef :: undef :: undef :: undef :: undef :: undef :: undef :: undef :: undef :: undef :: undef :: undef :: undef :: undef :: undef :: undef :: undef :: []).toArray, defers := [] } #[true, true, true, true, true, true, true, false, false, false, false, false, false, false, false, false, false, false, false, false, false, false, false, false, false, false, false, false, false, false] (.float .f32 (fmul ah (restF x))) rfl (by rfl) (by kernel_rfl) (by kernel_rfl) (by kernel_rfl) (fun w => run_binop_val _ _ _ _ (by rfl) (by rfl) (by simp [eqGuard]) (h1ah.out w)) (by rfl) (by rfl) (kd.tail) ?_
  refine take_val 7 { tmps := (.pointer (some ⟨g, 0, none⟩) :: .pointer (some ⟨k, 0, none⟩) :: .float .f32 x :: undef :: undef :: undef :: .pointer (some ⟨w.heap.size, 0, none⟩) :: .pointer (some ⟨g, 0, none⟩) :: .pointer (some ⟨g, 0, none⟩) :: .pointer (some ⟨g, 0, none⟩) :: .float .f32 ah :: .float .f32 x :: .float .f32 (restF x) :: .float .f32 (fmul ah (restF x)) :: .pointer (some ⟨k, 0, none⟩) :: undef :: undef :: undef :: undef :: undef :: undef :: undef :: undef :: undef :: undef :: undef :: undef :: undef :: undef :: undef :: undef :: undef :: undef :: undef :: undef :: undef :: []).toArray, defers := [] } #[true, true, true, true, true, true, true, true, false, false, false, false, false, false, false, false, false, false, false, false, false, false, false, false, false, false, false, false, false, false] (.pointer (some ⟨k, 0, none⟩)) rfl (by rfl) (by kernel_rfl) (by kernel_rfl) (by kernel_rfl) (fun w => by rfl) (by rfl) (by rfl) (kd.tail) ?_
  refine take_val 8 { tmps := (.pointer (some ⟨g, 0, none⟩) :: .pointer (some ⟨k, 0, none⟩) :: .float .f32 x :: undef :: undef :: undef :: .pointer (some ⟨w.heap.size, 0, none⟩) :: .pointer (some ⟨g, 0, none⟩) :: .pointer (some ⟨g, 0, none⟩) :: .pointer (some ⟨g, 0, none⟩) :: .float .f32 ah :: .float .f32 x :: .float .f32 (restF x) :: .float .f32 (fmul ah (restF x)) :: .pointer (some ⟨k, 0, none⟩) :: .pointer (some ⟨k, 0, none⟩) :: undef :: undef :: undef :: undef :: undef :: undef :: undef :: undef :: undef :: undef :: undef :: undef :: undef :: undef :: undef :: undef :: undef :: undef :: undef :: undef :: []).toArray, defers := [] } #[true, true, true, true, true, true, true, true, true, false, false, false, false, false, false, false, false, false, false, false, false, false, false, false, false, false, false, false, false, false] (.pointer (some ⟨k, 0, none⟩)) rfl (by rfl) (by kernel_rfl) (by kernel_rfl) (by kernel_rfl) (fun w => by unfold execOp; go_simp) (by rfl) (by rfl) (kd.tail) ?_
  refine take_val 9 { tmps := (.pointer (some ⟨g, 0, none⟩) :: .pointer (some ⟨k, 0, none⟩) :: .float .f32 x :: undef :: undef :: undef :: .pointer (some ⟨w.heap.size, 0, none⟩) :: .pointer (some ⟨g, 0, none⟩) :: .pointer (some ⟨g, 0, none⟩) :: .pointer (some ⟨g, 0, none⟩) :: .float .f32 ah :: .float .f32 x :: .float .f32 (restF x) :: .float .f32 (fmul ah (restF x)) :: .pointer (some ⟨k, 0, none⟩) :: .pointer (some ⟨k, 0, none⟩) :: .pointer (some ⟨k, 0, none⟩) :: undef :: undef :: undef :: undef :: undef :: undef :: undef :: undef :: undef :: undef :: undef :: undef :: undef :: undef :: undef :: undef :: undef :: undef :: undef :: []).toArray, defers := [] } #[true, true, true, true, true, true, true, true, true, true, false, false, false, false, false, false, false, false, false, false, false, false, false, false, false, false, false, false, false, false] (.pointer (some ⟨k, 0, none⟩)) rfl (by rfl) (by kernel_rfl) (by kernel_rfl) (by kernel_rfl) (fun w => by unfold execOp; go_simp) (by rfl) (by rfl) (kd.tail) ?_
  refine take_cell 10 { tmps := (.pointer (some ⟨g, 0, none⟩) :: .pointer (some ⟨k, 0, none⟩) :: .float .f32 x :: undef :: undef :: undef :: .pointer (some ⟨w.heap.size, 0, none⟩) :: .pointer (some ⟨g, 0, none⟩) :: .pointer (some ⟨g, 0, none⟩) :: .pointer (some ⟨g, 0, none⟩) :: .float .f32 ah :: .float .f32 x :: .float .f32 (restF x) :: .float .f32 (fmul ah (restF x)) :: .pointer (some ⟨k, 0, none⟩) :: .pointer (some ⟨k, 0, none⟩) :: .pointer (some ⟨k, 0, none⟩) :: .float .f32 bh :: undef :: undef :: undef :: undef :: undef :: undef :: undef :: undef :: undef :: undef :: undef :: undef :: undef :: undef :: undef :: undef :: undef :: undef :: []).toArray, defers := [] } #[true, true, true, true, true, true, true, true, true, true, true, false, false, false, false, false, false, false, false, false, false, false, false, false, false, false, false, false, false, false] (.float .f32 bh) rfl (by rfl) (by kernel_rfl) (by kernel_rfl) (by kernel_rfl) (fun wq hS => by have hcell : wq.cell? ⟨k, 0, none⟩ = some (.float .f32 bh) := (cell_of_row wq (k) 0 _ _ _ (hS.at (x := (k, #[.float .f32 bh, .float .f32 bv], T')) (by simp))).trans rfl; clear hS; unfold execOp; go_simp) (by rfl) (by rfl) (kd.tail) ?_
  refine take_val 11 { tmps := (.pointer (some ⟨g, 0, none⟩) :: .pointer (some ⟨k, 0, none⟩) :: .float .f32 x :: undef :: undef :: undef :: .pointer (some ⟨w.heap.size, 0, none⟩) :: .pointer (some ⟨g, 0, none⟩) :: .pointer (some ⟨g, 0, none⟩) :: .pointer (some ⟨g, 0, none⟩) :: .float .f32 ah :: .float .f32 x :: .float .f32 (restF x) :: .float .f32 (fmul ah (restF x)) :: .pointer (some ⟨k, 0, none⟩) :: .pointer (some ⟨k, 0, none⟩) :: .pointer (some ⟨k, 0, none⟩) :: .float .f32 bh :: .float .f32 x :: undef :: undef :: undef :: undef :: undef :: undef :: undef :: undef :: undef :: undef :: undef :: undef :: undef :: undef :: undef :: undef :: undef :: []).toArray, defers := [] } #[true, true, true, true, true, true, true, true, true, true, true, true, false, false, false, false, false, false, false, false, false, false, false, false, false, false, false, false, false, false] (.float .f32 x) rfl (by rfl) (by kernel_rfl) (by kernel_rfl) (by kernel_rfl) (fun w => by rfl) (by rfl) (by rfl) (kd.tail) ?_
  refine take_val 12 { tmps := (.pointer (some ⟨g, 0, none⟩) :: .pointer (some ⟨k, 0, none⟩) :: .float .f32 x :: undef :: undef :: undef :: .pointer (some ⟨w.heap.size, 0, none⟩) :: .pointer (some ⟨g, 0, none⟩) :: .pointer (some ⟨g, 0, none⟩) :: .pointer (some ⟨g, 0, none⟩) :: .float .f32 ah :: .float .f32 x :: .float .f32 (restF x) :: .float .f32 (fmul ah (restF x)) :: .pointer (some ⟨k, 0, none⟩) :: .pointer (some ⟨k, 0, none⟩) :: .pointer (some ⟨k, 0, none⟩) :: .float .f32 bh :: .float .f32 x :: .float .f32 (fmul bh x) :: undef :: undef :: undef :: undef :: undef :: undef :: undef :: undef :: undef :: undef :: undef :: undef :: undef :: undef :: undef :: undef :: []).toArray, defers := [] } #[true, true, true, true, true, true, true, true, true, true, true, true, true, false, false, false, false, false, false, false, false, false, false, false, false, false, false, false, false, false] (.float .f32 (fmul bh x)) rfl (by rfl) (by kernel_rfl) (by kernel_rfl) (by kernel_rfl) (fun w => run_binop_val _ _ _ _ (by rfl) (by rfl) (by simp [eqGuard]) (h2bh.out w)) (by rfl) (by rfl) (kd.tail) ?_
  refine take_val 13 { tmps := (.pointer (some ⟨g, 0, none⟩) :: .pointer (some ⟨k, 0, none⟩) :: .float .f32 x :: undef :: undef :: undef :: .pointer (some ⟨w.heap.size, 0, none⟩) :: .pointer (some ⟨g, 0, none⟩) :: .pointer (some ⟨g, 0, none⟩) :: .pointer (some ⟨g, 0, none⟩) :: .float .f32 ah :: .float .f32 x :: .float .f32 (restF x) :: .float .f32 (fmul ah (restF x)) :: .pointer (some ⟨k, 0, none⟩) :: .pointer (some ⟨k, 0, none⟩) :: .pointer (some ⟨k, 0, none⟩) :: .float .f32 bh :: .float .f32 x :: .float .f32 (fmul bh x) :: .float .f32 (mixW ah bh x) :: undef :: undef :: undef :: undef :: undef :: undef :: undef :: undef :: undef :: undef :: undef :: undef :: undef :: undef :: undef :: []).toArray, defers := [] } #[true, true, true, true, true, true, true, true, true, true, true, true, true, true, false, false, false, false, false, false, false, false, false, false, false, false, false, false, false, false] (.float .f32 (mixW ah bh x)) rfl (by rfl) (by kernel_rfl) (by kernel_rfl) (by kernel_rfl) (fun w => run_binop_val _ _ _ _ (by rfl) (by rfl) (by simp [eqGuard]) (h3h.out w)) (by rfl) (by rfl) (kd.tail) ?_
  refine take_val 14 { tmps := (.pointer (some ⟨g, 0, none⟩) :: .pointer (some ⟨k, 0, none⟩) :: .float .f32 x :: undef :: undef :: undef :: .pointer (some ⟨w.heap.size, 0, none⟩) :: .pointer (some ⟨g, 0, none⟩) :: .pointer (some ⟨g, 0, none⟩) :: .pointer (some ⟨g, 0, none⟩) :: .float .f32 ah :: .float .f32 x :: .float .f32 (restF x) :: .float .f32 (fmul ah (restF x)) :: .pointer (some ⟨k, 0, none⟩) :: .pointer (some ⟨k, 0, none⟩) :: .pointer (some ⟨k, 0, none⟩) :: .float .f32 bh :: .float .f32 x :: .float .f32 (fmul bh x) :: .float .f32 (mixW ah bh x) :: .pointer (some ⟨g, 0, none⟩) :: undef :: undef :: undef :: undef :: undef :: undef :: undef :: undef :: undef :: undef :: undef :: undef :: undef :: undef :: []).toArray, defers := [] } #[true, true, true, true, true, true, true, true, true, true, true, true, true, true, true, false, false, false, false, false, false, false, false, false, false, false, false, false, false, false] (.pointer (some ⟨g, 0, none⟩)) rfl (by rfl) (by kernel_rfl) (by kernel_rfl) (by kernel_rfl) (fun w => by rfl) (by rfl) (by rfl) (kd.tail) ?_
  refine take_val 15 { tmps := (.pointer (some ⟨g, 0, none⟩) :: .pointer (some ⟨k, 0, none⟩) :: .float .f32 x :: undef :: undef :: undef :: .pointer (some ⟨w.heap.size, 0, none⟩) :: .pointer (some ⟨g, 0, none⟩) :: .pointer (some ⟨g, 0, none⟩) :: .pointer (some ⟨g, 0, none⟩) :: .float .f32 ah :: .float .f32 x :: .float .f32 (restF x) :: .float .f32 (fmul ah (restF x)) :: .pointer (some ⟨k, 0, none⟩) :: .pointer (some ⟨k, 0, none⟩) :: .pointer (some ⟨k, 0, none⟩) :: .float .f32 bh :: .float .f32 x :: .float .f32 (fmul bh x) :: .float .f32 (mixW ah bh x) :: .pointer (some ⟨g, 0, none⟩) :: .pointer (some ⟨g, 0, none⟩) :: undef :: undef :: undef :: undef :: undef :: undef :: undef :: undef :: undef :: undef :: undef :: undef :: undef :: []).toArray, defers := [] } #[true, true, true, true, true, true, true, true, true, true, true, true, true, true, true, true, false, false, false, false, false, false, false, false, false, false, false, false, false, false] (.pointer (some ⟨g, 0, none⟩)) rfl (by rfl) (by kernel_rfl) (by kernel_rfl) (by kernel_rfl) (fun w => by unfold execOp; go_simp) (by rfl) (by rfl) (kd.tail) ?_
  refine take_val 16 { tmps := (.pointer (some ⟨g, 0, none⟩) :: .pointer (some ⟨k, 0, none⟩) :: .float .f32 x :: undef :: undef :: undef :: .pointer (some ⟨w.heap.size, 0, none⟩) :: .pointer (some ⟨g, 0, none⟩) :: .pointer (some ⟨g, 0, none⟩) :: .pointer (some ⟨g, 0, none⟩) :: .float .f32 ah :: .float .f32 x :: .float .f32 (restF x) :: .float .f32 (fmul ah (restF x)) :: .pointer (some ⟨k, 0, none⟩) :: .pointer (some ⟨k, 0, none⟩) :: .pointer (some ⟨k, 0, none⟩) :: .float .f32 bh :: .float .f32 x :: .float .f32 (fmul bh x) :: .float .f32 (mixW ah bh x) :: .pointer (some ⟨g, 0, none⟩) :: .pointer (some ⟨g, 0, none⟩) :: .pointer (some ⟨g, 1, none⟩) :: undef :: undef :: undef :: undef :: undef :: undef :: undef :: undef :: undef :: undef :: undef :: undef :: []).toArray, defers := [] } #[true, true, true, true, true, true, true, true, true, true, true, true, true, true, true, true, true, false, false, false, false, false, false, false, false, false, false, false, false, false] (.pointer (some ⟨g, 1, none⟩)) rfl (by rfl) (by kernel_rfl) (by kernel_rfl) (by kernel_rfl) (fun w => by unfold execOp; go_simp) (by rfl) (by rfl) (kd.tail) ?_
  refine take_cell 17 { tmps := (.pointer (some ⟨g, 0, none⟩) :: .pointer (some ⟨k, 0, none⟩) :: .float .f32 x :: undef :: undef :: undef :: .pointer (some ⟨w.heap.size, 0, none⟩) :: .pointer (some ⟨g, 0, none⟩) :: .pointer (some ⟨g, 0, none⟩) :: .pointer (some ⟨g, 0, none⟩) :: .float .f32 ah :: .float .f32 x :: .float .f32 (restF x) :: .float .f32 (fmul ah (restF x)) :: .pointer (some ⟨k, 0, none⟩) :: .pointer (some ⟨k, 0, none⟩) :: .pointer (some ⟨k, 0, none⟩) :: .float .f32 bh :: .float .f32 x :: .float .f32 (fmul bh x) :: .float .f32 (mixW ah bh x) :: .pointer (some ⟨g, 0, none⟩) :: .pointer (some ⟨g, 0, none⟩) :: .pointer (some ⟨g, 1, none⟩) :: .float .f32 av :: undef :: undef :: undef :: undef :: undef :: undef :: undef :: undef :: undef :: undef :: undef :: []).toArray, defers := [] } #[true, true, true, true, true, true, true, true, true, true, true, true, true, true, true, true, true, true, false, false, false, false, false, false, false, false, false, false, false, false] (.float .f32 av) rfl (by rfl) (by kernel_rfl) (by kernel_rfl) (by kernel_rfl) (fun wq hS => by have hcell : wq.cell? ⟨g, 1, none⟩ = some (.float .f32 av) := (cell_of_row wq (g) 1 _ _ _ (hS.at (x := (g, #[.float .f32 ah, .float .f32 av], T)) (by simp))).trans rfl; clear hS; unfold execOp; go_simp) (by rfl) (by rfl) (kd.tail) ?_
  refine take_val 18 { tmps := (.pointer (some ⟨g, 0, none⟩) :: .pointer (some ⟨k, 0, none⟩) :: .float .f32 x :: undef :: undef :: undef :: .pointer (some ⟨w.heap.size, 0, none⟩) :: .pointer (some ⟨g, 0, none⟩) :: .pointer (some ⟨g, 0, none⟩) :: .pointer (some ⟨g, 0, none⟩) :: .float .f32 ah :: .float .f32 x :: .float .f32 (restF x) :: .float .f32 (fmul ah (restF x)) :: .pointer (some ⟨k, 0, none⟩) :: .pointer (some ⟨k, 0, none⟩) :: .pointer (some ⟨k, 0, none⟩) :: .float .f32 bh :: .float .f32 x :: .float .f32 (fmul bh x) :: .float .f32 (mixW ah bh x) :: .pointer (some ⟨g, 0, none⟩) :: .pointer (some ⟨g, 0, none⟩) :: .pointer (some ⟨g, 1, none⟩) :: .float .f32 av :: .float .f32 x :: undef :: undef :: undef :: undef :: undef :: undef :: undef :: undef :: undef :: undef :: []).toArray, defers := [] } #[true, true, true, true, true, true, true, true, true, true, true, true, true, true, true, true, true, true, true, false, false, false, false, false, false, false, false, false, false, false] (.float .f32 x) rfl (by rfl) (by kernel_rfl) (by kernel_rfl) (by kernel_rfl) (fun w => by rfl) (by rfl) (by rfl) (kd.tail) ?_
  refine take_val 19 { tmps := (.pointer (some ⟨g, 0, none⟩) :: .pointer (some ⟨k, 0, none⟩) :: .float .f32 x :: undef :: undef :: undef :: .pointer (some ⟨w.heap.size, 0, none⟩) :: .pointer (some ⟨g, 0, none⟩) :: .pointer (some ⟨g, 0, none⟩) :: .pointer (some ⟨g, 0, none⟩) :: .float .f32 ah :: .float .f32 x :: .float .f32 (restF x) :: .float .f32 (fmul ah (restF x)) :: .pointer (some ⟨k, 0, none⟩) :: .pointer (some ⟨k, 0, none⟩) :: .pointer (some ⟨k, 0, none⟩) :: .float .f32 bh :: .float .f32 x :: .float .f32 (fmul bh x) :: .float .f32 (mixW ah bh x) :: .pointer (some ⟨g, 0, none⟩) :: .pointer (some ⟨g, 0, none⟩) :: .pointer (some ⟨g, 1, none⟩) :: .float .f32 av :: .float .f32 x :: .float .f32 (restF x) :: undef :: undef :: undef :: undef :: undef :: undef :: undef :: undef :: undef :: []).toArray, defers := [] } #[true, true, true, true, true, true, true, true, true, true, true, true, true, true, true, true, true, true, true, true, false, false, false, false, false, false, false, false, false, false] (.float .f32 (restF x)) rfl (by rfl) (by kernel_rfl) (by kernel_rfl) (by kernel_rfl) (fun w => run_binop_val _ _ _ _ (by rfl) (by rfl) (by simp [eqGuard]) (hr.out w)) (by rfl) (by rfl) (kd.tail) ?_
  refine take_val 20 { tmps := (.pointer (some ⟨g, 0, none⟩) :: .pointer (some ⟨k, 0, none⟩) :: .float .f32 x :: undef :: undef :: undef :: .pointer (some ⟨w.heap.size, 0, none⟩) :: .pointer (some ⟨g, 0, none⟩) :: .pointer (some ⟨g, 0, none⟩) :: .pointer (some ⟨g, 0, none⟩) :: .float .f32 ah :: .float .f32 x :: .float .f32 (restF x) :: .float .f32 (fmul ah (restF x)) :: .pointer (some ⟨k, 0, none⟩) :: .pointer (some ⟨k, 0, none⟩) :: .pointer (some ⟨k, 0, none⟩) :: .float .f32 bh :: .float .f32 x :: .float .f32 (fmul bh x) :: .float .f32 (mixW ah bh x) :: .pointer (some ⟨g, 0, none⟩) :: .pointer (some ⟨g, 0, none⟩) :: .pointer (some ⟨g, 1, none⟩) :: .float .f32 av :: .float .f32 x :: .float .f32 (restF x) :: .float .f32 (fmul av (restF x)) :: undef :: undef :: undef :: undef :: undef :: undef :: undef :: undef :: []).toArray, defers := [] } #[true, true, true, true, true, true, true, true, true, true, true, true, true, true, true, true, true, true, true, true, true, false, false, false, false, false, false, false, false, false] (.float .f32 (fmul av (restF x))) rfl (by rfl) (by kernel_rfl) (by kernel_rfl) (by kernel_rfl) (fun w => run_binop_val _ _ _ _ (by rfl) (by rfl) (by simp [eqGuard]) (h1av.out w)) (by rfl) (by rfl) (kd.tail) ?_
  refine take_val 21 { tmps := (.pointer (some ⟨g, 0, none⟩) :: .pointer (some ⟨k, 0, none⟩) :: .float .f32 x :: undef :: undef :: undef :: .pointer (some ⟨w.heap.size, 0, none⟩) :: .pointer (some ⟨g, 0, none⟩) :: .pointer (some ⟨g, 0, none⟩) :: .pointer (some ⟨g, 0, none⟩) :: .float .f32 ah :: .float .f32 x :: .float .f32 (restF x) :: .float .f32 (fmul ah (restF x)) :: .pointer (some ⟨k, 0, none⟩) :: .pointer (some ⟨k, 0, none⟩) :: .pointer (some ⟨k, 0, none⟩) :: .float .f32 bh :: .float .f32 x :: .float .f32 (fmul bh x) :: .float .f32 (mixW ah bh x) :: .pointer (some ⟨g, 0, none⟩) :: .pointer (some ⟨g, 0, none⟩) :: .pointer (some ⟨g, 1, none⟩) :: .float .f32 av :: .float .f32 x :: .float .f32 (restF x) :: .float .f32 (fmul av (restF x)) :: .pointer (some ⟨k, 0, none⟩) :: undef :: undef :: undef :: undef :: undef :: undef :: undef :: []).toArray, defers := [] } #[true, true, true, true, true, true, true, true, true, true, true, true, true, true, true, true, true, true, true, true, true, true, false, false, false, false, false, false, false, false] (.pointer (some ⟨k, 0, none⟩)) rfl (by rfl) (by kernel_rfl) (by kernel_rfl) (by kernel_rfl) (fun w => by rfl) (by rfl) (by rfl) (kd.tail) ?_
  refine take_val 22 { tmps := (.pointer (some ⟨g, 0, none⟩) :: .pointer (some ⟨k, 0, none⟩) :: .float .f32 x :: undef :: undef :: undef :: .pointer (some ⟨w.heap.size, 0, none⟩) :: .pointer (some ⟨g, 0, none⟩) :: .pointer (some ⟨g, 0, none⟩) :: .pointer (some ⟨g, 0, none⟩) :: .float .f32 ah :: .float .f32 x :: .float .f32 (restF x) :: .float .f32 (fmul ah (restF x)) :: .pointer (some ⟨k, 0, none⟩) :: .pointer (some ⟨k, 0, none⟩) :: .pointer (some ⟨k, 0, none⟩) :: .float .f32 bh :: .float .f32 x :: .float .f32 (fmul bh x) :: .float .f32 (mixW ah bh x) :: .pointer (some ⟨g, 0, none⟩) :: .pointer (some ⟨g, 0, none⟩) :: .pointer (some ⟨g, 1, none⟩) :: .float .f32 av :: .float .f32 x :: .float .f32 (restF x) :: .float .f32 (fmul av (restF x)) :: .pointer (some ⟨k, 0, none⟩) :: .pointer (some ⟨k, 0, none⟩) :: undef :: undef :: undef :: undef :: undef :: undef :: []).toArray, defers := [] } #[true, true, true, true, true, true, true, true, true, true, true, true, true, true, true, true, true, true, true, true, true, true, true, false, false, false, false, false, false, false] (.pointer (some ⟨k, 0, none⟩)) rfl (by rfl) (by kernel_rfl) (by kernel_rfl) (by kernel_rfl) (fun w => by unfold execOp; go_simp) (by rfl) (by rfl) (kd.tail) ?_
  refine take_val 23 { tmps := (.pointer (some ⟨g, 0, none⟩) :: .pointer (some ⟨k, 0, none⟩) :: .float .f32 x :: undef :: undef :: undef :: .pointer (some ⟨w.heap.size, 0, none⟩) :: .pointer (some ⟨g, 0, none⟩) :: .pointer (some ⟨g, 0, none⟩) :: .pointer (some ⟨g, 0, none⟩) :: .float .f32 ah :: .float .f32 x :: .float .f32 (restF x) :: .float .f32 (fmul ah (restF x)) :: .pointer (some ⟨k, 0, none⟩) :: .pointer (some ⟨k, 0, none⟩) :: .pointer (some ⟨k, 0, none⟩) :: .float .f32 bh :: .float .f32 x :: .float .f32 (fmul bh x) :: .float .f32 (mixW ah bh x) :: .pointer (some ⟨g, 0, none⟩) :: .pointer (some ⟨g, 0, none⟩) :: .pointer (some ⟨g, 1, none⟩) :: .float .f32 av :: .float .f32 x :: .float .f32 (restF x) :: .float .f32 (fmul av (restF x)) :: .pointer (some ⟨k, 0, none⟩) :: .pointer (some ⟨k, 0, none⟩) :: .pointer (some ⟨k, 1, none⟩) :: undef :: undef :: undef :: undef :: undef :: []).toArray, defers := [] } #[true, true, true, true, true, true, true, true, true, true, true, true, true, true, true, true, true, true, true, true, true, true, true, true, false, false, false, false, false, false] (.pointer (some ⟨k, 1, none⟩)) rfl (by rfl) (by kernel_rfl) (by kernel_rfl) (by kernel_rfl) (fun w => by unfold execOp; go_simp) (by rfl) (by rfl) (kd.tail) ?_
  refine take_cell 24 { tmps := (.pointer (some ⟨g, 0, none⟩) :: .pointer (some ⟨k, 0, none⟩) :: .float .f32 x :: undef :: undef :: undef :: .pointer (some ⟨w.heap.size, 0, none⟩) :: .pointer (some ⟨g, 0, none⟩) :: .pointer (some ⟨g, 0, none⟩) :: .pointer (some ⟨g, 0, none⟩) :: .float .f32 ah :: .float .f32 x :: .float .f32 (restF x) :: .float .f32 (fmul ah (restF x)) :: .pointer (some ⟨k, 0, none⟩) :: .pointer (some ⟨k, 0, none⟩) :: .pointer (some ⟨k, 0, none⟩) :: .float .f32 bh :: .float .f32 x :: .float .f32 (fmul bh x) :: .float .f32 (mixW ah bh x) :: .pointer (some ⟨g, 0, none⟩) :: .pointer (some ⟨g, 0, none⟩) :: .pointer (some ⟨g, 1, none⟩) :: .float .f32 av :: .float .f32 x :: .float .f32 (restF x) :: .float .f32 (fmul av (restF x)) :: .pointer (some ⟨k, 0, none⟩) :: .pointer (some ⟨k, 0, none⟩) :: .pointer (some ⟨k, 1, none⟩) :: .float .f32 bv :: undef :: undef :: undef :: undef :: []).toArray, defers := [] } #[true, true, true, true, true, true, true, true, true, true, true, true, true, true, true, true, true, true, true, true, true, true, true, true, true, false, false, false, false, false] (.float .f32 bv) rfl (by rfl) (by kernel_rfl) (by kernel_rfl) (by kernel_rfl) (fun wq hS => by have hcell : wq.cell? ⟨k, 1, none⟩ = some (.float .f32 bv) := (cell_of_row wq (k) 1 _ _ _ (hS.at (x := (k, #[.float .f32 bh, .float .f32 bv], T')) (by simp))).trans rfl; clear hS; unfold execOp; go_simp) (by rfl) (by rfl) (kd.tail) ?_
  refine take_val 25 { tmps := (.pointer (some ⟨g, 0, none⟩) :: .pointer (some ⟨k, 0, none⟩) :: .float .f32 x :: undef :: undef :: undef :: .pointer (some ⟨w.heap.size, 0, none⟩) :: .pointer (some ⟨g, 0, none⟩) :: .pointer (some ⟨g, 0, none⟩) :: .pointer (some ⟨g, 0, none⟩) :: .float .f32 ah :: .float .f32 x :: .float .f32 (restF x) :: .float .f32 (fmul ah (restF x)) :: .pointer (some ⟨k, 0, none⟩) :: .pointer (some ⟨k, 0, none⟩) :: .pointer (some ⟨k, 0, none⟩) :: .float .f32 bh :: .float .f32 x :: .float .f32 (fmul bh x) :: .float .f32 (mixW ah bh x) :: .pointer (some ⟨g, 0, none⟩) :: .pointer (some ⟨g, 0, none⟩) :: .pointer (some ⟨g, 1, none⟩) :: .float .f32 av :: .float .f32 x :: .float .f32 (restF x) :: .float .f32 (fmul av (restF x)) :: .pointer (some ⟨k, 0, none⟩) :: .pointer (some ⟨k, 0, none⟩) :: .pointer (some ⟨k, 1, none⟩) :: .float .f32 bv :: .float .f32 x :: undef :: undef :: undef :: []).toArray, defers := [] } #[true, true, true, true, true, true, true, true, true, true, true, true, true, true, true, true, true, true, true, true, true, true, true, true, true, true, false, false, false, false] (.float .f32 x) rfl (by rfl) (by kernel_rfl) (by kernel_rfl) (by kernel_rfl) (fun w => by rfl) (by rfl) (by rfl) (kd.tail) ?_
  refine take_val 26 { tmps := (.pointer (some ⟨g, 0, none⟩) :: .pointer (some ⟨k, 0, none⟩) :: .float .f32 x :: undef :: undef :: undef :: .pointer (some ⟨w.heap.size, 0, none⟩) :: .pointer (some ⟨g, 0, none⟩) :: .pointer (some ⟨g, 0, none⟩) :: .pointer (some ⟨g, 0, none⟩) :: .float .f32 ah :: .float .f32 x :: .float .f32 (restF x) :: .float .f32 (fmul ah (restF x)) :: .pointer (some ⟨k, 0, none⟩) :: .pointer (some ⟨k, 0, none⟩) :: .pointer (some ⟨k, 0, none⟩) :: .float .f32 bh :: .float .f32 x :: .float .f32 (fmul bh x) :: .float .f32 (mixW ah bh x) :: .pointer (some ⟨g, 0, none⟩) :: .pointer (some ⟨g, 0, none⟩) :: .pointer (some ⟨g, 1, none⟩) :: .float .f32 av :: .float .f32 x :: .float .f32 (restF x) :: .float .f32 (fmul av (restF x)) :: .pointer (some ⟨k, 0, none⟩) :: .pointer (some ⟨k, 0, none⟩) :: .pointer (some ⟨k, 1, none⟩) :: .float .f32 bv :: .float .f32 x :: .float .f32 (fmul bv x) :: undef :: undef :: []).toArray, defers := [] } #[true, true, true, true, true, true, true, true, true, true, true, true, true, true, true, true, true, true, true, true, true, true, true, true, true, true, true, false, false, false] (.float .f32 (fmul bv x)) rfl (by rfl) (by kernel_rfl) (by kernel_rfl) (by kernel_rfl) (fun w => run_binop_val _ _ _ _ (by rfl) (by rfl) (by simp [eqGuard]) (h2bv.out w)) (by rfl) (by rfl) (kd.tail) ?_
  refine take_val 27 { tmps := (.pointer (some ⟨g, 0, none⟩) :: .pointer (some ⟨k, 0, none⟩) :: .float .f32 x :: undef :: undef :: undef :: .pointer (some ⟨w.heap.size, 0, none⟩) :: .pointer (some ⟨g, 0, none⟩) :: .pointer (some ⟨g, 0, none⟩) :: .pointer (some ⟨g, 0, none⟩) :: .float .f32 ah :: .float .f32 x :: .float .f32 (restF x) :: .float .f32 (fmul ah (restF x)) :: .pointer (some ⟨k, 0, none⟩) :: .pointer (some ⟨k, 0, none⟩) :: .pointer (some ⟨k, 0, none⟩) :: .float .f32 bh :: .float .f32 x :: .float .f32 (fmul bh x) :: .float .f32 (mixW ah bh x) :: .pointer (some ⟨g, 0, none⟩) :: .pointer (some ⟨g, 0, none⟩) :: .pointer (some ⟨g, 1, none⟩) :: .float .f32 av :: .float .f32 x :: .float .f32 (restF x) :: .float .f32 (fmul av (restF x)) :: .pointer (some ⟨k, 0, none⟩) :: .pointer (some ⟨k, 0, none⟩) :: .pointer (some ⟨k, 1, none⟩) :: .float .f32 bv :: .float .f32 x :: .float .f32 (fmul bv x) :: .float .f32 (mixW av bv x) :: undef :: []).toArray, defers := [] } #[true, true, true, true, true, true, true, true, true, true, true, true, true, true, true, true, true, true, true, true, true, true, true, true, true, true, true, true, false, false] (.float .f32 (mixW av bv x)) rfl (by rfl) (by kernel_rfl) (by kernel_rfl) (by kernel_rfl) (fun w => run_binop_val _ _ _ _ (by rfl) (by rfl) (by simp [eqGuard]) (h3v.out w)) (by rfl) (by rfl) (kd.tail) ?_
  refine take_val 28 { tmps := (.pointer (some ⟨g, 0, none⟩) :: .pointer (some ⟨k, 0, none⟩) :: .float .f32 x :: undef :: undef :: undef :: .pointer (some ⟨w.heap.size, 0, none⟩) :: .pointer (some ⟨g, 0, none⟩) :: .pointer (some ⟨g, 0, none⟩) :: .pointer (some ⟨g, 0, none⟩) :: .float .f32 ah :: .float .f32 x :: .float .f32 (restF x) :: .float .f32 (fmul ah (restF x)) :: .pointer (some ⟨k, 0, none⟩) :: .pointer (some ⟨k, 0, none⟩) :: .pointer (some ⟨k, 0, none⟩) :: .float .f32 bh :: .float .f32 x :: .float .f32 (fmul bh x) :: .float .f32 (mixW ah bh x) :: .pointer (some ⟨g, 0, none⟩) :: .pointer (some ⟨g, 0, none⟩) :: .pointer (some ⟨g, 1, none⟩) :: .float .f32 av :: .float .f32 x :: .float .f32 (restF x) :: .float .f32 (fmul av (restF x)) :: .pointer (some ⟨k, 0, none⟩) :: .pointer (some ⟨k, 0, none⟩) :: .pointer (some ⟨k, 1, none⟩) :: .float .f32 bv :: .float .f32 x :: .float .f32 (fmul bv x) :: .float .f32 (mixW av bv x) :: .agg #[.float .f32 (mixW ah bh x), .float .f32 (mixW av bv x)] :: []).toArray, defers := [] } #[true, true, true, true, true, true, true, true, true, true, true, true, true, true, true, true, true, true, true, true, true, true, true, true, true, true, true, true, true, false] (.agg #[.float .f32 (mixW ah bh x), .float .f32 (mixW av bv x)]) rfl (by rfl) (by kernel_rfl) (by kernel_rfl) (by kernel_rfl) (fun w => by unfold execOp; go_simp) (by rfl) (by rfl) (kd.tail) ?_
  refine wpAnyH_ready (rs := [29]) (by kernel_rfl) (by simp) ?_
  refine storeK 29 { tmps := (.pointer (some ⟨g, 0, none⟩) :: .pointer (some ⟨k, 0, none⟩) :: .float .f32 x :: undef :: undef :: undef :: .pointer (some ⟨w.heap.size, 0, none⟩) :: .pointer (some ⟨g, 0, none⟩) :: .pointer (some ⟨g, 0, none⟩) :: .pointer (some ⟨g, 0, none⟩) :: .float .f32 ah :: .float .f32 x :: .float .f32 (restF x) :: .float .f32 (fmul ah (restF x)) :: .pointer (some ⟨k, 0, none⟩) :: .pointer (some ⟨k, 0, none⟩) :: .pointer (some ⟨k, 0, none⟩) :: .float .f32 bh :: .float .f32 x :: .float .f32 (fmul bh x) :: .float .f32 (mixW ah bh x) :: .pointer (some ⟨g, 0, none⟩) :: .pointer (some ⟨g, 0, none⟩) :: .pointer (some ⟨g, 1, none⟩) :: .float .f32 av :: .float .f32 x :: .float .f32 (restF x) :: .float .f32 (fmul av (restF x)) :: .pointer (some ⟨k, 0, none⟩) :: .pointer (some ⟨k, 0, none⟩) :: .pointer (some ⟨k, 1, none⟩) :: .float .f32 bv :: .float .f32 x :: .float .f32 (fmul bv x) :: .float .f32 (mixW av bv x) :: .agg #[.float .f32 (mixW ah bh x), .float .f32 (mixW av bv x)] :: []).toArray, defers := [] } #[true, true, true, true, true, true, true, true, true, true, true, true, true, true, true, true, true, true, true, true, true, true, true, true, true, true, true, true, true, true] kd HB0.out HN0.out rfl (by rfl) 44 _ _ rfl (#[.float .f32 (mixW ah bh x), .float .f32 (mixW av bv x)]) (by rfl) (by rfl) (info_air) (by simp) (by simp [Value.oneCell']) (by rfl) (by rfl) (fun w1 k1 => ?_) AllReadyH.nil
  refine ⟨k1.tail, ?_⟩
  refine wpAnyH_done (by kernel_rfl) (NoPanic.normal ?_) _
  go_wp2
  exact bodyPost_ret (results_cell_row rfl _ _ (w.heap.size) 44 (#[.float .f32 (mixW ah bh x), .float .f32 (mixW av bv x)]) (0, 0) _ rfl (k1.at (x := (w.heap.size, _, _)) (by simp)) Try.underlying44 rfl info_air) rfl ⟨rfl, k1.1⟩

set_option maxRecDepth 100000 in
set_option maxHeartbeats 1000000 in
theorem sMixAir_ok (ah av bh bv x : Nat) (hv1 : av < 4294967296) (hq1 : airB ah av = true) (hv2 : bv < 4294967296) (hq2 : airB bh bv = true) (hx : Share x) (M1 : MixF ah bh x) (M2 : MixF av bv x) (hr : airB (mixW ah bh x) (mixW av bv x) = true) (w : World) :
    Calls Try.prog 87 #[.agg #[.float .f32 ah, .float .f32 av], .agg #[.float .f32 bh, .float .f32 bv], .float .f32 x] w fun e w' => e = .returned (.tuple #[.agg #[.float .f32 (mixW ah bh x), .float .f32 (mixW av bv x)], .int .i64 0]) ∧ Below w.heap.size w w' := by
  have k0 : Hid (Kept w [(w.heap.size, #[.float .f32 ah, .float .f32 av], 44), (w.heap.size + 1, #[.float .f32 bh, .float .f32 bv], 44), (w.heap.size + 1 + 1, #[.float .f32 0, .float .f32 0], 44)] (((w.alloc (.cells (#[.float .f32 ah, .float .f32 av]) 44)).alloc (.cells (#[.float .f32 bh, .float .f32 bv]) 44)).alloc (.cells (#[.float .f32 0, .float .f32 0]) 44))) := hid (((((Kept.nil w).push (#[.float .f32 ah, .float .f32 av]) 44).push (#[.float .f32 bh, .float .f32 bv]) 44).push (#[.float .f32 0, .float .f32 0]) 44).sub (by simp))
  have Hhv1 := hid hv1
  have Hhq1 := hid hq1
  have Hhv2 := hid hv2
  have Hhq2 := hid hq2
  have Hhx := hid hx
  have HM1 := hid M1
  have HM2 := hid M2
  have Hhr := hid hr
  clear hv1 hq1 hv2 hq2 hx M1 M2 hr
  go_enter Try.func87, Try.ntmps87
  go_wp2_with fail
  refine (loose (sAirOk_t ah av Hhq1.out _ (w.heap.size) 44 (k0.out.at (x := (w.heap.size, #[.float .f32 ah, .float .f32 av], 44)) (by simp)))).mono ?_
  rintro e w0 ⟨rfl, hb0⟩
  have k1 := hid (k0.out.stay hb0)
  clear hb0
  go_wp2_with fail
  refine (loose (sAirOk_t bh bv Hhq2.out _ (w.heap.size + 1) 44 (k1.out.at (x := (w.heap.size + 1, #[.float .f32 bh, .float .f32 bv], 44)) (by simp)))).mono ?_
  rintro e w1 ⟨rfl, hb1⟩
  have k2 := hid (k1.out.stay hb1)
  clear hb1
  go_wp2_with fail
  refine (sShare_t x Hhx.out _).mono ?_
  rintro e w2 ⟨rfl, rfl⟩
  go_wp2_with fail
  refine (sMix ah av bh bv x HM1.out HM2.out _ (w.heap.size) (w.heap.size + 1) 44 44 (k2.out.at (x := (w.heap.size, #[.float .f32 ah, .float .f32 av], 44)) (by simp)) (k2.out.at (x := (w.heap.size + 1, #[.float .f32 bh, .float .f32 bv], 44)) (by simp))).mono ?_
  rintro e w3 ⟨rfl, hb3⟩
  have k4 := hid (k2.out.stay hb3)
  clear hb3
  have P0 := hid (airAt.new w3 (mixW ah bh x) (mixW av bv x) 44)
  have kz := hid (k4.out.alloc (.cells #[.float .f32 (mixW ah bh x), .float .f32 (mixW av bv x)] 44))
  go_wp2_with fail
  refine (sAirOk_t _ _ Hhr.out _ (w3.heap.size) 44 P0.out).mono ?_
  rintro e w8 ⟨rfl, rfl⟩
  go_wp2_with (first | (refine wpList_load_row rfl 44 _ rfl (w3.heap.size) rfl 44 (#[.float .f32 (mixW ah bh x), .float .f32 (mixW av bv x)]) (0, 0) _ P0.out Try.underlying44 rfl info_air ?_) | (refine wpList_store_row rfl 44 _ _ rfl (w.heap.size + 1 + 1) (#[.float .f32 (mixW ah bh x), .float .f32 (mixW av bv x)]) rfl rfl 44 _ (kz.out.at (x := (w.heap.size + 1 + 1, #[.float .f32 0, .float .f32 0], 44)) (by simp)) (info_air) (by simp) (by simp [Value.oneCell']) ?_))
  exact bodyPost_ret (results_row_tmp rfl _ _ (w.heap.size + 1 + 1) 44 (#[.float .f32 (mixW ah bh x), .float .f32 (mixW av bv x)]) (0, 0) _ rfl (setRow_heap _ _ _ _ _ _ (kz.out.at (x := (w.heap.size + 1 + 1, #[.float .f32 0, .float .f32 0], 44)) (by simp))) Try.underlying44 rfl info_air) rfl ⟨rfl, below_row kz.out.1 (by omega) _⟩

set_option maxRecDepth 100000 in
set_option maxHeartbeats 1000000 in
theorem sMixAir_state (ah av bh bv x : Nat) (hv1 : av < 4294967296) (hq1 : airB ah av = true) (hv2 : bv < 4294967296) (hq2 : airB bh bv = true) (hx : Share x) (M1 : MixF ah bh x) (M2 : MixF av bv x) (hr : airB (mixW ah bh x) (mixW av bv x) = false) (w : World) :
    Calls Try.prog 87 #[.agg #[.float .f32 ah, .float .f32 av], .agg #[.float .f32 bh, .float .f32 bv], .float .f32 x] w fun e w' => e = .returned (.tuple #[.agg #[.float .f32 0, .float .f32 0], .int .i64 4]) ∧ Below w.heap.size w w' := by
  have k0 : Hid (Kept w [(w.heap.size, #[.float .f32 ah, .float .f32 av], 44), (w.heap.size + 1, #[.float .f32 bh, .float .f32 bv], 44), (w.heap.size + 1 + 1, #[.float .f32 0, .float .f32 0], 44)] (((w.alloc (.cells (#[.float .f32 ah, .float .f32 av]) 44)).alloc (.cells (#[.float .f32 bh, .float .f32 bv]) 44)).alloc (.cells (#[.float .f32 0, .float .f32 0]) 44))) := hid (((((Kept.nil w).push (#[.float .f32 ah, .float .f32 av]) 44).push (#[.float .f32 bh, .float .f32 bv]) 44).push (#[.float .f32 0, .float .f32 0]) 44).sub (by simp))
  have Hhv1 := hid hv1
  have Hhq1 := hid hq1
  have Hhv2 := hid hv2
  have Hhq2 := hid hq2
  have Hhx := hid hx
  have HM1 := hid M1
  have HM2 := hid M2
  have Hhr := hid hr
  clear hv1 hq1 hv2 hq2 hx M1 M2 hr
  go_enter Try.func87, Try.ntmps87
  go_wp2_with fail
  refine (loose (sAirOk_t ah av Hhq1.out _ (w.heap.size) 44 (k0.out.at (x := (w.heap.size, #[.float .f32 ah, .float .f32 av], 44)) (by simp)))).mono ?_
  rintro e w0 ⟨rfl, hb0⟩
  have k1 := hid (k0.out.stay hb0)
  clear hb0
  go_wp2_with fail
  refine (loose (sAirOk_t bh bv Hhq2.out _ (w.heap.size + 1) 44 (k1.out.at (x := (w.heap.size + 1, #[.float .f32 bh, .float .f32 bv], 44)) (by simp)))).mono ?_
  rintro e w1 ⟨rfl, hb1⟩
  have k2 := hid (k1.out.stay hb1)
  clear hb1
  go_wp2_with fail
  refine (sShare_t x Hhx.out _).mono ?_
  rintro e w2 ⟨rfl, rfl⟩
  go_wp2_with fail
  refine (sMix ah av bh bv x HM1.out HM2.out _ (w.heap.size) (w.heap.size + 1) 44 44 (k2.out.at (x := (w.heap.size, #[.float .f32 ah, .float .f32 av], 44)) (by simp)) (k2.out.at (x := (w.heap.size + 1, #[.float .f32 bh, .float .f32 bv], 44)) (by simp))).mono ?_
  rintro e w3 ⟨rfl, hb3⟩
  have k4 := hid (k2.out.stay hb3)
  clear hb3
  have P0 := hid (airAt.new w3 (mixW ah bh x) (mixW av bv x) 44)
  have kz := hid (k4.out.alloc (.cells #[.float .f32 (mixW ah bh x), .float .f32 (mixW av bv x)] 44))
  go_wp2_with fail
  refine (sAirOk_f _ _ HM2.out.lt Hhr.out _ (w3.heap.size) 44 P0.out).mono ?_
  rintro e w8 ⟨rfl, hb8⟩
  have k8 := hid (kz.out.stay hb8)
  clear hb8
  go_wp2_with (first | (refine wpList_store_row rfl 44 _ _ rfl (w.heap.size + 1 + 1) (#[.float .f32 0, .float .f32 0]) rfl rfl 44 _ (k8.out.at (x := (w.heap.size + 1 + 1, #[.float .f32 0, .float .f32 0], 44)) (by simp)) (info_air) (by simp) (by simp [Value.oneCell']) ?_))
  exact bodyPost_ret (results_row_tmp rfl _ _ (w.heap.size + 1 + 1) 44 (#[.float .f32 0, .float .f32 0]) (0, 0) _ rfl (setRow_heap _ _ _ _ _ _ (k8.out.at (x := (w.heap.size + 1 + 1, #[.float .f32 0, .float .f32 0], 44)) (by simp))) Try.underlying44 rfl info_air) rfl ⟨rfl, below_row k8.out.1 (by omega) _⟩

theorem run_mixN3 (a : Act) (x0 : Operand) (v0 : Value) (h0 : a.eval x0 = v0) (x1 : Operand) (v1 : Value) (h1 : a.eval x1 = v1) (x2 : Operand) (v2 : Value) (h2 : a.eval x2 = v2) (d : Option Tmp) (ats : Array TypeId) (t : TypeId) (ps : String) (af : Array Edge) (gd : Option (Nat × Bool)) (w : World) :
    (execOp a.eval ⟨d, .call { callee := .value (.func 146), args := #[x0, x1, x2], argTypes := ats }, t, ps, af, gd⟩).run Try.prog w = .ok (.enter 146 #[v0, v1, v2]) w := by
  subst h0 h1 h2
  unfold execOp
  go_simp

set_option maxRecDepth 100000 in
set_option maxHeartbeats 2000000 in
theorem iMixAir_ok (ah av bh bv x : Nat) (hv1 : av < 4294967296) (hq1 : airB ah av = true) (hv2 : bv < 4294967296) (hq2 : airB bh bv = true) (hx : Share x) (M1 : MixF ah bh x) (M2 : MixF av bv x) (hr : airB (mixW ah bh x) (mixW av bv x) = true) (w : World) :
    Calls Try.prog 88 #[.agg #[.float .f32 ah, .float .f32 av], .agg #[.float .f32 bh, .float .f32 bv], .float .f32 x] w fun e w' => e = .returned (.tuple #[.agg #[.float .f32 (mixW ah bh x), .float .f32 (mixW av bv x)], .int .i64 0]) ∧ Below w.heap.size w w' := by
  have k0 : Hid (Kept w [(w.heap.size, #[.float .f32 ah, .float .f32 av], 44), (w.heap.size + 1, #[.float .f32 bh, .float .f32 bv], 44), (w.heap.size + 1 + 1, #[.float .f32 0, .float .f32 0], 44)] (((w.alloc (.cells (#[.float .f32 ah, .float .f32 av]) 44)).alloc (.cells (#[.float .f32 bh, .float .f32 bv]) 44)).alloc (.cells (#[.float .f32 0, .float .f32 0]) 44))) := hid (((((Kept.nil w).push (#[.float .f32 ah, .float .f32 av]) 44).push (#[.float .f32 bh, .float .f32 bv]) 44).push (#[.float .f32 0, .float .f32 0]) 44).sub (by simp))
  have Hhv1 := hid hv1
  have Hhq1 := hid hq1
  have Hhv2 := hid hv2
  have Hhq2 := hid hq2
  have Hhx := hid hx
  have HM1 := hid M1
  have HM2 := hid M2
  have Hhr := hid hr
  clear hv1 hq1 hv2 hq2 hx M1 M2 hr
  go_enter Try.func88, Try.ntmps88
  go_wp2_with (first | (refine wpList_load_row rfl 44 _ rfl (w.heap.size) rfl 44 (#[.float .f32 ah, .float .f32 av]) (0, 0) _ (k0.out.at (x := (w.heap.size, #[.float .f32 ah, .float .f32 av], 44)) (by simp)) Try.underlying44 rfl (info_air) ?_))
  refine (iValidAir ah av Hhv1.out true Hhq1.out _).mono ?_
  rintro e w0 ⟨rfl, hb0⟩
  have k1 := hid (k0.out.stay hb0)
  clear hb0
  go_wp2_with (first | (refine wpList_load_g rfl 44 _ rfl (w.heap.size + 1) rfl 44 (#[.float .f32 bh, .float .f32 bv]) (0, 0) _ (k1.out.at (x := (w.heap.size + 1, #[.float .f32 bh, .float .f32 bv], 44)) (by simp)) Try.underlying44 rfl (info_air) ?_))
  refine (iValidAir bh bv Hhv2.out true Hhq2.out _).mono ?_
  rintro e w1 ⟨rfl, hb1⟩
  have k2 := hid (k1.out.stay hb1)
  clear hb1
  go_wp2_with fail
  refine (iShare_t x Hhx.out _).mono ?_
  rintro e w2 ⟨rfl, rfl⟩
  go_wp2_with fail
  rename_i Q1 K1 hK1
  have key : ∀ (a0 : Nat) (w1 : World), Hid (Kept w [(a0, #[.float .f32 (mixW ah bh x), .float .f32 (mixW av bv x)], 44), (w.heap.size, #[.float .f32 ah, .float .f32 av], 44), (w.heap.size + 1, #[.float .f32 bh, .float .f32 bv], 44), (w.heap.size + 1 + 1, #[.float .f32 0, .float .f32 0], 44)] w1) → K1 { tmps := (.agg #[.float .f32 ah, .float .f32 av] :: .agg #[.float .f32 bh, .float .f32 bv] :: .float .f32 x :: .pointer (some ⟨w.heap.size, 0, none⟩) :: .pointer (some ⟨w.heap.size + 1, 0, none⟩) :: undef :: .pointer (some ⟨w.heap.size + 1 + 1, 0, none⟩) :: .int .i64 0 :: .pointer (some ⟨a0, 0, none⟩) :: .agg #[.float .f32 ah, .float .f32 av] :: .bool true :: .bool false :: .bool false :: .agg #[.float .f32 bh, .float .f32 bv] :: .bool true :: .bool false :: .bool false :: undef :: .float .f32 x :: .bool true :: .bool false :: undef :: .pointer (some ⟨w.heap.size, 0, none⟩) :: .float .f32 ah :: .pointer (some ⟨w.heap.size + 1, 0, none⟩) :: .float .f32 bh :: .float .f32 x :: .float .f32 (mixW ah bh x) :: .pointer (some ⟨w.heap.size, 1, none⟩) :: .float .f32 av :: .pointer (some ⟨w.heap.size + 1, 1, none⟩) :: .float .f32 bv :: .float .f32 x :: .float .f32 (mixW av bv x) :: .agg #[.float .f32 (mixW ah bh x), .float .f32 (mixW av bv x)] :: undef :: undef :: undef :: undef :: undef :: []).toArray, defers := [] } w1 := by
    intro a0 w1 k1
    clear k2
    go_wp2_with (first | (refine wpList_load_row rfl 44 _ rfl (a0) rfl 44 (#[.float .f32 (mixW ah bh x), .float .f32 (mixW av bv x)]) (0, 0) _ (k1.out.at (x := (a0, #[.float .f32 (mixW ah bh x), .float .f32 (mixW av bv x)], 44)) (by simp)) Try.underlying44 rfl (info_air) ?_))
    refine (iValidAir _ _ HM2.out.lt true Hhr.out _).mono ?_
    rintro e w50 ⟨rfl, hb50⟩
    have k51 := hid (k1.out.stay hb50)
    clear hb50
    go_wp2_with (first | (refine wpList_load_row rfl 44 _ rfl (a0) rfl 44 (#[.float .f32 (mixW ah bh x), .float .f32 (mixW av bv x)]) (0, 0) _ (k51.out.at (x := (a0, #[.float .f32 (mixW ah bh x), .float .f32 (mixW av bv x)], 44)) (by simp)) Try.underlying44 rfl (info_air) ?_) | (refine wpList_store_row rfl 44 _ _ rfl (w.heap.size + 1 + 1) (#[.float .f32 (mixW ah bh x), .float .f32 (mixW av bv x)]) rfl rfl 44 _ (k51.out.at (x := (w.heap.size + 1 + 1, #[.float .f32 0, .float .f32 0], 44)) (by simp)) (info_air) (by simp) (by simp [Value.oneCell']) ?_))
    exact bodyPost_ret (results_row_tmp rfl _ _ (w.heap.size + 1 + 1) 44 (#[.float .f32 (mixW ah bh x), .float .f32 (mixW av bv x)]) (0, 0) _ rfl (setRow_heap _ _ _ _ _ _ (k51.out.at (x := (w.heap.size + 1 + 1, #[.float .f32 0, .float .f32 0], 44)) (by simp))) Try.underlying44 rfl info_air) rfl ⟨rfl, below_row k51.out.1 (by omega) _⟩
  refine region_kept (w0 := w) (l := [(w.heap.size, #[.float .f32 ah, .float .f32 av], 44), (w.heap.size + 1, #[.float .f32 bh, .float .f32 bv], 44), (w.heap.size + 1 + 1, #[.float .f32 0, .float .f32 0], 44)]) 15 #[false, false, false, false, false, false, false, false, false, false, false, false, false, false, false] (by kernel_rfl) rfl rfl ?_
  have kd := k2.out.drew
  clear k2
  generalize World.drew _ = wd at kd ⊢
  refine take_val 0 { tmps := (.agg #[.float .f32 ah, .float .f32 av] :: .agg #[.float .f32 bh, .float .f32 bv] :: .float .f32 x :: .pointer (some ⟨w.heap.size, 0, none⟩) :: .pointer (some ⟨w.heap.size + 1, 0, none⟩) :: undef :: .pointer (some ⟨w.heap.size + 1 + 1, 0, none⟩) :: .int .i64 0 :: undef :: .agg #[.float .f32 ah, .float .f32 av] :: .bool true :: .bool false :: .bool false :: .agg #[.float .f32 bh, .float .f32 bv] :: .bool true :: .bool false :: .bool false :: undef :: .float .f32 x :: .bool true :: .bool false :: undef :: .pointer (some ⟨w.heap.size, 0, none⟩) :: undef :: undef :: undef :: undef :: undef :: undef :: undef :: undef :: undef :: undef :: undef :: undef :: undef :: undef :: undef :: undef :: undef :: []).toArray, defers := [] } #[true, false, false, false, false, false, false, false, false, false, false, false, false, false, false] (.pointer (some ⟨w.heap.size, 0, none⟩)) rfl (by rfl) (by kernel_rfl) (by kernel_rfl) (by kernel_rfl) (fun w => by unfold execOp; go_simp) (by rfl) (by rfl) (kd) ?_
  refine take_cell 1 { tmps := (.agg #[.float .f32 ah, .float .f32 av] :: .agg #[.float .f32 bh, .float .f32 bv] :: .float .f32 x :: .pointer (some ⟨w.heap.size, 0, none⟩) :: .pointer (some ⟨w.heap.size + 1, 0, none⟩) :: undef :: .pointer (some ⟨w.heap.size + 1 + 1, 0, none⟩) :: .int .i64 0 :: undef :: .agg #[.float .f32 ah, .float .f32 av] :: .bool true :: .bool false :: .bool false :: .agg #[.float .f32 bh, .float .f32 bv] :: .bool true :: .bool false :: .bool false :: undef :: .float .f32 x :: .bool true :: .bool false :: undef :: .pointer (some ⟨w.heap.size, 0, none⟩) :: .float .f32 ah :: undef :: undef :: undef :: undef :: undef :: undef :: undef :: undef :: undef :: undef :: undef :: undef :: undef :: undef :: undef :: undef :: []).toArray, defers := [] } #[true, true, false, false, false, false, false, false, false, false, false, false, false, false, false] (.float .f32 ah) rfl (by rfl) (by kernel_rfl) (by kernel_rfl) (by kernel_rfl) (fun wq hS => by have hcell : wq.cell? ⟨w.heap.size, 0, none⟩ = some (.float .f32 ah) := (cell_of_row wq (w.heap.size) 0 _ _ _ (hS.at (x := (w.heap.size, #[.float .f32 ah, .float .f32 av], 44)) (by simp))).trans rfl; clear hS; unfold execOp; go_simp) (by rfl) (by rfl) (kd) ?_
  refine take_val 2 { tmps := (.agg #[.float .f32 ah, .float .f32 av] :: .agg #[.float .f32 bh, .float .f32 bv] :: .float .f32 x :: .pointer (some ⟨w.heap.size, 0, none⟩) :: .pointer (some ⟨w.heap.size + 1, 0, none⟩) :: undef :: .pointer (some ⟨w.heap.size + 1 + 1, 0, none⟩) :: .int .i64 0 :: undef :: .agg #[.float .f32 ah, .float .f32 av] :: .bool true :: .bool false :: .bool false :: .agg #[.float .f32 bh, .float .f32 bv] :: .bool true :: .bool false :: .bool false :: undef :: .float .f32 x :: .bool true :: .bool false :: undef :: .pointer (some ⟨w.heap.size, 0, none⟩) :: .float .f32 ah :: .pointer (some ⟨w.heap.size + 1, 0, none⟩) :: undef :: undef :: undef :: undef :: undef :: undef :: undef :: undef :: undef :: undef :: undef :: undef :: undef :: undef :: undef :: []).toArray, defers := [] } #[true, true, true, false, false, false, false, false, false, false, false, false, false, false, false] (.pointer (some ⟨w.heap.size + 1, 0, none⟩)) rfl (by rfl) (by kernel_rfl) (by kernel_rfl) (by kernel_rfl) (fun w => by unfold execOp; go_simp) (by rfl) (by rfl) (kd) ?_
  refine take_cell 3 { tmps := (.agg #[.float .f32 ah, .float .f32 av] :: .agg #[.float .f32 bh, .float .f32 bv] :: .float .f32 x :: .pointer (some ⟨w.heap.size, 0, none⟩) :: .pointer (some ⟨w.heap.size + 1, 0, none⟩) :: undef :: .pointer (some ⟨w.heap.size + 1 + 1, 0, none⟩) :: .int .i64 0 :: undef :: .agg #[.float .f32 ah, .float .f32 av] :: .bool true :: .bool false :: .bool false :: .agg #[.float .f32 bh, .float .f32 bv] :: .bool true :: .bool false :: .bool false :: undef :: .float .f32 x :: .bool true :: .bool false :: undef :: .pointer (some ⟨w.heap.size, 0, none⟩) :: .float .f32 ah :: .pointer (some ⟨w.heap.size + 1, 0, none⟩) :: .float .f32 bh :: undef :: undef :: undef :: undef :: undef :: undef :: undef :: undef :: undef :: undef :: undef :: undef :: undef :: undef :: []).toArray, defers := [] } #[true, true, true, true, false, false, false, false, false, false, false, false, false, false, false] (.float .f32 bh) rfl (by rfl) (by kernel_rfl) (by kernel_rfl) (by kernel_rfl) (fun wq hS => by have hcell : wq.cell? ⟨w.heap.size + 1, 0, none⟩ = some (.float .f32 bh) := (cell_of_row wq (w.heap.size + 1) 0 _ _ _ (hS.at (x := (w.heap.size + 1, #[.float .f32 bh, .float .f32 bv], 44)) (by simp))).trans rfl; clear hS; unfold execOp; go_simp) (by rfl) (by rfl) (kd) ?_
  refine take_val 4 { tmps := (.agg #[.float .f32 ah, .float .f32 av] :: .agg #[.float .f32 bh, .float .f32 bv] :: .float .f32 x :: .pointer (some ⟨w.heap.size, 0, none⟩) :: .pointer (some ⟨w.heap.size + 1, 0, none⟩) :: undef :: .pointer (some ⟨w.heap.size + 1 + 1, 0, none⟩) :: .int .i64 0 :: undef :: .agg #[.float .f32 ah, .float .f32 av] :: .bool true :: .bool false :: .bool false :: .agg #[.float .f32 bh, .float .f32 bv] :: .bool true :: .bool false :: .bool false :: undef :: .float .f32 x :: .bool true :: .bool false :: undef :: .pointer (some ⟨w.heap.size, 0, none⟩) :: .float .f32 ah :: .pointer (some ⟨w.heap.size + 1, 0, none⟩) :: .float .f32 bh :: .float .f32 x :: undef :: undef :: undef :: undef :: undef :: undef :: undef :: undef :: undef :: undef :: undef :: undef :: undef :: []).toArray, defers := [] } #[true, true, true, true, true, false, false, false, false, false, false, false, false, false, false] (.float .f32 x) rfl (by rfl) (by kernel_rfl) (by kernel_rfl) (by kernel_rfl) (fun w => by rfl) (by rfl) (by rfl) (kd) ?_
  refine take_val 6 { tmps := (.agg #[.float .f32 ah, .float .f32 av] :: .agg #[.float .f32 bh, .float .f32 bv] :: .float .f32 x :: .pointer (some ⟨w.heap.size, 0, none⟩) :: .pointer (some ⟨w.heap.size + 1, 0, none⟩) :: undef :: .pointer (some ⟨w.heap.size + 1 + 1, 0, none⟩) :: .int .i64 0 :: undef :: .agg #[.float .f32 ah, .float .f32 av] :: .bool true :: .bool false :: .bool false :: .agg #[.float .f32 bh, .float .f32 bv] :: .bool true :: .bool false :: .bool false :: undef :: .float .f32 x :: .bool true :: .bool false :: undef :: .pointer (some ⟨w.heap.size, 0, none⟩) :: .float .f32 ah :: .pointer (some ⟨w.heap.size + 1, 0, none⟩) :: .float .f32 bh :: .float .f32 x :: undef :: .pointer (some ⟨w.heap.size, 1, none⟩) :: undef :: undef :: undef :: undef :: undef :: undef :: undef :: undef :: undef :: undef :: undef :: []).toArray, defers := [] } #[true, true, true, true, true, false, true, false, false, false, false, false, false, false, false] (.pointer (some ⟨w.heap.size, 1, none⟩)) rfl (by rfl) (by kernel_rfl) (by kernel_rfl) (by kernel_rfl) (fun w => by unfold execOp; go_simp) (by rfl) (by rfl) (kd) ?_
  refine take_cell 7 { tmps := (.agg #[.float .f32 ah, .float .f32 av] :: .agg #[.float .f32 bh, .float .f32 bv] :: .float .f32 x :: .pointer (some ⟨w.heap.size, 0, none⟩) :: .pointer (some ⟨w.heap.size + 1, 0, none⟩) :: undef :: .pointer (some ⟨w.heap.size + 1 + 1, 0, none⟩) :: .int .i64 0 :: undef :: .agg #[.float .f32 ah, .float .f32 av] :: .bool true :: .bool false :: .bool false :: .agg #[.float .f32 bh, .float .f32 bv] :: .bool true :: .bool false :: .bool false :: undef :: .float .f32 x :: .bool true :: .bool false :: undef :: .pointer (some ⟨w.heap.size, 0, none⟩) :: .float .f32 ah :: .pointer (some ⟨w.heap.size + 1, 0, none⟩) :: .float .f32 bh :: .float .f32 x :: undef :: .pointer (some ⟨w.heap.size, 1, none⟩) :: .float .f32 av :: undef :: undef :: undef :: undef :: undef :: undef :: undef :: undef :: undef :: undef :: []).toArray, defers := [] } #[true, true, true, true, true, false, true, true, false, false, false, false, false, false, false] (.float .f32 av) rfl (by rfl) (by kernel_rfl) (by kernel_rfl) (by kernel_rfl) (fun wq hS => by have hcell : wq.cell? ⟨w.heap.size, 1, none⟩ = some (.float .f32 av) := (cell_of_row wq (w.heap.size) 1 _ _ _ (hS.at (x := (w.heap.size, #[.float .f32 ah, .float .f32 av], 44)) (by simp))).trans rfl; clear hS; unfold execOp; go_simp) (by rfl) (by rfl) (kd) ?_
  refine take_val 8 { tmps := (.agg #[.float .f32 ah, .float .f32 av] :: .agg #[.float .f32 bh, .float .f32 bv] :: .float .f32 x :: .pointer (some ⟨w.heap.size, 0, none⟩) :: .pointer (some ⟨w.heap.size + 1, 0, none⟩) :: undef :: .pointer (some ⟨w.heap.size + 1 + 1, 0, none⟩) :: .int .i64 0 :: undef :: .agg #[.float .f32 ah, .float .f32 av] :: .bool true :: .bool false :: .bool false :: .agg #[.float .f32 bh, .float .f32 bv] :: .bool true :: .bool false :: .bool false :: undef :: .float .f32 x :: .bool true :: .bool false :: undef :: .pointer (some ⟨w.heap.size, 0, none⟩) :: .float .f32 ah :: .pointer (some ⟨w.heap.size + 1, 0, none⟩) :: .float .f32 bh :: .float .f32 x :: undef :: .pointer (some ⟨w.heap.size, 1, none⟩) :: .float .f32 av :: .pointer (some ⟨w.heap.size + 1, 1, none⟩) :: undef :: undef :: undef :: undef :: undef :: undef :: undef :: undef :: undef :: []).toArray, defers := [] } #[true, true, true, true, true, false, true, true, true, false, false, false, false, false, false] (.pointer (some ⟨w.heap.size + 1, 1, none⟩)) rfl (by rfl) (by kernel_rfl) (by kernel_rfl) (by kernel_rfl) (fun w => by unfold execOp; go_simp) (by rfl) (by rfl) (kd) ?_
  refine take_cell 9 { tmps := (.agg #[.float .f32 ah, .float .f32 av] :: .agg #[.float .f32 bh, .float .f32 bv] :: .float .f32 x :: .pointer (some ⟨w.heap.size, 0, none⟩) :: .pointer (some ⟨w.heap.size + 1, 0, none⟩) :: undef :: .pointer (some ⟨w.heap.size + 1 + 1, 0, none⟩) :: .int .i64 0 :: undef :: .agg #[.float .f32 ah, .float .f32 av] :: .bool true :: .bool false :: .bool false :: .agg #[.float .f32 bh, .float .f32 bv] :: .bool true :: .bool false :: .bool false :: undef :: .float .f32 x :: .bool true :: .bool false :: undef :: .pointer (some ⟨w.heap.size, 0, none⟩) :: .float .f32 ah :: .pointer (some ⟨w.heap.size + 1, 0, none⟩) :: .float .f32 bh :: .float .f32 x :: undef :: .pointer (some ⟨w.heap.size, 1, none⟩) :: .float .f32 av :: .pointer (some ⟨w.heap.size + 1, 1, none⟩) :: .float .f32 bv :: undef :: undef :: undef :: undef :: undef :: undef :: undef :: undef :: []).toArray, defers := [] } #[true, true, true, true, true, false, true, true, true, true, false, false, false, false, false] (.float .f32 bv) rfl (by rfl) (by kernel_rfl) (by kernel_rfl) (by kernel_rfl) (fun wq hS => by have hcell : wq.cell? ⟨w.heap.size + 1, 1, none⟩ = some (.float .f32 bv) := (cell_of_row wq (w.heap.size + 1) 1 _ _ _ (hS.at (x := (w.heap.size + 1, #[.float .f32 bh, .float .f32 bv], 44)) (by simp))).trans rfl; clear hS; unfold execOp; go_simp) (by rfl) (by rfl) (kd) ?_
  refine take_val 10 { tmps := (.agg #[.float .f32 ah, .float .f32 av] :: .agg #[.float .f32 bh, .float .f32 bv] :: .float .f32 x :: .pointer (some ⟨w.heap.size, 0, none⟩) :: .pointer (some ⟨w.heap.size + 1, 0, none⟩) :: undef :: .pointer (some ⟨w.heap.size + 1 + 1, 0, none⟩) :: .int .i64 0 :: undef :: .agg #[.float .f32 ah, .float .f32 av] :: .bool true :: .bool false :: .bool false :: .agg #[.float .f32 bh, .float .f32 bv] :: .bool true :: .bool false :: .bool false :: undef :: .float .f32 x :: .bool true :: .bool false :: undef :: .pointer (some ⟨w.heap.size, 0, none⟩) :: .float .f32 ah :: .pointer (some ⟨w.heap.size + 1, 0, none⟩) :: .float .f32 bh :: .float .f32 x :: undef :: .pointer (some ⟨w.heap.size, 1, none⟩) :: .float .f32 av :: .pointer (some ⟨w.heap.size + 1, 1, none⟩) :: .float .f32 bv :: .float .f32 x :: undef :: undef :: undef :: undef :: undef :: undef :: undef :: []).toArray, defers := [] } #[true, true, true, true, true, false, true, true, true, true, true, false, false, false, false] (.float .f32 x) rfl (by rfl) (by kernel_rfl) (by kernel_rfl) (by kernel_rfl) (fun w => by rfl) (by rfl) (by rfl) (kd) ?_
  refine wpAnyH_ready (rs := [5, 13]) (by kernel_rfl) (by simp) ?_
  refine callK 5 { tmps := (.agg #[.float .f32 ah, .float .f32 av] :: .agg #[.float .f32 bh, .float .f32 bv] :: .float .f32 x :: .pointer (some ⟨w.heap.size, 0, none⟩) :: .pointer (some ⟨w.heap.size + 1, 0, none⟩) :: undef :: .pointer (some ⟨w.heap.size + 1 + 1, 0, none⟩) :: .int .i64 0 :: undef :: .agg #[.float .f32 ah, .float .f32 av] :: .bool true :: .bool false :: .bool false :: .agg #[.float .f32 bh, .float .f32 bv] :: .bool true :: .bool false :: .bool false :: undef :: .float .f32 x :: .bool true :: .bool false :: undef :: .pointer (some ⟨w.heap.size, 0, none⟩) :: .float .f32 ah :: .pointer (some ⟨w.heap.size + 1, 0, none⟩) :: .float .f32 bh :: .float .f32 x :: .float .f32 (mixW ah bh x) :: .pointer (some ⟨w.heap.size, 1, none⟩) :: .float .f32 av :: .pointer (some ⟨w.heap.size + 1, 1, none⟩) :: .float .f32 bv :: .float .f32 x :: undef :: undef :: undef :: undef :: undef :: undef :: undef :: []).toArray, defers := [] } #[true, true, true, true, true, true, true, true, true, true, true, false, false, false, false] (.float .f32 (mixW ah bh x)) kd rfl (by rfl) 146 #[.float .f32 ah, .float .f32 bh, .float .f32 x] (run_mixN3 _ _ _ rfl _ _ rfl _ _ rfl _ _ _ _ _ _) (by rfl) (by rfl) (loose (iMixN _ _ _ HM1.out _)) (fun w1 k1 => ?_) ?_
  · refine ⟨k1, ?_⟩
    refine wpAnyH_ready (rs := [11, 13]) (by kernel_rfl) (by simp) ?_
    refine callK 11 { tmps := (.agg #[.float .f32 ah, .float .f32 av] :: .agg #[.float .f32 bh, .float .f32 bv] :: .float .f32 x :: .pointer (some ⟨w.heap.size, 0, none⟩) :: .pointer (some ⟨w.heap.size + 1, 0, none⟩) :: undef :: .pointer (some ⟨w.heap.size + 1 + 1, 0, none⟩) :: .int .i64 0 :: undef :: .agg #[.float .f32 ah, .float .f32 av] :: .bool true :: .bool false :: .bool false :: .agg #[.float .f32 bh, .float .f32 bv] :: .bool true :: .bool false :: .bool false :: undef :: .float .f32 x :: .bool true :: .bool false :: undef :: .pointer (some ⟨w.heap.size, 0, none⟩) :: .float .f32 ah :: .pointer (some ⟨w.heap.size + 1, 0, none⟩) :: .float .f32 bh :: .float .f32 x :: .float .f32 (mixW ah bh x) :: .pointer (some ⟨w.heap.size, 1, none⟩) :: .float .f32 av :: .pointer (some ⟨w.heap.size + 1, 1, none⟩) :: .float .f32 bv :: .float .f32 x :: .float .f32 (mixW av bv x) :: undef :: undef :: undef :: undef :: undef :: undef :: []).toArray, defers := [] } #[true, true, true, true, true, true, true, true, true, true, true, true, false, false, false] (.float .f32 (mixW av bv x)) k1 rfl (by rfl) 146 #[.float .f32 av, .float .f32 bv, .float .f32 x] (run_mixN3 _ _ _ rfl _ _ rfl _ _ rfl _ _ _ _ _ _) (by rfl) (by rfl) (loose (iMixN _ _ _ HM2.out _)) (fun w2 k2 => ?_) ?_
    · refine ⟨k2, ?_⟩
      refine take_val 12 { tmps := (.agg #[.float .f32 ah, .float .f32 av] :: .agg #[.float .f32 bh, .float .f32 bv] :: .float .f32 x :: .pointer (some ⟨w.heap.size, 0, none⟩) :: .pointer (some ⟨w.heap.size + 1, 0, none⟩) :: undef :: .pointer (some ⟨w.heap.size + 1 + 1, 0, none⟩) :: .int .i64 0 :: undef :: .agg #[.float .f32 ah, .float .f32 av] :: .bool true :: .bool false :: .bool false :: .agg #[.float .f32 bh, .float .f32 bv] :: .bool true :: .bool false :: .bool false :: undef :: .float .f32 x :: .bool true :: .bool false :: undef :: .pointer (some ⟨w.heap.size, 0, none⟩) :: .float .f32 ah :: .pointer (some ⟨w.heap.size + 1, 0, none⟩) :: .float .f32 bh :: .float .f32 x :: .float .f32 (mixW ah bh x) :: .pointer (some ⟨w.heap.size, 1, none⟩) :: .float .f32 av :: .pointer (some ⟨w.heap.size + 1, 1, none⟩) :: .float .f32 bv :: .float .f32 x :: .float .f32 (mixW av bv x) :: .agg #[.float .f32 (mixW ah bh x), .float .f32 (mixW av bv x)] :: undef :: undef :: undef :: undef :: undef :: []).toArray, defers := [] } #[true, true, true, true, true, true, true, true, true, true, true, true, true, false, false] (.agg #[.float .f32 (mixW ah bh x), .float .f32 (mixW av bv x)]) rfl (by rfl) (by kernel_rfl) (by kernel_rfl) (by kernel_rfl) (fun w => by unfold execOp; go_simp) (by rfl) (by rfl) (k2) ?_
      refine wpAnyH_ready (rs := [13]) (by kernel_rfl) (by simp) ?_
      refine allocK 13 (fun g3 => { tmps := (.agg #[.float .f32 ah, .float .f32 av] :: .agg #[.float .f32 bh, .float .f32 bv] :: .float .f32 x :: .pointer (some ⟨w.heap.size, 0, none⟩) :: .pointer (some ⟨w.heap.size + 1, 0, none⟩) :: undef :: .pointer (some ⟨w.heap.size + 1 + 1, 0, none⟩) :: .int .i64 0 :: .pointer (some ⟨g3, 0, none⟩) :: .agg #[.float .f32 ah, .float .f32 av] :: .bool true :: .bool false :: .bool false :: .agg #[.float .f32 bh, .float .f32 bv] :: .bool true :: .bool false :: .bool false :: undef :: .float .f32 x :: .bool true :: .bool false :: undef :: .pointer (some ⟨w.heap.size, 0, none⟩) :: .float .f32 ah :: .pointer (some ⟨w.heap.size + 1, 0, none⟩) :: .float .f32 bh :: .float .f32 x :: .float .f32 (mixW ah bh x) :: .pointer (some ⟨w.heap.size, 1, none⟩) :: .float .f32 av :: .pointer (some ⟨w.heap.size + 1, 1, none⟩) :: .float .f32 bv :: .float .f32 x :: .float .f32 (mixW av bv x) :: .agg #[.float .f32 (mixW ah bh x), .float .f32 (mixW av bv x)] :: undef :: undef :: undef :: undef :: undef :: []).toArray, defers := [] }) #[true, true, true, true, true, true, true, true, true, true, true, true, true, true, false] k2 rfl (by rfl) (#[.float .f32 0, .float .f32 0]) 44 (alloc_air _ _ _ _ _ _ _) (fun g => by rfl) (by rfl) (fun w3 g3 k3 hB3 hn3 => ?_) AllReadyH.nil
      refine ⟨k3.tail, ?_⟩
      refine wpAnyH_ready (rs := [14]) (by kernel_rfl) (by simp) ?_
      refine storeK 14 { tmps := (.agg #[.float .f32 ah, .float .f32 av] :: .agg #[.float .f32 bh, .float .f32 bv] :: .float .f32 x :: .pointer (some ⟨w.heap.size, 0, none⟩) :: .pointer (some ⟨w.heap.size + 1, 0, none⟩) :: undef :: .pointer (some ⟨w.heap.size + 1 + 1, 0, none⟩) :: .int .i64 0 :: .pointer (some ⟨g3, 0, none⟩) :: .agg #[.float .f32 ah, .float .f32 av] :: .bool true :: .bool false :: .bool false :: .agg #[.float .f32 bh, .float .f32 bv] :: .bool true :: .bool false :: .bool false :: undef :: .float .f32 x :: .bool true :: .bool false :: undef :: .pointer (some ⟨w.heap.size, 0, none⟩) :: .float .f32 ah :: .pointer (some ⟨w.heap.size + 1, 0, none⟩) :: .float .f32 bh :: .float .f32 x :: .float .f32 (mixW ah bh x) :: .pointer (some ⟨w.heap.size, 1, none⟩) :: .float .f32 av :: .pointer (some ⟨w.heap.size + 1, 1, none⟩) :: .float .f32 bv :: .float .f32 x :: .float .f32 (mixW av bv x) :: .agg #[.float .f32 (mixW ah bh x), .float .f32 (mixW av bv x)] :: undef :: undef :: undef :: undef :: undef :: []).toArray, defers := [] } #[true, true, true, true, true, true, true, true, true, true, true, true, true, true, true] k3 hB3 hn3 rfl (by rfl) 44 _ _ rfl (#[.float .f32 (mixW ah bh x), .float .f32 (mixW av bv x)]) (by rfl) (by rfl) (info_air) (by simp) (by simp [Value.oneCell']) (by rfl) (by rfl) (fun w4 k4 => ?_) AllReadyH.nil
      refine ⟨k4.tail, ?_⟩
      exact wpAnyH_done (by kernel_rfl) (NoPanic.normal (key g3 _ (hid k4))) _
    refine allocK 13 (fun g5 => { tmps := (.agg #[.float .f32 ah, .float .f32 av] :: .agg #[.float .f32 bh, .float .f32 bv] :: .float .f32 x :: .pointer (some ⟨w.heap.size, 0, none⟩) :: .pointer (some ⟨w.heap.size + 1, 0, none⟩) :: undef :: .pointer (some ⟨w.heap.size + 1 + 1, 0, none⟩) :: .int .i64 0 :: .pointer (some ⟨g5, 0, none⟩) :: .agg #[.float .f32 ah, .float .f32 av] :: .bool true :: .bool false :: .bool false :: .agg #[.float .f32 bh, .float .f32 bv] :: .bool true :: .bool false :: .bool false :: undef :: .float .f32 x :: .bool true :: .bool false :: undef :: .pointer (some ⟨w.heap.size, 0, none⟩) :: .float .f32 ah :: .pointer (some ⟨w.heap.size + 1, 0, none⟩) :: .float .f32 bh :: .float .f32 x :: .float .f32 (mixW ah bh x) :: .pointer (some ⟨w.heap.size, 1, none⟩) :: .float .f32 av :: .pointer (some ⟨w.heap.size + 1, 1, none⟩) :: .float .f32 bv :: .float .f32 x :: undef :: undef :: undef :: undef :: undef :: undef :: undef :: []).toArray, defers := [] }) #[true, true, true, true, true, true, true, true, true, true, true, false, false, true, false] k1 rfl (by rfl) (#[.float .f32 0, .float .f32 0]) 44 (alloc_air _ _ _ _ _ _ _) (fun g => by rfl) (by rfl) (fun w5 g5 k5 hB5 hn5 => ?_) AllReadyH.nil
    refine ⟨k5.tail, ?_⟩
    refine wpAnyH_ready (rs := [11]) (by kernel_rfl) (by simp) ?_
    refine callK 11 { tmps := (.agg #[.float .f32 ah, .float .f32 av] :: .agg #[.float .f32 bh, .float .f32 bv] :: .float .f32 x :: .pointer (some ⟨w.heap.size, 0, none⟩) :: .pointer (some ⟨w.heap.size + 1, 0, none⟩) :: undef :: .pointer (some ⟨w.heap.size + 1 + 1, 0, none⟩) :: .int .i64 0 :: .pointer (some ⟨g5, 0, none⟩) :: .agg #[.float .f32 ah, .float .f32 av] :: .bool true :: .bool false :: .bool false :: .agg #[.float .f32 bh, .float .f32 bv] :: .bool true :: .bool false :: .bool false :: undef :: .float .f32 x :: .bool true :: .bool false :: undef :: .pointer (some ⟨w.heap.size, 0, none⟩) :: .float .f32 ah :: .pointer (some ⟨w.heap.size + 1, 0, none⟩) :: .float .f32 bh :: .float .f32 x :: .float .f32 (mixW ah bh x) :: .pointer (some ⟨w.heap.size, 1, none⟩) :: .float .f32 av :: .pointer (some ⟨w.heap.size + 1, 1, none⟩) :: .float .f32 bv :: .float .f32 x :: .float .f32 (mixW av bv x) :: undef :: undef :: undef :: undef :: undef :: undef :: []).toArray, defers := [] } #[true, true, true, true, true, true, true, true, true, true, true, true, false, true, false] (.float .f32 (mixW av bv x)) k5 rfl (by rfl) 146 #[.float .f32 av, .float .f32 bv, .float .f32 x] (run_mixN3 _ _ _ rfl _ _ rfl _ _ rfl _ _ _ _ _ _) (by rfl) (by rfl) (loose (iMixN _ _ _ HM2.out _)) (fun w6 k6 => ?_) AllReadyH.nil
    refine ⟨k6.tail, ?_⟩
    refine take_val 12 { tmps := (.agg #[.float .f32 ah, .float .f32 av] :: .agg #[.float .f32 bh, .float .f32 bv] :: .float .f32 x :: .pointer (some ⟨w.heap.size, 0, none⟩) :: .pointer (some ⟨w.heap.size + 1, 0, none⟩) :: undef :: .pointer (some ⟨w.heap.size + 1 + 1, 0, none⟩) :: .int .i64 0 :: .pointer (some ⟨g5, 0, none⟩) :: .agg #[.float .f32 ah, .float .f32 av] :: .bool true :: .bool false :: .bool false :: .agg #[.float .f32 bh, .float .f32 bv] :: .bool true :: .bool false :: .bool false :: undef :: .float .f32 x :: .bool true :: .bool false :: undef :: .pointer (some ⟨w.heap.size, 0, none⟩) :: .float .f32 ah :: .pointer (some ⟨w.heap.size + 1, 0, none⟩) :: .float .f32 bh :: .float .f32 x :: .float .f32 (mixW ah bh x) :: .pointer (some ⟨w.heap.size, 1, none⟩) :: .float .f32 av :: .pointer (some ⟨w.heap.size + 1, 1, none⟩) :: .float .f32 bv :: .float .f32 x :: .float .f32 (mixW av bv x) :: .agg #[.float .f32 (mixW ah bh x), .float .f32 (mixW av bv x)] :: undef :: undef :: undef :: undef :: undef :: []).toArray, defers := [] } #[true, true, true, true, true, true, true, true, true, true, true, true, true, true, false] (.agg #[.float .f32 (mixW ah bh x), .float .f32 (mixW av bv x)]) rfl (by rfl) (by kernel_rfl) (by kernel_rfl) (by kernel_rfl) (fun w => by unfold execOp; go_simp) (by rfl) (by rfl) (k6.tail) ?_
    refine wpAnyH_ready (rs := [14]) (by kernel_rfl) (by simp) ?_
    refine storeK 14 { tmps := (.agg #[.float .f32 ah, .float .f32 av] :: .agg #[.float .f32 bh, .float .f32 bv] :: .float .f32 x :: .pointer (some ⟨w.heap.size, 0, none⟩) :: .pointer (some ⟨w.heap.size + 1, 0, none⟩) :: undef :: .pointer (some ⟨w.heap.size + 1 + 1, 0, none⟩) :: .int .i64 0 :: .pointer (some ⟨g5, 0, none⟩) :: .agg #[.float .f32 ah, .float .f32 av] :: .bool true :: .bool false :: .bool false :: .agg #[.float .f32 bh, .float .f32 bv] :: .bool true :: .bool false :: .bool false :: undef :: .float .f32 x :: .bool true :: .bool false :: undef :: .pointer (some ⟨w.heap.size, 0, none⟩) :: .float .f32 ah :: .pointer (some ⟨w.heap.size + 1, 0, none⟩) :: .float .f32 bh :: .float .f32 x :: .float .f32 (mixW ah bh x) :: .pointer (some ⟨w.heap.size, 1, none⟩) :: .float .f32 av :: .pointer (some ⟨w.heap.size + 1, 1, none⟩) :: .float .f32 bv :: .float .f32 x :: .float .f32 (mixW av bv x) :: .agg #[.float .f32 (mixW ah bh x), .float .f32 (mixW av bv x)] :: undef :: undef :: undef :: undef :: undef :: []).toArray, defers := [] } #[true, true, true, true, true, true, true, true, true, true, true, true, true, true, true] k6 hB5 hn5 rfl (by rfl) 44 _ _ rfl (#[.float .f32 (mixW ah bh x), .float .f32 (mixW av bv x)]) (by rfl) (by rfl) (info_air) (by simp) (by simp [Value.oneCell']) (by rfl) (by rfl) (fun w7 k7 => ?_) AllReadyH.nil
    refine ⟨k7.tail, ?_⟩
    exact wpAnyH_done (by kernel_rfl) (NoPanic.normal (key g5 _ (hid k7))) _
  refine allocK 13 (fun g8 => { tmps := (.agg #[.float .f32 ah, .float .f32 av] :: .agg #[.float .f32 bh, .float .f32 bv] :: .float .f32 x :: .pointer (some ⟨w.heap.size, 0, none⟩) :: .pointer (some ⟨w.heap.size + 1, 0, none⟩) :: undef :: .pointer (some ⟨w.heap.size + 1 + 1, 0, none⟩) :: .int .i64 0 :: .pointer (some ⟨g8, 0, none⟩) :: .agg #[.float .f32 ah, .float .f32 av] :: .bool true :: .bool false :: .bool false :: .agg #[.float .f32 bh, .float .f32 bv] :: .bool true :: .bool false :: .bool false :: undef :: .float .f32 x :: .bool true :: .bool false :: undef :: .pointer (some ⟨w.heap.size, 0, none⟩) :: .float .f32 ah :: .pointer (some ⟨w.heap.size + 1, 0, none⟩) :: .float .f32 bh :: .float .f32 x :: undef :: .pointer (some ⟨w.heap.size, 1, none⟩) :: .float .f32 av :: .pointer (some ⟨w.heap.size + 1, 1, none⟩) :: .float .f32 bv :: .float .f32 x :: undef :: undef :: undef :: undef :: undef :: undef :: undef :: []).toArray, defers := [] }) #[true, true, true, true, true, false, true, true, true, true, true, false, false, true, false] kd rfl (by rfl) (#[.float .f32 0, .float .f32 0]) 44 (alloc_air _ _ _ _ _ _ _) (fun g => by rfl) (by rfl) (fun w8 g8 k8 hB8 hn8 => ?_) AllReadyH.nil
  refine ⟨k8.tail, ?_⟩
  refine wpAnyH_ready (rs := [5]) (by kernel_rfl) (by simp) ?_
  refine callK 5 { tmps := (.agg #[.float .f32 ah, .float .f32 av] :: .agg #[.float .f32 bh, .float .f32 bv] :: .float .f32 x :: .pointer (some ⟨w.heap.size, 0, none⟩) :: .pointer (some ⟨w.heap.size + 1, 0, none⟩) :: undef :: .pointer (some ⟨w.heap.size + 1 + 1, 0, none⟩) :: .int .i64 0 :: .pointer (some ⟨g8, 0, none⟩) :: .agg #[.float .f32 ah, .float .f32 av] :: .bool true :: .bool false :: .bool false :: .agg #[.float .f32 bh, .float .f32 bv] :: .bool true :: .bool false :: .bool false :: undef :: .float .f32 x :: .bool true :: .bool false :: undef :: .pointer (some ⟨w.heap.size, 0, none⟩) :: .float .f32 ah :: .pointer (some ⟨w.heap.size + 1, 0, none⟩) :: .float .f32 bh :: .float .f32 x :: .float .f32 (mixW ah bh x) :: .pointer (some ⟨w.heap.size, 1, none⟩) :: .float .f32 av :: .pointer (some ⟨w.heap.size + 1, 1, none⟩) :: .float .f32 bv :: .float .f32 x :: undef :: undef :: undef :: undef :: undef :: undef :: undef :: []).toArray, defers := [] } #[true, true, true, true, true, true, true, true, true, true, true, false, false, true, false] (.float .f32 (mixW ah bh x)) k8 rfl (by rfl) 146 #[.float .f32 ah, .float .f32 bh, .float .f32 x] (run_mixN3 _ _ _ rfl _ _ rfl _ _ rfl _ _ _ _ _ _) (by rfl) (by rfl) (loose (iMixN _ _ _ HM1.out _)) (fun w9 k9 => ?_) AllReadyH.nil
  refine ⟨k9.tail, ?_⟩
  refine wpAnyH_ready (rs := [11]) (by kernel_rfl) (by simp) ?_
  refine callK 11 { tmps := (.agg #[.float .f32 ah, .float .f32 av] :: .agg #[.float .f32 bh, .float .f32 bv] :: .float .f32 x :: .pointer (some ⟨w.heap.size, 0, none⟩) :: .pointer (some ⟨w.heap.size + 1, 0, none⟩) :: undef :: .pointer (some ⟨w.heap.size + 1 + 1, 0, none⟩) :: .int .i64 0 :: .pointer (some ⟨g8, 0, none⟩) :: .agg #[.float .f32 ah, .float .f32 av] :: .bool true :: .bool false :: .bool false :: .agg #[.float .f32 bh, .float .f32 bv] :: .bool true :: .bool false :: .bool false :: undef :: .float .f32 x :: .bool true :: .bool false :: undef :: .pointer (some ⟨w.heap.size, 0, none⟩) :: .float .f32 ah :: .pointer (some ⟨w.heap.size + 1, 0, none⟩) :: .float .f32 bh :: .float .f32 x :: .float .f32 (mixW ah bh x) :: .pointer (some ⟨w.heap.size, 1, none⟩) :: .float .f32 av :: .pointer (some ⟨w.heap.size + 1, 1, none⟩) :: .float .f32 bv :: .float .f32 x :: .float .f32 (mixW av bv x) :: undef :: undef :: undef :: undef :: undef :: undef :: []).toArray, defers := [] } #[true, true, true, true, true, true, true, true, true, true, true, true, false, true, false] (.float .f32 (mixW av bv x)) k9 rfl (by rfl) 146 #[.float .f32 av, .float .f32 bv, .float .f32 x] (run_mixN3 _ _ _ rfl _ _ rfl _ _ rfl _ _ _ _ _ _) (by rfl) (by rfl) (loose (iMixN _ _ _ HM2.out _)) (fun w10 k10 => ?_) AllReadyH.nil
  refine ⟨k10.tail, ?_⟩
  refine take_val 12 { tmps := (.agg #[.float .f32 ah, .float .f32 av] :: .agg #[.float .f32 bh, .float .f32 bv] :: .float .f32 x :: .pointer (some ⟨w.heap.size, 0, none⟩) :: .pointer (some ⟨w.heap.size + 1, 0, none⟩) :: undef :: .pointer (some ⟨w.heap.size + 1 + 1, 0, none⟩) :: .int .i64 0 :: .pointer (some ⟨g8, 0, none⟩) :: .agg #[.float .f32 ah, .float .f32 av] :: .bool true :: .bool false :: .bool false :: .agg #[.float .f32 bh, .float .f32 bv] :: .bool true :: .bool false :: .bool false :: undef :: .float .f32 x :: .bool true :: .bool false :: undef :: .pointer (some ⟨w.heap.size, 0, none⟩) :: .float .f32 ah :: .pointer (some ⟨w.heap.size + 1, 0, none⟩) :: .float .f32 bh :: .float .f32 x :: .float .f32 (mixW ah bh x) :: .pointer (some ⟨w.heap.size, 1, none⟩) :: .float .f32 av :: .pointer (some ⟨w.heap.size + 1, 1, none⟩) :: .float .f32 bv :: .float .f32 x :: .float .f32 (mixW av bv x) :: .agg #[.float .f32 (mixW ah bh x), .float .f32 (mixW av bv x)] :: undef :: undef :: undef :: undef :: undef :: []).toArray, defers := [] } #[true, true, true, true, true, true, true, true, true, true, true, true, true, true, false] (.agg #[.float .f32 (mixW ah bh x), .float .f32 (mixW av bv x)]) rfl (by rfl) (by kernel_rfl) (by kernel_rfl) (by kernel_rfl) (fun w => by unfold execOp; go_simp) (by rfl) (by rfl) (k10.tail) ?_
  refine wpAnyH_ready (rs := [14]) (by kernel_rfl) (by simp) ?_
  refine storeK 14 { tmps := (.agg #[.float .f32 ah, .float .f32 av] :: .agg #[.float .f32 bh, .float .f32 bv] :: .float .f32 x :: .pointer (some ⟨w.heap.size, 0, none⟩) :: .pointer (some ⟨w.heap.size + 1, 0, none⟩) :: undef :: .pointer (some ⟨w.heap.size + 1 + 1, 0, none⟩) :: .int .i64 0 :: .pointer (some ⟨g8, 0, none⟩) :: .agg #[.float .f32 ah, .float .f32 av] :: .bool true :: .bool false :: .bool false :: .agg #[.float .f32 bh, .float .f32 bv] :: .bool true :: .bool false :: .bool false :: undef :: .float .f32 x :: .bool true :: .bool false :: undef :: .pointer (some ⟨w.heap.size, 0, none⟩) :: .float .f32 ah :: .pointer (some ⟨w.heap.size + 1, 0, none⟩) :: .float .f32 bh :: .float .f32 x :: .float .f32 (mixW ah bh x) :: .pointer (some ⟨w.heap.size, 1, none⟩) :: .float .f32 av :: .pointer (some ⟨w.heap.size + 1, 1, none⟩) :: .float .f32 bv :: .float .f32 x :: .float .f32 (mixW av bv x) :: .agg #[.float .f32 (mixW ah bh x), .float .f32 (mixW av bv x)] :: undef :: undef :: undef :: undef :: undef :: []).toArray, defers := [] } #[true, true, true, true, true, true, true, true, true, true, true, true, true, true, true] k10 hB8 hn8 rfl (by rfl) 44 _ _ rfl (#[.float .f32 (mixW ah bh x), .float .f32 (mixW av bv x)]) (by rfl) (by rfl) (info_air) (by simp) (by simp [Value.oneCell']) (by rfl) (by rfl) (fun w11 k11 => ?_) AllReadyH.nil
  refine ⟨k11.tail, ?_⟩
  exact wpAnyH_done (by kernel_rfl) (NoPanic.normal (key g8 _ (hid k11))) _

set_option maxRecDepth 100000 in
set_option maxHeartbeats 2000000 in
theorem iMixAir_state (ah av bh bv x : Nat) (hv1 : av < 4294967296) (hq1 : airB ah av = true) (hv2 : bv < 4294967296) (hq2 : airB bh bv = true) (hx : Share x) (M1 : MixF ah bh x) (M2 : MixF av bv x) (hr : airB (mixW ah bh x) (mixW av bv x) = false) (w : World) :
    Calls Try.prog 88 #[.agg #[.float .f32 ah, .float .f32 av], .agg #[.float .f32 bh, .float .f32 bv], .float .f32 x] w fun e w' => e = .returned (.tuple #[.agg #[.float .f32 0, .float .f32 0], .int .i64 4]) ∧ Below w.heap.size w w' := by
  have k0 : Hid (Kept w [(w.heap.size, #[.float .f32 ah, .float .f32 av], 44), (w.heap.size + 1, #[.float .f32 bh, .float .f32 bv], 44), (w.heap.size + 1 + 1, #[.float .f32 0, .float .f32 0], 44)] (((w.alloc (.cells (#[.float .f32 ah, .float .f32 av]) 44)).alloc (.cells (#[.float .f32 bh, .float .f32 bv]) 44)).alloc (.cells (#[.float .f32 0, .float .f32 0]) 44))) := hid (((((Kept.nil w).push (#[.float .f32 ah, .float .f32 av]) 44).push (#[.float .f32 bh, .float .f32 bv]) 44).push (#[.float .f32 0, .float .f32 0]) 44).sub (by simp))
  have Hhv1 := hid hv1
  have Hhq1 := hid hq1
  have Hhv2 := hid hv2
  have Hhq2 := hid hq2
  have Hhx := hid hx
  have HM1 := hid M1
  have HM2 := hid M2
  have Hhr := hid hr
  clear hv1 hq1 hv2 hq2 hx M1 M2 hr
  go_enter Try.func88, Try.ntmps88
  go_wp2_with (first | (refine wpList_load_row rfl 44 _ rfl (w.heap.size) rfl 44 (#[.float .f32 ah, .float .f32 av]) (0, 0) _ (k0.out.at (x := (w.heap.size, #[.float .f32 ah, .float .f32 av], 44)) (by simp)) Try.underlying44 rfl (info_air) ?_))
  refine (iValidAir ah av Hhv1.out true Hhq1.out _).mono ?_
  rintro e w0 ⟨rfl, hb0⟩
  have k1 := hid (k0.out.stay hb0)
  clear hb0
  go_wp2_with (first | (refine wpList_load_g rfl 44 _ rfl (w.heap.size + 1) rfl 44 (#[.float .f32 bh, .float .f32 bv]) (0, 0) _ (k1.out.at (x := (w.heap.size + 1, #[.float .f32 bh, .float .f32 bv], 44)) (by simp)) Try.underlying44 rfl (info_air) ?_))
  refine (iValidAir bh bv Hhv2.out true Hhq2.out _).mono ?_
  rintro e w1 ⟨rfl, hb1⟩
  have k2 := hid (k1.out.stay hb1)
  clear hb1
  go_wp2_with fail
  refine (iShare_t x Hhx.out _).mono ?_
  rintro e w2 ⟨rfl, rfl⟩
  go_wp2_with fail
  rename_i Q1 K1 hK1
  have key : ∀ (a0 : Nat) (w1 : World), Hid (Kept w [(a0, #[.float .f32 (mixW ah bh x), .float .f32 (mixW av bv x)], 44), (w.heap.size, #[.float .f32 ah, .float .f32 av], 44), (w.heap.size + 1, #[.float .f32 bh, .float .f32 bv], 44), (w.heap.size + 1 + 1, #[.float .f32 0, .float .f32 0], 44)] w1) → K1 { tmps := (.agg #[.float .f32 ah, .float .f32 av] :: .agg #[.float .f32 bh, .float .f32 bv] :: .float .f32 x :: .pointer (some ⟨w.heap.size, 0, none⟩) :: .pointer (some ⟨w.heap.size + 1, 0, none⟩) :: undef :: .pointer (some ⟨w.heap.size + 1 + 1, 0, none⟩) :: .int .i64 0 :: .pointer (some ⟨a0, 0, none⟩) :: .agg #[.float .f32 ah, .float .f32 av] :: .bool true :: .bool false :: .bool false :: .agg #[.float .f32 bh, .float .f32 bv] :: .bool true :: .bool false :: .bool false :: undef :: .float .f32 x :: .bool true :: .bool false :: undef :: .pointer (some ⟨w.heap.size, 0, none⟩) :: .float .f32 ah :: .pointer (some ⟨w.heap.size + 1, 0, none⟩) :: .float .f32 bh :: .float .f32 x :: .float .f32 (mixW ah bh x) :: .pointer (some ⟨w.heap.size, 1, none⟩) :: .float .f32 av :: .pointer (some ⟨w.heap.size + 1, 1, none⟩) :: .float .f32 bv :: .float .f32 x :: .float .f32 (mixW av bv x) :: .agg #[.float .f32 (mixW ah bh x), .float .f32 (mixW av bv x)] :: undef :: undef :: undef :: undef :: undef :: []).toArray, defers := [] } w1 := by
    intro a0 w1 k1
    clear k2
    go_wp2_with (first | (refine wpList_load_row rfl 44 _ rfl (a0) rfl 44 (#[.float .f32 (mixW ah bh x), .float .f32 (mixW av bv x)]) (0, 0) _ (k1.out.at (x := (a0, #[.float .f32 (mixW ah bh x), .float .f32 (mixW av bv x)], 44)) (by simp)) Try.underlying44 rfl (info_air) ?_))
    refine (iValidAir _ _ HM2.out.lt false Hhr.out _).mono ?_
    rintro e w50 ⟨rfl, hb50⟩
    have k51 := hid (k1.out.stay hb50)
    clear hb50
    go_wp2_with (first | (refine wpList_store_row rfl 44 _ _ rfl (w.heap.size + 1 + 1) (#[.float .f32 0, .float .f32 0]) rfl rfl 44 _ (k51.out.at (x := (w.heap.size + 1 + 1, #[.float .f32 0, .float .f32 0], 44)) (by simp)) (info_air) (by simp) (by simp [Value.oneCell']) ?_))
    exact bodyPost_ret (results_row_tmp rfl _ _ (w.heap.size + 1 + 1) 44 (#[.float .f32 0, .float .f32 0]) (0, 0) _ rfl (setRow_heap _ _ _ _ _ _ (k51.out.at (x := (w.heap.size + 1 + 1, #[.float .f32 0, .float .f32 0], 44)) (by simp))) Try.underlying44 rfl info_air) rfl ⟨rfl, below_row k51.out.1 (by omega) _⟩
  refine region_kept (w0 := w) (l := [(w.heap.size, #[.float .f32 ah, .float .f32 av], 44), (w.heap.size + 1, #[.float .f32 bh, .float .f32 bv], 44), (w.heap.size + 1 + 1, #[.float .f32 0, .float .f32 0], 44)]) 15 #[false, false, false, false, false, false, false, false, false, false, false, false, false, false, false] (by kernel_rfl) rfl rfl ?_
  have kd := k2.out.drew
  clear k2
  generalize World.drew _ = wd at kd ⊢
  refine take_val 0 { tmps := (.agg #[.float .f32 ah, .float .f32 av] :: .agg #[.float .f32 bh, .float .f32 bv] :: .float .f32 x :: .pointer (some ⟨w.heap.size, 0, none⟩) :: .pointer (some ⟨w.heap.size + 1, 0, none⟩) :: undef :: .pointer (some ⟨w.heap.size + 1 + 1, 0, none⟩) :: .int .i64 0 :: undef :: .agg #[.float .f32 ah, .float .f32 av] :: .bool true :: .bool false :: .bool false :: .agg #[.float .f32 bh, .float .f32 bv] :: .bool true :: .bool false :: .bool false :: undef :: .float .f32 x :: .bool true :: .bool false :: undef :: .pointer (some ⟨w.heap.size, 0, none⟩) :: undef :: undef :: undef :: undef :: undef :: undef :: undef :: undef :: undef :: undef :: undef :: undef :: undef :: undef :: undef :: undef :: undef :: []).toArray, defers := [] } #[true, false, false, false, false, false, false, false, false, false, false, false, false, false, false] (.pointer (some ⟨w.heap.size, 0, none⟩)) rfl (by rfl) (by kernel_rfl) (by kernel_rfl) (by kernel_rfl) (fun w => by unfold execOp; go_simp) (by rfl) (by rfl) (kd) ?_
  refine take_cell 1 { tmps := (.agg #[.float .f32 ah, .float .f32 av] :: .agg #[.float .f32 bh, .float .f32 bv] :: .float .f32 x :: .pointer (some ⟨w.heap.size, 0, none⟩) :: .pointer (some ⟨w.heap.size + 1, 0, none⟩) :: undef :: .pointer (some ⟨w.heap.size + 1 + 1, 0, none⟩) :: .int .i64 0 :: undef :: .agg #[.float .f32 ah, .float .f32 av] :: .bool true :: .bool false :: .bool false :: .agg #[.float .f32 bh, .float .f32 bv] :: .bool true :: .bool false :: .bool false :: undef :: .float .f32 x :: .bool true :: .bool false :: undef :: .pointer (some ⟨w.heap.size, 0, none⟩) :: .float .f32 ah :: undef :: undef :: undef :: undef :: undef :: undef :: undef :: undef :: undef :: undef :: undef :: undef :: undef :: undef :: undef :: undef :: []).toArray, defers := [] } #[true, true, false, false, false, false, false, false, false, false, false, false, false, false, false] (.float .f32 ah) rfl (by rfl) (by kernel_rfl) (by kernel_rfl) (by kernel_rfl) (fun wq hS => by have hcell : wq.cell? ⟨w.heap.size, 0, none⟩ = some (.float .f32 ah) := (cell_of_row wq (w.heap.size) 0 _ _ _ (hS.at (x := (w.heap.size, #[.float .f32 ah, .float .f32 av], 44)) (by simp))).trans rfl; clear hS; unfold execOp; go_simp) (by rfl) (by rfl) (kd) ?_
  refine take_val 2 { tmps := (.agg #[.float .f32 ah, .float .f32 av] :: .agg #[.float .f32 bh, .float .f32 bv] :: .float .f32 x :: .pointer (some ⟨w.heap.size, 0, none⟩) :: .pointer (some ⟨w.heap.size + 1, 0, none⟩) :: undef :: .pointer (some ⟨w.heap.size + 1 + 1, 0, none⟩) :: .int .i64 0 :: undef :: .agg #[.float .f32 ah, .float .f32 av] :: .bool true :: .bool false :: .bool false :: .agg #[.float .f32 bh, .float .f32 bv] :: .bool true :: .bool false :: .bool false :: undef :: .float .f32 x :: .bool true :: .bool false :: undef :: .pointer (some ⟨w.heap.size, 0, none⟩) :: .float .f32 ah :: .pointer (some ⟨w.heap.size + 1, 0, none⟩) :: undef :: undef :: undef :: undef :: undef :: undef :: undef :: undef :: undef :: undef :: undef :: undef :: undef :: undef :: undef :: []).toArray, defers := [] } #[true, true, true, false, false, false, false, false, false, false, false, false, false, false, false] (.pointer (some ⟨w.heap.size + 1, 0, none⟩)) rfl (by rfl) (by kernel_rfl) (by kernel_rfl) (by kernel_rfl) (fun w => by unfold execOp; go_simp) (by rfl) (by rfl) (kd) ?_
  refine take_cell 3 { tmps := (.agg #[.float .f32 ah, .float .f32 av] :: .agg #[.float .f32 bh, .float .f32 bv] :: .float .f32 x :: .pointer (some ⟨w.heap.size, 0, none⟩) :: .pointer (some ⟨w.heap.size + 1, 0, none⟩) :: undef :: .pointer (some ⟨w.heap.size + 1 + 1, 0, none⟩) :: .int .i64 0 :: undef :: .agg #[.float .f32 ah, .float .f32 av] :: .bool true :: .bool false :: .bool false :: .agg #[.float .f32 bh, .float .f32 bv] :: .bool true :: .bool false :: .bool false :: undef :: .float .f32 x :: .bool true :: .bool false :: undef :: .pointer (some ⟨w.heap.size, 0, none⟩) :: .float .f32 ah :: .pointer (some ⟨w.heap.size + 1, 0, none⟩) :: .float .f32 bh :: undef :: undef :: undef :: undef :: undef :: undef :: undef :: undef :: undef :: undef :: undef :: undef :: undef :: undef :: []).toArray, defers := [] } #[true, true, true, true, false, false, false, false, false, false, false, false, false, false, false] (.float .f32 bh) rfl (by rfl) (by kernel_rfl) (by kernel_rfl) (by kernel_rfl) (fun wq hS => by have hcell : wq.cell? ⟨w.heap.size + 1, 0, none⟩ = some (.float .f32 bh) := (cell_of_row wq (w.heap.size + 1) 0 _ _ _ (hS.at (x := (w.heap.size + 1, #[.float .f32 bh, .float .f32 bv], 44)) (by simp))).trans rfl; clear hS; unfold execOp; go_simp) (by rfl) (by rfl) (kd) ?_
  refine take_val 4 { tmps := (.agg #[.float .f32 ah, .float .f32 av] :: .agg #[.float .f32 bh, .float .f32 bv] :: .float .f32 x :: .pointer (some ⟨w.heap.size, 0, none⟩) :: .pointer (some ⟨w.heap.size + 1, 0, none⟩) :: undef :: .pointer (some ⟨w.heap.size + 1 + 1, 0, none⟩) :: .int .i64 0 :: undef :: .agg #[.float .f32 ah, .float .f32 av] :: .bool true :: .bool false :: .bool false :: .agg #[.float .f32 bh, .float .f32 bv] :: .bool true :: .bool false :: .bool false :: undef :: .float .f32 x :: .bool true :: .bool false :: undef :: .pointer (some ⟨w.heap.size, 0, none⟩) :: .float .f32 ah :: .pointer (some ⟨w.heap.size + 1, 0, none⟩) :: .float .f32 bh :: .float .f32 x :: undef :: undef :: undef :: undef :: undef :: undef :: undef :: undef :: undef :: undef :: undef :: undef :: undef :: []).toArray, defers := [] } #[true, true, true, true, true, false, false, false, false, false, false, false, false, false, false] (.float .f32 x) rfl (by rfl) (by kernel_rfl) (by kernel_rfl) (by kernel_rfl) (fun w => by rfl) (by rfl) (by rfl) (kd) ?_
  refine take_val 6 { tmps := (.agg #[.float .f32 ah, .float .f32 av] :: .agg #[.float .f32 bh, .float .f32 bv] :: .float .f32 x :: .pointer (some ⟨w.heap.size, 0, none⟩) :: .pointer (some ⟨w.heap.size + 1, 0, none⟩) :: undef :: .pointer (some ⟨w.heap.size + 1 + 1, 0, none⟩) :: .int .i64 0 :: undef :: .agg #[.float .f32 ah, .float .f32 av] :: .bool true :: .bool false :: .bool false :: .agg #[.float .f32 bh, .float .f32 bv] :: .bool true :: .bool false :: .bool false :: undef :: .float .f32 x :: .bool true :: .bool false :: undef :: .pointer (some ⟨w.heap.size, 0, none⟩) :: .float .f32 ah :: .pointer (some ⟨w.heap.size + 1, 0, none⟩) :: .float .f32 bh :: .float .f32 x :: undef :: .pointer (some ⟨w.heap.size, 1, none⟩) :: undef :: undef :: undef :: undef :: undef :: undef :: undef :: undef :: undef :: undef :: undef :: []).toArray, defers := [] } #[true, true, true, true, true, false, true, false, false, false, false, false, false, false, false] (.pointer (some ⟨w.heap.size, 1, none⟩)) rfl (by rfl) (by kernel_rfl) (by kernel_rfl) (by kernel_rfl) (fun w => by unfold execOp; go_simp) (by rfl) (by rfl) (kd) ?_
  refine take_cell 7 { tmps := (.agg #[.float .f32 ah, .float .f32 av] :: .agg #[.float .f32 bh, .float .f32 bv] :: .float .f32 x :: .pointer (some ⟨w.heap.size, 0, none⟩) :: .pointer (some ⟨w.heap.size + 1, 0, none⟩) :: undef :: .pointer (some ⟨w.heap.size + 1 + 1, 0, none⟩) :: .int .i64 0 :: undef :: .agg #[.float .f32 ah, .float .f32 av] :: .bool true :: .bool false :: .bool false :: .agg #[.float .f32 bh, .float .f32 bv] :: .bool true :: .bool false :: .bool false :: undef :: .float .f32 x :: .bool true :: .bool false :: undef :: .pointer (some ⟨w.heap.size, 0, none⟩) :: .float .f32 ah :: .pointer (some ⟨w.heap.size + 1, 0, none⟩) :: .float .f32 bh :: .float .f32 x :: undef :: .pointer (some ⟨w.heap.size, 1, none⟩) :: .float .f32 av :: undef :: undef :: undef :: undef :: undef :: undef :: undef :: undef :: undef :: undef :: []).toArray, defers := [] } #[true, true, true, true, true, false, true, true, false, false, false, false, false, false, false] (.float .f32 av) rfl (by rfl) (by kernel_rfl) (by kernel_rfl) (by kernel_rfl) (fun wq hS => by have hcell : wq.cell? ⟨w.heap.size, 1, none⟩ = some (.float .f32 av) := (cell_of_row wq (w.heap.size) 1 _ _ _ (hS.at (x := (w.heap.size, #[.float .f32 ah, .float .f32 av], 44)) (by simp))).trans rfl; clear hS; unfold execOp; go_simp) (by rfl) (by rfl) (kd) ?_
  refine take_val 8 { tmps := (.agg #[.float .f32 ah, .float .f32 av] :: .agg #[.float .f32 bh, .float .f32 bv] :: .float .f32 x :: .pointer (some ⟨w.heap.size, 0, none⟩) :: .pointer (some ⟨w.heap.size + 1, 0, none⟩) :: undef :: .pointer (some ⟨w.heap.size + 1 + 1, 0, none⟩) :: .int .i64 0 :: undef :: .agg #[.float .f32 ah, .float .f32 av] :: .bool true :: .bool false :: .bool false :: .agg #[.float .f32 bh, .float .f32 bv] :: .bool true :: .bool false :: .bool false :: undef :: .float .f32 x :: .bool true :: .bool false :: undef :: .pointer (some ⟨w.heap.size, 0, none⟩) :: .float .f32 ah :: .pointer (some ⟨w.heap.size + 1, 0, none⟩) :: .float .f32 bh :: .float .f32 x :: undef :: .pointer (some ⟨w.heap.size, 1, none⟩) :: .float .f32 av :: .pointer (some ⟨w.heap.size + 1, 1, none⟩) :: undef :: undef :: undef :: undef :: undef :: undef :: undef :: undef :: undef :: []).toArray, defers := [] } #[true, true, true, true, true, false, true, true, true, false, false, false, false, false, false] (.pointer (some ⟨w.heap.size + 1, 1, none⟩)) rfl (by rfl) (by kernel_rfl) (by kernel_rfl) (by kernel_rfl) (fun w => by unfold execOp; go_simp) (by rfl) (by rfl) (kd) ?_
  refine take_cell 9 { tmps := (.agg #[.float .f32 ah, .float .f32 av] :: .agg #[.float .f32 bh, .float .f32 bv] :: .float .f32 x :: .pointer (some ⟨w.heap.size, 0, none⟩) :: .pointer (some ⟨w.heap.size + 1, 0, none⟩) :: undef :: .pointer (some ⟨w.heap.size + 1 + 1, 0, none⟩) :: .int .i64 0 :: undef :: .agg #[.float .f32 ah, .float .f32 av] :: .bool true :: .bool false :: .bool false :: .agg #[.float .f32 bh, .float .f32 bv] :: .bool true :: .bool false :: .bool false :: undef :: .float .f32 x :: .bool true :: .bool false :: undef :: .pointer (some ⟨w.heap.size, 0, none⟩) :: .float .f32 ah :: .pointer (some ⟨w.heap.size + 1, 0, none⟩) :: .float .f32 bh :: .float .f32 x :: undef :: .pointer (some ⟨w.heap.size, 1, none⟩) :: .float .f32 av :: .pointer (some ⟨w.heap.size + 1, 1, none⟩) :: .float .f32 bv :: undef :: undef :: undef :: undef :: undef :: undef :: undef :: undef :: []).toArray, defers := [] } #[true, true, true, true, true, false, true, true, true, true, false, false, false, false, false] (.float .f32 bv) rfl (by rfl) (by kernel_rfl) (by kernel_rfl) (by kernel_rfl) (fun wq hS => by have hcell : wq.cell? ⟨w.heap.size + 1, 1, none⟩ = some (.float .f32 bv) := (cell_of_row wq (w.heap.size + 1) 1 _ _ _ (hS.at (x := (w.heap.size + 1, #[.float .f32 bh, .float .f32 bv], 44)) (by simp))).trans rfl; clear hS; unfold execOp; go_simp) (by rfl) (by rfl) (kd) ?_
  refine take_val 10 { tmps := (.agg #[.float .f32 ah, .float .f32 av] :: .agg #[.float .f32 bh, .float .f32 bv] :: .float .f32 x :: .pointer (some ⟨w.heap.size, 0, none⟩) :: .pointer (some ⟨w.heap.size + 1, 0, none⟩) :: undef :: .pointer (some ⟨w.heap.size + 1 + 1, 0, none⟩) :: .int .i64 0 :: undef :: .agg #[.float .f32 ah, .float .f32 av] :: .bool true :: .bool false :: .bool false :: .agg #[.float .f32 bh, .float .f32 bv] :: .bool true :: .bool false :: .bool false :: undef :: .float .f32 x :: .bool true :: .bool false :: undef :: .pointer (some ⟨w.heap.size, 0, none⟩) :: .float .f32 ah :: .pointer (some ⟨w.heap.size + 1, 0, none⟩) :: .float .f32 bh :: .float .f32 x :: undef :: .pointer (some ⟨w.heap.size, 1, none⟩) :: .float .f32 av :: .pointer (some ⟨w.heap.size + 1, 1, none⟩) :: .float .f32 bv :: .float .f32 x :: undef :: undef :: undef :: undef :: undef :: undef :: undef :: []).toArray, defers := [] } #[true, true, true, true, true, false, true, true, true, true, true, false, false, false, false] (.float .f32 x) rfl (by rfl) (by kernel_rfl) (by kernel_rfl) (by kernel_rfl) (fun w => by rfl) (by rfl) (by rfl) (kd) ?_
  refine wpAnyH_ready (rs := [5, 13]) (by kernel_rfl) (by simp) ?_
  refine callK 5 { tmps := (.agg #[.float .f32 ah, .float .f32 av] :: .agg #[.float .f32 bh, .float .f32 bv] :: .float .f32 x :: .pointer (some ⟨w.heap.size, 0, none⟩) :: .pointer (some ⟨w.heap.size + 1, 0, none⟩) :: undef :: .pointer (some ⟨w.heap.size + 1 + 1, 0, none⟩) :: .int .i64 0 :: undef :: .agg #[.float .f32 ah, .float .f32 av] :: .bool true :: .bool false :: .bool false :: .agg #[.float .f32 bh, .float .f32 bv] :: .bool true :: .bool false :: .bool false :: undef :: .float .f32 x :: .bool true :: .bool false :: undef :: .pointer (some ⟨w.heap.size, 0, none⟩) :: .float .f32 ah :: .pointer (some ⟨w.heap.size + 1, 0, none⟩) :: .float .f32 bh :: .float .f32 x :: .float .f32 (mixW ah bh x) :: .pointer (some ⟨w.heap.size, 1, none⟩) :: .float .f32 av :: .pointer (some ⟨w.heap.size + 1, 1, none⟩) :: .float .f32 bv :: .float .f32 x :: undef :: undef :: undef :: undef :: undef :: undef :: undef :: []).toArray, defers := [] } #[true, true, true, true, true, true, true, true, true, true, true, false, false, false, false] (.float .f32 (mixW ah bh x)) kd rfl (by rfl) 146 #[.float .f32 ah, .float .f32 bh, .float .f32 x] (run_mixN3 _ _ _ rfl _ _ rfl _ _ rfl _ _ _ _ _ _) (by rfl) (by rfl) (loose (iMixN _ _ _ HM1.out _)) (fun w1 k1 => ?_) ?_
  · refine ⟨k1, ?_⟩
    refine wpAnyH_ready (rs := [11, 13]) (by kernel_rfl) (by simp) ?_
    refine callK 11 { tmps := (.agg #[.float .f32 ah, .float .f32 av] :: .agg #[.float .f32 bh, .float .f32 bv] :: .float .f32 x :: .pointer (some ⟨w.heap.size, 0, none⟩) :: .pointer (some ⟨w.heap.size + 1, 0, none⟩) :: undef :: .pointer (some ⟨w.heap.size + 1 + 1, 0, none⟩) :: .int .i64 0 :: undef :: .agg #[.float .f32 ah, .float .f32 av] :: .bool true :: .bool false :: .bool false :: .agg #[.float .f32 bh, .float .f32 bv] :: .bool true :: .bool false :: .bool false :: undef :: .float .f32 x :: .bool true :: .bool false :: undef :: .pointer (some ⟨w.heap.size, 0, none⟩) :: .float .f32 ah :: .pointer (some ⟨w.heap.size + 1, 0, none⟩) :: .float .f32 bh :: .float .f32 x :: .float .f32 (mixW ah bh x) :: .pointer (some ⟨w.heap.size, 1, none⟩) :: .float .f32 av :: .pointer (some ⟨w.heap.size + 1, 1, none⟩) :: .float .f32 bv :: .float .f32 x :: .float .f32 (mixW av bv x) :: undef :: undef :: undef :: undef :: undef :: undef :: []).toArray, defers := [] } #[true, true, true, true, true, true, true, true, true, true, true, true, false, false, false] (.float .f32 (mixW av bv x)) k1 rfl (by rfl) 146 #[.float .f32 av, .float .f32 bv, .float .f32 x] (run_mixN3 _ _ _ rfl _ _ rfl _ _ rfl _ _ _ _ _ _) (by rfl) (by rfl) (loose (iMixN _ _ _ HM2.out _)) (fun w2 k2 => ?_) ?_
    · refine ⟨k2, ?_⟩
      refine take_val 12 { tmps := (.agg #[.float .f32 ah, .float .f32 av] :: .agg #[.float .f32 bh, .float .f32 bv] :: .float .f32 x :: .pointer (some ⟨w.heap.size, 0, none⟩) :: .pointer (some ⟨w.heap.size + 1, 0, none⟩) :: undef :: .pointer (some ⟨w.heap.size + 1 + 1, 0, none⟩) :: .int .i64 0 :: undef :: .agg #[.float .f32 ah, .float .f32 av] :: .bool true :: .bool false :: .bool false :: .agg #[.float .f32 bh, .float .f32 bv] :: .bool true :: .bool false :: .bool false :: undef :: .float .f32 x :: .bool true :: .bool false :: undef :: .pointer (some ⟨w.heap.size, 0, none⟩) :: .float .f32 ah :: .pointer (some ⟨w.heap.size + 1, 0, none⟩) :: .float .f32 bh :: .float .f32 x :: .float .f32 (mixW ah bh x) :: .pointer (some ⟨w.heap.size, 1, none⟩) :: .float .f32 av :: .pointer (some ⟨w.heap.size + 1, 1, none⟩) :: .float .f32 bv :: .float .f32 x :: .float .f32 (mixW av bv x) :: .agg #[.float .f32 (mixW ah bh x), .float .f32 (mixW av bv x)] :: undef :: undef :: undef :: undef :: undef :: []).toArray, defers := [] } #[true, true, true, true, true, true, true, true, true, true, true, true, true, false, false] (.agg #[.float .f32 (mixW ah bh x), .float .f32 (mixW av bv x)]) rfl (by rfl) (by kernel_rfl) (by kernel_rfl) (by kernel_rfl) (fun w => by unfold execOp; go_simp) (by rfl) (by rfl) (k2) ?_
      refine wpAnyH_ready (rs := [13]) (by kernel_rfl) (by simp) ?_
      refine allocK 13 (fun g3 => { tmps := (.agg #[.float .f32 ah, .float .f32 av] :: .agg #[.float .f32 bh, .float .f32 bv] :: .float .f32 x :: .pointer (some ⟨w.heap.size, 0, none⟩) :: .pointer (some ⟨w.heap.size + 1, 0, none⟩) :: undef :: .pointer (some ⟨w.heap.size + 1 + 1, 0, none⟩) :: .int .i64 0 :: .pointer (some ⟨g3, 0, none⟩) :: .agg #[.float .f32 ah, .float .f32 av] :: .bool true :: .bool false :: .bool false :: .agg #[.float .f32 bh, .float .f32 bv] :: .bool true :: .bool false :: .bool false :: undef :: .float .f32 x :: .bool true :: .bool false :: undef :: .pointer (some ⟨w.heap.size, 0, none⟩) :: .float .f32 ah :: .pointer (some ⟨w.heap.size + 1, 0, none⟩) :: .float .f32 bh :: .float .f32 x :: .float .f32 (mixW ah bh x) :: .pointer (some ⟨w.heap.size, 1, none⟩) :: .float .f32 av :: .pointer (some ⟨w.heap.size + 1, 1, none⟩) :: .float .f32 bv :: .float .f32 x :: .float .f32 (mixW av bv x) :: .agg #[.float .f32 (mixW ah bh x), .float .f32 (mixW av bv x)] :: undef :: undef :: undef :: undef :: undef :: []).toArray, defers := [] }) #[true, true, true, true, true, true, true, true, true, true, true, true, true, true, false] k2 rfl (by rfl) (#[.float .f32 0, .float .f32 0]) 44 (alloc_air _ _ _ _ _ _ _) (fun g => by rfl) (by rfl) (fun w3 g3 k3 hB3 hn3 => ?_) AllReadyH.nil
      refine ⟨k3.tail, ?_⟩
      refine wpAnyH_ready (rs := [14]) (by kernel_rfl) (by simp) ?_
      refine storeK 14 { tmps := (.agg #[.float .f32 ah, .float .f32 av] :: .agg #[.float .f32 bh, .float .f32 bv] :: .float .f32 x :: .pointer (some ⟨w.heap.size, 0, none⟩) :: .pointer (some ⟨w.heap.size + 1, 0, none⟩) :: undef :: .pointer (some ⟨w.heap.size + 1 + 1, 0, none⟩) :: .int .i64 0 :: .pointer (some ⟨g3, 0, none⟩) :: .agg #[.float .f32 ah, .float .f32 av] :: .bool true :: .bool false :: .bool false :: .agg #[.float .f32 bh, .float .f32 bv] :: .bool true :: .bool false :: .bool false :: undef :: .float .f32 x :: .bool true :: .bool false :: undef :: .pointer (some ⟨w.heap.size, 0, none⟩) :: .float .f32 ah :: .pointer (some ⟨w.heap.size + 1, 0, none⟩) :: .float .f32 bh :: .float .f32 x :: .float .f32 (mixW ah bh x) :: .pointer (some ⟨w.heap.size, 1, none⟩) :: .float .f32 av :: .pointer (some ⟨w.heap.size + 1, 1, none⟩) :: .float .f32 bv :: .float .f32 x :: .float .f32 (mixW av bv x) :: .agg #[.float .f32 (mixW ah bh x), .float .f32 (mixW av bv x)] :: undef :: undef :: undef :: undef :: undef :: []).toArray, defers := [] } #[true, true, true, true, true, true, true, true, true, true, true, true, true, true, true] k3 hB3 hn3 rfl (by rfl) 44 _ _ rfl (#[.float .f32 (mixW ah bh x), .float .f32 (mixW av bv x)]) (by rfl) (by rfl) (info_air) (by simp) (by simp [Value.oneCell']) (by rfl) (by rfl) (fun w4 k4 => ?_) AllReadyH.nil
      refine ⟨k4.tail, ?_⟩
      exact wpAnyH_done (by kernel_rfl) (NoPanic.normal (key g3 _ (hid k4))) _
    refine allocK 13 (fun g5 => { tmps := (.agg #[.float .f32 ah, .float .f32 av] :: .agg #[.float .f32 bh, .float .f32 bv] :: .float .f32 x :: .pointer (some ⟨w.heap.size, 0, none⟩) :: .pointer (some ⟨w.heap.size + 1, 0, none⟩) :: undef :: .pointer (some ⟨w.heap.size + 1 + 1, 0, none⟩) :: .int .i64 0 :: .pointer (some ⟨g5, 0, none⟩) :: .agg #[.float .f32 ah, .float .f32 av] :: .bool true :: .bool false :: .bool false :: .agg #[.float .f32 bh, .float .f32 bv] :: .bool true :: .bool false :: .bool false :: undef :: .float .f32 x :: .bool true :: .bool false :: undef :: .pointer (some ⟨w.heap.size, 0, none⟩) :: .float .f32 ah :: .pointer (some ⟨w.heap.size + 1, 0, none⟩) :: .float .f32 bh :: .float .f32 x :: .float .f32 (mixW ah bh x) :: .pointer (some ⟨w.heap.size, 1, none⟩) :: .float .f32 av :: .pointer (some ⟨w.heap.size + 1, 1, none⟩) :: .float .f32 bv :: .float .f32 x :: undef :: undef :: undef :: undef :: undef :: undef :: undef :: []).toArray, defers := [] }) #[true, true, true, true, true, true, true, true, true, true, true, false, false, true, false] k1 rfl (by rfl) (#[.float .f32 0, .float .f32 0]) 44 (alloc_air _ _ _ _ _ _ _) (fun g => by rfl) (by rfl) (fun w5 g5 k5 hB5 hn5 => ?_) AllReadyH.nil
    refine ⟨k5.tail, ?_⟩
    refine wpAnyH_ready (rs := [11]) (by kernel_rfl) (by simp) ?_
    refine callK 11 { tmps := (.agg #[.float .f32 ah, .float .f32 av] :: .agg #[.float .f32 bh, .float .f32 bv] :: .float .f32 x :: .pointer (some ⟨w.heap.size, 0, none⟩) :: .pointer (some ⟨w.heap.size + 1, 0, none⟩) :: undef :: .pointer (some ⟨w.heap.size + 1 + 1, 0, none⟩) :: .int .i64 0 :: .pointer (some ⟨g5, 0, none⟩) :: .agg #[.float .f32 ah, .float .f32 av] :: .bool true :: .bool false :: .bool false :: .agg #[.float .f32 bh, .float .f32 bv] :: .bool true :: .bool false :: .bool false :: undef :: .float .f32 x :: .bool true :: .bool false :: undef :: .pointer (some ⟨w.heap.size, 0, none⟩) :: .float .f32 ah :: .pointer (some ⟨w.heap.size + 1, 0, none⟩) :: .float .f32 bh :: .float .f32 x :: .float .f32 (mixW ah bh x) :: .pointer (some ⟨w.heap.size, 1, none⟩) :: .float .f32 av :: .pointer (some ⟨w.heap.size + 1, 1, none⟩) :: .float .f32 bv :: .float .f32 x :: .float .f32 (mixW av bv x) :: undef :: undef :: undef :: undef :: undef :: undef :: []).toArray, defers := [] } #[true, true, true, true, true, true, true, true, true, true, true, true, false, true, false] (.float .f32 (mixW av bv x)) k5 rfl (by rfl) 146 #[.float .f32 av, .float .f32 bv, .float .f32 x] (run_mixN3 _ _ _ rfl _ _ rfl _ _ rfl _ _ _ _ _ _) (by rfl) (by rfl) (loose (iMixN _ _ _ HM2.out _)) (fun w6 k6 => ?_) AllReadyH.nil
    refine ⟨k6.tail, ?_⟩
    refine take_val 12 { tmps := (.agg #[.float .f32 ah, .float .f32 av] :: .agg #[.float .f32 bh, .float .f32 bv] :: .float .f32 x :: .pointer (some ⟨w.heap.size, 0, none⟩) :: .pointer (some ⟨w.heap.size + 1, 0, none⟩) :: undef :: .pointer (some ⟨w.heap.size + 1 + 1, 0, none⟩) :: .int .i64 0 :: .pointer (some ⟨g5, 0, none⟩) :: .agg #[.float .f32 ah, .float .f32 av] :: .bool true :: .bool false :: .bool false :: .agg #[.float .f32 bh, .float .f32 bv] :: .bool true :: .bool false :: .bool false :: undef :: .float .f32 x :: .bool true :: .bool false :: undef :: .pointer (some ⟨w.heap.size, 0, none⟩) :: .float .f32 ah :: .pointer (some ⟨w.heap.size + 1, 0, none⟩) :: .float .f32 bh :: .float .f32 x :: .float .f32 (mixW ah bh x) :: .pointer (some ⟨w.heap.size, 1, none⟩) :: .float .f32 av :: .pointer (some ⟨w.heap.size + 1, 1, none⟩) :: .float .f32 bv :: .float .f32 x :: .float .f32 (mixW av bv x) :: .agg #[.float .f32 (mixW ah bh x), .float .f32 (mixW av bv x)] :: undef :: undef :: undef :: undef :: undef :: []).toArray, defers := [] } #[true, true, true, true, true, true, true, true, true, true, true, true, true, true, false] (.agg #[.float .f32 (mixW ah bh x), .float .f32 (mixW av bv x)]) rfl (by rfl) (by kernel_rfl) (by kernel_rfl) (by kernel_rfl) (fun w => by unfold execOp; go_simp) (by rfl) (by rfl) (k6.tail) ?_
    refine wpAnyH_ready (rs := [14]) (by kernel_rfl) (by simp) ?_
    refine storeK 14 { tmps := (.agg #[.float .f32 ah, .float .f32 av] :: .agg #[.float .f32 bh, .float .f32 bv] :: .float .f32 x :: .pointer (some ⟨w.heap.size, 0, none⟩) :: .pointer (some ⟨w.heap.size + 1, 0, none⟩) :: undef :: .pointer (some ⟨w.heap.size + 1 + 1, 0, none⟩) :: .int .i64 0 :: .pointer (some ⟨g5, 0, none⟩) :: .agg #[.float .f32 ah, .float .f32 av] :: .bool true :: .bool false :: .bool false :: .agg #[.float .f32 bh, .float .f32 bv] :: .bool true :: .bool false :: .bool false :: undef :: .float .f32 x :: .bool true :: .bool false :: undef :: .pointer (some ⟨w.heap.size, 0, none⟩) :: .float .f32 ah :: .pointer (some ⟨w.heap.size + 1, 0, none⟩) :: .float .f32 bh :: .float .f32 x :: .float .f32 (mixW ah bh x) :: .pointer (some ⟨w.heap.size, 1, none⟩) :: .float .f32 av :: .pointer (some ⟨w.heap.size + 1, 1, none⟩) :: .float .f32 bv :: .float .f32 x :: .float .f32 (mixW av bv x) :: .agg #[.float .f32 (mixW ah bh x), .float .f32 (mixW av bv x)] :: undef :: undef :: undef :: undef :: undef :: []).toArray, defers := [] } #[true, true, true, true, true, true, true, true, true, true, true, true, true, true, true] k6 hB5 hn5 rfl (by rfl) 44 _ _ rfl (#[.float .f32 (mixW ah bh x), .float .f32 (mixW av bv x)]) (by rfl) (by rfl) (info_air) (by simp) (by simp [Value.oneCell']) (by rfl) (by rfl) (fun w7 k7 => ?_) AllReadyH.nil
    refine ⟨k7.tail, ?_⟩
    exact wpAnyH_done (by kernel_rfl) (NoPanic.normal (key g5 _ (hid k7))) _
  refine allocK 13 (fun g8 => { tmps := (.agg #[.float .f32 ah, .float .f32 av] :: .agg #[.float .f32 bh, .float .f32 bv] :: .float .f32 x :: .pointer (some ⟨w.heap.size, 0, none⟩) :: .pointer (some ⟨w.heap.size + 1, 0, none⟩) :: undef :: .pointer (some ⟨w.heap.size + 1 + 1, 0, none⟩) :: .int .i64 0 :: .pointer (some ⟨g8, 0, none⟩) :: .agg #[.float .f32 ah, .float .f32 av] :: .bool true :: .bool false :: .bool false :: .agg #[.float .f32 bh, .float .f32 bv] :: .bool true :: .bool false :: .bool false :: undef :: .float .f32 x :: .bool true :: .bool false :: undef :: .pointer (some ⟨w.heap.size, 0, none⟩) :: .float .f32 ah :: .pointer (some ⟨w.heap.size + 1, 0, none⟩) :: .float .f32 bh :: .float .f32 x :: undef :: .pointer (some ⟨w.heap.size, 1, none⟩) :: .float .f32 av :: .pointer (some ⟨w.heap.size + 1, 1, none⟩) :: .float .f32 bv :: .float .f32 x :: undef :: undef :: undef :: undef :: undef :: undef :: undef :: []).toArray, defers := [] }) #[true, true, true, true, true, false, true, true, true, true, true, false, false, true, false] kd rfl (by rfl) (#[.float .f32 0, .float .f32 0]) 44 (alloc_air _ _ _ _ _ _ _) (fun g => by rfl) (by rfl) (fun w8 g8 k8 hB8 hn8 => ?_) AllReadyH.nil
  refine ⟨k8.tail, ?_⟩
  refine wpAnyH_ready (rs := [5]) (by kernel_rfl) (by simp) ?_
  refine callK 5 { tmps := (.agg #[.float .f32 ah, .float .f32 av] :: .agg #[.float .f32 bh, .float .f32 bv] :: .float .f32 x :: .pointer (some ⟨w.heap.size, 0, none⟩) :: .pointer (some ⟨w.heap.size + 1, 0, none⟩) :: undef :: .pointer (some ⟨w.heap.size + 1 + 1, 0, none⟩) :: .int .i64 0 :: .pointer (some ⟨g8, 0, none⟩) :: .agg #[.float .f32 ah, .float .f32 av] :: .bool true :: .bool false :: .bool false :: .agg #[.float .f32 bh, .float .f32 bv] :: .bool true :: .bool false :: .bool false :: undef :: .float .f32 x :: .bool true :: .bool false :: undef :: .pointer (some ⟨w.heap.size, 0, none⟩) :: .float .f32 ah :: .pointer (some ⟨w.heap.size + 1, 0, none⟩) :: .float .f32 bh :: .float .f32 x :: .float .f32 (mixW ah bh x) :: .pointer (some ⟨w.heap.size, 1, none⟩) :: .float .f32 av :: .pointer (some ⟨w.heap.size + 1, 1, none⟩) :: .float .f32 bv :: .float .f32 x :: undef :: undef :: undef :: undef :: undef :: undef :: undef :: []).toArray, defers := [] } #[true, true, true, true, true, true, true, true, true, true, true, false, false, true, false] (.float .f32 (mixW ah bh x)) k8 rfl (by rfl) 146 #[.float .f32 ah, .float .f32 bh, .float .f32 x] (run_mixN3 _ _ _ rfl _ _ rfl _ _ rfl _ _ _ _ _ _) (by rfl) (by rfl) (loose (iMixN _ _ _ HM1.out _)) (fun w9 k9 => ?_) AllReadyH.nil
  refine ⟨k9.tail, ?_⟩
  refine wpAnyH_ready (rs := [11]) (by kernel_rfl) (by simp) ?_
  refine callK 11 { tmps := (.agg #[.float .f32 ah, .float .f32 av] :: .agg #[.float .f32 bh, .float .f32 bv] :: .float .f32 x :: .pointer (some ⟨w.heap.size, 0, none⟩) :: .pointer (some ⟨w.heap.size + 1, 0, none⟩) :: undef :: .pointer (some ⟨w.heap.size + 1 + 1, 0, none⟩) :: .int .i64 0 :: .pointer (some ⟨g8, 0, none⟩) :: .agg #[.float .f32 ah, .float .f32 av] :: .bool true :: .bool false :: .bool false :: .agg #[.float .f32 bh, .float .f32 bv] :: .bool true :: .bool false :: .bool false :: undef :: .float .f32 x :: .bool true :: .bool false :: undef :: .pointer (some ⟨w.heap.size, 0, none⟩) :: .float .f32 ah :: .pointer (some ⟨w.heap.size + 1, 0, none⟩) :: .float .f32 bh :: .float .f32 x :: .float .f32 (mixW ah bh x) :: .pointer (some ⟨w.heap.size, 1, none⟩) :: .float .f32 av :: .pointer (some ⟨w.heap.size + 1, 1, none⟩) :: .float .f32 bv :: .float .f32 x :: .float .f32 (mixW av bv x) :: undef :: undef :: undef :: undef :: undef :: undef :: []).toArray, defers := [] } #[true, true, true, true, true, true, true, true, true, true, true, true, false, true, false] (.float .f32 (mixW av bv x)) k9 rfl (by rfl) 146 #[.float .f32 av, .float .f32 bv, .float .f32 x] (run_mixN3 _ _ _ rfl _ _ rfl _ _ rfl _ _ _ _ _ _) (by rfl) (by rfl) (loose (iMixN _ _ _ HM2.out _)) (fun w10 k10 => ?_) AllReadyH.nil
  refine ⟨k10.tail, ?_⟩
  refine take_val 12 { tmps := (.agg #[.float .f32 ah, .float .f32 av] :: .agg #[.float .f32 bh, .float .f32 bv] :: .float .f32 x :: .pointer (some ⟨w.heap.size, 0, none⟩) :: .pointer (some ⟨w.heap.size + 1, 0, none⟩) :: undef :: .pointer (some ⟨w.heap.size + 1 + 1, 0, none⟩) :: .int .i64 0 :: .pointer (some ⟨g8, 0, none⟩) :: .agg #[.float .f32 ah, .float .f32 av] :: .bool true :: .bool false :: .bool false :: .agg #[.float .f32 bh, .float .f32 bv] :: .bool true :: .bool false :: .bool false :: undef :: .float .f32 x :: .bool true :: .bool false :: undef :: .pointer (some ⟨w.heap.size, 0, none⟩) :: .float .f32 ah :: .pointer (some ⟨w.heap.size + 1, 0, none⟩) :: .float .f32 bh :: .float .f32 x :: .float .f32 (mixW ah bh x) :: .pointer (some ⟨w.heap.size, 1, none⟩) :: .float .f32 av :: .pointer (some ⟨w.heap.size + 1, 1, none⟩) :: .float .f32 bv :: .float .f32 x :: .float .f32 (mixW av bv x) :: .agg #[.float .f32 (mixW ah bh x), .float .f32 (mixW av bv x)] :: undef :: undef :: undef :: undef :: undef :: []).toArray, defers := [] } #[true, true, true, true, true, true, true, true, true, true, true, true, true, true, false] (.agg #[.float .f32 (mixW ah bh x), .float .f32 (mixW av bv x)]) rfl (by rfl) (by kernel_rfl) (by kernel_rfl) (by kernel_rfl) (fun w => by unfold execOp; go_simp) (by rfl) (by rfl) (k10.tail) ?_
  refine wpAnyH_ready (rs := [14]) (by kernel_rfl) (by simp) ?_
  refine storeK 14 { tmps := (.agg #[.float .f32 ah, .float .f32 av] :: .agg #[.float .f32 bh, .float .f32 bv] :: .float .f32 x :: .pointer (some ⟨w.heap.size, 0, none⟩) :: .pointer (some ⟨w.heap.size + 1, 0, none⟩) :: undef :: .pointer (some ⟨w.heap.size + 1 + 1, 0, none⟩) :: .int .i64 0 :: .pointer (some ⟨g8, 0, none⟩) :: .agg #[.float .f32 ah, .float .f32 av] :: .bool true :: .bool false :: .bool false :: .agg #[.float .f32 bh, .float .f32 bv] :: .bool true :: .bool false :: .bool false :: undef :: .float .f32 x :: .bool true :: .bool false :: undef :: .pointer (some ⟨w.heap.size, 0, none⟩) :: .float .f32 ah :: .pointer (some ⟨w.heap.size + 1, 0, none⟩) :: .float .f32 bh :: .float .f32 x :: .float .f32 (mixW ah bh x) :: .pointer (some ⟨w.heap.size, 1, none⟩) :: .float .f32 av :: .pointer (some ⟨w.heap.size + 1, 1, none⟩) :: .float .f32 bv :: .float .f32 x :: .float .f32 (mixW av bv x) :: .agg #[.float .f32 (mixW ah bh x), .float .f32 (mixW av bv x)] :: undef :: undef :: undef :: undef :: undef :: []).toArray, defers := [] } #[true, true, true, true, true, true, true, true, true, true, true, true, true, true, true] k10 hB8 hn8 rfl (by rfl) 44 _ _ rfl (#[.float .f32 (mixW ah bh x), .float .f32 (mixW av bv x)]) (by rfl) (by rfl) (info_air) (by simp) (by simp [Value.oneCell']) (by rfl) (by rfl) (fun w11 k11 => ?_) AllReadyH.nil
  refine ⟨k11.tail, ?_⟩
  exact wpAnyH_done (by kernel_rfl) (NoPanic.normal (key g8 _ (hid k11))) _

theorem run_sMixAir3 (a : Act) (x0 : Operand) (v0 : Value) (h0 : a.eval x0 = v0) (x1 : Operand) (v1 : Value) (h1 : a.eval x1 = v1) (x2 : Operand) (v2 : Value) (h2 : a.eval x2 = v2) (d : Option Tmp) (ats : Array TypeId) (t : TypeId) (ps : String) (af : Array Edge) (gd : Option (Nat × Bool)) (w : World) :
    (execOp a.eval ⟨d, .call { callee := .value (.func 87), args := #[x0, x1, x2], argTypes := ats }, t, ps, af, gd⟩).run Try.prog w = .ok (.enter 87 #[v0, v1, v2]) w := by
  subst h0 h1 h2
  unfold execOp
  go_simp

theorem run_iMixAir3 (a : Act) (x0 : Operand) (v0 : Value) (h0 : a.eval x0 = v0) (x1 : Operand) (v1 : Value) (h1 : a.eval x1 = v1) (x2 : Operand) (v2 : Value) (h2 : a.eval x2 = v2) (d : Option Tmp) (ats : Array TypeId) (t : TypeId) (ps : String) (af : Array Edge) (gd : Option (Nat × Bool)) (w : World) :
    (execOp a.eval ⟨d, .call { callee := .value (.func 88), args := #[x0, x1, x2], argTypes := ats }, t, ps, af, gd⟩).run Try.prog w = .ok (.enter 88 #[v0, v1, v2]) w := by
  subst h0 h1 h2
  unfold execOp
  go_simp

set_option maxRecDepth 100000 in
set_option maxHeartbeats 2000000 in
theorem coreMixAir (x0h x0v : Nat) (x1h x1v : Nat) (x2 : Nat) (r0h r0v : Nat) (hlh0 : r0h < 4294967296) (hlv0 : r0v < 4294967296) (hfh0 : finB r0h = true) (hfv0 : finB r0v = true) (r1 : Int)
    (hS : ∀ w, Calls Try.prog 87 #[.agg #[.float .f32 x0h, .float .f32 x0v], .agg #[.float .f32 x1h, .float .f32 x1v], .float .f32 x2] w fun e w' => e = .returned (.tuple #[.agg #[.float .f32 r0h, .float .f32 r0v], .int .i64 r1]) ∧ Below w.heap.size w w')
    (hI : ∀ w, Calls Try.prog 88 #[.agg #[.float .f32 x0h, .float .f32 x0v], .agg #[.float .f32 x1h, .float .f32 x1v], .float .f32 x2] w fun e w' => e = .returned (.tuple #[.agg #[.float .f32 r0h, .float .f32 r0v], .int .i64 r1]) ∧ Below w.heap.size w w') (w : World) :
    Calls Try.prog 26 #[.agg #[.float .f32 x0h, .float .f32 x0v], .agg #[.float .f32 x1h, .float .f32 x1v], .float .f32 x2] w fun e w' => e = .returned (.bool true) ∧ Below w.heap.size w w' := by
  have k0 : Hid (Kept w [(w.heap.size, #[.float .f32 x0h, .float .f32 x0v], 70), (w.heap.size + 1, #[.float .f32 x1h, .float .f32 x1v], 70)] ((w.alloc (.cells (#[.float .f32 x0h, .float .f32 x0v]) 70)).alloc (.cells (#[.float .f32 x1h, .float .f32 x1v]) 70))) := hid ((((Kept.nil w).push (#[.float .f32 x0h, .float .f32 x0v]) 70).push (#[.float .f32 x1h, .float .f32 x1v]) 70).sub (by simp))
  have HS := hid hS
  have HI := hid hI
  clear hS hI
  have Hlh0 := hid hlh0
  have Hlv0 := hid hlv0
  have Hfh0 := hid hfh0
  have Hfv0 := hid hfv0
  clear hlh0 hlv0 hfh0 hfv0
  go_enter Try.func26, Try.ntmps26
  go_wp2_with fail
  rename_i Q1 K1 hK1
  have key1 : ∀ (a0 : Nat) (w1 : World), Hid (Kept w [(a0, #[.float .f32 r0h, .float .f32 r0v], 44), (w.heap.size, #[.float .f32 x0h, .float .f32 x0v], 70), (w.heap.size + 1, #[.float .f32 x1h, .float .f32 x1v], 70)] w1) → K1 { tmps := (.agg #[.float .f32 x0h, .float .f32 x0v] :: .agg #[.float .f32 x1h, .float .f32 x1v] :: .float .f32 x2 :: .pointer (some ⟨w.heap.size, 0, none⟩) :: .pointer (some ⟨w.heap.size + 1, 0, none⟩) :: undef :: .bool false :: .pointer (some ⟨a0, 0, none⟩) :: .int .i64 r1 :: undef :: undef :: .tuple #[.agg #[.float .f32 r0h, .float .f32 r0v], .int .i64 r1] :: .agg (#[.float .f32 x0h, .float .f32 x0v]) :: .agg (#[.float .f32 x0h, .float .f32 x0v]) :: .agg (#[.float .f32 x1h, .float .f32 x1v]) :: .agg (#[.float .f32 x1h, .float .f32 x1v]) :: .float .f32 x2 :: .tuple #[.agg #[.float .f32 r0h, .float .f32 r0v], .int .i64 r1] :: .agg #[.float .f32 r0h, .float .f32 r0v] :: .int .i64 r1 :: undef :: undef :: undef :: undef :: undef :: undef :: undef :: undef :: undef :: undef :: undef :: undef :: undef :: undef :: undef :: undef :: undef :: undef :: []).toArray, defers := [] } w1 := by
    intro a0 w1 k1
    clear k0
    go_wp2_with fail
    rename_i K2 hK2
    have key2 : ∀ (b0 : Nat) (w2 : World), Hid (Kept w [(b0, #[.float .f32 r0h, .float .f32 r0v], 44), (a0, #[.float .f32 r0h, .float .f32 r0v], 44), (w.heap.size, #[.float .f32 x0h, .float .f32 x0v], 70), (w.heap.size + 1, #[.float .f32 x1h, .float .f32 x1v], 70)] w2) → K2 { tmps := (.agg #[.float .f32 x0h, .float .f32 x0v] :: .agg #[.float .f32 x1h, .float .f32 x1v] :: .float .f32 x2 :: .pointer (some ⟨w.heap.size, 0, none⟩) :: .pointer (some ⟨w.heap.size + 1, 0, none⟩) :: undef :: .bool false :: .pointer (some ⟨a0, 0, none⟩) :: .int .i64 r1 :: .pointer (some ⟨b0, 0, none⟩) :: .int .i64 r1 :: .tuple #[.agg #[.float .f32 r0h, .float .f32 r0v], .int .i64 r1] :: .agg (#[.float .f32 x0h, .float .f32 x0v]) :: .agg (#[.float .f32 x0h, .float .f32 x0v]) :: .agg (#[.float .f32 x1h, .float .f32 x1v]) :: .agg (#[.float .f32 x1h, .float .f32 x1v]) :: .float .f32 x2 :: .tuple #[.agg #[.float .f32 r0h, .float .f32 r0v], .int .i64 r1] :: .agg #[.float .f32 r0h, .float .f32 r0v] :: .int .i64 r1 :: .tuple #[.agg #[.float .f32 r0h, .float .f32 r0v], .int .i64 r1] :: .agg (#[.float .f32 x0h, .float .f32 x0v]) :: .agg (#[.float .f32 x0h, .float .f32 x0v]) :: .agg (#[.float .f32 x1h, .float .f32 x1v]) :: .agg (#[.float .f32 x1h, .float .f32 x1v]) :: .float .f32 x2 :: .tuple #[.agg #[.float .f32 r0h, .float .f32 r0v], .int .i64 r1] :: .agg #[.float .f32 r0h, .float .f32 r0v] :: .int .i64 r1 :: undef :: undef :: undef :: undef :: undef :: undef :: undef :: undef :: undef :: []).toArray, defers := [] } w2 := by
      intro b0 w2 k2
      clear k1 HS HI
      go_wp2_with (first | (refine wpList_load_row rfl 44 _ rfl (b0) rfl 44 (#[.float .f32 r0h, .float .f32 r0v]) (0, 0) _ (k2.out.at (x := (b0, #[.float .f32 r0h, .float .f32 r0v], 44)) (by simp)) Try.underlying44 rfl (info_air) ?_) | (refine wpList_load_row rfl 44 _ rfl (a0) rfl 44 (#[.float .f32 r0h, .float .f32 r0v]) (0, 0) _ (k2.out.at (x := (a0, #[.float .f32 r0h, .float .f32 r0v], 44)) (by simp)) Try.underlying44 rfl (info_air) ?_))
      refine (eqAir r0h r0v Hlh0.out Hlv0.out Hfh0.out Hfv0.out _).mono ?_
      rintro e w3 ⟨rfl, hb3⟩
      have k3 := hid (k2.out.stay hb3)
      go_wp2
      all_goals go_ret
      all_goals exact ⟨rfl, k3.out.1⟩
    refine region_kept (w0 := w) (l := [(a0, #[.float .f32 r0h, .float .f32 r0v], 44), (w.heap.size, #[.float .f32 x0h, .float .f32 x0v], 70), (w.heap.size + 1, #[.float .f32 x1h, .float .f32 x1v], 70)]) 12 #[false, false, false, false, false, false, false, false, false, false, false, false] (by kernel_rfl) rfl rfl ?_
    have kd := k1.out.drew
    clear k1
    generalize w1.drew = wd at kd ⊢
    refine take_load 0 { tmps := (.agg #[.float .f32 x0h, .float .f32 x0v] :: .agg #[.float .f32 x1h, .float .f32 x1v] :: .float .f32 x2 :: .pointer (some ⟨w.heap.size, 0, none⟩) :: .pointer (some ⟨w.heap.size + 1, 0, none⟩) :: undef :: .bool false :: .pointer (some ⟨a0, 0, none⟩) :: .int .i64 r1 :: undef :: undef :: .tuple #[.agg #[.float .f32 r0h, .float .f32 r0v], .int .i64 r1] :: .agg (#[.float .f32 x0h, .float .f32 x0v]) :: .agg (#[.float .f32 x0h, .float .f32 x0v]) :: .agg (#[.float .f32 x1h, .float .f32 x1v]) :: .agg (#[.float .f32 x1h, .float .f32 x1v]) :: .float .f32 x2 :: .tuple #[.agg #[.float .f32 r0h, .float .f32 r0v], .int .i64 r1] :: .agg #[.float .f32 r0h, .float .f32 r0v] :: .int .i64 r1 :: undef :: .agg (#[.float .f32 x0h, .float .f32 x0v]) :: undef :: undef :: undef :: undef :: undef :: undef :: undef :: undef :: undef :: undef :: undef :: undef :: undef :: undef :: undef :: undef :: []).toArray, defers := [] } #[true, false, false, false, false, false, false, false, false, false, false, false] rfl (by rfl) (by kernel_rfl) (by kernel_rfl) (by kernel_rfl) 70 _ rfl (w.heap.size) (#[.float .f32 x0h, .float .f32 x0v]) 70 (by rfl) (by simp) _ Try.underlying70 rfl (info_lair) (by rfl) (by rfl) (kd) ?_
    refine take_load 2 { tmps := (.agg #[.float .f32 x0h, .float .f32 x0v] :: .agg #[.float .f32 x1h, .float .f32 x1v] :: .float .f32 x2 :: .pointer (some ⟨w.heap.size, 0, none⟩) :: .pointer (some ⟨w.heap.size + 1, 0, none⟩) :: undef :: .bool false :: .pointer (some ⟨a0, 0, none⟩) :: .int .i64 r1 :: undef :: undef :: .tuple #[.agg #[.float .f32 r0h, .float .f32 r0v], .int .i64 r1] :: .agg (#[.float .f32 x0h, .float .f32 x0v]) :: .agg (#[.float .f32 x0h, .float .f32 x0v]) :: .agg (#[.float .f32 x1h, .float .f32 x1v]) :: .agg (#[.float .f32 x1h, .float .f32 x1v]) :: .float .f32 x2 :: .tuple #[.agg #[.float .f32 r0h, .float .f32 r0v], .int .i64 r1] :: .agg #[.float .f32 r0h, .float .f32 r0v] :: .int .i64 r1 :: undef :: .agg (#[.float .f32 x0h, .float .f32 x0v]) :: undef :: .agg (#[.float .f32 x1h, .float .f32 x1v]) :: undef :: undef :: undef :: undef :: undef :: undef :: undef :: undef :: undef :: undef :: undef :: undef :: undef :: undef :: []).toArray, defers := [] } #[true, false, true, false, false, false, false, false, false, false, false, false] rfl (by rfl) (by kernel_rfl) (by kernel_rfl) (by kernel_rfl) 70 _ rfl (w.heap.size + 1) (#[.float .f32 x1h, .float .f32 x1v]) 70 (by rfl) (by simp) _ Try.underlying70 rfl (info_lair) (by rfl) (by rfl) (kd) ?_
    refine take_val 4 { tmps := (.agg #[.float .f32 x0h, .float .f32 x0v] :: .agg #[.float .f32 x1h, .float .f32 x1v] :: .float .f32 x2 :: .pointer (some ⟨w.heap.size, 0, none⟩) :: .pointer (some ⟨w.heap.size + 1, 0, none⟩) :: undef :: .bool false :: .pointer (some ⟨a0, 0, none⟩) :: .int .i64 r1 :: undef :: undef :: .tuple #[.agg #[.float .f32 r0h, .float .f32 r0v], .int .i64 r1] :: .agg (#[.float .f32 x0h, .float .f32 x0v]) :: .agg (#[.float .f32 x0h, .float .f32 x0v]) :: .agg (#[.float .f32 x1h, .float .f32 x1v]) :: .agg (#[.float .f32 x1h, .float .f32 x1v]) :: .float .f32 x2 :: .tuple #[.agg #[.float .f32 r0h, .float .f32 r0v], .int .i64 r1] :: .agg #[.float .f32 r0h, .float .f32 r0v] :: .int .i64 r1 :: undef :: .agg (#[.float .f32 x0h, .float .f32 x0v]) :: undef :: .agg (#[.float .f32 x1h, .float .f32 x1v]) :: undef :: .float .f32 x2 :: undef :: undef :: undef :: undef :: undef :: undef :: undef :: undef :: undef :: undef :: undef :: undef :: []).toArray, defers := [] } #[true, false, true, false, true, false, false, false, false, false, false, false] (.float .f32 x2) rfl (by rfl) (by kernel_rfl) (by kernel_rfl) (by kernel_rfl) (fun w => by rfl) (by rfl) (by rfl) (kd) ?_
    refine wpAnyH_ready (rs := [1, 9]) (by kernel_rfl) (by simp) ?_
    refine callK 1 { tmps := (.agg #[.float .f32 x0h, .float .f32 x0v] :: .agg #[.float .f32 x1h, .float .f32 x1v] :: .float .f32 x2 :: .pointer (some ⟨w.heap.size, 0, none⟩) :: .pointer (some ⟨w.heap.size + 1, 0, none⟩) :: undef :: .bool false :: .pointer (some ⟨a0, 0, none⟩) :: .int .i64 r1 :: undef :: undef :: .tuple #[.agg #[.float .f32 r0h, .float .f32 r0v], .int .i64 r1] :: .agg (#[.float .f32 x0h, .float .f32 x0v]) :: .agg (#[.float .f32 x0h, .float .f32 x0v]) :: .agg (#[.float .f32 x1h, .float .f32 x1v]) :: .agg (#[.float .f32 x1h, .float .f32 x1v]) :: .float .f32 x2 :: .tuple #[.agg #[.float .f32 r0h, .float .f32 r0v], .int .i64 r1] :: .agg #[.float .f32 r0h, .float .f32 r0v] :: .int .i64 r1 :: undef :: .agg (#[.float .f32 x0h, .float .f32 x0v]) :: .agg (#[.float .f32 x0h, .float .f32 x0v]) :: .agg (#[.float .f32 x1h, .float .f32 x1v]) :: undef :: .float .f32 x2 :: undef :: undef :: undef :: undef :: undef :: undef :: undef :: undef :: undef :: undef :: undef :: undef :: []).toArray, defers := [] } #[true, true, true, false, true, false, false, false, false, false, false, false] (.agg (#[.float .f32 x0h, .float .f32 x0v])) kd rfl (by rfl) 75 #[.agg (#[.float .f32 x0h, .float .f32 x0v])] (run_toAir1 _ _ _ rfl _ _ _ _ _ _) (by rfl) (by rfl) (toAir _ _ _) (fun w1 k1 => ?_) ?_
    · refine ⟨k1, ?_⟩
      refine wpAnyH_ready (rs := [3, 9]) (by kernel_rfl) (by simp) ?_
      refine callK 3 { tmps := (.agg #[.float .f32 x0h, .float .f32 x0v] :: .agg #[.float .f32 x1h, .float .f32 x1v] :: .float .f32 x2 :: .pointer (some ⟨w.heap.size, 0, none⟩) :: .pointer (some ⟨w.heap.size + 1, 0, none⟩) :: undef :: .bool false :: .pointer (some ⟨a0, 0, none⟩) :: .int .i64 r1 :: undef :: undef :: .tuple #[.agg #[.float .f32 r0h, .float .f32 r0v], .int .i64 r1] :: .agg (#[.float .f32 x0h, .float .f32 x0v]) :: .agg (#[.float .f32 x0h, .float .f32 x0v]) :: .agg (#[.float .f32 x1h, .float .f32 x1v]) :: .agg (#[.float .f32 x1h, .float .f32 x1v]) :: .float .f32 x2 :: .tuple #[.agg #[.float .f32 r0h, .float .f32 r0v], .int .i64 r1] :: .agg #[.float .f32 r0h, .float .f32 r0v] :: .int .i64 r1 :: undef :: .agg (#[.float .f32 x0h, .float .f32 x0v]) :: .agg (#[.float .f32 x0h, .float .f32 x0v]) :: .agg (#[.float .f32 x1h, .float .f32 x1v]) :: .agg (#[.float .f32 x1h, .float .f32 x1v]) :: .float .f32 x2 :: undef :: undef :: undef :: undef :: undef :: undef :: undef :: undef :: undef :: undef :: undef :: undef :: []).toArray, defers := [] } #[true, true, true, true, true, false, false, false, false, false, false, false] (.agg (#[.float .f32 x1h, .float .f32 x1v])) k1 rfl (by rfl) 75 #[.agg (#[.float .f32 x1h, .float .f32 x1v])] (run_toAir1 _ _ _ rfl _ _ _ _ _ _) (by rfl) (by rfl) (toAir _ _ _) (fun w2 k2 => ?_) ?_
      · refine ⟨k2, ?_⟩
        refine wpAnyH_ready (rs := [5, 9]) (by kernel_rfl) (by simp) ?_
        refine callK 5 { tmps := (.agg #[.float .f32 x0h, .float .f32 x0v] :: .agg #[.float .f32 x1h, .float .f32 x1v] :: .float .f32 x2 :: .pointer (some ⟨w.heap.size, 0, none⟩) :: .pointer (some ⟨w.heap.size + 1, 0, none⟩) :: undef :: .bool false :: .pointer (some ⟨a0, 0, none⟩) :: .int .i64 r1 :: undef :: undef :: .tuple #[.agg #[.float .f32 r0h, .float .f32 r0v], .int .i64 r1] :: .agg (#[.float .f32 x0h, .float .f32 x0v]) :: .agg (#[.float .f32 x0h, .float .f32 x0v]) :: .agg (#[.float .f32 x1h, .float .f32 x1v]) :: .agg (#[.float .f32 x1h, .float .f32 x1v]) :: .float .f32 x2 :: .tuple #[.agg #[.float .f32 r0h, .float .f32 r0v], .int .i64 r1] :: .agg #[.float .f32 r0h, .float .f32 r0v] :: .int .i64 r1 :: undef :: .agg (#[.float .f32 x0h, .float .f32 x0v]) :: .agg (#[.float .f32 x0h, .float .f32 x0v]) :: .agg (#[.float .f32 x1h, .float .f32 x1v]) :: .agg (#[.float .f32 x1h, .float .f32 x1v]) :: .float .f32 x2 :: .tuple #[.agg #[.float .f32 r0h, .float .f32 r0v], .int .i64 r1] :: undef :: undef :: undef :: undef :: undef :: undef :: undef :: undef :: undef :: undef :: undef :: []).toArray, defers := [] } #[true, true, true, true, true, true, false, false, false, false, false, false] (.tuple #[.agg #[.float .f32 r0h, .float .f32 r0v], .int .i64 r1]) k2 rfl (by rfl) 88 #[.agg (#[.float .f32 x0h, .float .f32 x0v]), .agg (#[.float .f32 x1h, .float .f32 x1v]), .float .f32 x2] (run_iMixAir3 _ _ _ rfl _ _ rfl _ _ rfl _ _ _ _ _ _) (by rfl) (by rfl) (HI.out _) (fun w3 k3 => ?_) ?_
        · refine ⟨k3, ?_⟩
          refine take_val 6 { tmps := (.agg #[.float .f32 x0h, .float .f32 x0v] :: .agg #[.float .f32 x1h, .float .f32 x1v] :: .float .f32 x2 :: .pointer (some ⟨w.heap.size, 0, none⟩) :: .pointer (some ⟨w.heap.size + 1, 0, none⟩) :: undef :: .bool false :: .pointer (some ⟨a0, 0, none⟩) :: .int .i64 r1 :: undef :: undef :: .tuple #[.agg #[.float .f32 r0h, .float .f32 r0v], .int .i64 r1] :: .agg (#[.float .f32 x0h, .float .f32 x0v]) :: .agg (#[.float .f32 x0h, .float .f32 x0v]) :: .agg (#[.float .f32 x1h, .float .f32 x1v]) :: .agg (#[.float .f32 x1h, .float .f32 x1v]) :: .float .f32 x2 :: .tuple #[.agg #[.float .f32 r0h, .float .f32 r0v], .int .i64 r1] :: .agg #[.float .f32 r0h, .float .f32 r0v] :: .int .i64 r1 :: .tuple #[.agg #[.float .f32 r0h, .float .f32 r0v], .int .i64 r1] :: .agg (#[.float .f32 x0h, .float .f32 x0v]) :: .agg (#[.float .f32 x0h, .float .f32 x0v]) :: .agg (#[.float .f32 x1h, .float .f32 x1v]) :: .agg (#[.float .f32 x1h, .float .f32 x1v]) :: .float .f32 x2 :: .tuple #[.agg #[.float .f32 r0h, .float .f32 r0v], .int .i64 r1] :: undef :: undef :: undef :: undef :: undef :: undef :: undef :: undef :: undef :: undef :: undef :: []).toArray, defers := [] } #[true, true, true, true, true, true, true, false, false, false, false, false] (.tuple #[.agg #[.float .f32 r0h, .float .f32 r0v], .int .i64 r1]) rfl (by rfl) (by kernel_rfl) (by kernel_rfl) (by kernel_rfl) (fun w => by rfl) (by rfl) (by rfl) (k3) ?_
          refine take_val 7 { tmps := (.agg #[.float .f32 x0h, .float .f32 x0v] :: .agg #[.float .f32 x1h, .float .f32 x1v] :: .float .f32 x2 :: .pointer (some ⟨w.heap.size, 0, none⟩) :: .pointer (some ⟨w.heap.size + 1, 0, none⟩) :: undef :: .bool false :: .pointer (some ⟨a0, 0, none⟩) :: .int .i64 r1 :: undef :: undef :: .tuple #[.agg #[.float .f32 r0h, .float .f32 r0v], .int .i64 r1] :: .agg (#[.float .f32 x0h, .float .f32 x0v]) :: .agg (#[.float .f32 x0h, .float .f32 x0v]) :: .agg (#[.float .f32 x1h, .float .f32 x1v]) :: .agg (#[.float .f32 x1h, .float .f32 x1v]) :: .float .f32 x2 :: .tuple #[.agg #[.float .f32 r0h, .float .f32 r0v], .int .i64 r1] :: .agg #[.float .f32 r0h, .float .f32 r0v] :: .int .i64 r1 :: .tuple #[.agg #[.float .f32 r0h, .float .f32 r0v], .int .i64 r1] :: .agg (#[.float .f32 x0h, .float .f32 x0v]) :: .agg (#[.float .f32 x0h, .float .f32 x0v]) :: .agg (#[.float .f32 x1h, .float .f32 x1v]) :: .agg (#[.float .f32 x1h, .float .f32 x1v]) :: .float .f32 x2 :: .tuple #[.agg #[.float .f32 r0h, .float .f32 r0v], .int .i64 r1] :: .agg #[.float .f32 r0h, .float .f32 r0v] :: undef :: undef :: undef :: undef :: undef :: undef :: undef :: undef :: undef :: undef :: []).toArray, defers := [] } #[true, true, true, true, true, true, true, true, false, false, false, false] (.agg #[.float .f32 r0h, .float .f32 r0v]) rfl (by rfl) (by kernel_rfl) (by kernel_rfl) (by kernel_rfl) (fun w => by rfl) (by rfl) (by rfl) (k3) ?_
          refine take_val 8 { tmps := (.agg #[.float .f32 x0h, .float .f32 x0v] :: .agg #[.float .f32 x1h, .float .f32 x1v] :: .float .f32 x2 :: .pointer (some ⟨w.heap.size, 0, none⟩) :: .pointer (some ⟨w.heap.size + 1, 0, none⟩) :: undef :: .bool false :: .pointer (some ⟨a0, 0, none⟩) :: .int .i64 r1 :: undef :: undef :: .tuple #[.agg #[.float .f32 r0h, .float .f32 r0v], .int .i64 r1] :: .agg (#[.float .f32 x0h, .float .f32 x0v]) :: .agg (#[.float .f32 x0h, .float .f32 x0v]) :: .agg (#[.float .f32 x1h, .float .f32 x1v]) :: .agg (#[.float .f32 x1h, .float .f32 x1v]) :: .float .f32 x2 :: .tuple #[.agg #[.float .f32 r0h, .float .f32 r0v], .int .i64 r1] :: .agg #[.float .f32 r0h, .float .f32 r0v] :: .int .i64 r1 :: .tuple #[.agg #[.float .f32 r0h, .float .f32 r0v], .int .i64 r1] :: .agg (#[.float .f32 x0h, .float .f32 x0v]) :: .agg (#[.float .f32 x0h, .float .f32 x0v]) :: .agg (#[.float .f32 x1h, .float .f32 x1v]) :: .agg (#[.float .f32 x1h, .float .f32 x1v]) :: .float .f32 x2 :: .tuple #[.agg #[.float .f32 r0h, .float .f32 r0v], .int .i64 r1] :: .agg #[.float .f32 r0h, .float .f32 r0v] :: .int .i64 r1 :: undef :: undef :: undef :: undef :: undef :: undef :: undef :: undef :: undef :: []).toArray, defers := [] } #[true, true, true, true, true, true, true, true, true, false, false, false] (.int .i64 r1) rfl (by rfl) (by kernel_rfl) (by kernel_rfl) (by kernel_rfl) (fun w => by rfl) (by rfl) (by rfl) (k3) ?_
          refine wpAnyH_ready (rs := [9]) (by kernel_rfl) (by simp) ?_
          refine allocK 9 (fun g4 => { tmps := (.agg #[.float .f32 x0h, .float .f32 x0v] :: .agg #[.float .f32 x1h, .float .f32 x1v] :: .float .f32 x2 :: .pointer (some ⟨w.heap.size, 0, none⟩) :: .pointer (some ⟨w.heap.size + 1, 0, none⟩) :: undef :: .bool false :: .pointer (some ⟨a0, 0, none⟩) :: .int .i64 r1 :: .pointer (some ⟨g4, 0, none⟩) :: undef :: .tuple #[.agg #[.float .f32 r0h, .float .f32 r0v], .int .i64 r1] :: .agg (#[.float .f32 x0h, .float .f32 x0v]) :: .agg (#[.float .f32 x0h, .float .f32 x0v]) :: .agg (#[.float .f32 x1h, .float .f32 x1v]) :: .agg (#[.float .f32 x1h, .float .f32 x1v]) :: .float .f32 x2 :: .tuple #[.agg #[.float .f32 r0h, .float .f32 r0v], .int .i64 r1] :: .agg #[.float .f32 r0h, .float .f32 r0v] :: .int .i64 r1 :: .tuple #[.agg #[.float .f32 r0h, .float .f32 r0v], .int .i64 r1] :: .agg (#[.float .f32 x0h, .float .f32 x0v]) :: .agg (#[.float .f32 x0h, .float .f32 x0v]) :: .agg (#[.float .f32 x1h, .float .f32 x1v]) :: .agg (#[.float .f32 x1h, .float .f32 x1v]) :: .float .f32 x2 :: .tuple #[.agg #[.float .f32 r0h, .float .f32 r0v], .int .i64 r1] :: .agg #[.float .f32 r0h, .float .f32 r0v] :: .int .i64 r1 :: undef :: undef :: undef :: undef :: undef :: undef :: undef :: undef :: undef :: []).toArray, defers := [] }) #[true, true, true, true, true, true, true, true, true, true, false, false] k3 rfl (by rfl) (#[.float .f32 0, .float .f32 0]) 44 (alloc_air _ _ _ _ _ _ _) (fun g => by rfl) (by rfl) (fun w4 g4 k4 hB4 hn4 => ?_) AllReadyH.nil
          refine ⟨k4.tail, ?_⟩
          refine wpAnyH_ready (rs := [10]) (by kernel_rfl) (by simp) ?_
          refine storeK 10 { tmps := (.agg #[.float .f32 x0h, .float .f32 x0v] :: .agg #[.float .f32 x1h, .float .f32 x1v] :: .float .f32 x2 :: .pointer (some ⟨w.heap.size, 0, none⟩) :: .pointer (some ⟨w.heap.size + 1, 0, none⟩) :: undef :: .bool false :: .pointer (some ⟨a0, 0, none⟩) :: .int .i64 r1 :: .pointer (some ⟨g4, 0, none⟩) :: undef :: .tuple #[.agg #[.float .f32 r0h, .float .f32 r0v], .int .i64 r1] :: .agg (#[.float .f32 x0h, .float .f32 x0v]) :: .agg (#[.float .f32 x0h, .float .f32 x0v]) :: .agg (#[.float .f32 x1h, .float .f32 x1v]) :: .agg (#[.float .f32 x1h, .float .f32 x1v]) :: .float .f32 x2 :: .tuple #[.agg #[.float .f32 r0h, .float .f32 r0v], .int .i64 r1] :: .agg #[.float .f32 r0h, .float .f32 r0v] :: .int .i64 r1 :: .tuple #[.agg #[.float .f32 r0h, .float .f32 r0v], .int .i64 r1] :: .agg (#[.float .f32 x0h, .float .f32 x0v]) :: .agg (#[.float .f32 x0h, .float .f32 x0v]) :: .agg (#[.float .f32 x1h, .float .f32 x1v]) :: .agg (#[.float .f32 x1h, .float .f32 x1v]) :: .float .f32 x2 :: .tuple #[.agg #[.float .f32 r0h, .float .f32 r0v], .int .i64 r1] :: .agg #[.float .f32 r0h, .float .f32 r0v] :: .int .i64 r1 :: undef :: undef :: undef :: undef :: undef :: undef :: undef :: undef :: undef :: []).toArray, defers := [] } #[true, true, true, true, true, true, true, true, true, true, true, false] k4 hB4 hn4 rfl (by rfl) 44 _ _ rfl (#[.float .f32 r0h, .float .f32 r0v]) (by rfl) (by rfl) (info_air) (by simp) (by simp [Value.oneCell']) (by rfl) (by rfl) (fun w5 k5 => ?_) AllReadyH.nil
          refine ⟨k5.tail, ?_⟩
          refine take_val 11 { tmps := (.agg #[.float .f32 x0h, .float .f32 x0v] :: .agg #[.float .f32 x1h, .float .f32 x1v] :: .float .f32 x2 :: .pointer (some ⟨w.heap.size, 0, none⟩) :: .pointer (some ⟨w.heap.size + 1, 0, none⟩) :: undef :: .bool false :: .pointer (some ⟨a0, 0, none⟩) :: .int .i64 r1 :: .pointer (some ⟨g4, 0, none⟩) :: .int .i64 r1 :: .tuple #[.agg #[.float .f32 r0h, .float .f32 r0v], .int .i64 r1] :: .agg (#[.float .f32 x0h, .float .f32 x0v]) :: .agg (#[.float .f32 x0h, .float .f32 x0v]) :: .agg (#[.float .f32 x1h, .float .f32 x1v]) :: .agg (#[.float .f32 x1h, .float .f32 x1v]) :: .float .f32 x2 :: .tuple #[.agg #[.float .f32 r0h, .float .f32 r0v], .int .i64 r1] :: .agg #[.float .f32 r0h, .float .f32 r0v] :: .int .i64 r1 :: .tuple #[.agg #[.float .f32 r0h, .float .f32 r0v], .int .i64 r1] :: .agg (#[.float .f32 x0h, .float .f32 x0v]) :: .agg (#[.float .f32 x0h, .float .f32 x0v]) :: .agg (#[.float .f32 x1h, .float .f32 x1v]) :: .agg (#[.float .f32 x1h, .float .f32 x1v]) :: .float .f32 x2 :: .tuple #[.agg #[.float .f32 r0h, .float .f32 r0v], .int .i64 r1] :: .agg #[.float .f32 r0h, .float .f32 r0v] :: .int .i64 r1 :: undef :: undef :: undef :: undef :: undef :: undef :: undef :: undef :: undef :: []).toArray, defers := [] } #[true, true, true, true, true, true, true, true, true, true, true, true] (.int .i64 r1) rfl (by rfl) (by kernel_rfl) (by kernel_rfl) (by kernel_rfl) (fun w => by rfl) (by rfl) (by rfl) (k5.tail) ?_
          exact wpAnyH_done (by kernel_rfl) (NoPanic.normal (key2 g4 _ (hid k5))) _
        refine allocK 9 (fun g6 => { tmps := (.agg #[.float .f32 x0h, .float .f32 x0v] :: .agg #[.float .f32 x1h, .float .f32 x1v] :: .float .f32 x2 :: .pointer (some ⟨w.heap.size, 0, none⟩) :: .pointer (some ⟨w.heap.size + 1, 0, none⟩) :: undef :: .bool false :: .pointer (some ⟨a0, 0, none⟩) :: .int .i64 r1 :: .pointer (some ⟨g6, 0, none⟩) :: undef :: .tuple #[.agg #[.float .f32 r0h, .float .f32 r0v], .int .i64 r1] :: .agg (#[.float .f32 x0h, .float .f32 x0v]) :: .agg (#[.float .f32 x0h, .float .f32 x0v]) :: .agg (#[.float .f32 x1h, .float .f32 x1v]) :: .agg (#[.float .f32 x1h, .float .f32 x1v]) :: .float .f32 x2 :: .tuple #[.agg #[.float .f32 r0h, .float .f32 r0v], .int .i64 r1] :: .agg #[.float .f32 r0h, .float .f32 r0v] :: .int .i64 r1 :: undef :: .agg (#[.float .f32 x0h, .float .f32 x0v]) :: .agg (#[.float .f32 x0h, .float .f32 x0v]) :: .agg (#[.float .f32 x1h, .float .f32 x1v]) :: .agg (#[.float .f32 x1h, .float .f32 x1v]) :: .float .f32 x2 :: undef :: undef :: undef :: undef :: undef :: undef :: undef :: undef :: undef :: undef :: undef :: undef :: []).toArray, defers := [] }) #[true, true, true, true, true, false, false, false, false, true, false, false] k2 rfl (by rfl) (#[.float .f32 0, .float .f32 0]) 44 (alloc_air _ _ _ _ _ _ _) (fun g => by rfl) (by rfl) (fun w6 g6 k6 hB6 hn6 => ?_) AllReadyH.nil
        refine ⟨k6.tail, ?_⟩
        refine wpAnyH_ready (rs := [5]) (by kernel_rfl) (by simp) ?_
        refine callK 5 { tmps := (.agg #[.float .f32 x0h, .float .f32 x0v] :: .agg #[.float .f32 x1h, .float .f32 x1v] :: .float .f32 x2 :: .pointer (some ⟨w.heap.size, 0, none⟩) :: .pointer (some ⟨w.heap.size + 1, 0, none⟩) :: undef :: .bool false :: .pointer (some ⟨a0, 0, none⟩) :: .int .i64 r1 :: .pointer (some ⟨g6, 0, none⟩) :: undef :: .tuple #[.agg #[.float .f32 r0h, .float .f32 r0v], .int .i64 r1] :: .agg (#[.float .f32 x0h, .float .f32 x0v]) :: .agg (#[.float .f32 x0h, .float .f32 x0v]) :: .agg (#[.float .f32 x1h, .float .f32 x1v]) :: .agg (#[.float .f32 x1h, .float .f32 x1v]) :: .float .f32 x2 :: .tuple #[.agg #[.float .f32 r0h, .float .f32 r0v], .int .i64 r1] :: .agg #[.float .f32 r0h, .float .f32 r0v] :: .int .i64 r1 :: undef :: .agg (#[.float .f32 x0h, .float .f32 x0v]) :: .agg (#[.float .f32 x0h, .float .f32 x0v]) :: .agg (#[.float .f32 x1h, .float .f32 x1v]) :: .agg (#[.float .f32 x1h, .float .f32 x1v]) :: .float .f32 x2 :: .tuple #[.agg #[.float .f32 r0h, .float .f32 r0v], .int .i64 r1] :: undef :: undef :: undef :: undef :: undef :: undef :: undef :: undef :: undef :: undef :: undef :: []).toArray, defers := [] } #[true, true, true, true, true, true, false, false, false, true, false, false] (.tuple #[.agg #[.float .f32 r0h, .float .f32 r0v], .int .i64 r1]) k6 rfl (by rfl) 88 #[.agg (#[.float .f32 x0h, .float .f32 x0v]), .agg (#[.float .f32 x1h, .float .f32 x1v]), .float .f32 x2] (run_iMixAir3 _ _ _ rfl _ _ rfl _ _ rfl _ _ _ _ _ _) (by rfl) (by rfl) (HI.out _) (fun w7 k7 => ?_) AllReadyH.nil
        refine ⟨k7.tail, ?_⟩
        refine take_val 6 { tmps := (.agg #[.float .f32 x0h, .float .f32 x0v] :: .agg #[.float .f32 x1h, .float .f32 x1v] :: .float .f32 x2 :: .pointer (some ⟨w.heap.size, 0, none⟩) :: .pointer (some ⟨w.heap.size + 1, 0, none⟩) :: undef :: .bool false :: .pointer (some ⟨a0, 0, none⟩) :: .int .i64 r1 :: .pointer (some ⟨g6, 0, none⟩) :: undef :: .tuple #[.agg #[.float .f32 r0h, .float .f32 r0v], .int .i64 r1] :: .agg (#[.float .f32 x0h, .float .f32 x0v]) :: .agg (#[.float .f32 x0h, .float .f32 x0v]) :: .agg (#[.float .f32 x1h, .float .f32 x1v]) :: .agg (#[.float .f32 x1h, .float .f32 x1v]) :: .float .f32 x2 :: .tuple #[.agg #[.float .f32 r0h, .float .f32 r0v], .int .i64 r1] :: .agg #[.float .f32 r0h, .float .f32 r0v] :: .int .i64 r1 :: .tuple #[.agg #[.float .f32 r0h, .float .f32 r0v], .int .i64 r1] :: .agg (#[.float .f32 x0h, .float .f32 x0v]) :: .agg (#[.float .f32 x0h, .float .f32 x0v]) :: .agg (#[.float .f32 x1h, .float .f32 x1v]) :: .agg (#[.float .f32 x1h, .float .f32 x1v]) :: .float .f32 x2 :: .tuple #[.agg #[.float .f32 r0h, .float .f32 r0v], .int .i64 r1] :: undef :: undef :: undef :: undef :: undef :: undef :: undef :: undef :: undef :: undef :: undef :: []).toArray, defers := [] } #[true, true, true, true, true, true, true, false, false, true, false, false] (.tuple #[.agg #[.float .f32 r0h, .float .f32 r0v], .int .i64 r1]) rfl (by rfl) (by kernel_rfl) (by kernel_rfl) (by kernel_rfl) (fun w => by rfl) (by rfl) (by rfl) (k7.tail) ?_
        refine take_val 7 { tmps := (.agg #[.float .f32 x0h, .float .f32 x0v] :: .agg #[.float .f32 x1h, .float .f32 x1v] :: .float .f32 x2 :: .pointer (some ⟨w.heap.size, 0, none⟩) :: .pointer (some ⟨w.heap.size + 1, 0, none⟩) :: undef :: .bool false :: .pointer (some ⟨a0, 0, none⟩) :: .int .i64 r1 :: .pointer (some ⟨g6, 0, none⟩) :: undef :: .tuple #[.agg #[.float .f32 r0h, .float .f32 r0v], .int .i64 r1] :: .agg (#[.float .f32 x0h, .float .f32 x0v]) :: .agg (#[.float .f32 x0h, .float .f32 x0v]) :: .agg (#[.float .f32 x1h, .float .f32 x1v]) :: .agg (#[.float .f32 x1h, .float .f32 x1v]) :: .float .f32 x2 :: .tuple #[.agg #[.float .f32 r0h, .float .f32 r0v], .int .i64 r1] :: .agg #[.float .f32 r0h, .float .f32 r0v] :: .int .i64 r1 :: .tuple #[.agg #[.float .f32 r0h, .float .f32 r0v], .int .i64 r1] :: .agg (#[.float .f32 x0h, .float .f32 x0v]) :: .agg (#[.float .f32 x0h, .float .f32 x0v]) :: .agg (#[.float .f32 x1h, .float .f32 x1v]) :: .agg (#[.float .f32 x1h, .float .f32 x1v]) :: .float .f32 x2 :: .tuple #[.agg #[.float .f32 r0h, .float .f32 r0v], .int .i64 r1] :: .agg #[.float .f32 r0h, .float .f32 r0v] :: undef :: undef :: undef :: undef :: undef :: undef :: undef :: undef :: undef :: undef :: []).toArray, defers := [] } #[true, true, true, true, true, true, true, true, false, true, false, false] (.agg #[.float .f32 r0h, .float .f32 r0v]) rfl (by rfl) (by kernel_rfl) (by kernel_rfl) (by kernel_rfl) (fun w => by rfl) (by rfl) (by rfl) (k7.tail) ?_
        refine take_val 8 { tmps := (.agg #[.float .f32 x0h, .float .f32 x0v] :: .agg #[.float .f32 x1h, .float .f32 x1v] :: .float .f32 x2 :: .pointer (some ⟨w.heap.size, 0, none⟩) :: .pointer (some ⟨w.heap.size + 1, 0, none⟩) :: undef :: .bool false :: .pointer (some ⟨a0, 0, none⟩) :: .int .i64 r1 :: .pointer (some ⟨g6, 0, none⟩) :: undef :: .tuple #[.agg #[.float .f32 r0h, .float .f32 r0v], .int .i64 r1] :: .agg (#[.float .f32 x0h, .float .f32 x0v]) :: .agg (#[.float .f32 x0h, .float .f32 x0v]) :: .agg (#[.float .f32 x1h, .float .f32 x1v]) :: .agg (#[.float .f32 x1h, .float .f32 x1v]) :: .float .f32 x2 :: .tuple #[.agg #[.float .f32 r0h, .float .f32 r0v], .int .i64 r1] :: .agg #[.float .f32 r0h, .float .f32 r0v] :: .int .i64 r1 :: .tuple #[.agg #[.float .f32 r0h, .float .f32 r0v], .int .i64 r1] :: .agg (#[.float .f32 x0h, .float .f32 x0v]) :: .agg (#[.float .f32 x0h, .float .f32 x0v]) :: .agg (#[.float .f32 x1h, .float .f32 x1v]) :: .agg (#[.float .f32 x1h, .float .f32 x1v]) :: .float .f32 x2 :: .tuple #[.agg #[.float .f32 r0h, .float .f32 r0v], .int .i64 r1] :: .agg #[.float .f32 r0h, .float .f32 r0v] :: .int .i64 r1 :: undef :: undef :: undef :: undef :: undef :: undef :: undef :: undef :: undef :: []).toArray, defers := [] } #[true, true, true, true, true, true, true, true, true, true, false, false] (.int .i64 r1) rfl (by rfl) (by kernel_rfl) (by kernel_rfl) (by kernel_rfl) (fun w => by rfl) (by rfl) (by rfl) (k7.tail) ?_
        refine wpAnyH_ready (rs := [10]) (by kernel_rfl) (by simp) ?_
        refine storeK 10 { tmps := (.agg #[.float .f32 x0h, .float .f32 x0v] :: .agg #[.float .f32 x1h, .float .f32 x1v] :: .float .f32 x2 :: .pointer (some ⟨w.heap.size, 0, none⟩) :: .pointer (some ⟨w.heap.size + 1, 0, none⟩) :: undef :: .bool false :: .pointer (some ⟨a0, 0, none⟩) :: .int .i64 r1 :: .pointer (some ⟨g6, 0, none⟩) :: undef :: .tuple #[.agg #[.float .f32 r0h, .float .f32 r0v], .int .i64 r1] :: .agg (#[.float .f32 x0h, .float .f32 x0v]) :: .agg (#[.float .f32 x0h, .float .f32 x0v]) :: .agg (#[.float .f32 x1h, .float .f32 x1v]) :: .agg (#[.float .f32 x1h, .float .f32 x1v]) :: .float .f32 x2 :: .tuple #[.agg #[.float .f32 r0h, .float .f32 r0v], .int .i64 r1] :: .agg #[.float .f32 r0h, .float .f32 r0v] :: .int .i64 r1 :: .tuple #[.agg #[.float .f32 r0h, .float .f32 r0v], .int .i64 r1] :: .agg (#[.float .f32 x0h, .float .f32 x0v]) :: .agg (#[.float .f32 x0h, .float .f32 x0v]) :: .agg (#[.float .f32 x1h, .float .f32 x1v]) :: .agg (#[.float .f32 x1h, .float .f32 x1v]) :: .float .f32 x2 :: .tuple #[.agg #[.float .f32 r0h, .float .f32 r0v], .int .i64 r1] :: .agg #[.float .f32 r0h, .float .f32 r0v] :: .int .i64 r1 :: undef :: undef :: undef :: undef :: undef :: undef :: undef :: undef :: undef :: []).toArray, defers := [] } #[true, true, true, true, true, true, true, true, true, true, true, false] k7 hB6 hn6 rfl (by rfl) 44 _ _ rfl (#[.float .f32 r0h, .float .f32 r0v]) (by rfl) (by rfl) (info_air) (by simp) (by simp [Value.oneCell']) (by rfl) (by rfl) (fun w8 k8 => ?_) AllReadyH.nil
        refine ⟨k8.tail, ?_⟩
        refine take_val 11 { tmps := (.agg #[.float .f32 x0h, .float .f32 x0v] :: .agg #[.float .f32 x1h, .float .f32 x1v] :: .float .f32 x2 :: .pointer (some ⟨w.heap.size, 0, none⟩) :: .pointer (some ⟨w.heap.size + 1, 0, none⟩) :: undef :: .bool false :: .pointer (some ⟨a0, 0, none⟩) :: .int .i64 r1 :: .pointer (some ⟨g6, 0, none⟩) :: .int .i64 r1 :: .tuple #[.agg #[.float .f32 r0h, .float .f32 r0v], .int .i64 r1] :: .agg (#[.float .f32 x0h, .float .f32 x0v]) :: .agg (#[.float .f32 x0h, .float .f32 x0v]) :: .agg (#[.float .f32 x1h, .float .f32 x1v]) :: .agg (#[.float .f32 x1h, .float .f32 x1v]) :: .float .f32 x2 :: .tuple #[.agg #[.float .f32 r0h, .float .f32 r0v], .int .i64 r1] :: .agg #[.float .f32 r0h, .float .f32 r0v] :: .int .i64 r1 :: .tuple #[.agg #[.float .f32 r0h, .float .f32 r0v], .int .i64 r1] :: .agg (#[.float .f32 x0h, .float .f32 x0v]) :: .agg (#[.float .f32 x0h, .float .f32 x0v]) :: .agg (#[.float .f32 x1h, .float .f32 x1v]) :: .agg (#[.float .f32 x1h, .float .f32 x1v]) :: .float .f32 x2 :: .tuple #[.agg #[.float .f32 r0h, .float .f32 r0v], .int .i64 r1] :: .agg #[.float .f32 r0h, .float .f32 r0v] :: .int .i64 r1 :: undef :: undef :: undef :: undef :: undef :: undef :: undef :: undef :: undef :: []).toArray, defers := [] } #[true, true, true, true, true, true, true, true, true, true, true, true] (.int .i64 r1) rfl (by rfl) (by kernel_rfl) (by kernel_rfl) (by kernel_rfl) (fun w => by rfl) (by rfl) (by rfl) (k8.tail) ?_
        exact wpAnyH_done (by kernel_rfl) (NoPanic.normal (key2 g6 _ (hid k8))) _
      refine allocK 9 (fun g9 => { tmps := (.agg #[.float .f32 x0h, .float .f32 x0v] :: .agg #[.float .f32 x1h, .float .f32 x1v] :: .float .f32 x2 :: .pointer (some ⟨w.heap.size, 0, none⟩) :: .pointer (some ⟨w.heap.size + 1, 0, none⟩) :: undef :: .bool false :: .pointer (some ⟨a0, 0, none⟩) :: .int .i64 r1 :: .pointer (some ⟨g9, 0, none⟩) :: undef :: .tuple #[.agg #[.float .f32 r0h, .float .f32 r0v], .int .i64 r1] :: .agg (#[.float .f32 x0h, .float .f32 x0v]) :: .agg (#[.float .f32 x0h, .float .f32 x0v]) :: .agg (#[.float .f32 x1h, .float .f32 x1v]) :: .agg (#[.float .f32 x1h, .float .f32 x1v]) :: .float .f32 x2 :: .tuple #[.agg #[.float .f32 r0h, .float .f32 r0v], .int .i64 r1] :: .agg #[.float .f32 r0h, .float .f32 r0v] :: .int .i64 r1 :: undef :: .agg (#[.float .f32 x0h, .float .f32 x0v]) :: .agg (#[.float .f32 x0h, .float .f32 x0v]) :: .agg (#[.float .f32 x1h, .float .f32 x1v]) :: undef :: .float .f32 x2 :: undef :: undef :: undef :: undef :: undef :: undef :: undef :: undef :: undef :: undef :: undef :: undef :: []).toArray, defers := [] }) #[true, true, true, false, true, false, false, false, false, true, false, false] k1 rfl (by rfl) (#[.float .f32 0, .float .f32 0]) 44 (alloc_air _ _ _ _ _ _ _) (fun g => by rfl) (by rfl) (fun w9 g9 k9 hB9 hn9 => ?_) AllReadyH.nil
      refine ⟨k9.tail, ?_⟩
      refine wpAnyH_ready (rs := [3]) (by kernel_rfl) (by simp) ?_
      refine callK 3 { tmps := (.agg #[.float .f32 x0h, .float .f32 x0v] :: .agg #[.float .f32 x1h, .float .f32 x1v] :: .float .f32 x2 :: .pointer (some ⟨w.heap.size, 0, none⟩) :: .pointer (some ⟨w.heap.size + 1, 0, none⟩) :: undef :: .bool false :: .pointer (some ⟨a0, 0, none⟩) :: .int .i64 r1 :: .pointer (some ⟨g9, 0, none⟩) :: undef :: .tuple #[.agg #[.float .f32 r0h, .float .f32 r0v], .int .i64 r1] :: .agg (#[.float .f32 x0h, .float .f32 x0v]) :: .agg (#[.float .f32 x0h, .float .f32 x0v]) :: .agg (#[.float .f32 x1h, .float .f32 x1v]) :: .agg (#[.float .f32 x1h, .float .f32 x1v]) :: .float .f32 x2 :: .tuple #[.agg #[.float .f32 r0h, .float .f32 r0v], .int .i64 r1] :: .agg #[.float .f32 r0h, .float .f32 r0v] :: .int .i64 r1 :: undef :: .agg (#[.float .f32 x0h, .float .f32 x0v]) :: .agg (#[.float .f32 x0h, .float .f32 x0v]) :: .agg (#[.float .f32 x1h, .float .f32 x1v]) :: .agg (#[.float .f32 x1h, .float .f32 x1v]) :: .float .f32 x2 :: undef :: undef :: undef :: undef :: undef :: undef :: undef :: undef :: undef :: undef :: undef :: undef :: []).toArray, defers := [] } #[true, true, true, true, true, false, false, false, false, true, false, false] (.agg (#[.float .f32 x1h, .float .f32 x1v])) k9 rfl (by rfl) 75 #[.agg (#[.float .f32 x1h, .float .f32 x1v])] (run_toAir1 _ _ _ rfl _ _ _ _ _ _) (by rfl) (by rfl) (toAir _ _ _) (fun w10 k10 => ?_) AllReadyH.nil
      refine ⟨k10.tail, ?_⟩
      refine wpAnyH_ready (rs := [5]) (by kernel_rfl) (by simp) ?_
      refine callK 5 { tmps := (.agg #[.float .f32 x0h, .float .f32 x0v] :: .agg #[.float .f32 x1h, .float .f32 x1v] :: .float .f32 x2 :: .pointer (some ⟨w.heap.size, 0, none⟩) :: .pointer (some ⟨w.heap.size + 1, 0, none⟩) :: undef :: .bool false :: .pointer (some ⟨a0, 0, none⟩) :: .int .i64 r1 :: .pointer (some ⟨g9, 0, none⟩) :: undef :: .tuple #[.agg #[.float .f32 r0h, .float .f32 r0v], .int .i64 r1] :: .agg (#[.float .f32 x0h, .float .f32 x0v]) :: .agg (#[.float .f32 x0h, .float .f32 x0v]) :: .agg (#[.float .f32 x1h, .float .f32 x1v]) :: .agg (#[.float .f32 x1h, .float .f32 x1v]) :: .float .f32 x2 :: .tuple #[.agg #[.float .f32 r0h, .float .f32 r0v], .int .i64 r1] :: .agg #[.float .f32 r0h, .float .f32 r0v] :: .int .i64 r1 :: undef :: .agg (#[.float .f32 x0h, .float .f32 x0v]) :: .agg (#[.float .f32 x0h, .float .f32 x0v]) :: .agg (#[.float .f32 x1h, .float .f32 x1v]) :: .agg (#[.float .f32 x1h, .float .f32 x1v]) :: .float .f32 x2 :: .tuple #[.agg #[.float .f32 r0h, .float .f32 r0v], .int .i64 r1] :: undef :: undef :: undef :: undef :: undef :: undef :: undef :: undef :: undef :: undef :: undef :: []).toArray, defers := [] } #[true, true, true, true, true, true, false, false, false, true, false, false] (.tuple #[.agg #[.float .f32 r0h, .float .f32 r0v], .int .i64 r1]) k10 rfl (by rfl) 88 #[.agg (#[.float .f32 x0h, .float .f32 x0v]), .agg (#[.float .f32 x1h, .float .f32 x1v]), .float .f32 x2] (run_iMixAir3 _ _ _ rfl _ _ rfl _ _ rfl _ _ _ _ _ _) (by rfl) (by rfl) (HI.out _) (fun w11 k11 => ?_) AllReadyH.nil
      refine ⟨k11.tail, ?_⟩
      refine take_val 6 { tmps := (.agg #[.float .f32 x0h, .float .f32 x0v] :: .agg #[.float .f32 x1h, .float .f32 x1v] :: .float .f32 x2 :: .pointer (some ⟨w.heap.size, 0, none⟩) :: .pointer (some ⟨w.heap.size + 1, 0, none⟩) :: undef :: .bool false :: .pointer (some ⟨a0, 0, none⟩) :: .int .i64 r1 :: .pointer (some ⟨g9, 0, none⟩) :: undef :: .tuple #[.agg #[.float .f32 r0h, .float .f32 r0v], .int .i64 r1] :: .agg (#[.float .f32 x0h, .float .f32 x0v]) :: .agg (#[.float .f32 x0h, .float .f32 x0v]) :: .agg (#[.float .f32 x1h, .float .f32 x1v]) :: .agg (#[.float .f32 x1h, .float .f32 x1v]) :: .float .f32 x2 :: .tuple #[.agg #[.float .f32 r0h, .float .f32 r0v], .int .i64 r1] :: .agg #[.float .f32 r0h, .float .f32 r0v] :: .int .i64 r1 :: .tuple #[.agg #[.float .f32 r0h, .float .f32 r0v], .int .i64 r1] :: .agg (#[.float .f32 x0h, .float .f32 x0v]) :: .agg (#[.float .f32 x0h, .float .f32 x0v]) :: .agg (#[.float .f32 x1h, .float .f32 x1v]) :: .agg (#[.float .f32 x1h, .float .f32 x1v]) :: .float .f32 x2 :: .tuple #[.agg #[.float .f32 r0h, .float .f32 r0v], .int .i64 r1] :: undef :: undef :: undef :: undef :: undef :: undef :: undef :: undef :: undef :: undef :: undef :: []).toArray, defers := [] } #[true, true, true, true, true, true, true, false, false, true, false, false] (.tuple #[.agg #[.float .f32 r0h, .float .f32 r0v], .int .i64 r1]) rfl (by rfl) (by kernel_rfl) (by kernel_rfl) (by kernel_rfl) (fun w => by rfl) (by rfl) (by rfl) (k11.tail) ?_
      refine take_val 7 { tmps := (.agg #[.float .f32 x0h, .float .f32 x0v] :: .agg #[.float .f32 x1h, .float .f32 x1v] :: .float .f32 x2 :: .pointer (some ⟨w.heap.size, 0, none⟩) :: .pointer (some ⟨w.heap.size + 1, 0, none⟩) :: undef :: .bool false :: .pointer (some ⟨a0, 0, none⟩) :: .int .i64 r1 :: .pointer (some ⟨g9, 0, none⟩) :: undef :: .tuple #[.agg #[.float .f32 r0h, .float .f32 r0v], .int .i64 r1] :: .agg (#[.float .f32 x0h, .float .f32 x0v]) :: .agg (#[.float .f32 x0h, .float .f32 x0v]) :: .agg (#[.float .f32 x1h, .float .f32 x1v]) :: .agg (#[.float .f32 x1h, .float .f32 x1v]) :: .float .f32 x2 :: .tuple #[.agg #[.float .f32 r0h, .float .f32 r0v], .int .i64 r1] :: .agg #[.float .f32 r0h, .float .f32 r0v] :: .int .i64 r1 :: .tuple #[.agg #[.float .f32 r0h, .float .f32 r0v], .int .i64 r1] :: .agg (#[.float .f32 x0h, .float .f32 x0v]) :: .agg (#[.float .f32 x0h, .float .f32 x0v]) :: .agg (#[.float .f32 x1h, .float .f32 x1v]) :: .agg (#[.float .f32 x1h, .float .f32 x1v]) :: .float .f32 x2 :: .tuple #[.agg #[.float .f32 r0h, .float .f32 r0v], .int .i64 r1] :: .agg #[.float .f32 r0h, .float .f32 r0v] :: undef :: undef :: undef :: undef :: undef :: undef :: undef :: undef :: undef :: undef :: []).toArray, defers := [] } #[true, true, true, true, true, true, true, true, false, true, false, false] (.agg #[.float .f32 r0h, .float .f32 r0v]) rfl (by rfl) (by kernel_rfl) (by kernel_rfl) (by kernel_rfl) (fun w => by rfl) (by rfl) (by rfl) (k11.tail) ?_
      refine take_val 8 { tmps := (.agg #[.float .f32 x0h, .float .f32 x0v] :: .agg #[.float .f32 x1h, .float .f32 x1v] :: .float .f32 x2 :: .pointer (some ⟨w.heap.size, 0, none⟩) :: .pointer (some ⟨w.heap.size + 1, 0, none⟩) :: undef :: .bool false :: .pointer (some ⟨a0, 0, none⟩) :: .int .i64 r1 :: .pointer (some ⟨g9, 0, none⟩) :: undef :: .tuple #[.agg #[.float .f32 r0h, .float .f32 r0v], .int .i64 r1] :: .agg (#[.float .f32 x0h, .float .f32 x0v]) :: .agg (#[.float .f32 x0h, .float .f32 x0v]) :: .agg (#[.float .f32 x1h, .float .f32 x1v]) :: .agg (#[.float .f32 x1h, .float .f32 x1v]) :: .float .f32 x2 :: .tuple #[.agg #[.float .f32 r0h, .float .f32 r0v], .int .i64 r1] :: .agg #[.float .f32 r0h, .float .f32 r0v] :: .int .i64 r1 :: .tuple #[.agg #[.float .f32 r0h, .float .f32 r0v], .int .i64 r1] :: .agg (#[.float .f32 x0h, .float .f32 x0v]) :: .agg (#[.float .f32 x0h, .float .f32 x0v]) :: .agg (#[.float .f32 x1h, .float .f32 x1v]) :: .agg (#[.float .f32 x1h, .float .f32 x1v]) :: .float .f32 x2 :: .tuple #[.agg #[.float .f32 r0h, .float .f32 r0v], .int .i64 r1] :: .agg #[.float .f32 r0h, .float .f32 r0v] :: .int .i64 r1 :: undef :: undef :: undef :: undef :: undef :: undef :: undef :: undef :: undef :: []).toArray, defers := [] } #[true, true, true, true, true, true, true, true, true, true, false, false] (.int .i64 r1) rfl (by rfl) (by kernel_rfl) (by kernel_rfl) (by kernel_rfl) (fun w => by rfl) (by rfl) (by rfl) (k11.tail) ?_
      refine wpAnyH_ready (rs := [10]) (by kernel_rfl) (by simp) ?_
      refine storeK 10 { tmps := (.agg #[.float .f32 x0h, .float .f32 x0v] :: .agg #[.float .f32 x1h, .float .f32 x1v] :: .float .f32 x2 :: .pointer (some ⟨w.heap.size, 0, none⟩) :: .pointer (some ⟨w.heap.size + 1, 0, none⟩) :: undef :: .bool false :: .pointer (some ⟨a0, 0, none⟩) :: .int .i64 r1 :: .pointer (some ⟨g9, 0, none⟩) :: undef :: .tuple #[.agg #[.float .f32 r0h, .float .f32 r0v], .int .i64 r1] :: .agg (#[.float .f32 x0h, .float .f32 x0v]) :: .agg (#[.float .f32 x0h, .float .f32 x0v]) :: .agg (#[.float .f32 x1h, .float .f32 x1v]) :: .agg (#[.float .f32 x1h, .float .f32 x1v]) :: .float .f32 x2 :: .tuple #[.agg #[.float .f32 r0h, .float .f32 r0v], .int .i64 r1] :: .agg #[.float .f32 r0h, .float .f32 r0v] :: .int .i64 r1 :: .tuple #[.agg #[.float .f32 r0h, .float .f32 r0v], .int .i64 r1] :: .agg (#[.float .f32 x0h, .float .f32 x0v]) :: .agg (#[.float .f32 x0h, .float .f32 x0v]) :: .agg (#[.float .f32 x1h, .float .f32 x1v]) :: .agg (#[.float .f32 x1h, .float .f32 x1v]) :: .float .f32 x2 :: .tuple #[.agg #[.float .f32 r0h, .float .f32 r0v], .int .i64 r1] :: .agg #[.float .f32 r0h, .float .f32 r0v] :: .int .i64 r1 :: undef :: undef :: undef :: undef :: undef :: undef :: undef :: undef :: undef :: []).toArray, defers := [] } #[true, true, true, true, true, true, true, true, true, true, true, false] k11 hB9 hn9 rfl (by rfl) 44 _ _ rfl (#[.float .f32 r0h, .float .f32 r0v]) (by rfl) (by rfl) (info_air) (by simp) (by simp [Value.oneCell']) (by rfl) (by rfl) (fun w12 k12 => ?_) AllReadyH.nil
      refine ⟨k12.tail, ?_⟩
      refine take_val 11 { tmps := (.agg #[.float .f32 x0h, .float .f32 x0v] :: .agg #[.float .f32 x1h, .float .f32 x1v] :: .float .f32 x2 :: .pointer (some ⟨w.heap.size, 0, none⟩) :: .pointer (some ⟨w.heap.size + 1, 0, none⟩) :: undef :: .bool false :: .pointer (some ⟨a0, 0, none⟩) :: .int .i64 r1 :: .pointer (some ⟨g9, 0, none⟩) :: .int .i64 r1 :: .tuple #[.agg #[.float .f32 r0h, .float .f32 r0v], .int .i64 r1] :: .agg (#[.float .f32 x0h, .float .f32 x0v]) :: .agg (#[.float .f32 x0h, .float .f32 x0v]) :: .agg (#[.float .f32 x1h, .float .f32 x1v]) :: .agg (#[.float .f32 x1h, .float .f32 x1v]) :: .float .f32 x2 :: .tuple #[.agg #[.float .f32 r0h, .float .f32 r0v], .int .i64 r1] :: .agg #[.float .f32 r0h, .float .f32 r0v] :: .int .i64 r1 :: .tuple #[.agg #[.float .f32 r0h, .float .f32 r0v], .int .i64 r1] :: .agg (#[.float .f32 x0h, .float .f32 x0v]) :: .agg (#[.float .f32 x0h, .float .f32 x0v]) :: .agg (#[.float .f32 x1h, .float .f32 x1v]) :: .agg (#[.float .f32 x1h, .float .f32 x1v]) :: .float .f32 x2 :: .tuple #[.agg #[.float .f32 r0h, .float .f32 r0v], .int .i64 r1] :: .agg #[.float .f32 r0h, .float .f32 r0v] :: .int .i64 r1 :: undef :: undef :: undef :: undef :: undef :: undef :: undef :: undef :: undef :: []).toArray, defers := [] } #[true, true, true, true, true, true, true, true, true, true, true, true] (.int .i64 r1) rfl (by rfl) (by kernel_rfl) (by kernel_rfl) (by kernel_rfl) (fun w => by rfl) (by rfl) (by rfl) (k12.tail) ?_
      exact wpAnyH_done (by kernel_rfl) (NoPanic.normal (key2 g9 _ (hid k12))) _
    refine allocK 9 (fun g13 => { tmps := (.agg #[.float .f32 x0h, .float .f32 x0v] :: .agg #[.float .f32 x1h, .float .f32 x1v] :: .float .f32 x2 :: .pointer (some ⟨w.heap.size, 0, none⟩) :: .pointer (some ⟨w.heap.size + 1, 0, none⟩) :: undef :: .bool false :: .pointer (some ⟨a0, 0, none⟩) :: .int .i64 r1 :: .pointer (some ⟨g13, 0, none⟩) :: undef :: .tuple #[.agg #[.float .f32 r0h, .float .f32 r0v], .int .i64 r1] :: .agg (#[.float .f32 x0h, .float .f32 x0v]) :: .agg (#[.float .f32 x0h, .float .f32 x0v]) :: .agg (#[.float .f32 x1h, .float .f32 x1v]) :: .agg (#[.float .f32 x1h, .float .f32 x1v]) :: .float .f32 x2 :: .tuple #[.agg #[.float .f32 r0h, .float .f32 r0v], .int .i64 r1] :: .agg #[.float .f32 r0h, .float .f32 r0v] :: .int .i64 r1 :: undef :: .agg (#[.float .f32 x0h, .float .f32 x0v]) :: undef :: .agg (#[.float .f32 x1h, .float .f32 x1v]) :: undef :: .float .f32 x2 :: undef :: undef :: undef :: undef :: undef :: undef :: undef :: undef :: undef :: undef :: undef :: undef :: []).toArray, defers := [] }) #[true, false, true, false, true, false, false, false, false, true, false, false] kd rfl (by rfl) (#[.float .f32 0, .float .f32 0]) 44 (alloc_air _ _ _ _ _ _ _) (fun g => by rfl) (by rfl) (fun w13 g13 k13 hB13 hn13 => ?_) AllReadyH.nil
    refine ⟨k13.tail, ?_⟩
    refine wpAnyH_ready (rs := [1]) (by kernel_rfl) (by simp) ?_
    refine callK 1 { tmps := (.agg #[.float .f32 x0h, .float .f32 x0v] :: .agg #[.float .f32 x1h, .float .f32 x1v] :: .float .f32 x2 :: .pointer (some ⟨w.heap.size, 0, none⟩) :: .pointer (some ⟨w.heap.size + 1, 0, none⟩) :: undef :: .bool false :: .pointer (some ⟨a0, 0, none⟩) :: .int .i64 r1 :: .pointer (some ⟨g13, 0, none⟩) :: undef :: .tuple #[.agg #[.float .f32 r0h, .float .f32 r0v], .int .i64 r1] :: .agg (#[.float .f32 x0h, .float .f32 x0v]) :: .agg (#[.float .f32 x0h, .float .f32 x0v]) :: .agg (#[.float .f32 x1h, .float .f32 x1v]) :: .agg (#[.float .f32 x1h, .float .f32 x1v]) :: .float .f32 x2 :: .tuple #[.agg #[.float .f32 r0h, .float .f32 r0v], .int .i64 r1] :: .agg #[.float .f32 r0h, .float .f32 r0v] :: .int .i64 r1 :: undef :: .agg (#[.float .f32 x0h, .float .f32 x0v]) :: .agg (#[.float .f32 x0h, .float .f32 x0v]) :: .agg (#[.float .f32 x1h, .float .f32 x1v]) :: undef :: .float .f32 x2 :: undef :: undef :: undef :: undef :: undef :: undef :: undef :: undef :: undef :: undef :: undef :: undef :: []).toArray, defers := [] } #[true, true, true, false, true, false, false, false, false, true, false, false] (.agg (#[.float .f32 x0h, .float .f32 x0v])) k13 rfl (by rfl) 75 #[.agg (#[.float .f32 x0h, .float .f32 x0v])] (run_toAir1 _ _ _ rfl _ _ _ _ _ _) (by rfl) (by rfl) (toAir _ _ _) (fun w14 k14 => ?_) AllReadyH.nil
    refine ⟨k14.tail, ?_⟩
    refine wpAnyH_ready (rs := [3]) (by kernel_rfl) (by simp) ?_
    refine callK 3 { tmps := (.agg #[.float .f32 x0h, .float .f32 x0v] :: .agg #[.float .f32 x1h, .float .f32 x1v] :: .float .f32 x2 :: .pointer (some ⟨w.heap.size, 0, none⟩) :: .pointer (some ⟨w.heap.size + 1, 0, none⟩) :: undef :: .bool false :: .pointer (some ⟨a0, 0, none⟩) :: .int .i64 r1 :: .pointer (some ⟨g13, 0, none⟩) :: undef :: .tuple #[.agg #[.float .f32 r0h, .float .f32 r0v], .int .i64 r1] :: .agg (#[.float .f32 x0h, .float .f32 x0v]) :: .agg (#[.float .f32 x0h, .float .f32 x0v]) :: .agg (#[.float .f32 x1h, .float .f32 x1v]) :: .agg (#[.float .f32 x1h, .float .f32 x1v]) :: .float .f32 x2 :: .tuple #[.agg #[.float .f32 r0h, .float .f32 r0v], .int .i64 r1] :: .agg #[.float .f32 r0h, .float .f32 r0v] :: .int .i64 r1 :: undef :: .agg (#[.float .f32 x0h, .float .f32 x0v]) :: .agg (#[.float .f32 x0h, .float .f32 x0v]) :: .agg (#[.float .f32 x1h, .float .f32 x1v]) :: .agg (#[.float .f32 x1h, .float .f32 x1v]) :: .float .f32 x2 :: undef :: undef :: undef :: undef :: undef :: undef :: undef :: undef :: undef :: undef :: undef :: undef :: []).toArray, defers := [] } #[true, true, true, true, true, false, false, false, false, true, false, false] (.agg (#[.float .f32 x1h, .float .f32 x1v])) k14 rfl (by rfl) 75 #[.agg (#[.float .f32 x1h, .float .f32 x1v])] (run_toAir1 _ _ _ rfl _ _ _ _ _ _) (by rfl) (by rfl) (toAir _ _ _) (fun w15 k15 => ?_) AllReadyH.nil
    refine ⟨k15.tail, ?_⟩
    refine wpAnyH_ready (rs := [5]) (by kernel_rfl) (by simp) ?_
    refine callK 5 { tmps := (.agg #[.float .f32 x0h, .float .f32 x0v] :: .agg #[.float .f32 x1h, .float .f32 x1v] :: .float .f32 x2 :: .pointer (some ⟨w.heap.size, 0, none⟩) :: .pointer (some ⟨w.heap.size + 1, 0, none⟩) :: undef :: .bool false :: .pointer (some ⟨a0, 0, none⟩) :: .int .i64 r1 :: .pointer (some ⟨g13, 0, none⟩) :: undef :: .tuple #[.agg #[.float .f32 r0h, .float .f32 r0v], .int .i64 r1] :: .agg (#[.float .f32 x0h, .float .f32 x0v]) :: .agg (#[.float .f32 x0h, .float .f32 x0v]) :: .agg (#[.float .f32 x1h, .float .f32 x1v]) :: .agg (#[.float .f32 x1h, .float .f32 x1v]) :: .float .f32 x2 :: .tuple #[.agg #[.float .f32 r0h, .float .f32 r0v], .int .i64 r1] :: .agg #[.float .f32 r0h, .float .f32 r0v] :: .int .i64 r1 :: undef :: .agg (#[.float .f32 x0h, .float .f32 x0v]) :: .agg (#[.float .f32 x0h, .float .f32 x0v]) :: .agg (#[.float .f32 x1h, .float .f32 x1v]) :: .agg (#[.float .f32 x1h, .float .f32 x1v]) :: .float .f32 x2 :: .tuple #[.agg #[.float .f32 r0h, .float .f32 r0v], .int .i64 r1] :: undef :: undef :: undef :: undef :: undef :: undef :: undef :: undef :: undef :: undef :: undef :: []).toArray, defers := [] } #[true, true, true, true, true, true, false, false, false, true, false, false] (.tuple #[.agg #[.float .f32 r0h, .float .f32 r0v], .int .i64 r1]) k15 rfl (by rfl) 88 #[.agg (#[.float .f32 x0h, .float .f32 x0v]), .agg (#[.float .f32 x1h, .float .f32 x1v]), .float .f32 x2] (run_iMixAir3 _ _ _ rfl _ _ rfl _ _ rfl _ _ _ _ _ _) (by rfl) (by rfl) (HI.out _) (fun w16 k16 => ?_) AllReadyH.nil
    refine ⟨k16.tail, ?_⟩
    refine take_val 6 { tmps := (.agg #[.float .f32 x0h, .float .f32 x0v] :: .agg #[.float .f32 x1h, .float .f32 x1v] :: .float .f32 x2 :: .pointer (some ⟨w.heap.size, 0, none⟩) :: .pointer (some ⟨w.heap.size + 1, 0, none⟩) :: undef :: .bool false :: .pointer (some ⟨a0, 0, none⟩) :: .int .i64 r1 :: .pointer (some ⟨g13, 0, none⟩) :: undef :: .tuple #[.agg #[.float .f32 r0h, .float .f32 r0v], .int .i64 r1] :: .agg (#[.float .f32 x0h, .float .f32 x0v]) :: .agg (#[.float .f32 x0h, .float .f32 x0v]) :: .agg (#[.float .f32 x1h, .float .f32 x1v]) :: .agg (#[.float .f32 x1h, .float .f32 x1v]) :: .float .f32 x2 :: .tuple #[.agg #[.float .f32 r0h, .float .f32 r0v], .int .i64 r1] :: .agg #[.float .f32 r0h, .float .f32 r0v] :: .int .i64 r1 :: .tuple #[.agg #[.float .f32 r0h, .float .f32 r0v], .int .i64 r1] :: .agg (#[.float .f32 x0h, .float .f32 x0v]) :: .agg (#[.float .f32 x0h, .float .f32 x0v]) :: .agg (#[.float .f32 x1h, .float .f32 x1v]) :: .agg (#[.float .f32 x1h, .float .f32 x1v]) :: .float .f32 x2 :: .tuple #[.agg #[.float .f32 r0h, .float .f32 r0v], .int .i64 r1] :: undef :: undef :: undef :: undef :: undef :: undef :: undef :: undef :: undef :: undef :: undef :: []).toArray, defers := [] } #[true, true, true, true, true, true, true, false, false, true, false, false] (.tuple #[.agg #[.float .f32 r0h, .float .f32 r0v], .int .i64 r1]) rfl (by rfl) (by kernel_rfl) (by kernel_rfl) (by kernel_rfl) (fun w => by rfl) (by rfl) (by rfl) (k16.tail) ?_
    refine take_val 7 { tmps := (.agg #[.float .f32 x0h, .float .f32 x0v] :: .agg #[.float .f32 x1h, .float .f32 x1v] :: .float .f32 x2 :: .pointer (some ⟨w.heap.size, 0, none⟩) :: .pointer (some ⟨w.heap.size + 1, 0, none⟩) :: undef :: .bool false :: .pointer (some ⟨a0, 0, none⟩) :: .int .i64 r1 :: .pointer (some ⟨g13, 0, none⟩) :: undef :: .tuple #[.agg #[.float .f32 r0h, .float .f32 r0v], .int .i64 r1] :: .agg (#[.float .f32 x0h, .float .f32 x0v]) :: .agg (#[.float .f32 x0h, .float .f32 x0v]) :: .agg (#[.float .f32 x1h, .float .f32 x1v]) :: .agg (#[.float .f32 x1h, .float .f32 x1v]) :: .float .f32 x2 :: .tuple #[.agg #[.float .f32 r0h, .float .f32 r0v], .int .i64 r1] :: .agg #[.float .f32 r0h, .float .f32 r0v] :: .int .i64 r1 :: .tuple #[.agg #[.float .f32 r0h, .float .f32 r0v], .int .i64 r1] :: .agg (#[.float .f32 x0h, .float .f32 x0v]) :: .agg (#[.float .f32 x0h, .float .f32 x0v]) :: .agg (#[.float .f32 x1h, .float .f32 x1v]) :: .agg (#[.float .f32 x1h, .float .f32 x1v]) :: .float .f32 x2 :: .tuple #[.agg #[.float .f32 r0h, .float .f32 r0v], .int .i64 r1] :: .agg #[.float .f32 r0h, .float .f32 r0v] :: undef :: undef :: undef :: undef :: undef :: undef :: undef :: undef :: undef :: undef :: []).toArray, defers := [] } #[true, true, true, true, true, true, true, true, false, true, false, false] (.agg #[.float .f32 r0h, .float .f32 r0v]) rfl (by rfl) (by kernel_rfl) (by kernel_rfl) (by kernel_rfl) (fun w => by rfl) (by rfl) (by rfl) (k16.tail) ?_
    refine take_val 8 { tmps := (.agg #[.float .f32 x0h, .float .f32 x0v] :: .agg #[.float .f32 x1h, .float .f32 x1v] :: .float .f32 x2 :: .pointer (some ⟨w.heap.size, 0, none⟩) :: .pointer (some ⟨w.heap.size + 1, 0, none⟩) :: undef :: .bool false :: .pointer (some ⟨a0, 0, none⟩) :: .int .i64 r1 :: .pointer (some ⟨g13, 0, none⟩) :: undef :: .tuple #[.agg #[.float .f32 r0h, .float .f32 r0v], .int .i64 r1] :: .agg (#[.float .f32 x0h, .float .f32 x0v]) :: .agg (#[.float .f32 x0h, .float .f32 x0v]) :: .agg (#[.float .f32 x1h, .float .f32 x1v]) :: .agg (#[.float .f32 x1h, .float .f32 x1v]) :: .float .f32 x2 :: .tuple #[.agg #[.float .f32 r0h, .float .f32 r0v], .int .i64 r1] :: .agg #[.float .f32 r0h, .float .f32 r0v] :: .int .i64 r1 :: .tuple #[.agg #[.float .f32 r0h, .float .f32 r0v], .int .i64 r1] :: .agg (#[.float .f32 x0h, .float .f32 x0v]) :: .agg (#[.float .f32 x0h, .float .f32 x0v]) :: .agg (#[.float .f32 x1h, .float .f32 x1v]) :: .agg (#[.float .f32 x1h, .float .f32 x1v]) :: .float .f32 x2 :: .tuple #[.agg #[.float .f32 r0h, .float .f32 r0v], .int .i64 r1] :: .agg #[.float .f32 r0h, .float .f32 r0v] :: .int .i64 r1 :: undef :: undef :: undef :: undef :: undef :: undef :: undef :: undef :: undef :: []).toArray, defers := [] } #[true, true, true, true, true, true, true, true, true, true, false, false] (.int .i64 r1) rfl (by rfl) (by kernel_rfl) (by kernel_rfl) (by kernel_rfl) (fun w => by rfl) (by rfl) (by rfl) (k16.tail) ?_
    refine wpAnyH_ready (rs := [10]) (by kernel_rfl) (by simp) ?_
    refine storeK 10 { tmps := (.agg #[.float .f32 x0h, .float .f32 x0v] :: .agg #[.float .f32 x1h, .float .f32 x1v] :: .float .f32 x2 :: .pointer (some ⟨w.heap.size, 0, none⟩) :: .pointer (some ⟨w.heap.size + 1, 0, none⟩) :: undef :: .bool false :: .pointer (some ⟨a0, 0, none⟩) :: .int .i64 r1 :: .pointer (some ⟨g13, 0, none⟩) :: undef :: .tuple #[.agg #[.float .f32 r0h, .float .f32 r0v], .int .i64 r1] :: .agg (#[.float .f32 x0h, .float .f32 x0v]) :: .agg (#[.float .f32 x0h, .float .f32 x0v]) :: .agg (#[.float .f32 x1h, .float .f32 x1v]) :: .agg (#[.float .f32 x1h, .float .f32 x1v]) :: .float .f32 x2 :: .tuple #[.agg #[.float .f32 r0h, .float .f32 r0v], .int .i64 r1] :: .agg #[.float .f32 r0h, .float .f32 r0v] :: .int .i64 r1 :: .tuple #[.agg #[.float .f32 r0h, .float .f32 r0v], .int .i64 r1] :: .agg (#[.float .f32 x0h, .float .f32 x0v]) :: .agg (#[.float .f32 x0h, .float .f32 x0v]) :: .agg (#[.float .f32 x1h, .float .f32 x1v]) :: .agg (#[.float .f32 x1h, .float .f32 x1v]) :: .float .f32 x2 :: .tuple #[.agg #[.float .f32 r0h, .float .f32 r0v], .int .i64 r1] :: .agg #[.float .f32 r0h, .float .f32 r0v] :: .int .i64 r1 :: undef :: undef :: undef :: undef :: undef :: undef :: undef :: undef :: undef :: []).toArray, defers := [] } #[true, true, true, true, true, true, true, true, true, true, true, false] k16 hB13 hn13 rfl (by rfl) 44 _ _ rfl (#[.float .f32 r0h, .float .f32 r0v]) (by rfl) (by rfl) (info_air) (by simp) (by simp [Value.oneCell']) (by rfl) (by rfl) (fun w17 k17 => ?_) AllReadyH.nil
    refine ⟨k17.tail, ?_⟩
    refine take_val 11 { tmps := (.agg #[.float .f32 x0h, .float .f32 x0v] :: .agg #[.float .f32 x1h, .float .f32 x1v] :: .float .f32 x2 :: .pointer (some ⟨w.heap.size, 0, none⟩) :: .pointer (some ⟨w.heap.size + 1, 0, none⟩) :: undef :: .bool false :: .pointer (some ⟨a0, 0, none⟩) :: .int .i64 r1 :: .pointer (some ⟨g13, 0, none⟩) :: .int .i64 r1 :: .tuple #[.agg #[.float .f32 r0h, .float .f32 r0v], .int .i64 r1] :: .agg (#[.float .f32 x0h, .float .f32 x0v]) :: .agg (#[.float .f32 x0h, .float .f32 x0v]) :: .agg (#[.float .f32 x1h, .float .f32 x1v]) :: .agg (#[.float .f32 x1h, .float .f32 x1v]) :: .float .f32 x2 :: .tuple #[.agg #[.float .f32 r0h, .float .f32 r0v], .int .i64 r1] :: .agg #[.float .f32 r0h, .float .f32 r0v] :: .int .i64 r1 :: .tuple #[.agg #[.float .f32 r0h, .float .f32 r0v], .int .i64 r1] :: .agg (#[.float .f32 x0h, .float .f32 x0v]) :: .agg (#[.float .f32 x0h, .float .f32 x0v]) :: .agg (#[.float .f32 x1h, .float .f32 x1v]) :: .agg (#[.float .f32 x1h, .float .f32 x1v]) :: .float .f32 x2 :: .tuple #[.agg #[.float .f32 r0h, .float .f32 r0v], .int .i64 r1] :: .agg #[.float .f32 r0h, .float .f32 r0v] :: .int .i64 r1 :: undef :: undef :: undef :: undef :: undef :: undef :: undef :: undef :: undef :: []).toArray, defers := [] } #[true, true, true, true, true, true, true, true, true, true, true, true] (.int .i64 r1) rfl (by rfl) (by kernel_rfl) (by kernel_rfl) (by kernel_rfl) (fun w => by rfl) (by rfl) (by rfl) (k17.tail) ?_
    exact wpAnyH_done (by kernel_rfl) (NoPanic.normal (key2 g13 _ (hid k17))) _
  refine region_kept (w0 := w) (l := [(w.heap.size, #[.float .f32 x0h, .float .f32 x0v], 70), (w.heap.size + 1, #[.float .f32 x1h, .float .f32 x1v], 70)]) 12 #[false, false, false, false, false, false, false, false, false, false, false, false] (by kernel_rfl) rfl rfl ?_
  have kd := k0.out.drew
  clear k0
  generalize ((w.alloc (.cells (#[.float .f32 x0h, .float .f32 x0v]) 70)).alloc (.cells (#[.float .f32 x1h, .float .f32 x1v]) 70)).drew = wd at kd ⊢
  refine take_load 0 { tmps := (.agg #[.float .f32 x0h, .float .f32 x0v] :: .agg #[.float .f32 x1h, .float .f32 x1v] :: .float .f32 x2 :: .pointer (some ⟨w.heap.size, 0, none⟩) :: .pointer (some ⟨w.heap.size + 1, 0, none⟩) :: undef :: .bool false :: undef :: undef :: undef :: undef :: undef :: .agg (#[.float .f32 x0h, .float .f32 x0v]) :: undef :: undef :: undef :: undef :: undef :: undef :: undef :: undef :: undef :: undef :: undef :: undef :: undef :: undef :: undef :: undef :: undef :: undef :: undef :: undef :: undef :: undef :: undef :: undef :: undef :: []).toArray, defers := [] } #[true, false, false, false, false, false, false, false, false, false, false, false] rfl (by rfl) (by kernel_rfl) (by kernel_rfl) (by kernel_rfl) 70 _ rfl (w.heap.size) (#[.float .f32 x0h, .float .f32 x0v]) 70 (by rfl) (by simp) _ Try.underlying70 rfl (info_lair) (by rfl) (by rfl) (kd) ?_
  refine take_load 2 { tmps := (.agg #[.float .f32 x0h, .float .f32 x0v] :: .agg #[.float .f32 x1h, .float .f32 x1v] :: .float .f32 x2 :: .pointer (some ⟨w.heap.size, 0, none⟩) :: .pointer (some ⟨w.heap.size + 1, 0, none⟩) :: undef :: .bool false :: undef :: undef :: undef :: undef :: undef :: .agg (#[.float .f32 x0h, .float .f32 x0v]) :: undef :: .agg (#[.float .f32 x1h, .float .f32 x1v]) :: undef :: undef :: undef :: undef :: undef :: undef :: undef :: undef :: undef :: undef :: undef :: undef :: undef :: undef :: undef :: undef :: undef :: undef :: undef :: undef :: undef :: undef :: undef :: []).toArray, defers := [] } #[true, false, true, false, false, false, false, false, false, false, false, false] rfl (by rfl) (by kernel_rfl) (by kernel_rfl) (by kernel_rfl) 70 _ rfl (w.heap.size + 1) (#[.float .f32 x1h, .float .f32 x1v]) 70 (by rfl) (by simp) _ Try.underlying70 rfl (info_lair) (by rfl) (by rfl) (kd) ?_
  refine take_val 4 { tmps := (.agg #[.float .f32 x0h, .float .f32 x0v] :: .agg #[.float .f32 x1h, .float .f32 x1v] :: .float .f32 x2 :: .pointer (some ⟨w.heap.size, 0, none⟩) :: .pointer (some ⟨w.heap.size + 1, 0, none⟩) :: undef :: .bool false :: undef :: undef :: undef :: undef :: undef :: .agg (#[.float .f32 x0h, .float .f32 x0v]) :: undef :: .agg (#[.float .f32 x1h, .float .f32 x1v]) :: undef :: .float .f32 x2 :: undef :: undef :: undef :: undef :: undef :: undef :: undef :: undef :: undef :: undef :: undef :: undef :: undef :: undef :: undef :: undef :: undef :: undef :: undef :: undef :: undef :: []).toArray, defers := [] } #[true, false, true, false, true, false, false, false, false, false, false, false] (.float .f32 x2) rfl (by rfl) (by kernel_rfl) (by kernel_rfl) (by kernel_rfl) (fun w => by rfl) (by rfl) (by rfl) (kd) ?_
  refine wpAnyH_ready (rs := [1, 9]) (by kernel_rfl) (by simp) ?_
  refine callK 1 { tmps := (.agg #[.float .f32 x0h, .float .f32 x0v] :: .agg #[.float .f32 x1h, .float .f32 x1v] :: .float .f32 x2 :: .pointer (some ⟨w.heap.size, 0, none⟩) :: .pointer (some ⟨w.heap.size + 1, 0, none⟩) :: undef :: .bool false :: undef :: undef :: undef :: undef :: undef :: .agg (#[.float .f32 x0h, .float .f32 x0v]) :: .agg (#[.float .f32 x0h, .float .f32 x0v]) :: .agg (#[.float .f32 x1h, .float .f32 x1v]) :: undef :: .float .f32 x2 :: undef :: undef :: undef :: undef :: undef :: undef :: undef :: undef :: undef :: undef :: undef :: undef :: undef :: undef :: undef :: undef :: undef :: undef :: undef :: undef :: undef :: []).toArray, defers := [] } #[true, true, true, false, true, false, false, false, false, false, false, false] (.agg (#[.float .f32 x0h, .float .f32 x0v])) kd rfl (by rfl) 75 #[.agg (#[.float .f32 x0h, .float .f32 x0v])] (run_toAir1 _ _ _ rfl _ _ _ _ _ _) (by rfl) (by rfl) (toAir _ _ _) (fun w1 k1 => ?_) ?_
  · refine ⟨k1, ?_⟩
    refine wpAnyH_ready (rs := [3, 9]) (by kernel_rfl) (by simp) ?_
    refine callK 3 { tmps := (.agg #[.float .f32 x0h, .float .f32 x0v] :: .agg #[.float .f32 x1h, .float .f32 x1v] :: .float .f32 x2 :: .pointer (some ⟨w.heap.size, 0, none⟩) :: .pointer (some ⟨w.heap.size + 1, 0, none⟩) :: undef :: .bool false :: undef :: undef :: undef :: undef :: undef :: .agg (#[.float .f32 x0h, .float .f32 x0v]) :: .agg (#[.float .f32 x0h, .float .f32 x0v]) :: .agg (#[.float .f32 x1h, .float .f32 x1v]) :: .agg (#[.float .f32 x1h, .float .f32 x1v]) :: .float .f32 x2 :: undef :: undef :: undef :: undef :: undef :: undef :: undef :: undef :: undef :: undef :: undef :: undef :: undef :: undef :: undef :: undef :: undef :: undef :: undef :: undef :: undef :: []).toArray, defers := [] } #[true, true, true, true, true, false, false, false, false, false, false, false] (.agg (#[.float .f32 x1h, .float .f32 x1v])) k1 rfl (by rfl) 75 #[.agg (#[.float .f32 x1h, .float .f32 x1v])] (run_toAir1 _ _ _ rfl _ _ _ _ _ _) (by rfl) (by rfl) (toAir _ _ _) (fun w2 k2 => ?_) ?_
    · refine ⟨k2, ?_⟩
      refine wpAnyH_ready (rs := [5, 9]) (by kernel_rfl) (by simp) ?_
      refine callK 5 { tmps := (.agg #[.float .f32 x0h, .float .f32 x0v] :: .agg #[.float .f32 x1h, .float .f32 x1v] :: .float .f32 x2 :: .pointer (some ⟨w.heap.size, 0, none⟩) :: .pointer (some ⟨w.heap.size + 1, 0, none⟩) :: undef :: .bool false :: undef :: undef :: undef :: undef :: undef :: .agg (#[.float .f32 x0h, .float .f32 x0v]) :: .agg (#[.float .f32 x0h, .float .f32 x0v]) :: .agg (#[.float .f32 x1h, .float .f32 x1v]) :: .agg (#[.float .f32 x1h, .float .f32 x1v]) :: .float .f32 x2 :: .tuple #[.agg #[.float .f32 r0h, .float .f32 r0v], .int .i64 r1] :: undef :: undef :: undef :: undef :: undef :: undef :: undef :: undef :: undef :: undef :: undef :: undef :: undef :: undef :: undef :: undef :: undef :: undef :: undef :: undef :: []).toArray, defers := [] } #[true, true, true, true, true, true, false, false, false, false, false, false] (.tuple #[.agg #[.float .f32 r0h, .float .f32 r0v], .int .i64 r1]) k2 rfl (by rfl) 87 #[.agg (#[.float .f32 x0h, .float .f32 x0v]), .agg (#[.float .f32 x1h, .float .f32 x1v]), .float .f32 x2] (run_sMixAir3 _ _ _ rfl _ _ rfl _ _ rfl _ _ _ _ _ _) (by rfl) (by rfl) (HS.out _) (fun w3 k3 => ?_) ?_
      · refine ⟨k3, ?_⟩
        refine take_val 6 { tmps := (.agg #[.float .f32 x0h, .float .f32 x0v] :: .agg #[.float .f32 x1h, .float .f32 x1v] :: .float .f32 x2 :: .pointer (some ⟨w.heap.size, 0, none⟩) :: .pointer (some ⟨w.heap.size + 1, 0, none⟩) :: undef :: .bool false :: undef :: undef :: undef :: undef :: .tuple #[.agg #[.float .f32 r0h, .float .f32 r0v], .int .i64 r1] :: .agg (#[.float .f32 x0h, .float .f32 x0v]) :: .agg (#[.float .f32 x0h, .float .f32 x0v]) :: .agg (#[.float .f32 x1h, .float .f32 x1v]) :: .agg (#[.float .f32 x1h, .float .f32 x1v]) :: .float .f32 x2 :: .tuple #[.agg #[.float .f32 r0h, .float .f32 r0v], .int .i64 r1] :: undef :: undef :: undef :: undef :: undef :: undef :: undef :: undef :: undef :: undef :: undef :: undef :: undef :: undef :: undef :: undef :: undef :: undef :: undef :: undef :: []).toArray, defers := [] } #[true, true, true, true, true, true, true, false, false, false, false, false] (.tuple #[.agg #[.float .f32 r0h, .float .f32 r0v], .int .i64 r1]) rfl (by rfl) (by kernel_rfl) (by kernel_rfl) (by kernel_rfl) (fun w => by rfl) (by rfl) (by rfl) (k3) ?_
        refine take_val 7 { tmps := (.agg #[.float .f32 x0h, .float .f32 x0v] :: .agg #[.float .f32 x1h, .float .f32 x1v] :: .float .f32 x2 :: .pointer (some ⟨w.heap.size, 0, none⟩) :: .pointer (some ⟨w.heap.size + 1, 0, none⟩) :: undef :: .bool false :: undef :: undef :: undef :: undef :: .tuple #[.agg #[.float .f32 r0h, .float .f32 r0v], .int .i64 r1] :: .agg (#[.float .f32 x0h, .float .f32 x0v]) :: .agg (#[.float .f32 x0h, .float .f32 x0v]) :: .agg (#[.float .f32 x1h, .float .f32 x1v]) :: .agg (#[.float .f32 x1h, .float .f32 x1v]) :: .float .f32 x2 :: .tuple #[.agg #[.float .f32 r0h, .float .f32 r0v], .int .i64 r1] :: .agg #[.float .f32 r0h, .float .f32 r0v] :: undef :: undef :: undef :: undef :: undef :: undef :: undef :: undef :: undef :: undef :: undef :: undef :: undef :: undef :: undef :: undef :: undef :: undef :: undef :: []).toArray, defers := [] } #[true, true, true, true, true, true, true, true, false, false, false, false] (.agg #[.float .f32 r0h, .float .f32 r0v]) rfl (by rfl) (by kernel_rfl) (by kernel_rfl) (by kernel_rfl) (fun w => by rfl) (by rfl) (by rfl) (k3) ?_
        refine take_val 8 { tmps := (.agg #[.float .f32 x0h, .float .f32 x0v] :: .agg #[.float .f32 x1h, .float .f32 x1v] :: .float .f32 x2 :: .pointer (some ⟨w.heap.size, 0, none⟩) :: .pointer (some ⟨w.heap.size + 1, 0, none⟩) :: undef :: .bool false :: undef :: undef :: undef :: undef :: .tuple #[.agg #[.float .f32 r0h, .float .f32 r0v], .int .i64 r1] :: .agg (#[.float .f32 x0h, .float .f32 x0v]) :: .agg (#[.float .f32 x0h, .float .f32 x0v]) :: .agg (#[.float .f32 x1h, .float .f32 x1v]) :: .agg (#[.float .f32 x1h, .float .f32 x1v]) :: .float .f32 x2 :: .tuple #[.agg #[.float .f32 r0h, .float .f32 r0v], .int .i64 r1] :: .agg #[.float .f32 r0h, .float .f32 r0v] :: .int .i64 r1 :: undef :: undef :: undef :: undef :: undef :: undef :: undef :: undef :: undef :: undef :: undef :: undef :: undef :: undef :: undef :: undef :: undef :: undef :: []).toArray, defers := [] } #[true, true, true, true, true, true, true, true, true, false, false, false] (.int .i64 r1) rfl (by rfl) (by kernel_rfl) (by kernel_rfl) (by kernel_rfl) (fun w => by rfl) (by rfl) (by rfl) (k3) ?_
        refine wpAnyH_ready (rs := [9]) (by kernel_rfl) (by simp) ?_
        refine allocK 9 (fun g4 => { tmps := (.agg #[.float .f32 x0h, .float .f32 x0v] :: .agg #[.float .f32 x1h, .float .f32 x1v] :: .float .f32 x2 :: .pointer (some ⟨w.heap.size, 0, none⟩) :: .pointer (some ⟨w.heap.size + 1, 0, none⟩) :: undef :: .bool false :: .pointer (some ⟨g4, 0, none⟩) :: undef :: undef :: undef :: .tuple #[.agg #[.float .f32 r0h, .float .f32 r0v], .int .i64 r1] :: .agg (#[.float .f32 x0h, .float .f32 x0v]) :: .agg (#[.float .f32 x0h, .float .f32 x0v]) :: .agg (#[.float .f32 x1h, .float .f32 x1v]) :: .agg (#[.float .f32 x1h, .float .f32 x1v]) :: .float .f32 x2 :: .tuple #[.agg #[.float .f32 r0h, .float .f32 r0v], .int .i64 r1] :: .agg #[.float .f32 r0h, .float .f32 r0v] :: .int .i64 r1 :: undef :: undef :: undef :: undef :: undef :: undef :: undef :: undef :: undef :: undef :: undef :: undef :: undef :: undef :: undef :: undef :: undef :: undef :: []).toArray, defers := [] }) #[true, true, true, true, true, true, true, true, true, true, false, false] k3 rfl (by rfl) (#[.float .f32 0, .float .f32 0]) 44 (alloc_air _ _ _ _ _ _ _) (fun g => by rfl) (by rfl) (fun w4 g4 k4 hB4 hn4 => ?_) AllReadyH.nil
        refine ⟨k4.tail, ?_⟩
        refine wpAnyH_ready (rs := [10]) (by kernel_rfl) (by simp) ?_
        refine storeK 10 { tmps := (.agg #[.float .f32 x0h, .float .f32 x0v] :: .agg #[.float .f32 x1h, .float .f32 x1v] :: .float .f32 x2 :: .pointer (some ⟨w.heap.size, 0, none⟩) :: .pointer (some ⟨w.heap.size + 1, 0, none⟩) :: undef :: .bool false :: .pointer (some ⟨g4, 0, none⟩) :: undef :: undef :: undef :: .tuple #[.agg #[.float .f32 r0h, .float .f32 r0v], .int .i64 r1] :: .agg (#[.float .f32 x0h, .float .f32 x0v]) :: .agg (#[.float .f32 x0h, .float .f32 x0v]) :: .agg (#[.float .f32 x1h, .float .f32 x1v]) :: .agg (#[.float .f32 x1h, .float .f32 x1v]) :: .float .f32 x2 :: .tuple #[.agg #[.float .f32 r0h, .float .f32 r0v], .int .i64 r1] :: .agg #[.float .f32 r0h, .float .f32 r0v] :: .int .i64 r1 :: undef :: undef :: undef :: undef :: undef :: undef :: undef :: undef :: undef :: undef :: undef :: undef :: undef :: undef :: undef :: undef :: undef :: undef :: []).toArray, defers := [] } #[true, true, true, true, true, true, true, true, true, true, true, false] k4 hB4 hn4 rfl (by rfl) 44 _ _ rfl (#[.float .f32 r0h, .float .f32 r0v]) (by rfl) (by rfl) (info_air) (by simp) (by simp [Value.oneCell']) (by rfl) (by rfl) (fun w5 k5 => ?_) AllReadyH.nil
        refine ⟨k5.tail, ?_⟩
        refine take_val 11 { tmps := (.agg #[.float .f32 x0h, .float .f32 x0v] :: .agg #[.float .f32 x1h, .float .f32 x1v] :: .float .f32 x2 :: .pointer (some ⟨w.heap.size, 0, none⟩) :: .pointer (some ⟨w.heap.size + 1, 0, none⟩) :: undef :: .bool false :: .pointer (some ⟨g4, 0, none⟩) :: .int .i64 r1 :: undef :: undef :: .tuple #[.agg #[.float .f32 r0h, .float .f32 r0v], .int .i64 r1] :: .agg (#[.float .f32 x0h, .float .f32 x0v]) :: .agg (#[.float .f32 x0h, .float .f32 x0v]) :: .agg (#[.float .f32 x1h, .float .f32 x1v]) :: .agg (#[.float .f32 x1h, .float .f32 x1v]) :: .float .f32 x2 :: .tuple #[.agg #[.float .f32 r0h, .float .f32 r0v], .int .i64 r1] :: .agg #[.float .f32 r0h, .float .f32 r0v] :: .int .i64 r1 :: undef :: undef :: undef :: undef :: undef :: undef :: undef :: undef :: undef :: undef :: undef :: undef :: undef :: undef :: undef :: undef :: undef :: undef :: []).toArray, defers := [] } #[true, true, true, true, true, true, true, true, true, true, true, true] (.int .i64 r1) rfl (by rfl) (by kernel_rfl) (by kernel_rfl) (by kernel_rfl) (fun w => by rfl) (by rfl) (by rfl) (k5.tail) ?_
        exact wpAnyH_done (by kernel_rfl) (NoPanic.normal (key1 g4 _ (hid k5))) _
      refine allocK 9 (fun g6 => { tmps := (.agg #[.float .f32 x0h, .float .f32 x0v] :: .agg #[.float .f32 x1h, .float .f32 x1v] :: .float .f32 x2 :: .pointer (some ⟨w.heap.size, 0, none⟩) :: .pointer (some ⟨w.heap.size + 1, 0, none⟩) :: undef :: .bool false :: .pointer (some ⟨g6, 0, none⟩) :: undef :: undef :: undef :: undef :: .agg (#[.float .f32 x0h, .float .f32 x0v]) :: .agg (#[.float .f32 x0h, .float .f32 x0v]) :: .agg (#[.float .f32 x1h, .float .f32 x1v]) :: .agg (#[.float .f32 x1h, .float .f32 x1v]) :: .float .f32 x2 :: undef :: undef :: undef :: undef :: undef :: undef :: undef :: undef :: undef :: undef :: undef :: undef :: undef :: undef :: undef :: undef :: undef :: undef :: undef :: undef :: undef :: []).toArray, defers := [] }) #[true, true, true, true, true, false, false, false, false, true, false, false] k2 rfl (by rfl) (#[.float .f32 0, .float .f32 0]) 44 (alloc_air _ _ _ _ _ _ _) (fun g => by rfl) (by rfl) (fun w6 g6 k6 hB6 hn6 => ?_) AllReadyH.nil
      refine ⟨k6.tail, ?_⟩
      refine wpAnyH_ready (rs := [5]) (by kernel_rfl) (by simp) ?_
      refine callK 5 { tmps := (.agg #[.float .f32 x0h, .float .f32 x0v] :: .agg #[.float .f32 x1h, .float .f32 x1v] :: .float .f32 x2 :: .pointer (some ⟨w.heap.size, 0, none⟩) :: .pointer (some ⟨w.heap.size + 1, 0, none⟩) :: undef :: .bool false :: .pointer (some ⟨g6, 0, none⟩) :: undef :: undef :: undef :: undef :: .agg (#[.float .f32 x0h, .float .f32 x0v]) :: .agg (#[.float .f32 x0h, .float .f32 x0v]) :: .agg (#[.float .f32 x1h, .float .f32 x1v]) :: .agg (#[.float .f32 x1h, .float .f32 x1v]) :: .float .f32 x2 :: .tuple #[.agg #[.float .f32 r0h, .float .f32 r0v], .int .i64 r1] :: undef :: undef :: undef :: undef :: undef :: undef :: undef :: undef :: undef :: undef :: undef :: undef :: undef :: undef :: undef :: undef :: undef :: undef :: undef :: undef :: []).toArray, defers := [] } #[true, true, true, true, true, true, false, false, false, true, false, false] (.tuple #[.agg #[.float .f32 r0h, .float .f32 r0v], .int .i64 r1]) k6 rfl (by rfl) 87 #[.agg (#[.float .f32 x0h, .float .f32 x0v]), .agg (#[.float .f32 x1h, .float .f32 x1v]), .float .f32 x2] (run_sMixAir3 _ _ _ rfl _ _ rfl _ _ rfl _ _ _ _ _ _) (by rfl) (by rfl) (HS.out _) (fun w7 k7 => ?_) AllReadyH.nil
      refine ⟨k7.tail, ?_⟩
      refine take_val 6 { tmps := (.agg #[.float .f32 x0h, .float .f32 x0v] :: .agg #[.float .f32 x1h, .float .f32 x1v] :: .float .f32 x2 :: .pointer (some ⟨w.heap.size, 0, none⟩) :: .pointer (some ⟨w.heap.size + 1, 0, none⟩) :: undef :: .bool false :: .pointer (some ⟨g6, 0, none⟩) :: undef :: undef :: undef :: .tuple #[.agg #[.float .f32 r0h, .float .f32 r0v], .int .i64 r1] :: .agg (#[.float .f32 x0h, .float .f32 x0v]) :: .agg (#[.float .f32 x0h, .float .f32 x0v]) :: .agg (#[.float .f32 x1h, .float .f32 x1v]) :: .agg (#[.float .f32 x1h, .float .f32 x1v]) :: .float .f32 x2 :: .tuple #[.agg #[.float .f32 r0h, .float .f32 r0v], .int .i64 r1] :: undef :: undef :: undef :: undef :: undef :: undef :: undef :: undef :: undef :: undef :: undef :: undef :: undef :: undef :: undef :: undef :: undef :: undef :: undef :: undef :: []).toArray, defers := [] } #[true, true, true, true, true, true, true, false, false, true, false, false] (.tuple #[.agg #[.float .f32 r0h, .float .f32 r0v], .int .i64 r1]) rfl (by rfl) (by kernel_rfl) (by kernel_rfl) (by kernel_rfl) (fun w => by rfl) (by rfl) (by rfl) (k7.tail) ?_
      refine take_val 7 { tmps := (.agg #[.float .f32 x0h, .float .f32 x0v] :: .agg #[.float .f32 x1h, .float .f32 x1v] :: .float .f32 x2 :: .pointer (some ⟨w.heap.size, 0, none⟩) :: .pointer (some ⟨w.heap.size + 1, 0, none⟩) :: undef :: .bool false :: .pointer (some ⟨g6, 0, none⟩) :: undef :: undef :: undef :: .tuple #[.agg #[.float .f32 r0h, .float .f32 r0v], .int .i64 r1] :: .agg (#[.float .f32 x0h, .float .f32 x0v]) :: .agg (#[.float .f32 x0h, .float .f32 x0v]) :: .agg (#[.float .f32 x1h, .float .f32 x1v]) :: .agg (#[.float .f32 x1h, .float .f32 x1v]) :: .float .f32 x2 :: .tuple #[.agg #[.float .f32 r0h, .float .f32 r0v], .int .i64 r1] :: .agg #[.float .f32 r0h, .float .f32 r0v] :: undef :: undef :: undef :: undef :: undef :: undef :: undef :: undef :: undef :: undef :: undef :: undef :: undef :: undef :: undef :: undef :: undef :: undef :: undef :: []).toArray, defers := [] } #[true, true, true, true, true, true, true, true, false, true, false, false] (.agg #[.float .f32 r0h, .float .f32 r0v]) rfl (by rfl) (by kernel_rfl) (by kernel_rfl) (by kernel_rfl) (fun w => by rfl) (by rfl) (by rfl) (k7.tail) ?_
      refine take_val 8 { tmps := (.agg #[.float .f32 x0h, .float .f32 x0v] :: .agg #[.float .f32 x1h, .float .f32 x1v] :: .float .f32 x2 :: .pointer (some ⟨w.heap.size, 0, none⟩) :: .pointer (some ⟨w.heap.size + 1, 0, none⟩) :: undef :: .bool false :: .pointer (some ⟨g6, 0, none⟩) :: undef :: undef :: undef :: .tuple #[.agg #[.float .f32 r0h, .float .f32 r0v], .int .i64 r1] :: .agg (#[.float .f32 x0h, .float .f32 x0v]) :: .agg (#[.float .f32 x0h, .float .f32 x0v]) :: .agg (#[.float .f32 x1h, .float .f32 x1v]) :: .agg (#[.float .f32 x1h, .float .f32 x1v]) :: .float .f32 x2 :: .tuple #[.agg #[.float .f32 r0h, .float .f32 r0v], .int .i64 r1] :: .agg #[.float .f32 r0h, .float .f32 r0v] :: .int .i64 r1 :: undef :: undef :: undef :: undef :: undef :: undef :: undef :: undef :: undef :: undef :: undef :: undef :: undef :: undef :: undef :: undef :: undef :: undef :: []).toArray, defers := [] } #[true, true, true, true, true, true, true, true, true, true, false, false] (.int .i64 r1) rfl (by rfl) (by kernel_rfl) (by kernel_rfl) (by kernel_rfl) (fun w => by rfl) (by rfl) (by rfl) (k7.tail) ?_
      refine wpAnyH_ready (rs := [10]) (by kernel_rfl) (by simp) ?_
      refine storeK 10 { tmps := (.agg #[.float .f32 x0h, .float .f32 x0v] :: .agg #[.float .f32 x1h, .float .f32 x1v] :: .float .f32 x2 :: .pointer (some ⟨w.heap.size, 0, none⟩) :: .pointer (some ⟨w.heap.size + 1, 0, none⟩) :: undef :: .bool false :: .pointer (some ⟨g6, 0, none⟩) :: undef :: undef :: undef :: .tuple #[.agg #[.float .f32 r0h, .float .f32 r0v], .int .i64 r1] :: .agg (#[.float .f32 x0h, .float .f32 x0v]) :: .agg (#[.float .f32 x0h, .float .f32 x0v]) :: .agg (#[.float .f32 x1h, .float .f32 x1v]) :: .agg (#[.float .f32 x1h, .float .f32 x1v]) :: .float .f32 x2 :: .tuple #[.agg #[.float .f32 r0h, .float .f32 r0v], .int .i64 r1] :: .agg #[.float .f32 r0h, .float .f32 r0v] :: .int .i64 r1 :: undef :: undef :: undef :: undef :: undef :: undef :: undef :: undef :: undef :: undef :: undef :: undef :: undef :: undef :: undef :: undef :: undef :: undef :: []).toArray, defers := [] } #[true, true, true, true, true, true, true, true, true, true, true, false] k7 hB6 hn6 rfl (by rfl) 44 _ _ rfl (#[.float .f32 r0h, .float .f32 r0v]) (by rfl) (by rfl) (info_air) (by simp) (by simp [Value.oneCell']) (by rfl) (by rfl) (fun w8 k8 => ?_) AllReadyH.nil
      refine ⟨k8.tail, ?_⟩
      refine take_val 11 { tmps := (.agg #[.float .f32 x0h, .float .f32 x0v] :: .agg #[.float .f32 x1h, .float .f32 x1v] :: .float .f32 x2 :: .pointer (some ⟨w.heap.size, 0, none⟩) :: .pointer (some ⟨w.heap.size + 1, 0, none⟩) :: undef :: .bool false :: .pointer (some ⟨g6, 0, none⟩) :: .int .i64 r1 :: undef :: undef :: .tuple #[.agg #[.float .f32 r0h, .float .f32 r0v], .int .i64 r1] :: .agg (#[.float .f32 x0h, .float .f32 x0v]) :: .agg (#[.float .f32 x0h, .float .f32 x0v]) :: .agg (#[.float .f32 x1h, .float .f32 x1v]) :: .agg (#[.float .f32 x1h, .float .f32 x1v]) :: .float .f32 x2 :: .tuple #[.agg #[.float .f32 r0h, .float .f32 r0v], .int .i64 r1] :: .agg #[.float .f32 r0h, .float .f32 r0v] :: .int .i64 r1 :: undef :: undef :: undef :: undef :: undef :: undef :: undef :: undef :: undef :: undef :: undef :: undef :: undef :: undef :: undef :: undef :: undef :: undef :: []).toArray, defers := [] } #[true, true, true, true, true, true, true, true, true, true, true, true] (.int .i64 r1) rfl (by rfl) (by kernel_rfl) (by kernel_rfl) (by kernel_rfl) (fun w => by rfl) (by rfl) (by rfl) (k8.tail) ?_
      exact wpAnyH_done (by kernel_rfl) (NoPanic.normal (key1 g6 _ (hid k8))) _
    refine allocK 9 (fun g9 => { tmps := (.agg #[.float .f32 x0h, .float .f32 x0v] :: .agg #[.float .f32 x1h, .float .f32 x1v] :: .float .f32 x2 :: .pointer (some ⟨w.heap.size, 0, none⟩) :: .pointer (some ⟨w.heap.size + 1, 0, none⟩) :: undef :: .bool false :: .pointer (some ⟨g9, 0, none⟩) :: undef :: undef :: undef :: undef :: .agg (#[.float .f32 x0h, .float .f32 x0v]) :: .agg (#[.float .f32 x0h, .float .f32 x0v]) :: .agg (#[.float .f32 x1h, .float .f32 x1v]) :: undef :: .float .f32 x2 :: undef :: undef :: undef :: undef :: undef :: undef :: undef :: undef :: undef :: undef :: undef :: undef :: undef :: undef :: undef :: undef :: undef :: undef :: undef :: undef :: undef :: []).toArray, defers := [] }) #[true, true, true, false, true, false, false, false, false, true, false, false] k1 rfl (by rfl) (#[.float .f32 0, .float .f32 0]) 44 (alloc_air _ _ _ _ _ _ _) (fun g => by rfl) (by rfl) (fun w9 g9 k9 hB9 hn9 => ?_) AllReadyH.nil
    refine ⟨k9.tail, ?_⟩
    refine wpAnyH_ready (rs := [3]) (by kernel_rfl) (by simp) ?_
    refine callK 3 { tmps := (.agg #[.float .f32 x0h, .float .f32 x0v] :: .agg #[.float .f32 x1h, .float .f32 x1v] :: .float .f32 x2 :: .pointer (some ⟨w.heap.size, 0, none⟩) :: .pointer (some ⟨w.heap.size + 1, 0, none⟩) :: undef :: .bool false :: .pointer (some ⟨g9, 0, none⟩) :: undef :: undef :: undef :: undef :: .agg (#[.float .f32 x0h, .float .f32 x0v]) :: .agg (#[.float .f32 x0h, .float .f32 x0v]) :: .agg (#[.float .f32 x1h, .float .f32 x1v]) :: .agg (#[.float .f32 x1h, .float .f32 x1v]) :: .float .f32 x2 :: undef :: undef :: undef :: undef :: undef :: undef :: undef :: undef :: undef :: undef :: undef :: undef :: undef :: undef :: undef :: undef :: undef :: undef :: undef :: undef :: undef :: []).toArray, defers := [] } #[true, true, true, true, true, false, false, false, false, true, false, false] (.agg (#[.float .f32 x1h, .float .f32 x1v])) k9 rfl (by rfl) 75 #[.agg (#[.float .f32 x1h, .float .f32 x1v])] (run_toAir1 _ _ _ rfl _ _ _ _ _ _) (by rfl) (by rfl) (toAir _ _ _) (fun w10 k10 => ?_) AllReadyH.nil
    refine ⟨k10.tail, ?_⟩
    refine wpAnyH_ready (rs := [5]) (by kernel_rfl) (by simp) ?_
    refine callK 5 { tmps := (.agg #[.float .f32 x0h, .float .f32 x0v] :: .agg #[.float .f32 x1h, .float .f32 x1v] :: .float .f32 x2 :: .pointer (some ⟨w.heap.size, 0, none⟩) :: .pointer (some ⟨w.heap.size + 1, 0, none⟩) :: undef :: .bool false :: .pointer (some ⟨g9, 0, none⟩) :: undef :: undef :: undef :: undef :: .agg (#[.float .f32 x0h, .float .f32 x0v]) :: .agg (#[.float .f32 x0h, .float .f32 x0v]) :: .agg (#[.float .f32 x1h, .float .f32 x1v]) :: .agg (#[.float .f32 x1h, .float .f32 x1v]) :: .float .f32 x2 :: .tuple #[.agg #[.float .f32 r0h, .float .f32 r0v], .int .i64 r1] :: undef :: undef :: undef :: undef :: undef :: undef :: undef :: undef :: undef :: undef :: undef :: undef :: undef :: undef :: undef :: undef :: undef :: undef :: undef :: undef :: []).toArray, defers := [] } #[true, true, true, true, true, true, false, false, false, true, false, false] (.tuple #[.agg #[.float .f32 r0h, .float .f32 r0v], .int .i64 r1]) k10 rfl (by rfl) 87 #[.agg (#[.float .f32 x0h, .float .f32 x0v]), .agg (#[.float .f32 x1h, .float .f32 x1v]), .float .f32 x2] (run_sMixAir3 _ _ _ rfl _ _ rfl _ _ rfl _ _ _ _ _ _) (by rfl) (by rfl) (HS.out _) (fun w11 k11 => ?_) AllReadyH.nil
    refine ⟨k11.tail, ?_⟩
    refine take_val 6 { tmps := (.agg #[.float .f32 x0h, .float .f32 x0v] :: .agg #[.float .f32 x1h, .float .f32 x1v] :: .float .f32 x2 :: .pointer (some ⟨w.heap.size, 0, none⟩) :: .pointer (some ⟨w.heap.size + 1, 0, none⟩) :: undef :: .bool false :: .pointer (some ⟨g9, 0, none⟩) :: undef :: undef :: undef :: .tuple #[.agg #[.float .f32 r0h, .float .f32 r0v], .int .i64 r1] :: .agg (#[.float .f32 x0h, .float .f32 x0v]) :: .agg (#[.float .f32 x0h, .float .f32 x0v]) :: .agg (#[.float .f32 x1h, .float .f32 x1v]) :: .agg (#[.float .f32 x1h, .float .f32 x1v]) :: .float .f32 x2 :: .tuple #[.agg #[.float .f32 r0h, .float .f32 r0v], .int .i64 r1] :: undef :: undef :: undef :: undef :: undef :: undef :: undef :: undef :: undef :: undef :: undef :: undef :: undef :: undef :: undef :: undef :: undef :: undef :: undef :: undef :: []).toArray, defers := [] } #[true, true, true, true, true, true, true, false, false, true, false, false] (.tuple #[.agg #[.float .f32 r0h, .float .f32 r0v], .int .i64 r1]) rfl (by rfl) (by kernel_rfl) (by kernel_rfl) (by kernel_rfl) (fun w => by rfl) (by rfl) (by rfl) (k11.tail) ?_
    refine take_val 7 { tmps := (.agg #[.float .f32 x0h, .float .f32 x0v] :: .agg #[.float .f32 x1h, .float .f32 x1v] :: .float .f32 x2 :: .pointer (some ⟨w.heap.size, 0, none⟩) :: .pointer (some ⟨w.heap.size + 1, 0, none⟩) :: undef :: .bool false :: .pointer (some ⟨g9, 0, none⟩) :: undef :: undef :: undef :: .tuple #[.agg #[.float .f32 r0h, .float .f32 r0v], .int .i64 r1] :: .agg (#[.float .f32 x0h, .float .f32 x0v]) :: .agg (#[.float .f32 x0h, .float .f32 x0v]) :: .agg (#[.float .f32 x1h, .float .f32 x1v]) :: .agg (#[.float .f32 x1h, .float .f32 x1v]) :: .float .f32 x2 :: .tuple #[.agg #[.float .f32 r0h, .float .f32 r0v], .int .i64 r1] :: .agg #[.float .f32 r0h, .float .f32 r0v] :: undef :: undef :: undef :: undef :: undef :: undef :: undef :: undef :: undef :: undef :: undef :: undef :: undef :: undef :: undef :: undef :: undef :: undef :: undef :: []).toArray, defers := [] } #[true, true, true, true, true, true, true, true, false, true, false, false] (.agg #[.float .f32 r0h, .float .f32 r0v]) rfl (by rfl) (by kernel_rfl) (by kernel_rfl) (by kernel_rfl) (fun w => by rfl) (by rfl) (by rfl) (k11.tail) ?_
    refine take_val 8 { tmps := (.agg #[.float .f32 x0h, .float .f32 x0v] :: .agg #[.float .f32 x1h, .float .f32 x1v] :: .float .f32 x2 :: .pointer (some ⟨w.heap.size, 0, none⟩) :: .pointer (some ⟨w.heap.size + 1, 0, none⟩) :: undef :: .bool false :: .pointer (some ⟨g9, 0, none⟩) :: undef :: undef :: undef :: .tuple #[.agg #[.float .f32 r0h, .float .f32 r0v], .int .i64 r1] :: .agg (#[.float .f32 x0h, .float .f32 x0v]) :: .agg (#[.float .f32 x0h, .float .f32 x0v]) :: .agg (#[.float .f32 x1h, .float .f32 x1v]) :: .agg (#[.float .f32 x1h, .float .f32 x1v]) :: .float .f32 x2 :: .tuple #[.agg #[.float .f32 r0h, .float .f32 r0v], .int .i64 r1] :: .agg #[.float .f32 r0h, .float .f32 r0v] :: .int .i64 r1 :: undef :: undef :: undef :: undef :: undef :: undef :: undef :: undef :: undef :: undef :: undef :: undef :: undef :: undef :: undef :: undef :: undef :: undef :: []).toArray, defers := [] } #[true, true, true, true, true, true, true, true, true, true, false, false] (.int .i64 r1) rfl (by rfl) (by kernel_rfl) (by kernel_rfl) (by kernel_rfl) (fun w => by rfl) (by rfl) (by rfl) (k11.tail) ?_
    refine wpAnyH_ready (rs := [10]) (by kernel_rfl) (by simp) ?_
    refine storeK 10 { tmps := (.agg #[.float .f32 x0h, .float .f32 x0v] :: .agg #[.float .f32 x1h, .float .f32 x1v] :: .float .f32 x2 :: .pointer (some ⟨w.heap.size, 0, none⟩) :: .pointer (some ⟨w.heap.size + 1, 0, none⟩) :: undef :: .bool false :: .pointer (some ⟨g9, 0, none⟩) :: undef :: undef :: undef :: .tuple #[.agg #[.float .f32 r0h, .float .f32 r0v], .int .i64 r1] :: .agg (#[.float .f32 x0h, .float .f32 x0v]) :: .agg (#[.float .f32 x0h, .float .f32 x0v]) :: .agg (#[.float .f32 x1h, .float .f32 x1v]) :: .agg (#[.float .f32 x1h, .float .f32 x1v]) :: .float .f32 x2 :: .tuple #[.agg #[.float .f32 r0h, .float .f32 r0v], .int .i64 r1] :: .agg #[.float .f32 r0h, .float .f32 r0v] :: .int .i64 r1 :: undef :: undef :: undef :: undef :: undef :: undef :: undef :: undef :: undef :: undef :: undef :: undef :: undef :: undef :: undef :: undef :: undef :: undef :: []).toArray, defers := [] } #[true, true, true, true, true, true, true, true, true, true, true, false] k11 hB9 hn9 rfl (by rfl) 44 _ _ rfl (#[.float .f32 r0h, .float .f32 r0v]) (by rfl) (by rfl) (info_air) (by simp) (by simp [Value.oneCell']) (by rfl) (by rfl) (fun w12 k12 => ?_) AllReadyH.nil
    refine ⟨k12.tail, ?_⟩
    refine take_val 11 { tmps := (.agg #[.float .f32 x0h, .float .f32 x0v] :: .agg #[.float .f32 x1h, .float .f32 x1v] :: .float .f32 x2 :: .pointer (some ⟨w.heap.size, 0, none⟩) :: .pointer (some ⟨w.heap.size + 1, 0, none⟩) :: undef :: .bool false :: .pointer (some ⟨g9, 0, none⟩) :: .int .i64 r1 :: undef :: undef :: .tuple #[.agg #[.float .f32 r0h, .float .f32 r0v], .int .i64 r1] :: .agg (#[.float .f32 x0h, .float .f32 x0v]) :: .agg (#[.float .f32 x0h, .float .f32 x0v]) :: .agg (#[.float .f32 x1h, .float .f32 x1v]) :: .agg (#[.float .f32 x1h, .float .f32 x1v]) :: .float .f32 x2 :: .tuple #[.agg #[.float .f32 r0h, .float .f32 r0v], .int .i64 r1] :: .agg #[.float .f32 r0h, .float .f32 r0v] :: .int .i64 r1 :: undef :: undef :: undef :: undef :: undef :: undef :: undef :: undef :: undef :: undef :: undef :: undef :: undef :: undef :: undef :: undef :: undef :: undef :: []).toArray, defers := [] } #[true, true, true, true, true, true, true, true, true, true, true, true] (.int .i64 r1) rfl (by rfl) (by kernel_rfl) (by kernel_rfl) (by kernel_rfl) (fun w => by rfl) (by rfl) (by rfl) (k12.tail) ?_
    exact wpAnyH_done (by kernel_rfl) (NoPanic.normal (key1 g9 _ (hid k12))) _
  refine allocK 9 (fun g13 => { tmps := (.agg #[.float .f32 x0h, .float .f32 x0v] :: .agg #[.float .f32 x1h, .float .f32 x1v] :: .float .f32 x2 :: .pointer (some ⟨w.heap.size, 0, none⟩) :: .pointer (some ⟨w.heap.size + 1, 0, none⟩) :: undef :: .bool false :: .pointer (some ⟨g13, 0, none⟩) :: undef :: undef :: undef :: undef :: .agg (#[.float .f32 x0h, .float .f32 x0v]) :: undef :: .agg (#[.float .f32 x1h, .float .f32 x1v]) :: undef :: .float .f32 x2 :: undef :: undef :: undef :: undef :: undef :: undef :: undef :: undef :: undef :: undef :: undef :: undef :: undef :: undef :: undef :: undef :: undef :: undef :: undef :: undef :: undef :: []).toArray, defers := [] }) #[true, false, true, false, true, false, false, false, false, true, false, false] kd rfl (by rfl) (#[.float .f32 0, .float .f32 0]) 44 (alloc_air _ _ _ _ _ _ _) (fun g => by rfl) (by rfl) (fun w13 g13 k13 hB13 hn13 => ?_) AllReadyH.nil
  refine ⟨k13.tail, ?_⟩
  refine wpAnyH_ready (rs := [1]) (by kernel_rfl) (by simp) ?_
  refine callK 1 { tmps := (.agg #[.float .f32 x0h, .float .f32 x0v] :: .agg #[.float .f32 x1h, .float .f32 x1v] :: .float .f32 x2 :: .pointer (some ⟨w.heap.size, 0, none⟩) :: .pointer (some ⟨w.heap.size + 1, 0, none⟩) :: undef :: .bool false :: .pointer (some ⟨g13, 0, none⟩) :: undef :: undef :: undef :: undef :: .agg (#[.float .f32 x0h, .float .f32 x0v]) :: .agg (#[.float .f32 x0h, .float .f32 x0v]) :: .agg (#[.float .f32 x1h, .float .f32 x1v]) :: undef :: .float .f32 x2 :: undef :: undef :: undef :: undef :: undef :: undef :: undef :: undef :: undef :: undef :: undef :: undef :: undef :: undef :: undef :: undef :: undef :: undef :: undef :: undef :: undef :: []).toArray, defers := [] } #[true, true, true, false, true, false, false, false, false, true, false, false] (.agg (#[.float .f32 x0h, .float .f32 x0v])) k13 rfl (by rfl) 75 #[.agg (#[.float .f32 x0h, .float .f32 x0v])] (run_toAir1 _ _ _ rfl _ _ _ _ _ _) (by rfl) (by rfl) (toAir _ _ _) (fun w14 k14 => ?_) AllReadyH.nil
  refine ⟨k14.tail, ?_⟩
  refine wpAnyH_ready (rs := [3]) (by kernel_rfl) (by simp) ?_
  refine callK 3 { tmps := (.agg #[.float .f32 x0h, .float .f32 x0v] :: .agg #[.float .f32 x1h, .float .f32 x1v] :: .float .f32 x2 :: .pointer (some ⟨w.heap.size, 0, none⟩) :: .pointer (some ⟨w.heap.size + 1, 0, none⟩) :: undef :: .bool false :: .pointer (some ⟨g13, 0, none⟩) :: undef :: undef :: undef :: undef :: .agg (#[.float .f32 x0h, .float .f32 x0v]) :: .agg (#[.float .f32 x0h, .float .f32 x0v]) :: .agg (#[.float .f32 x1h, .float .f32 x1v]) :: .agg (#[.float .f32 x1h, .float .f32 x1v]) :: .float .f32 x2 :: undef :: undef :: undef :: undef :: undef :: undef :: undef :: undef :: undef :: undef :: undef :: undef :: undef :: undef :: undef :: undef :: undef :: undef :: undef :: undef :: undef :: []).toArray, defers := [] } #[true, true, true, true, true, false, false, false, false, true, false, false] (.agg (#[.float .f32 x1h, .float .f32 x1v])) k14 rfl (by rfl) 75 #[.agg (#[.float .f32 x1h, .float .f32 x1v])] (run_toAir1 _ _ _ rfl _ _ _ _ _ _) (by rfl) (by rfl) (toAir _ _ _) (fun w15 k15 => ?_) AllReadyH.nil
  refine ⟨k15.tail, ?_⟩
  refine wpAnyH_ready (rs := [5]) (by kernel_rfl) (by simp) ?_
  refine callK 5 { tmps := (.agg #[.float .f32 x0h, .float .f32 x0v] :: .agg #[.float .f32 x1h, .float .f32 x1v] :: .float .f32 x2 :: .pointer (some ⟨w.heap.size, 0, none⟩) :: .pointer (some ⟨w.heap.size + 1, 0, none⟩) :: undef :: .bool false :: .pointer (some ⟨g13, 0, none⟩) :: undef :: undef :: undef :: undef :: .agg (#[.float .f32 x0h, .float .f32 x0v]) :: .agg (#[.float .f32 x0h, .float .f32 x0v]) :: .agg (#[.float .f32 x1h, .float .f32 x1v]) :: .agg (#[.float .f32 x1h, .float .f32 x1v]) :: .float .f32 x2 :: .tuple #[.agg #[.float .f32 r0h, .float .f32 r0v], .int .i64 r1] :: undef :: undef :: undef :: undef :: undef :: undef :: undef :: undef :: undef :: undef :: undef :: undef :: undef :: undef :: undef :: undef :: undef :: undef :: undef :: undef :: []).toArray, defers := [] } #[true, true, true, true, true, true, false, false, false, true, false, false] (.tuple #[.agg #[.float .f32 r0h, .float .f32 r0v], .int .i64 r1]) k15 rfl (by rfl) 87 #[.agg (#[.float .f32 x0h, .float .f32 x0v]), .agg (#[.float .f32 x1h, .float .f32 x1v]), .float .f32 x2] (run_sMixAir3 _ _ _ rfl _ _ rfl _ _ rfl _ _ _ _ _ _) (by rfl) (by rfl) (HS.out _) (fun w16 k16 => ?_) AllReadyH.nil
  refine ⟨k16.tail, ?_⟩
  refine take_val 6 { tmps := (.agg #[.float .f32 x0h, .float .f32 x0v] :: .agg #[.float .f32 x1h, .float .f32 x1v] :: .float .f32 x2 :: .pointer (some ⟨w.heap.size, 0, none⟩) :: .pointer (some ⟨w.heap.size + 1, 0, none⟩) :: undef :: .bool false :: .pointer (some ⟨g13, 0, none⟩) :: undef :: undef :: undef :: .tuple #[.agg #[.float .f32 r0h, .float .f32 r0v], .int .i64 r1] :: .agg (#[.float .f32 x0h, .float .f32 x0v]) :: .agg (#[.float .f32 x0h, .float .f32 x0v]) :: .agg (#[.float .f32 x1h, .float .f32 x1v]) :: .agg (#[.float .f32 x1h, .float .f32 x1v]) :: .float .f32 x2 :: .tuple #[.agg #[.float .f32 r0h, .float .f32 r0v], .int .i64 r1] :: undef :: undef :: undef :: undef :: undef :: undef :: undef :: undef :: undef :: undef :: undef :: undef :: undef :: undef :: undef :: undef :: undef :: undef :: undef :: undef :: []).toArray, defers := [] } #[true, true, true, true, true, true, true, false, false, true, false, false] (.tuple #[.agg #[.float .f32 r0h, .float .f32 r0v], .int .i64 r1]) rfl (by rfl) (by kernel_rfl) (by kernel_rfl) (by kernel_rfl) (fun w => by rfl) (by rfl) (by rfl) (k16.tail) ?_
  refine take_val 7 { tmps := (.agg #[.float .f32 x0h, .float .f32 x0v] :: .agg #[.float .f32 x1h, .float .f32 x1v] :: .float .f32 x2 :: .pointer (some ⟨w.heap.size, 0, none⟩) :: .pointer (some ⟨w.heap.size + 1, 0, none⟩) :: undef :: .bool false :: .pointer (some ⟨g13, 0, none⟩) :: undef :: undef :: undef :: .tuple #[.agg #[.float .f32 r0h, .float .f32 r0v], .int .i64 r1] :: .agg (#[.float .f32 x0h, .float .f32 x0v]) :: .agg (#[.float .f32 x0h, .float .f32 x0v]) :: .agg (#[.float .f32 x1h, .float .f32 x1v]) :: .agg (#[.float .f32 x1h, .float .f32 x1v]) :: .float .f32 x2 :: .tuple #[.agg #[.float .f32 r0h, .float .f32 r0v], .int .i64 r1] :: .agg #[.float .f32 r0h, .float .f32 r0v] :: undef :: undef :: undef :: undef :: undef :: undef :: undef :: undef :: undef :: undef :: undef :: undef :: undef :: undef :: undef :: undef :: undef :: undef :: undef :: []).toArray, defers := [] } #[true, true, true, true, true, true, true, true, false, true, false, false] (.agg #[.float .f32 r0h, .float .f32 r0v]) rfl (by rfl) (by kernel_rfl) (by kernel_rfl) (by kernel_rfl) (fun w => by rfl) (by rfl) (by rfl) (k16.tail) ?_
  refine take_val 8 { tmps := (.agg #[.float .f32 x0h, .float .f32 x0v] :: .agg #[.float .f32 x1h, .float .f32 x1v] :: .float .f32 x2 :: .pointer (some ⟨w.heap.size, 0, none⟩) :: .pointer (some ⟨w.heap.size + 1, 0, none⟩) :: undef :: .bool false :: .pointer (some ⟨g13, 0, none⟩) :: undef :: undef :: undef :: .tuple #[.agg #[.float .f32 r0h, .float .f32 r0v], .int .i64 r1] :: .agg (#[.float .f32 x0h, .float .f32 x0v]) :: .agg (#[.float .f32 x0h, .float .f32 x0v]) :: .agg (#[.float .f32 x1h, .float .f32 x1v]) :: .agg (#[.float .f32 x1h, .float .f32 x1v]) :: .float .f32 x2 :: .tuple #[.agg #[.float .f32 r0h, .float .f32 r0v], .int .i64 r1] :: .agg #[.float .f32 r0h, .float .f32 r0v] :: .int .i64 r1 :: undef :: undef :: undef :: undef :: undef :: undef :: undef :: undef :: undef :: undef :: undef :: undef :: undef :: undef :: undef :: undef :: undef :: undef :: []).toArray, defers := [] } #[true, true, true, true, true, true, true, true, true, true, false, false] (.int .i64 r1) rfl (by rfl) (by kernel_rfl) (by kernel_rfl) (by kernel_rfl) (fun w => by rfl) (by rfl) (by rfl) (k16.tail) ?_
  refine wpAnyH_ready (rs := [10]) (by kernel_rfl) (by simp) ?_
  refine storeK 10 { tmps := (.agg #[.float .f32 x0h, .float .f32 x0v] :: .agg #[.float .f32 x1h, .float .f32 x1v] :: .float .f32 x2 :: .pointer (some ⟨w.heap.size, 0, none⟩) :: .pointer (some ⟨w.heap.size + 1, 0, none⟩) :: undef :: .bool false :: .pointer (some ⟨g13, 0, none⟩) :: undef :: undef :: undef :: .tuple #[.agg #[.float .f32 r0h, .float .f32 r0v], .int .i64 r1] :: .agg (#[.float .f32 x0h, .float .f32 x0v]) :: .agg (#[.float .f32 x0h, .float .f32 x0v]) :: .agg (#[.float .f32 x1h, .float .f32 x1v]) :: .agg (#[.float .f32 x1h, .float .f32 x1v]) :: .float .f32 x2 :: .tuple #[.agg #[.float .f32 r0h, .float .f32 r0v], .int .i64 r1] :: .agg #[.float .f32 r0h, .float .f32 r0v] :: .int .i64 r1 :: undef :: undef :: undef :: undef :: undef :: undef :: undef :: undef :: undef :: undef :: undef :: undef :: undef :: undef :: undef :: undef :: undef :: undef :: []).toArray, defers := [] } #[true, true, true, true, true, true, true, true, true, true, true, false] k16 hB13 hn13 rfl (by rfl) 44 _ _ rfl (#[.float .f32 r0h, .float .f32 r0v]) (by rfl) (by rfl) (info_air) (by simp) (by simp [Value.oneCell']) (by rfl) (by rfl) (fun w17 k17 => ?_) AllReadyH.nil
  refine ⟨k17.tail, ?_⟩
  refine take_val 11 { tmps := (.agg #[.float .f32 x0h, .float .f32 x0v] :: .agg #[.float .f32 x1h, .float .f32 x1v] :: .float .f32 x2 :: .pointer (some ⟨w.heap.size, 0, none⟩) :: .pointer (some ⟨w.heap.size + 1, 0, none⟩) :: undef :: .bool false :: .pointer (some ⟨g13, 0, none⟩) :: .int .i64 r1 :: undef :: undef :: .tuple #[.agg #[.float .f32 r0h, .float .f32 r0v], .int .i64 r1] :: .agg (#[.float .f32 x0h, .float .f32 x0v]) :: .agg (#[.float .f32 x0h, .float .f32 x0v]) :: .agg (#[.float .f32 x1h, .float .f32 x1v]) :: .agg (#[.float .f32 x1h, .float .f32 x1v]) :: .float .f32 x2 :: .tuple #[.agg #[.float .f32 r0h, .float .f32 r0v], .int .i64 r1] :: .agg #[.float .f32 r0h, .float .f32 r0v] :: .int .i64 r1 :: undef :: undef :: undef :: undef :: undef :: undef :: undef :: undef :: undef :: undef :: undef :: undef :: undef :: undef :: undef :: undef :: undef :: undef :: []).toArray, defers := [] } #[true, true, true, true, true, true, true, true, true, true, true, true] (.int .i64 r1) rfl (by rfl) (by kernel_rfl) (by kernel_rfl) (by kernel_rfl) (fun w => by rfl) (by rfl) (by rfl) (k17.tail) ?_
  exact wpAnyH_done (by kernel_rfl) (NoPanic.normal (key1 g13 _ (hid k17))) _

theorem lawMixAir (ah av : Nat) (h1 : ah < 4294967296) (hv1 : av < 4294967296) (bh bv : Nat) (h2 : bh < 4294967296) (hv2 : bv < 4294967296) (x : Nat) (hx : x < 4294967296) (w : World) :
    Calls Try.prog 26 #[.agg #[.float .f32 ah, .float .f32 av], .agg #[.float .f32 bh, .float .f32 bv], .float .f32 x] w fun e w' => e = .returned (.bool true) ∧ Below w.heap.size w w' := by
  rcases hq1 : airB ah av with _ | _
  · exact coreMixAir ah av bh bv x 0 0 (by decide) (by decide) (by decide) (by decide) 1 (sMixAir_bad1 ah av bh bv x hv1 hq1) (iMixAir_bad1 ah av bh bv x hv1 hq1) w
  · rcases hq2 : airB bh bv with _ | _
    · exact coreMixAir ah av bh bv x 0 0 (by decide) (by decide) (by decide) (by decide) 1 (sMixAir_bad2 ah av bh bv x hv1 hq1 hv2 hq2) (iMixAir_bad2 ah av bh bv x hv1 hq1 hv2 hq2) w
    · by_cases hs : Share x
      · obtain ⟨p1, p2, p3⟩ := airB_iff.1 hq1
        obtain ⟨r1, r2, r3⟩ := airB_iff.1 hq2
        have M1 := mix_facts h1 (heat_fin h1 p1) h2 (heat_fin h2 r1) hs
        have M2 := mix_facts hv1 (amt_fin p2) hv2 (amt_fin r2) hs
        rcases hr : airB (mixW ah bh x) (mixW av bv x) with _ | _
        · exact coreMixAir ah av bh bv x 0 0 (by decide) (by decide) (by decide) (by decide) 4 (sMixAir_state ah av bh bv x hv1 hq1 hv2 hq2 hs M1 M2 hr) (iMixAir_state ah av bh bv x hv1 hq1 hv2 hq2 hs M1 M2 hr) w
        · obtain ⟨t1, t2, t3⟩ := airB_iff.1 hr
          exact coreMixAir ah av bh bv x _ _ M1.lt M2.lt (heat_fin M1.lt t1) (amt_fin t2) 0 (sMixAir_ok ah av bh bv x hv1 hq1 hv2 hq2 hs M1 M2 hr) (iMixAir_ok ah av bh bv x hv1 hq1 hv2 hq2 hs M1 M2 hr) w
      · exact coreMixAir ah av bh bv x 0 0 (by decide) (by decide) (by decide) (by decide) 2 (sMixAir_range ah av bh bv x hv1 hq1 hv2 hq2 hx hs) (iMixAir_range ah av bh bv x hv1 hq1 hv2 hq2 hx hs) w

theorem words_cons : ∀ (v : List Char) (r : List Char), (∀ c ∈ v, c ≠ Char.ofNat 32) → wordsSigns (v ++ Char.ofNat 32 :: r) = v :: wordsSigns r
  | [], r, _ => rfl
  | c :: v, r, h => by
    have ih := words_cons v r (fun x hx => h x (by simp [hx]))
    have hc : c ≠ Char.ofNat 32 := h c (by simp)
    show wordsSigns (c :: (v ++ Char.ofNat 32 :: r)) = _
    rw [wordsSigns.eq_3 _ _ (fun e => hc e), ih]

def w0 : List Nat := [104, 97, 114, 110, 101, 115, 115]

def w1 : List Nat := [53, 101, 102, 56, 48, 48, 53, 56, 54, 100, 51, 48, 49, 98, 54, 54, 57, 52, 99, 102, 99, 101, 101, 57, 49, 48, 101, 49, 57, 55, 100, 55, 99, 55, 55, 54, 97, 53, 53, 48, 97, 51, 54, 101, 49, 50, 100, 50, 52, 98, 98, 98, 48, 49, 57, 99, 101, 102, 98, 54, 99, 51, 99, 55]

def w2 : List Nat := [99, 117, 116]

def w3 : List Nat := [97, 116, 32, 108, 111, 111, 112, 46, 101, 120, 97, 109, 112, 108, 101, 47, 103, 48, 49, 50, 50, 52, 47, 108, 97, 119, 115, 46, 70, 110, 83, 117, 109, 115, 32, 108, 111, 111, 112, 46, 101, 120, 97, 109, 112, 108, 101, 47, 103, 48, 49, 50, 50, 52, 47, 108, 97, 119, 115, 46, 70, 110, 83, 104, 105, 102, 116, 101, 100, 32, 108, 111, 111, 112, 46, 101, 120, 97, 109, 112, 108, 101, 47, 103, 48, 49, 50, 50, 52, 47, 108, 97, 119, 115, 46, 70, 110, 71, 114, 111, 119, 110, 32, 108, 111, 111, 112, 46, 101, 120, 97, 109, 112, 108, 101, 47, 103, 48, 49, 50, 50, 52, 47, 108, 97, 119, 115, 46, 70, 110, 78, 117, 99, 108, 101, 105, 32, 108, 111, 111, 112, 46, 101, 120, 97, 109, 112, 108, 101, 47, 103, 48, 49, 50, 50, 52, 47, 108, 97, 119, 115, 46, 70, 110, 69, 120, 97, 99, 116, 83, 97, 109, 101, 83, 105, 122, 101, 115, 32, 108, 111, 111, 112, 46, 101, 120, 97, 109, 112, 108, 101, 47, 103, 48, 49, 50, 50, 52, 47, 108, 97, 119, 115, 46, 70, 110, 69, 120, 97, 99, 116, 84, 104, 105, 114, 100, 82, 111, 111, 116, 32, 108, 111, 111, 112, 46, 101, 120, 97, 109, 112, 108, 101, 47, 103, 48, 49, 50, 50, 52, 47, 108, 97, 119, 115, 46, 70, 110, 69, 120, 97, 99, 116, 82, 97, 100, 105, 117, 115, 79, 102, 32, 108, 111, 111, 112, 46, 101, 120, 97, 109, 112, 108, 101, 47, 103, 48, 49, 50, 50, 52, 47, 108, 97, 119, 115, 46, 70, 110, 69, 120, 97, 99, 116, 77, 111, 109, 101, 110, 116, 79, 102, 32, 108, 111, 111, 112, 46, 101, 120, 97, 109, 112, 108, 101, 47, 103, 48, 49, 50, 50, 52, 47, 108, 97, 119, 115, 46, 70, 110, 69, 120, 97, 99, 116, 80, 117, 116, 68, 114, 111, 112, 108, 101, 116, 115, 32, 108, 111, 111, 112, 46, 101, 120, 97, 109, 112, 108, 101, 47, 103, 48, 49, 50, 50, 52, 47, 108, 97, 119, 115, 46, 70, 110, 69, 120, 97, 99, 116, 65, 100, 100, 83, 105, 122, 101, 115, 32, 108, 111, 111, 112, 46, 101, 120, 97, 109, 112, 108, 101, 47, 103, 48, 49, 50, 50, 52, 47, 108, 97, 119, 115, 46, 70, 110, 69, 120, 97, 99, 116, 77, 105, 120, 83, 105, 122, 101, 115, 32, 108, 111, 111, 112, 46, 101, 120, 97, 109, 112, 108, 101, 47, 103, 48, 49, 50, 50, 52, 47, 108, 97, 119, 115, 46, 70, 110, 69, 120, 97, 99, 116, 83, 104, 105, 102, 116, 77, 97, 115, 115, 101, 115, 32, 108, 111, 111, 112, 46, 101, 120, 97, 109, 112, 108, 101, 47, 103, 48, 49, 50, 50, 52, 47, 108, 97, 119, 115, 46, 70, 110, 69, 120, 97, 99, 116, 84, 119, 111, 84, 111, 32, 108, 111, 111, 112, 46, 101, 120, 97, 109, 112, 108, 101, 47, 103, 48, 49, 50, 50, 52, 47, 108, 97, 119, 115, 46, 70, 110, 69, 120, 97, 99, 116, 86, 97, 108, 105, 100, 65, 105, 114, 32, 108, 111, 111, 112, 46, 101, 120, 97, 109, 112, 108, 101, 47, 103, 48, 49, 50, 50, 52, 47, 108, 97, 119, 115, 46, 70, 110, 69, 120, 97, 99, 116, 83, 97, 109, 101, 65, 105, 114, 32, 108, 111, 111, 112, 46, 101, 120, 97, 109, 112, 108, 101, 47, 103, 48, 49, 50, 50, 52, 47, 108, 97, 119, 115, 46, 70, 110, 69, 120, 97, 99, 116, 83, 97, 116, 117, 114, 97, 116, 105, 111, 110, 65, 116, 32, 108, 111, 111, 112, 46, 101, 120, 97, 109, 112, 108, 101, 47, 103, 48, 49, 50, 50, 52, 47, 108, 97, 119, 115, 46, 70, 110, 69, 120, 97, 99, 116, 69, 120, 99, 101, 115, 115, 79, 102, 32, 108, 111, 111, 112, 46, 101, 120, 97, 109, 112, 108, 101, 47, 103, 48, 49, 50, 50, 52, 47, 108, 97, 119, 115, 46, 70, 110, 69, 120, 97, 99, 116, 72, 117, 109, 105, 100, 105, 116, 121, 79, 102, 32, 108, 111, 111, 112, 46, 101, 120, 97, 109, 112, 108, 101, 47, 103, 48, 49, 50, 50, 52, 47, 108, 97, 119, 115, 46, 70, 110, 69, 120, 97, 99, 116, 71, 97, 105, 110, 115, 65, 116, 32, 108, 111, 111, 112, 46, 101, 120, 97, 109, 112, 108, 101, 47, 103, 48, 49, 50, 50, 52, 47, 108, 97, 119, 115, 46, 70, 110, 69, 120, 97, 99, 116, 71, 114, 111, 119, 79, 110, 99, 101, 32, 108, 111, 111, 112, 46, 101, 120, 97, 109, 112, 108, 101, 47, 103, 48, 49, 50, 50, 52, 47, 108, 97, 119, 115, 46, 70, 110, 69, 120, 97, 99, 116, 71, 114, 111, 119, 83, 116, 101, 112, 115, 32, 108, 111, 111, 112, 46, 101, 120, 97, 109, 112, 108, 101, 47, 103, 48, 49, 50, 50, 52, 47, 108, 97, 119, 115, 46, 70, 110, 69, 120, 97, 99, 116, 65, 99, 116, 105, 118, 97, 116, 101, 32, 108, 111, 111, 112, 46, 101, 120, 97, 109, 112, 108, 101, 47, 103, 48, 49, 50, 50, 52, 47, 108, 97, 119, 115, 46, 70, 110, 69, 120, 97, 99, 116, 87, 97, 116, 101, 114, 73, 110, 32, 108, 111, 111, 112, 46, 101, 120, 97, 109, 112, 108, 101, 47, 103, 48, 49, 50, 50, 52, 47, 108, 97, 119, 115, 46, 70, 110, 69, 120, 97, 99, 116, 77, 105, 120, 65, 105, 114, 32, 108, 111, 111, 112, 46, 101, 120, 97, 109, 112, 108, 101, 47, 103, 48, 49, 50, 50, 52, 47, 108, 97, 119, 115, 46, 70, 110, 69, 120, 97, 99, 116, 83, 116, 101, 112, 115, 84, 111, 68, 114, 121, 32, 108, 111, 111, 112, 46, 101, 120, 97, 109, 112, 108, 101, 47, 103, 48, 49, 50, 50, 52, 47, 108, 97, 119, 115, 46, 70, 110, 69, 120, 97, 99, 116, 68, 101, 119, 72, 101, 97, 116]

def letters (l : List Nat) : List Char := l.map Char.ofNat

theorem head_reads : Try.prog.initOrder = String.ofList (letters w0 ++ Char.ofNat 32 :: (letters w1 ++ Char.ofNat 32 :: (letters w2 ++ Char.ofNat 32 :: letters w3))) := by kernel_rfl

theorem no_blank {l : List Nat} (h : l.all (fun n => Char.ofNat n != Char.ofNat 32) = true) : ∀ c ∈ letters l, c ≠ Char.ofNat 32 := by
  intro c hc
  obtain ⟨n, hn, rfl⟩ := List.mem_map.1 hc
  have := List.all_eq_true.1 h n hn
  simpa using this

theorem h0 : letters w0 = "harness".toList := by kernel_rfl

theorem h2 : letters w2 = "cut".toList := by kernel_rfl

theorem sums : isSumSigns (letters w1) = true := by kernel_rfl

theorem words : wordsSigns Try.prog.initOrder.toList = "harness".toList :: letters w1 :: "cut".toList :: wordsSigns (letters w3) := by
  rw [head_reads, String.toList_ofList, words_cons _ _ (no_blank (by decide +kernel)), words_cons _ _ (no_blank (by decide +kernel)), words_cons _ _ (no_blank (by decide +kernel)), h0, h2]

theorem behind : ∃ r, behindMainWord (wordsSigns Try.prog.initOrder.toList) = "cut".toList :: r := by
  refine ⟨wordsSigns (letters w3), ?_⟩
  rw [words]
  generalize wordsSigns (letters w3) = r
  have hs := sums
  generalize letters w1 = v at hs
  unfold behindMainWord
  simp [hs]

theorem not_later : Try.prog.laysLater = false := by kernel_rfl

theorem no_reflect : Try.prog.bearsReflect = false := by kernel_rfl

theorem no_doors : Try.prog.doorFits [] = true := by kernel_rfl

theorem strips (r : List (List Char)) : stripLifts liftWords ("cut".toList :: r) = ([], "cut".toList :: r) := by kernel_rfl

theorem may_enter_of (P : Program) (r : List (List Char)) (h : behindMainWord (wordsSigns P.initOrder.toList) = "cut".toList :: r) (h1 : P.laysLater = false) (h2 : P.bearsReflect = false) (h3 : P.doorFits [] = true) : P.mayEnter = true := by
  unfold Program.mayEnter
  rw [h]
  dsimp only
  rw [strips, h1, h2, h3]
  kernel_rfl

theorem lifts_final_of (P : Program) (r : List (List Char)) (h : behindMainWord (wordsSigns P.initOrder.toList) = "cut".toList :: r) : P.liftsFinal = false := by
  unfold Program.liftsFinal Program.headLifts
  rw [h]
  dsimp only
  rw [strips]
  kernel_rfl

theorem made_of (P : Program) (r : List (List Char)) (h : behindMainWord (wordsSigns P.initOrder.toList) = "cut".toList :: r) : P.make = some .cut := by
  unfold Program.make
  rw [h]
  kernel_rfl

theorem may_enter : Try.prog.mayEnter = true := let ⟨r, h⟩ := behind; may_enter_of _ r h not_later no_reflect no_doors

theorem lifts_final : Try.prog.liftsFinal = false := let ⟨r, h⟩ := behind; lifts_final_of _ r h

theorem made : Try.prog.make = some .cut := let ⟨r, h⟩ := behind; made_of _ r h

theorem laid : laidOutB Try.prog = true := by kernel_rfl

theorem rowed : mapsRowed Try.prog = true := by kernel_rfl

theorem no_stops : Try.prog.stops = [] := by kernel_rfl

theorem no_knobs : Try.prog.stopKnobs = [] := by kernel_rfl

theorem plain_keys : Try.prog.plainKeys = true := by kernel_rfl

theorem stops_heard : Try.prog.stopsHeard = true := by kernel_rfl

theorem arr3 {α : Type} {cs : Array α} (h : cs.size = 3) : ∃ c0 c1 c2, cs = #[c0, c1, c2] := by
  obtain ⟨l⟩ := cs
  match l, h with
  | [a, b, c], _ => exact ⟨a, b, c, rfl⟩

theorem own : ownKnob Try.prog.godebug = none := by kernel_rfl

theorem rda : Try.prog.readableRec 25 = true ∧ 25 < Try.prog.types.size := ⟨by kernel_rfl, of_decide_eq_true (by kernel_rfl)⟩

theorem rdf : Try.prog.readableRec 24 = true ∧ 24 < Try.prog.types.size := ⟨by kernel_rfl, of_decide_eq_true (by kernel_rfl)⟩

theorem cells2 : Try.prog.cellsOf 70 = 2 := by kernel_rfl

theorem types2 : Try.prog.cellTypes Try.prog.depth 70 = some [24, 24] := by kernel_rfl

theorem rdA : Try.prog.readableRec 70 = true ∧ 70 < Try.prog.types.size := ⟨by kernel_rfl, of_decide_eq_true (by kernel_rfl)⟩

theorem rdi : Try.prog.readableRec 2 = true ∧ 2 < Try.prog.types.size := ⟨by kernel_rfl, of_decide_eq_true (by kernel_rfl)⟩
end Go.Proofs.Ytgocemjopmgnaaa

namespace Go.Proofs.Ytgocemjopmgnaaa.fnExactMixAir
open Go.RowKit Go.Fl Go.ChangeShapes Go.WideShapes Go.ChangeAt

theorem closed : joinedFacts Try.prog 26 Try.f26 Rows.fnExactMixAirSpec Rows.fnExactMixAirRow = true := by
  unfold joinedFacts
  simp only [Bool.and_eq_true]
  exact ⟨⟨⟨⟨⟨⟨⟨⟨⟨⟨⟨⟨⟨⟨⟨⟨⟨⟨⟨⟨⟨⟨⟨⟨⟨⟨⟨⟨⟨⟨⟨(by as_aux_lemma => kernel_rfl),
    laid⟩,
    rowed⟩,
    (by as_aux_lemma => kernel_rfl)⟩,
    (by as_aux_lemma => kernel_rfl)⟩,
    (by as_aux_lemma => kernel_rfl)⟩,
    (by rw [no_stops]; rfl)⟩,
    (by as_aux_lemma => kernel_rfl)⟩,
    (by rw [no_knobs]; rfl)⟩,
    (by as_aux_lemma => kernel_rfl)⟩,
    (by as_aux_lemma => kernel_rfl)⟩,
    (by as_aux_lemma => kernel_rfl)⟩,
    (by as_aux_lemma => kernel_rfl)⟩,
    (by as_aux_lemma => kernel_rfl)⟩,
    (by as_aux_lemma => kernel_rfl)⟩,
    (by as_aux_lemma => kernel_rfl)⟩,
    (by as_aux_lemma => kernel_rfl)⟩,
    (by as_aux_lemma => kernel_rfl)⟩,
    (by as_aux_lemma => kernel_rfl)⟩,
    (by as_aux_lemma => kernel_rfl)⟩,
    (by as_aux_lemma => kernel_rfl)⟩,
    (by as_aux_lemma => kernel_rfl)⟩,
    (show (Rows.fnExactMixAirRow.plainKeys == Try.prog.plainKeys) = true by rw [plain_keys]; rfl)⟩,
    (by as_aux_lemma => kernel_rfl)⟩,
    stops_heard⟩,
    may_enter⟩,
    (show (Rows.fnExactMixAirRow.lifted == Try.prog.liftsFinal) = true by rw [lifts_final]; rfl)⟩,
    (show (Try.prog.make == some Rows.fnExactMixAirRow.make) = true by rw [made]; rfl)⟩,
    (by as_aux_lemma => kernel_rfl)⟩,
    (by as_aux_lemma => kernel_rfl)⟩,
    (by as_aux_lemma => kernel_rfl)⟩,
    (by as_aux_lemma => kernel_rfl)⟩

set_option maxRecDepth 100000 in
theorem lifted (os : Os) (started : os.Started) (H : Type) (enc : TypeId × Value → H) :
    ReturnsInHanded {} Try.checked os 26 .any (Rows.fnExactMixAirSpec.pre6 enc Try.prog Try.f26 Rows.fnExactMixAirRow.domain false) (Rows.fnExactMixAirSpec.post enc Try.prog Try.f26 false true false false) := by
  refine LawFrame.lifted (C := Try.checked) (fn := Try.f26) (n := 3) (tb := 4) started own (by kernel_rfl) Try.func26 laid ?_ rfl rfl ?_ rfl Try.underlying4
    (ChangeSpec.witness6 (enc := enc) (C := Try.checked) false ⟨#[], #[.agg #[.float .f32 0, .float .f32 0], .agg #[.float .f32 0, .float .f32 0], .float .f32 0], []⟩ 8 (by kernel_rfl) (by kernel_rfl) (by kernel_rfl) (by kernel_rfl)) ?_
  · intro t ht
    simp only [Try.params26, List.mem_cons, List.not_mem_nil, or_false] at ht
    rcases ht with rfl | rfl | rfl <;> first | exact rda | exact rdf | exact rdi | exact rdA
  · intro ds hd
    match ds, hd with
    | [_, _, _], _ => rfl
  · intro W base args ds ps hval hn _
    obtain ⟨v0, v1, v2, rfl⟩ : ∃ v0 v1 v2, args = #[v0, v1, v2] := arr3 hn
    obtain ⟨c0h, c0v, rfl, hh0, hv0⟩ := open_two Try.underlying70 Try.underlying24 cells2 types2 (hval 0 70 v0 rfl rfl)
    obtain ⟨c1h, c1v, rfl, hh1, hv1⟩ := open_two Try.underlying70 Try.underlying24 cells2 types2 (hval 1 70 v1 rfl rfl)
    obtain ⟨c2, rfl, hb2⟩ := open_f32 Try.underlying24 (hval 2 24 v2 rfl rfl)
    exact lawMixAir c0h c0v hh0 hv0 c1h c1v hh1 hv1 c2 hb2 W

theorem over : Rows.fnExactMixAirRow.holds Try.pinned (OpenSpec.ofChange Rows.fnExactMixAirSpec) :=
  OpenClaim.holds_of_wide 26 Try.f26 rfl rfl rfl rfl rfl rfl rfl ⟨rfl, rfl, rfl, rfl, rfl⟩ rfl rfl rfl rfl rfl (by kernel_rfl) Try.func26 closed
    (of_decide_eq_true (by kernel_rfl)) (by unfold Func.isWrapper; rw [if_neg (by decide +kernel)]; exact ⟨rfl, rfl⟩)
    (fun os started H enc _ => lifted os started H enc)

theorem proved : Rows.FnExactMixAirSaid := over
#print axioms proved
end Go.Proofs.Ytgocemjopmgnaaa.fnExactMixAir
