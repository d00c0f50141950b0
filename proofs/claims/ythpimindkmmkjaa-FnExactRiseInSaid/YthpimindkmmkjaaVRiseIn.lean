import Derived.Test.YthpimindkmmkjaaCRiseIn
import Derived.Test.YthpimindkmmkjaaChecked
import Derived.Test.YthpimindkmmkjaaRows
import Derived.Laws.FloatArith
import Derived.ProofKit
import Derived.WalkKit
import Derived.WalkLawsBesides
import Derived.WalkSpells
import Derived.Deep.QuietTactic
import Derived.BigQuiet
import Derived.Deep.RegionHeld3
import Derived.ChangeKeysEq
import Derived.Laws.BitsAllLaws
import Derived.Deep.MidRow
import Derived.Deep.WholeRow
import Derived.StillTailTactics
import Derived.Deep.Slices
import Derived.ChangeSame
import Derived.OrdersIn
import Derived.ControlIn
import Derived.RangeFuncSeq
import Derived.RangeFuncNested
import Derived.RangeFuncLeaves
import Derived.RangeFuncBox
import Derived.OwnWalkIn
import Derived.TacticsInMore
import Derived.LoopNIn
import Derived.LoopIn
import Derived.Shelf.Abstract
import Derived.ArgAppend
import Derived.Lib.SliceRun
import Derived.OpenShut
import Derived.Below
import Derived.Laws.AppendOwn
import Derived.MapKept
import Derived.StillTail
import Derived.ScopeJumps
/- The law FnExactRiseIn of chapter 1: at every argument the call returns true, and what was there before it is as it was. -/
namespace Go.Proofs.Ythpimindkmmkjaa
open Go.RowKit Go.Fl

@[go_sem] theorem ext_f64bits (y : Nat) (w : World) : (callFunc 181 #[.float .f64 y]).run Try.prog w = .ok (.value (.int .u64 y)) w := by
  rw [run_callFunc_extern Try.func181 (by kernel_rfl) (by kernel_rfl) (by kernel_rfl) (e := Extern.MathFloatBits.float64bits) (by kernel_rfl)]
  rfl

@[go_sem] theorem ext_f64from (n : Int) (w : World) : (callFunc 188 #[.int .u64 n]).run Try.prog w = .ok (.value (.float .f64 n.toNat)) w := by
  rw [run_callFunc_extern Try.func188 (by kernel_rfl) (by kernel_rfl) (by kernel_rfl) (e := Extern.MathFloatBits.float64frombits) (by kernel_rfl)]
  rfl

theorem hid {p : Prop} (h : p) : Hid p := h

theorem clear_sign (y : Nat) (h : y < 18446744073709551616) : (bits BinOp.andNot IntKind.u64 (y : Int) 9223372036854775808).toNat = y % 9223372036854775808 := by
  rw [u64_andNot _ _ (by omega) (by omega) (by omega) (by omega)]
  rw [Int.toNat_natCast, Int.toNat_natCast]
  exact Nat.and_two_pow_sub_one_eq_mod y 63

theorem abs_f64 (y : Nat) (h : y < 18446744073709551616) (w : World) :
    Calls Try.prog 176 #[.float .f64 y] w fun e w' => e = .returned (.float .f64 (y % 9223372036854775808)) ∧ w = w' := by
  have hc := hid (clear_sign y h)
  clear h
  go_enter Try.func176, Try.ntmps176
  go_wp2
  go_ret
  exact ⟨by simp [hc.out], rfl⟩

theorem isNaN_f64 (y : Nat) (w : World) :
    Calls Try.prog 149 #[.float .f64 y] w fun e w' => e = .returned (.bool (FloatKind.f64.format.order y y != some .eq)) ∧ w = w' := by
  go_enter Try.func149, Try.ntmps149
  go_wp2
  go_ret
  exact ⟨rfl, rfl⟩

theorem isInf_f64 (y : Nat) (h : y < 18446744073709551616) (w : World) :
    Calls Try.prog 150 #[.float .f64 y, .int .i64 0] w fun e w' => e = .returned (.bool (FloatKind.f64.format.order (y % 9223372036854775808) 9218868437227405311 == some .gt)) ∧ w = w' := by
  have hc := hid h
  clear h
  go_enter Try.func150, Try.ntmps150
  go_wp2_with (go_at_call 176; refine (abs_f64 y hc.out _).mono ?_; rintro e w' ⟨rfl, rfl⟩)
  go_ret
  exact ⟨rfl, rfl⟩

theorem isFinite_t (x : Nat) (hx : x < 4294967296) (h : finB x = true) (w : World) :
    Calls Try.prog 105 #[.float .f32 x] w fun e w' => e = .returned (.bool true) ∧ w = w' := by
  rw [finB_iff] at h
  have hc := fun w => run_conv_wid (P := Try.prog) w 22 94 x hx Try.underlying22 Try.underlying94 h
  obtain ⟨a, b, m, e, hr⟩ := read_wid_fin hx h
  have hn : (FloatKind.f64.format.order (wid x) (wid x) != some .eq) = false := by
    show (D.order (wid x) (wid x) != some .eq) = false
    rw [order_self hr]; rfl
  have hi : (FloatKind.f64.format.order (wid x % 9223372036854775808) 9218868437227405311 == some .gt) = false := by
    show (D.order (wid x % 9223372036854775808) 9218868437227405311 == some .gt) = false
    rw [b, order_ltD a (by decide)]
    rw [DINF_val] at a
    have hle : wid (mg x) ≤ 9218868437227405311 := by omega
    rcases Nat.lt_or_eq_of_le hle with h' | h'
    · rw [Nat.compare_eq_lt.2 h']; rfl
    · rw [Nat.compare_eq_eq.2 h']; rfl
  have hw : wid x < 18446744073709551616 := D.write_lt _
  have Hn := hid hn
  have Hi := hid hi
  have Hw := hid hw
  clear hn hi hw hr a b h hx
  go_enter Try.func105, Try.ntmps105
  go_wp2_with (first | (go_at_call 149; refine (isNaN_f64 (wid x) _).mono ?_; rintro e w' ⟨rfl, rfl⟩; rw [Hn.out]) | (go_at_call 150; refine (isInf_f64 (wid x) Hw.out _).mono ?_; rintro e w' ⟨rfl, rfl⟩; rw [Hi.out]))
  go_ret
  exact ⟨rfl, rfl⟩

theorem isFinite_f (x : Nat) (hx : x < 4294967296) (h : finB x = false) (w : World) :
    Calls Try.prog 105 #[.float .f32 x] w fun e w' => e = .returned (.bool false) ∧ Below w.heap.size w w' := by
  rw [finB_iff'] at h
  rcases Nat.lt_or_eq_of_le h with h | h
  · obtain ⟨z, hc, h1, _⟩ := run_conv_nan (P := Try.prog) w 22 94 x Try.underlying22 Try.underlying94 h
    obtain ⟨s, t, hr⟩ := read_nanD h1
    have Hn := hid (show (FloatKind.f64.format.order z z != some .eq) = true by
      show (D.order z z != some .eq) = true
      rw [order_nan hr]; rfl)
    clear h h1 hr hx
    go_enter Try.func105, Try.ntmps105
    go_wp2_with (go_at_call 149; refine (isNaN_f64 z _).mono ?_; rintro e w' ⟨rfl, rfl⟩; rw [Hn.out])
    go_ret
    exact ⟨rfl, (Below.refl _ _).drew⟩
  · obtain ⟨z, hc, h1, h2⟩ := run_conv_inf (P := Try.prog) w 22 94 x hx Try.underlying22 Try.underlying94 h.symm
    have hr : D.read z = .infinity (decide (9223372036854775808 ≤ z)) := by rw [read_signD h2, h1, read_DINF]
    have Hn := hid (show (FloatKind.f64.format.order z z != some .eq) = false by
      show (D.order z z != some .eq) = false
      rw [order_inf hr]; rfl)
    have Hi := hid (show (FloatKind.f64.format.order (z % 9223372036854775808) 9218868437227405311 == some .gt) = true by
      rw [h1]; decide)
    have H2 := hid h2
    clear h h1 hr hx h2
    go_enter Try.func105, Try.ntmps105
    go_wp2_with (first | (go_at_call 149; refine (isNaN_f64 z _).mono ?_; rintro e w' ⟨rfl, rfl⟩; rw [Hn.out]) | (go_at_call 150; refine (isInf_f64 z H2.out _).mono ?_; rintro e w' ⟨rfl, rfl⟩; rw [Hi.out]))
    go_ret
    exact ⟨rfl, Below.refl _ _⟩

theorem signbit_f64 (y : Nat) (w : World) :
    Calls Try.prog 154 #[.float .f64 y] w fun e w' => e = .returned (.bool (decide (wrap64 (y : Int) < 0))) ∧ w = w' := by
  go_enter Try.func154, Try.ntmps154
  go_wp2
  go_ret
  exact ⟨rfl, rfl⟩

theorem and_sign (y : Nat) (h : y < 18446744073709551616) : (decide (wrap64 (y : Int) < 0)) = decide (9223372036854775808 ≤ y) := by
  unfold wrap64
  by_cases h' : 9223372036854775808 ≤ y
  · rw [decide_eq_true h']; simp; omega
  · rw [decide_eq_false h']; simp; omega

theorem isAmount_t (x : Nat) (h : amtB x = true) (w : World) :
    Calls Try.prog 109 #[.float .f32 x] w fun e w' => e = .returned (.bool true) ∧ w = w' := by
  have hf := amt_fin h
  rw [amtB_iff, INF_val] at h
  have hx : x < 4294967296 := by omega
  have hc := fun w => run_conv_wid (P := Try.prog) w 22 94 x hx Try.underlying22 Try.underlying94 (finB_iff.1 hf)
  have hw : wid x < 18446744073709551616 := D.write_lt _
  have Hs := hid (show (decide (wrap64 (wid x : Int) < 0)) = false by
    rw [and_sign _ hw]
    have := (wid_val (x := x) (by rw [INF_val]; omega)).1
    rw [DINF_val] at this
    simp; omega)
  have Hx := hid hx
  have Hf := hid hf
  clear h hf hx hw
  go_enter Try.func109, Try.ntmps109
  go_wp2_with (first | (go_at_call 105; refine (isFinite_t x Hx.out Hf.out _).mono ?_; rintro e w' ⟨rfl, rfl⟩) | (go_at_call 154; refine (signbit_f64 (wid x) _).mono ?_; rintro e w' ⟨rfl, rfl⟩; rw [Hs.out]))
  go_ret
  exact ⟨rfl, rfl⟩

theorem isAmount_f (x : Nat) (hx : x < 4294967296) (h : amtB x = false) (w : World) :
    Calls Try.prog 109 #[.float .f32 x] w fun e w' => e = .returned (.bool false) ∧ Below w.heap.size w w' := by
  rcases hf : finB x with _ | _
  · have Hx := hid hx
    have Hf := hid hf
    clear h hf hx
    go_enter Try.func109, Try.ntmps109
    go_wp2_with (go_at_call 105; refine (isFinite_f x Hx.out Hf.out _).mono ?_; rintro e w' ⟨rfl, hb⟩)
    go_ret
    exact ⟨rfl, hb⟩
  · have hc := fun w => run_conv_wid (P := Try.prog) w 22 94 x hx Try.underlying22 Try.underlying94 (finB_iff.1 hf)
    have hw : wid x < 18446744073709551616 := D.write_lt _
    have Hs := hid (show (decide (wrap64 (wid x : Int) < 0)) = true by
      rw [and_sign _ hw, wid_fin hx (finB_iff.1 hf)]
      rw [amtB_iff', INF_val] at h
      rw [finB_iff, INF_val] at hf
      unfold mg at hf ⊢
      rw [if_pos (by omega)]
      simp)
    have Hx := hid hx
    have Hf := hid hf
    clear h hf hx hw
    go_enter Try.func109, Try.ntmps109
    go_wp2_with (first | (go_at_call 105; refine (isFinite_t x Hx.out Hf.out _).mono ?_; rintro e w' ⟨rfl, rfl⟩) | (go_at_call 154; refine (signbit_f64 (wid x) _).mono ?_; rintro e w' ⟨rfl, rfl⟩; rw [Hs.out]))
    go_ret
    exact ⟨rfl, Below.refl _ _⟩

theorem info_f32 : ∃ i, Try.prog.info? 22 = some i ∧ i.size = 1 := by
  have h : (Try.prog.info? 22).map (·.size) = some 1 := by kernel_rfl
  cases hi : Try.prog.info? 22 with
  | none => rw [hi] at h; cases h
  | some i => rw [hi] at h; exact ⟨i, rfl, Option.some.inj h⟩

theorem ix (T : TypeId) (hT : Try.prog.underlying T = some (.array 20 22)) (c : Nat → Nat) (k : Nat) (hk : k < 20) (w : World) :
    (Instr.index T (.agg (fls c)) (.int .i64 (k : Int))).run Try.prog w = .ok (.float .f32 (c k)) w := by
  obtain ⟨i, h1, h2⟩ := info_f32
  exact run_index_arr hT Try.underlying22 rfl h1 h2 _ _ hk _ (fls_get c hk) w

@[go_sem] theorem ext_f32bits (y : Nat) (w : World) : (callFunc 122 #[.float .f32 y]).run Try.prog w = .ok (.value (.int .u32 y)) w := by
  rw [run_callFunc_extern Try.func122 (by kernel_rfl) (by kernel_rfl) (by kernel_rfl) (e := Extern.MathFloatBits.float32bits) (by kernel_rfl)]
  rfl

theorem sFinite_t (x : Nat) (hx : x < 4294967296) (h : finB x = true) (w : World) :
    Calls Try.prog 100 #[.float .f32 x] w fun e w' => e = .returned (.bool true) ∧ w = w' := by
  have hr := fun w => run_float_arith (P := Try.prog) w .sub 22 .f32 x x 0 (sub_self_fin hx h)
  clear h hx
  go_enter Try.func100, Try.ntmps100
  go_wp2
  go_ret
  exact ⟨rfl, rfl⟩

theorem sFinite_f (x : Nat) (hx : x < 4294967296) (h : finB x = false) (w : World) :
    Calls Try.prog 100 #[.float .f32 x] w fun e w' => e = .returned (.bool false) ∧ Below w.heap.size w w' := by
  obtain ⟨z, hr, h1, _⟩ := run_arith_nan (P := Try.prog) w .sub (by simp) 22 x x (sub_self_none hx h)
  have Hn := hid (show (FloatKind.f32.format.order z 0 == some .eq) = false by
    show (S.order z 0 == some .eq) = false
    rw [order_nan32 h1]; rfl)
  clear h hx h1
  go_enter Try.func100, Try.ntmps100
  go_wp2
  go_ret
  exact ⟨by simp [Hn.out], (Below.refl _ _).drew⟩

theorem sAmount_t (x : Nat) (h : amtB x = true) (w : World) :
    Calls Try.prog 66 #[.float .f32 x] w fun e w' => e = .returned (.bool true) ∧ w = w' := by
  have hf := amt_fin h
  have h' := amtB_iff.1 h
  have hx : x < 4294967296 := by rw [INF_val] at h'; omega
  have Hx := hid hx
  have Hf := hid hf
  by_cases h0 : x = 0
  · subst h0
    clear h hf h' hx
    go_enter Try.func66, Try.ntmps66
    go_wp2_with (go_at_call 100; refine (sFinite_t 0 Hx.out Hf.out _).mono ?_; rintro e w' ⟨rfl, rfl⟩)
    go_ret
    exact ⟨rfl, rfl⟩
  · have hg : (FloatKind.f32.format.order x 0 == some .gt) = true := by
      show (S.order x 0 == some .gt) = true
      rw [order_zero_pos h', Nat.compare_eq_gt.2 (by omega)]; rfl
    clear h hf h' hx h0
    go_enter Try.func66, Try.ntmps66
    go_wp2_with (go_at_call 100; refine (sFinite_t x Hx.out Hf.out _).mono ?_; rintro e w' ⟨rfl, rfl⟩)
    go_ret
    exact ⟨rfl, rfl⟩

theorem sAmount_f (x : Nat) (hx : x < 4294967296) (h : amtB x = false) (w : World) :
    Calls Try.prog 66 #[.float .f32 x] w fun e w' => e = .returned (.bool false) ∧ Below w.heap.size w w' := by
  rcases hf : finB x with _ | _
  · have Hx := hid hx
    have Hf := hid hf
    clear h hf hx
    go_enter Try.func66, Try.ntmps66
    go_wp2_with (go_at_call 100; refine (sFinite_f x Hx.out Hf.out _).mono ?_; rintro e w' ⟨rfl, hb⟩)
    go_ret
    exact ⟨rfl, hb⟩
  · have hs : 2147483648 ≤ x := by
      rw [amtB_iff', INF_val] at h
      have := finB_iff.1 hf
      rw [INF_val] at this
      unfold mg at this
      omega
    have hg : (FloatKind.f32.format.order x 0 == some .gt) = false := order_neg_zero hx hf hs
    have hb : ((x : Int) == 0) = false := by simp; omega
    have Hx := hid hx
    have Hf := hid hf
    clear h hf hx hs
    go_enter Try.func66, Try.ntmps66
    go_wp2_with (go_at_call 100; refine (sFinite_t x Hx.out Hf.out _).mono ?_; rintro e w' ⟨rfl, rfl⟩)
    go_ret
    exact ⟨rfl, Below.refl _ _⟩

theorem div_one_some {y m : Nat} {s : Bool} {e : Int} (h : D.read y = .number s m e) : ∃ q, floatBits .quo .f64 4607182418800017408 y = some q := by
  have h1 : D.read 4607182418800017408 = .number false 4503599627370496 (-52) := by decide
  show ∃ q, D.div 4607182418800017408 y = some q
  unfold Ieee.Format.div
  rw [h, h1]
  simp only [Ieee.Datum.quotient]
  by_cases hm : m = 0
  · rw [if_pos hm]; exact ⟨_, rfl⟩
  · rw [if_neg hm]; exact ⟨_, rfl⟩

set_option maxRecDepth 100000 in
theorem sameFloat (x : Nat) (hx : x < 4294967296) (h : finB x = true) (w : World) :
    Calls Try.prog 50 #[.float .f64 (wid x), .float .f64 (wid x)] w fun e w' => e = .returned (.bool true) ∧ w = w' := by
  obtain ⟨a, b, m, e, hr⟩ := read_wid_fin hx (finB_iff.1 h)
  have hn : (FloatKind.f64.format.order (wid x) (wid x) != some .eq) = false := by
    show (D.order (wid x) (wid x) != some .eq) = false
    rw [order_self hr]; rfl
  have hq : (FloatKind.f64.format.order (wid x) (wid x) == some .eq) = true := by
    show (D.order (wid x) (wid x) == some .eq) = true
    rw [order_self hr]; rfl
  obtain ⟨q, hd⟩ := div_one_some hr
  have hdiv := fun w => run_float_arith (P := Try.prog) w .quo 94 .f64 4607182418800017408 (wid x) q hd
  clear hd hr a b h hx
  rcases hz : (FloatKind.f64.format.order (wid x) 0 == some .eq) with _ | _
  · go_enter Try.func50, Try.ntmps50
    go_wp2
    go_ret
    exact ⟨by simp, rfl⟩
  · go_enter Try.func50, Try.ntmps50
    go_wp2
    go_ret
    exact ⟨by simp, rfl⟩

theorem back {P : Program} {f : FuncId} {args : Array Value} {w : World} {v : Value} (h : Calls P f args w fun e w' => e = .returned v ∧ w = w') : Calls P f args w fun e w' => e = .returned v ∧ w' = w :=
  h.mono fun _ _ ⟨a, b⟩ => ⟨a, b.symm⟩

def Share (x : Nat) : Prop := x ≤ 1065353216

theorem share_amt {x : Nat} (h : Share x) : amtB x = true := by unfold Share at h; rw [amtB_iff, INF_val]; omega

theorem l00In_t (n a b : Int) (h1 : a ≤ n) (h2 : n ≤ b) (w : World) :
    Calls Try.prog 68 #[.int .i64 n, .int .i64 a, .int .i64 b] w fun e w' => e = .returned (.bool true) ∧ w = w' := by
  go_enter Try.func68, Try.ntmps68
  go_wp2
  go_ret
  exact ⟨by first | rfl | (simp; done) | (simp; omega), rfl⟩

theorem l00In_f (n a b : Int) (hn : ¬ (a ≤ n ∧ n ≤ b)) (w : World) :
    Calls Try.prog 68 #[.int .i64 n, .int .i64 a, .int .i64 b] w fun e w' => e = .returned (.bool false) ∧ w = w' := by
  by_cases h0 : a ≤ n
  · have h3 : b < n := by omega
    clear hn
    go_enter Try.func68, Try.ntmps68
    go_wp2
    go_ret
    exact ⟨by first | rfl | (simp; done) | (simp; omega), rfl⟩
  · have h3 : n < a := by omega
    have h4 : decide (a ≤ n) = false := by simp; omega
    clear hn h0
    go_enter Try.func68, Try.ntmps68
    go_wp2
    go_ret
    exact ⟨by simp, rfl⟩

theorem leq_one_t {x : Nat} (h : Share x) : (FloatKind.f32.format.order x 1065353216 == some .lt || FloatKind.f32.format.order x 1065353216 == some .eq) = true := by
  show (S.order x 1065353216 == some .lt || S.order x 1065353216 == some .eq) = true
  rw [order_lt (amtB_iff.1 (share_amt h)) (by decide)]
  unfold Share at h
  rcases Nat.lt_or_eq_of_le h with h | h
  · rw [Nat.compare_eq_lt.2 h]; rfl
  · rw [Nat.compare_eq_eq.2 h]; rfl

theorem leq_one_f {x : Nat} (ha : amtB x = true) (h : ¬ Share x) : (FloatKind.f32.format.order x 1065353216 == some .lt || FloatKind.f32.format.order x 1065353216 == some .eq) = false := by
  show (S.order x 1065353216 == some .lt || S.order x 1065353216 == some .eq) = false
  rw [order_lt (amtB_iff.1 ha) (by decide)]
  unfold Share at h
  rw [Nat.compare_eq_gt.2 (by omega)]; rfl

theorem iShare_t (x : Nat) (h : Share x) (w : World) :
    Calls Try.prog 58 #[.float .f32 x] w fun e w' => e = .returned (.bool true) ∧ w = w' := by
  have ho := leq_one_t h
  have Ha := hid (share_amt h)
  clear h
  go_enter Try.func58, Try.ntmps58
  go_wp2_with fail
  refine (isAmount_t x Ha.out _).mono ?_
  rintro e w1 ⟨rfl, rfl⟩
  go_wp2
  go_ret
  exact ⟨by first | rfl | (simp; done), rfl⟩

theorem iShare_f (x : Nat) (hx : x < 4294967296) (h : ¬ Share x) (w : World) :
    Calls Try.prog 58 #[.float .f32 x] w fun e w' => e = .returned (.bool false) ∧ Below w.heap.size w w' := by
  rcases ha : amtB x with _ | _
  · have Ha := hid ha
    have Hx := hid hx
    clear h ha hx
    go_enter Try.func58, Try.ntmps58
    go_wp2_with fail
    refine (isAmount_f x Hx.out Ha.out _).mono ?_
    rintro e w1 ⟨rfl, hb⟩
    go_wp2
    go_ret
    exact ⟨rfl, hb⟩
  · have ho := leq_one_f ha h
    have Ha := hid ha
    clear h ha hx
    go_enter Try.func58, Try.ntmps58
    go_wp2_with fail
    refine (isAmount_t x Ha.out _).mono ?_
    rintro e w1 ⟨rfl, rfl⟩
    go_wp2
    go_ret
    exact ⟨by first | rfl | (simp; done), Below.refl _ _⟩

theorem sShare_t (x : Nat) (h : Share x) (w : World) :
    Calls Try.prog 101 #[.float .f32 x] w fun e w' => e = .returned (.bool true) ∧ w = w' := by
  have ho := leq_one_t h
  have Ha := hid (share_amt h)
  clear h
  go_enter Try.func101, Try.ntmps101
  go_wp2_with fail
  refine (sAmount_t x Ha.out _).mono ?_
  rintro e w1 ⟨rfl, rfl⟩
  go_wp2
  go_ret
  exact ⟨by first | rfl | (simp; done), rfl⟩

theorem sShare_f (x : Nat) (hx : x < 4294967296) (h : ¬ Share x) (w : World) :
    Calls Try.prog 101 #[.float .f32 x] w fun e w' => e = .returned (.bool false) ∧ Below w.heap.size w w' := by
  rcases ha : amtB x with _ | _
  · have Ha := hid ha
    have Hx := hid hx
    clear h ha hx
    go_enter Try.func101, Try.ntmps101
    go_wp2_with fail
    refine (sAmount_f x Hx.out Ha.out _).mono ?_
    rintro e w1 ⟨rfl, hb⟩
    go_wp2
    go_ret
    exact ⟨rfl, hb⟩
  · have ho := leq_one_f ha h
    have Ha := hid ha
    clear h ha hx
    go_enter Try.func101, Try.ntmps101
    go_wp2_with fail
    refine (sAmount_t x Ha.out _).mono ?_
    rintro e w1 ⟨rfl, rfl⟩
    go_wp2
    go_ret
    exact ⟨by first | rfl | (simp; done), Below.refl _ _⟩

theorem loose {P : Program} {f : FuncId} {args : Array Value} {w : World} {v : Value} (h : Calls P f args w fun e w' => e = .returned v ∧ w = w') : Calls P f args w fun e w' => e = .returned v ∧ Below w.heap.size w w' :=
  h.mono fun _ _ ⟨a, b⟩ => ⟨a, b ▸ Below.refl _ _⟩

theorem alloc_air (a : Operand → Value) (d : Option Tmp) (t : TypeId) (ps : String) (af : Array Edge) (gd : Option (Nat × Bool)) (w : World) :
    (execOp a ⟨d, .alloc 32, t, ps, af, gd⟩).run Try.prog w = .ok (.value (.pointer (some ⟨w.heap.size, 0, none⟩))) (w.alloc (.cells (#[.float .f32 0, .float .f32 0]) 32)) := by
  unfold execOp
  go_simp

theorem info_air : (Try.prog.info? 32).map (·.size) = some 2 := by kernel_rfl

theorem info_lair : (Try.prog.info? 26).map (·.size) = some 2 := by kernel_rfl

def fltOf : Value → Nat
  | .float _ b => b
  | _ => 0

set_option maxRecDepth 100000 in
theorem toAir (h v : Nat) (w : World) :
    Calls Try.prog 19 #[.agg #[.float .f32 h, .float .f32 v]] w fun e w' => e = .returned (.agg #[.float .f32 h, .float .f32 v]) ∧ Below w.heap.size w w' := by
  have k0 : Hid (Kept w [(w.heap.size + 1, #[.float .f32 h, .float .f32 v], 32)] (((w.alloc (.cells #[.float .f32 h, .float .f32 v] 26)).alloc (.cells #[.float .f32 h, .float .f32 v] 32)).alloc (.cells #[.float .f32 h, .float .f32 v] 32))) := hid (((((Kept.nil w).push _ _).push _ _).push _ _).sub (by simp))
  go_enter Try.func19, Try.ntmps19
  go_wp2
  exact bodyPost_ret (results_cell_row rfl _ _ (w.heap.size + 1) 32 #[.float .f32 h, .float .f32 v] (0, 0) _ rfl (k0.out.at (x := (w.heap.size + 1, #[.float .f32 h, .float .f32 v], 32)) (by simp)) Try.underlying32 rfl info_air) rfl ⟨rfl, k0.out.1⟩

set_option maxRecDepth 100000 in
theorem eqAir (h v : Nat) (hh : h < 4294967296) (hv : v < 4294967296) (fh : finB h = true) (fv : finB v = true) (w : World) :
    Calls Try.prog 22 #[.agg #[.float .f32 h, .float .f32 v], .agg #[.float .f32 h, .float .f32 v]] w fun e w' => e = .returned (.bool true) ∧ Below w.heap.size w w' := by
  have hc0 := fun w => run_conv_wid (P := Try.prog) w 22 94 h hh Try.underlying22 Try.underlying94 (finB_iff.1 fh)
  have hc1 := fun w => run_conv_wid (P := Try.prog) w 22 94 v hv Try.underlying22 Try.underlying94 (finB_iff.1 fv)
  have Hh := hid hh
  have Hv := hid hv
  have Fh := hid fh
  have Fv := hid fv
  have b0 := boxed2 w (.cells #[.float .f32 h, .float .f32 v] 32) (.cells #[.float .f32 h, .float .f32 v] 32)
  clear hh hv fh fv
  go_enter Try.func22, Try.ntmps22
  go_wp2_with fail
  refine (sameFloat h Hh.out Fh.out _).mono ?_
  rintro e w1 ⟨rfl, rfl⟩
  go_wp2_with fail
  refine (sameFloat v Hv.out Fv.out _).mono ?_
  rintro e w1 ⟨rfl, rfl⟩
  go_wp2
  go_ret
  exact ⟨rfl, b0⟩

theorem iHeat (x : Nat) (q : Bool) (hq : heatB x = q) (w : World) :
    Calls Try.prog 156 #[.float .f32 x] w fun e w' => e = .returned (.bool q) ∧ w = w' := by
  have h1 : heatB x = ((FloatKind.f32.format.order x 3262119936 == some .gt || FloatKind.f32.format.order x 3262119936 == some .eq) && (FloatKind.f32.format.order x 1114636288 == some .lt || FloatKind.f32.format.order x 1114636288 == some .eq)) := rfl
  rw [h1] at hq
  clear h1
  rcases a : (FloatKind.f32.format.order x 3262119936 == some .gt || FloatKind.f32.format.order x 3262119936 == some .eq) with _ | _
  · rw [a] at hq
    simp only [Bool.false_and] at hq
    subst hq
    go_enter Try.func156, Try.ntmps156
    go_wp2
    go_ret
    exact ⟨rfl, rfl⟩
  · rw [a] at hq
    simp only [Bool.true_and] at hq
    cases q
    all_goals
      go_enter Try.func156, Try.ntmps156
      go_wp2
      go_ret
      exact ⟨rfl, rfl⟩

theorem sHeat (x : Nat) (q : Bool) (hq : heatB x = q) (w : World) :
    Calls Try.prog 121 #[.float .f32 x] w fun e w' => e = .returned (.bool q) ∧ w = w' := by
  have h1 : heatB x = ((FloatKind.f32.format.order x 3262119936 == some .gt || FloatKind.f32.format.order x 3262119936 == some .eq) && (FloatKind.f32.format.order x 1114636288 == some .lt || FloatKind.f32.format.order x 1114636288 == some .eq)) := rfl
  rw [h1] at hq
  clear h1
  rcases a : (FloatKind.f32.format.order x 3262119936 == some .gt || FloatKind.f32.format.order x 3262119936 == some .eq) with _ | _
  · rw [a] at hq
    simp only [Bool.false_and] at hq
    subst hq
    go_enter Try.func121, Try.ntmps121
    go_wp2
    go_ret
    exact ⟨rfl, rfl⟩
  · rw [a] at hq
    simp only [Bool.true_and] at hq
    cases q
    all_goals
      go_enter Try.func121, Try.ntmps121
      go_wp2
      go_ret
      exact ⟨rfl, rfl⟩

set_option maxRecDepth 100000 in
theorem iValidAir (h v : Nat) (hv : v < 4294967296) (q : Bool) (hq : airB h v = q) (w : World) :
    Calls Try.prog 115 #[.agg #[.float .f32 h, .float .f32 v]] w fun e w' => e = .returned (.bool q) ∧ Below w.heap.size w w' := by
  have b0 := boxed w (.cells #[.float .f32 h, .float .f32 v] 32)
  have Hv := hid hv
  have e1 : airB h v = (heatB h && amtB v && vapB v) := rfl
  rw [e1] at hq
  clear hv e1
  rcases a : heatB h with _ | _
  · have Ha := hid a
    rw [a] at hq
    simp only [Bool.false_and] at hq
    subst hq
    clear a
    go_enter Try.func115, Try.ntmps115
    go_wp2_with fail
    refine (iHeat h false Ha.out _).mono ?_
    rintro e w1 ⟨rfl, rfl⟩
    go_wp2
    go_ret
    exact ⟨rfl, b0⟩
  · have Ha := hid a
    rw [a] at hq
    clear a
    rcases b : amtB v with _ | _
    · have Hb := hid b
      rw [b] at hq
      simp only [Bool.and_false, Bool.false_and] at hq
      subst hq
      clear b
      go_enter Try.func115, Try.ntmps115
      go_wp2_with fail
      refine (iHeat h true Ha.out _).mono ?_
      rintro e w1 ⟨rfl, rfl⟩
      go_wp2_with fail
      refine (isAmount_f v Hv.out Hb.out _).mono ?_
      rintro e w1 ⟨rfl, hb1⟩
      go_wp2
      go_ret
      exact ⟨rfl, stp b0 (Nat.le_refl _) hb1⟩
    · have Hb := hid b
      rw [b] at hq
      simp only [Bool.true_and] at hq
      have hc : (FloatKind.f32.format.order v 1148846080 == some .lt || FloatKind.f32.format.order v 1148846080 == some .eq) = q := hq
      clear b hq
      cases q
      all_goals
        go_enter Try.func115, Try.ntmps115
        go_wp2_with fail
        refine (iHeat h true Ha.out _).mono ?_
        rintro e w1 ⟨rfl, rfl⟩
        go_wp2_with fail
        refine (isAmount_t v Hb.out _).mono ?_
        rintro e w1 ⟨rfl, rfl⟩
        go_wp2
        go_ret
        exact ⟨rfl, b0⟩

set_option maxRecDepth 100000 in
theorem sAirOk_t (h v : Nat) (hq : airB h v = true) (w : World) (g : Nat) (T : TypeId) (hg : airAt w g h v T) :
    Calls Try.prog 65 #[.pointer (some ⟨g, 0, none⟩)] w fun e w' => e = .returned (.bool true) ∧ w = w' := by
  have c0 := hg.c0
  have c1 := hg.c1
  obtain ⟨a, b, c⟩ := airB_iff.1 hq
  have hc : (FloatKind.f32.format.order v 1148846080 == some .lt || FloatKind.f32.format.order v 1148846080 == some .eq) = true := c
  have Ha := hid a
  have Hb := hid b
  clear a b c hq hg
  go_enter Try.func65, Try.ntmps65
  go_wp2_with fail
  refine (sHeat h true Ha.out _).mono ?_
  rintro e w1 ⟨rfl, rfl⟩
  go_wp2_with fail
  refine (sAmount_t v Hb.out _).mono ?_
  rintro e w1 ⟨rfl, rfl⟩
  go_wp2
  go_ret
  exact ⟨rfl, rfl⟩

theorem ext_floor (X K : Nat) (h : D.write ((D.read X).integral .down) = K) (hn : ∃ s m e, D.read X = .number s m e) (w : World) : (callFunc 200 #[.float .f64 X]).run Try.prog w = .ok (.value (.float .f64 K)) w := by
  rw [run_callFunc_extern Try.func200 (by kernel_rfl) (by kernel_rfl) (by kernel_rfl) (e := Extern.MathFloor.toIntegral "math.archFloor" .down) (by kernel_rfl)]
  obtain ⟨s, m, e, hr⟩ := hn
  have hr' : FloatKind.f64.decode X = .number s m e := hr
  rw [hr] at h
  have h' : FloatKind.f64.encode ((Ieee.Datum.number s m e).integral .down) = K := h
  have e2 : (Extern.MathFloor.toIntegral "math.archFloor" .down #[.float .f64 X]).run Try.prog w = .ok (.float .f64 K) w := by
    rw [← h']
    show Sem.run _ (match FloatKind.f64.decode X with | .nan _ _ => _ | d => (pure (Value.float .f64 (FloatKind.f64.encode (d.integral .down))) : Sem Value)) w = _
    rw [hr']
    rfl
  rw [e2]
  rfl

theorem floor_f64 (X K : Nat) (h : D.write ((D.read X).integral .down) = K) (hn : ∃ s m e, D.read X = .number s m e) (w : World) :
    Calls Try.prog 191 #[.float .f64 X] w fun e w' => e = .returned (.float .f64 K) ∧ w = w' := by
  have hx := fun w => ext_floor X K h hn w
  clear h hn
  go_enter Try.func191, Try.ntmps191
  go_wp2
  go_ret
  exact ⟨rfl, rfl⟩

theorem normalize_f64 (y : Nat) (h0 : 4503599627370496 ≤ y) (h1 : y < 9218868437227405312) (w : World) :
    Calls Try.prog 213 #[.float .f64 y] w fun e w' => e = .returned (.tuple #[.float .f64 y, .int .i64 0]) ∧ w = w' := by
  have hl := hid (show y < 18446744073709551616 by omega)
  have hm : y % 9223372036854775808 = y := Nat.mod_eq_of_lt (by omega)
  have hc : (FloatKind.f64.format.order y 4503599627370496 == some .lt) = false := by
    show (D.order y 4503599627370496 == some .lt) = false
    rw [order_ltD (by rw [DINF_val]; omega) (by rw [DINF_val]; decide)]
    rcases Nat.lt_or_eq_of_le h0 with h | h
    · rw [Nat.compare_eq_gt.2 h]; rfl
    · rw [Nat.compare_eq_eq.2 h.symm]; rfl
  have Hm := hid hm
  clear h0 h1 hm
  go_enter Try.func213, Try.ntmps213
  go_wp2_with fail
  refine (abs_f64 y hl.out _).mono ?_
  rintro e w1 ⟨rfl, rfl⟩
  rw [Hm.out]
  go_wp2
  go_ret2
  exact ⟨rfl, rfl⟩

theorem mul_ONE {r : Nat} (h : r < DINF) : D.mul 4607182418800017408 r = some r := by
  obtain ⟨m1, m2⟩ := mul_eqD (x := 4607182418800017408) (y := r) (by decide) (amtB_iffD.2 h)
  rw [m1, fmul_valD (by rw [DINF_val]; decide) h]
  refine congrArg some (Eq.trans (nearest_congrD (m' := valD r) (E := -1074) (E' := 0) 0 VONED (by have := VONED_val; omega) ?_) (nearest_valD h))
  rw [val_ONED, Nat.pow_zero, Nat.mul_one, Nat.mul_comm]

set_option maxRecDepth 100000 in
theorem ldexp_f64 (y : Nat) (n : Int) (h0 : 4607182418800017408 ≤ y) (h1 : y < 4688246992172703744) (t : Int) (R : Nat) (E : Exps y n t R) (hRf : R < DINF) (hn : -100 ≤ n) (hn2 : n ≤ 100) (w : World) :
    Calls Try.prog 210 #[.float .f64 y, .int .i64 n] w fun e w' => e = .returned (.float .f64 R) ∧ w = w' := by
  have hy0 : (FloatKind.f64.format.order y 0 == some .eq) = false := by
    show (D.order y 0 == some .eq) = false
    rw [order_ltD (by rw [DINF_val]; omega) (by rw [DINF_val]; decide), Nat.compare_eq_gt.2 (by omega)]; rfl
  have hl := hid (show y < 18446744073709551616 by omega)
  have hn1 := hid (show 4503599627370496 ≤ y by omega)
  have hn3 := hid (show y < 9218868437227405312 by omega)
  have hi := hid (show (FloatKind.f64.format.order (y % 9223372036854775808) 9218868437227405311 == some .gt) = false by
    rw [Nat.mod_eq_of_lt (by omega)]
    show (D.order y 9218868437227405311 == some .gt) = false
    rw [order_ltD (by rw [DINF_val]; omega) (by rw [DINF_val]; decide), Nat.compare_eq_lt.2 (by omega)]; rfl)
  have hq := hid (show (FloatKind.f64.format.order y y != some .eq) = false by
    show (D.order y y != some .eq) = false
    rw [order_ltD (by rw [DINF_val]; omega) (by rw [DINF_val]; omega), Nat.compare_eq_eq.2 rfl]; rfl)
  have hm := fun w => run_float_arith (P := Try.prog) w .mul 94 .f64 4607182418800017408 R R (mul_ONE hRf)
  obtain ⟨ht, d1, d2, d3, hR⟩ := E
  clear h0 h1 hRf
  go_enter Try.func210, Try.ntmps210
  go_wp2_with fail
  refine (isInf_f64 y hl.out _).mono ?_
  rintro e w1 ⟨rfl, rfl⟩
  rw [hi.out]
  go_wp2_with fail
  refine (isNaN_f64 y _).mono ?_
  rintro e w1 ⟨rfl, rfl⟩
  rw [hq.out]
  go_wp2_with fail
  refine (normalize_f64 y hn1.out hn3.out _).mono ?_
  rintro e w1 ⟨rfl, rfl⟩
  go_wp2
  go_ret
  exact ⟨rfl, rfl⟩

theorem Ldexp_f64 (y : Nat) (n : Int) (h0 : 4607182418800017408 ≤ y) (h1 : y < 4688246992172703744) (t : Int) (R : Nat) (E : Exps y n t R) (hRf : R < DINF) (hn : -100 ≤ n) (hn2 : n ≤ 100) (w : World) :
    Calls Try.prog 204 #[.float .f64 y, .int .i64 n] w fun e w' => e = .returned (.float .f64 R) ∧ w = w' := by
  have H0 := hid h0
  have H1 := hid h1
  have HE := hid E
  have HR := hid hRf
  have HN := hid hn
  have HN2 := hid hn2
  clear h0 h1 E hRf hn hn2
  go_enter Try.func204, Try.ntmps204
  go_wp2_with fail
  refine (ldexp_f64 y n H0.out H1.out t R HE.out HR.out HN.out HN2.out _).mono ?_
  rintro e w1 ⟨rfl, rfl⟩
  go_wp2
  go_ret
  exact ⟨rfl, rfl⟩

set_option maxRecDepth 100000 in
theorem iTwo (x j : Nat) (hx : x < 4294967296) (hf : finB x = true) (T : TwoF x j) (hj : j ≤ 100) (w : World) :
    Calls Try.prog 195 #[.float .f32 x] w fun e w' => e = .returned (.float .f32 (two x)) ∧ w = w' := by
  have hc := fun w => run_conv_wid (P := Try.prog) w 22 94 x hx Try.underlying22 Try.underlying94 (finB_iff.1 hf)
  have hs := fun w => run_float_arith (P := Try.prog) w .sub 94 .f64 _ _ _ T.sub
  have hm := fun w => run_float_arith (P := Try.prog) w .mul 94 .f64 _ _ _ T.mul
  have hi := fun w => run_convert_float_int (P := Try.prog) w 94 3 .f64 .i64 (kF x) (iF x) (by rw [Try.underlying94]; rfl) Try.underlying3 (iF_conv T hj)
  have ho := fun w => run_convert_float_float (P := Try.prog) w 94 22 .f64 .f32 (rF x) (two x) (by rw [Try.underlying94]; rfl) Try.underlying22 (two_bounds T hj).2.2
  have E := exps T.s1 T.s2 (iF_bd T hj).1 (iF_bd T hj).2
  rw [rF_word T hj] at E
  have HE := hid E
  have HT := hid T
  have HJ := hid hj
  clear hx hf T hj E
  go_enter Try.func195, Try.ntmps195
  go_wp2_with fail
  refine (floor_f64 (wid x) (kF x) HT.out.fl HT.out.num _).mono ?_
  rintro e w1 ⟨rfl, rfl⟩
  go_wp2_with fail
  go_loop [5, 6] (fun s i => ∃ m : Nat, m ≤ 14 ∧ i = .int .i64 m ∧ s = .float .f64 (ser (yF x) (14 - m))) (fun _ i => (intOf i).toNat)
  case atStart => exact ⟨14, by omega, rfl, rfl⟩
  case round =>
    obtain ⟨m, hm14, rfl, rfl⟩ := hrel
    by_cases h1 : 1 ≤ m
    · obtain ⟨q, p, s⟩ := term2 HT.out.y h1 hm14
      have q1 := fun w => run_float_arith (P := Try.prog) w .quo 94 .f64 _ _ _ q
      have q2 := fun w => run_float_arith (P := Try.prog) w .mul 94 .f64 _ _ _ p
      have q3 := fun w => run_float_arith (P := Try.prog) w .add 94 .f64 _ _ _ s
      clear q p s
      go_wp2
      go_round
      case rel => exact ⟨m - 1, by omega, by rw [show ((m - 1 : Nat) : Int) = (m : Int) - 1 by omega], rfl⟩
      case measure => simp [intOf]; omega
    · obtain rfl : m = 0 := by omega
      clear hs hm
      have hS : ser (yF x) (14 - 0) = sF x := rfl
      rw [hS]
      clear hS
      go_wp2_with fail
      refine (Ldexp_f64 (sF x) (iF x) HT.out.s1 HT.out.s2 _ (rF x) HE.out (rF_lt HT.out HJ.out) (iF_bd HT.out HJ.out).1 (iF_bd HT.out HJ.out).2 _).mono ?_
      rintro e w1 ⟨rfl, rfl⟩
      go_wp2
      go_ret
      exact ⟨rfl, rfl⟩

theorem s_pos {x j i : Nat} (T : TwoF x j) (hj : j ≤ 100) (hi : i < nF x) : D.mul (sF x + i * 4503599627370496) 4611686018427387904 = some (sF x + (i + 1) * 4503599627370496) := by
  have h := dbl (s := sF x + i * 4503599627370496) (by have := T.s1; omega) (by have := T.s2; have := T.n; rw [DINF_val]; omega)
  rw [h, Nat.add_mul i 1, Nat.one_mul, Nat.add_assoc]

theorem s_neg {x j i : Nat} (T : TwoF x j) (hj : j ≤ 100) (hi : i < nF x) : D.div (sF x - i * 4503599627370496) 4611686018427387904 = some (sF x - (i + 1) * 4503599627370496) := by
  have h := hlv (s := sF x - i * 4503599627370496) (by have := T.s1; have := T.n; omega) (by have := T.s2; rw [DINF_val]; omega)
  rw [h, Nat.add_mul i 1, Nat.one_mul, Nat.sub_sub]

set_option maxRecDepth 100000 in
set_option maxHeartbeats 1000000 in
theorem sTwo (x j : Nat) (hx : x < 4294967296) (hf : finB x = true) (T : TwoF x j) (hj : j ≤ 100) (w : World) :
    Calls Try.prog 182 #[.float .f32 x] w fun e w' => e = .returned (.float .f32 (two x)) ∧ w = w' := by
  have hc := fun w => run_conv_wid (P := Try.prog) w 22 94 x hx Try.underlying22 Try.underlying94 (finB_iff.1 hf)
  have hs := fun w => run_float_arith (P := Try.prog) w .sub 94 .f64 _ _ _ T.sub
  have hm := fun w => run_float_arith (P := Try.prog) w .mul 94 .f64 _ _ _ T.mul
  have ho := fun w => run_convert_float_float (P := Try.prog) w 94 22 .f64 .f32 (rF x) (two x) (by rw [Try.underlying94]; rfl) Try.underlying22 (two_bounds T hj).2.2
  have hn := hid (show nF x ≤ 100 by have := T.n; omega)
  have HT := hid T
  have HJ := hid hj
  have hk : kF x = kW (sgB x) (nF x) := rfl
  have hr : rF x = if sgB x = true then sF x - nF x * 4503599627370496 else sF x + nF x * 4503599627370496 := rfl
  have HK := hid hk
  have HR := hid hr
  clear hx hf T hj hk hr
  go_enter Try.func182, Try.ntmps182
  go_wp2_with fail
  refine (floor_f64 (wid x) (kF x) HT.out.fl HT.out.num _).mono ?_
  rintro e w1 ⟨rfl, rfl⟩
  go_wp2_with fail
  go_loop [5, 6] (fun s i => ∃ m : Nat, m ≤ 14 ∧ i = .int .i64 m ∧ s = .float .f64 (ser (yF x) (14 - m))) (fun _ i => (intOf i).toNat)
  case atStart => exact ⟨14, by omega, rfl, rfl⟩
  case round =>
    obtain ⟨m, hm14, rfl, rfl⟩ := hrel
    by_cases h1 : 1 ≤ m
    · obtain ⟨q, p, s⟩ := term2 HT.out.y h1 hm14
      have q1 := fun w => run_float_arith (P := Try.prog) w .quo 94 .f64 _ _ _ q
      have q2 := fun w => run_float_arith (P := Try.prog) w .mul 94 .f64 _ _ _ p
      have q3 := fun w => run_float_arith (P := Try.prog) w .add 94 .f64 _ _ _ s
      clear q p s
      go_wp2
      go_round
      case rel => exact ⟨m - 1, by omega, by rw [show ((m - 1 : Nat) : Int) = (m : Int) - 1 by omega], rfl⟩
      case measure => simp [intOf]; omega
    · obtain rfl : m = 0 := by omega
      clear hs hm
      have hS : ser (yF x) (14 - 0) = sF x := rfl
      rw [hS]
      clear hS
      rcases hsg : sgB x with _ | _
      · have hk0 : kF x = kW false (nF x - 0) := by rw [HK.out, hsg]; rfl
        have hr0 := HR.out
        rw [hsg, if_neg (by decide)] at hr0
        have HR0 := hid hr0
        rw [hk0]
        clear hr0 hsg hk0
        go_wp2
        go_loop [3, 5] (fun k s => ∃ i : Nat, i ≤ nF x ∧ k = .float .f64 (kW false (nF x - i)) ∧ s = .float .f64 (sF x + i * 4503599627370496)) (fun k _ => fltOf k)
        case atStart => exact ⟨0, by omega, rfl, by simp⟩
        case round =>
          obtain ⟨i, hi, rfl, rfl⟩ := hrel
          by_cases hlt : i < nF x
          · have K := kFacts (N := nF x - i) (by have := hn.out; omega)
            have q0 : (FloatKind.f64.format.order (kW false (nF x - i)) 0 == some .gt) = true := by
              show (D.order (kW false (nF x - i)) 0 == some .gt) = true
              rw [K.ordP, if_neg (by omega : ¬ nF x - i = 0)]; rfl
            have q1 := fun w => run_float_arith (P := Try.prog) w .mul 94 .f64 _ _ _ (s_pos HT.out HJ.out hlt)
            have q2 := fun w => run_float_arith (P := Try.prog) w .sub 94 .f64 _ _ _ (K.sub (by omega))
            have q3 := hid (show kW false (nF x - i - 1) < kW false (nF x - i) by
              have := kW_lt (N := nF x - i - 1) (by have := hn.out; omega)
              rwa [show nF x - i - 1 + 1 = nF x - i by omega] at this)
            clear K
            go_wp2
            go_round
            case rel => exact ⟨i + 1, by omega, by rw [show nF x - (i + 1) = nF x - i - 1 by omega], rfl⟩
            case measure => exact q3.out
          · obtain rfl : i = nF x := by omega
            rw [Nat.sub_self, ← HR0.out]
            have q0 : (FloatKind.f64.format.order (kW false 0) 0 == some .gt) = false := by decide +kernel
            have q1 : (FloatKind.f64.format.order (kW false 0) 0 == some .lt) = false := by decide +kernel
            go_wp2
            go_loop [3, 5] (fun k s => k = .float .f64 (kW false 0) ∧ s = .float .f64 (rF x)) (fun _ _ => 0)
            case atStart => exact ⟨rfl, rfl⟩
            case round =>
              obtain ⟨rfl, rfl⟩ := hrel
              go_wp2
              go_ret
              exact ⟨rfl, rfl⟩
      · have hk0 : kF x = kU (nF x) 0 := by
          rw [HK.out, hsg]
          unfold kU
          by_cases h0 : nF x = 0
          · rw [if_neg (by omega), if_pos h0, h0]
          · rw [if_pos (by omega)]; rfl
        have hr0 := HR.out
        rw [hsg, if_pos rfl] at hr0
        have HR0 := hid hr0
        rw [hk0]
        have q0 : (FloatKind.f64.format.order (kU (nF x) 0) 0 == some .gt) = false := by
          rw [← hk0, HK.out, hsg]
          show (D.order (kW true (nF x)) 0 == some .gt) = false
          rw [(kFacts hn.out).ordN]
          split <;> rfl
        clear hr0 hsg hk0
        go_wp2
        go_loop [3, 5] (fun k s => k = .float .f64 (kU (nF x) 0) ∧ s = .float .f64 (sF x)) (fun _ _ => 0)
        case atStart => exact ⟨rfl, rfl⟩
        case round =>
          obtain ⟨rfl, rfl⟩ := hrel
          go_wp2
          clear q0
          go_loop [3, 5] (fun k s => ∃ i : Nat, i ≤ nF x ∧ k = .float .f64 (kU (nF x) i) ∧ s = .float .f64 (sF x - i * 4503599627370496)) (fun k _ => fltOf k)
          case atStart => exact ⟨0, by omega, rfl, by simp⟩
          case round =>
            obtain ⟨i, hi, rfl, rfl⟩ := hrel
            by_cases hlt : i < nF x
            · obtain ⟨k1, k2, k3⟩ := kU_step hn.out hlt
              have q0 : (FloatKind.f64.format.order (kU (nF x) i) 0 == some .lt) = true := k3
              have q1 := fun w => run_float_arith (P := Try.prog) w .quo 94 .f64 _ _ _ (s_neg HT.out HJ.out hlt)
              have q2 := fun w => run_float_arith (P := Try.prog) w .add 94 .f64 _ _ _ k1
              have q3 := hid k2
              clear k1 k2 k3
              go_wp2
              go_round
              case rel => exact ⟨i + 1, by omega, rfl, rfl⟩
              case measure => exact q3.out
            · obtain rfl : i = nF x := by omega
              rw [← HR0.out]
              have q1 : (FloatKind.f64.format.order (kU (nF x) (nF x)) 0 == some .lt) = false := kU_end
              go_wp2
              go_ret
              exact ⟨rfl, rfl⟩

theorem iSat (h : Nat) (F : SatF h) (w : World) :
    Calls Try.prog 187 #[.float .f32 h] w fun e w' => e = .returned (.float .f32 (satF h)) ∧ w = w' := by
  have hd := fun w => run_float_arith (P := Try.prog) w .quo 22 .f32 _ _ _ F.div
  have hm := fun w => run_float_arith (P := Try.prog) w .mul 22 .f32 _ _ _ F.mul
  have HF := hid F
  clear F
  go_enter Try.func187, Try.ntmps187
  go_wp2_with fail
  refine (iTwo (hqF h) 16 HF.out.qlt HF.out.qfin HF.out.T (by decide) _).mono ?_
  rintro e w1 ⟨rfl, rfl⟩
  go_wp2
  go_ret
  exact ⟨rfl, rfl⟩

theorem sSat (h : Nat) (F : SatF h) (w : World) :
    Calls Try.prog 159 #[.float .f32 h] w fun e w' => e = .returned (.float .f32 (satF h)) ∧ w = w' := by
  have hd := fun w => run_float_arith (P := Try.prog) w .quo 22 .f32 _ _ _ F.div
  have hm := fun w => run_float_arith (P := Try.prog) w .mul 22 .f32 _ _ _ F.mul
  have HF := hid F
  clear F
  go_enter Try.func159, Try.ntmps159
  go_wp2_with fail
  refine (sTwo (hqF h) 16 HF.out.qlt HF.out.qfin HF.out.T (by decide) _).mono ?_
  rintro e w1 ⟨rfl, rfl⟩
  go_wp2
  go_ret
  exact ⟨rfl, rfl⟩

set_option maxRecDepth 100000 in
theorem sExcess (h v : Nat) (hx : h < 4294967296) (hq : airB h v = true) (w : World) (g : Nat) (T : TypeId) (hg : airAt w g h v T) :
    Calls Try.prog 123 #[.pointer (some ⟨g, 0, none⟩)] w fun e w' => e = .returned (.float .f32 (excF h v)) ∧ Below w.heap.size w w' := by
  obtain ⟨hh, hav, hvp⟩ := airB_iff.1 hq
  have F := sat_facts hx hh
  obtain ⟨e1, e2, e3⟩ := exc_facts F hav
  have HF := hid F
  have hs := fun w => run_float_arith (P := Try.prog) w .sub 22 .f32 _ _ _ e1
  have c0 := hg.c0
  have c1 := hg.c1
  clear F hh hav hvp e1 e2 e3 hx hq hg
  go_enter Try.func123, Try.ntmps123
  go_wp2
  go_quiet ((go_at_call 159; exact Calls.quiet_of_same (back (sSat h HF.out _))))
  go_wp2
  go_ret
  exact ⟨rfl, below_drewN (Below.refl _ _) _⟩

theorem iMixN (a b x : Nat) (M : MixF a b x) (w : World) :
    Calls Try.prog 158 #[.float .f32 a, .float .f32 b, .float .f32 x] w fun e w' => e = .returned (.float .f32 (mixW a b x)) ∧ w = w' := by
  have h1 := fun w => run_float_arith (P := Try.prog) w .sub 22 .f32 _ _ _ M.r
  have h2 := fun w => run_float_arith (P := Try.prog) w .mul 22 .f32 _ _ _ M.m1
  have h3 := fun w => run_float_arith (P := Try.prog) w .mul 22 .f32 _ _ _ M.m2
  have h4 := fun w => run_float_arith (P := Try.prog) w .add 22 .f32 _ _ _ M.s
  clear M
  go_enter Try.func158, Try.ntmps158
  go_wp2
  go_ret
  exact ⟨rfl, rfl⟩

theorem run_mixN3 (a : Act) (x0 : Operand) (v0 : Value) (h0 : a.eval x0 = v0) (x1 : Operand) (v1 : Value) (h1 : a.eval x1 = v1) (x2 : Operand) (v2 : Value) (h2 : a.eval x2 = v2) (d : Option Tmp) (ats : Array TypeId) (t : TypeId) (ps : String) (af : Array Edge) (gd : Option (Nat × Bool)) (w : World) :
    (execOp a.eval ⟨d, .call { callee := .value (.func 158), args := #[x0, x1, x2], argTypes := ats }, t, ps, af, gd⟩).run Try.prog w = .ok (.enter 158 #[v0, v1, v2]) w := by
  subst h0 h1 h2
  unfold execOp
  go_simp

set_option maxRecDepth 100000 in
set_option maxHeartbeats 2000000 in
theorem iMixAir_ok (ah av bh bv x : Nat) (hv1 : av < 4294967296) (hq1 : airB ah av = true) (hv2 : bv < 4294967296) (hq2 : airB bh bv = true) (hx : Share x) (M1 : MixF ah bh x) (M2 : MixF av bv x) (hr : airB (mixW ah bh x) (mixW av bv x) = true) (w : World) :
    Calls Try.prog 120 #[.agg #[.float .f32 ah, .float .f32 av], .agg #[.float .f32 bh, .float .f32 bv], .float .f32 x] w fun e w' => e = .returned (.tuple #[.agg #[.float .f32 (mixW ah bh x), .float .f32 (mixW av bv x)], .int .i64 0]) ∧ Below w.heap.size w w' := by
  have k0 : Hid (Kept w [(w.heap.size, #[.float .f32 ah, .float .f32 av], 32), (w.heap.size + 1, #[.float .f32 bh, .float .f32 bv], 32), (w.heap.size + 1 + 1, #[.float .f32 0, .float .f32 0], 32)] (((w.alloc (.cells (#[.float .f32 ah, .float .f32 av]) 32)).alloc (.cells (#[.float .f32 bh, .float .f32 bv]) 32)).alloc (.cells (#[.float .f32 0, .float .f32 0]) 32))) := hid (((((Kept.nil w).push (#[.float .f32 ah, .float .f32 av]) 32).push (#[.float .f32 bh, .float .f32 bv]) 32).push (#[.float .f32 0, .float .f32 0]) 32).sub (by simp))
  have Hhv1 := hid hv1
  have Hhq1 := hid hq1
  have Hhv2 := hid hv2
  have Hhq2 := hid hq2
  have Hhx := hid hx
  have HM1 := hid M1
  have HM2 := hid M2
  have Hhr := hid hr
  clear hv1 hq1 hv2 hq2 hx M1 M2 hr
  go_enter Try.func120, Try.ntmps120
  go_wp2_with (first | (refine wpList_load_row rfl 32 _ rfl (w.heap.size) rfl 32 (#[.float .f32 ah, .float .f32 av]) (0, 0) _ (k0.out.at (x := (w.heap.size, #[.float .f32 ah, .float .f32 av], 32)) (by simp)) Try.underlying32 rfl (info_air) ?_))
  refine (iValidAir ah av Hhv1.out true Hhq1.out _).mono ?_
  rintro e w0 ⟨rfl, hb0⟩
  have k1 := hid (k0.out.stay hb0)
  clear hb0
  go_wp2_with (first | (refine wpList_load_g rfl 32 _ rfl (w.heap.size + 1) rfl 32 (#[.float .f32 bh, .float .f32 bv]) (0, 0) _ (k1.out.at (x := (w.heap.size + 1, #[.float .f32 bh, .float .f32 bv], 32)) (by simp)) Try.underlying32 rfl (info_air) ?_))
  refine (iValidAir bh bv Hhv2.out true Hhq2.out _).mono ?_
  rintro e w1 ⟨rfl, hb1⟩
  have k2 := hid (k1.out.stay hb1)
  clear hb1
  go_wp2_with fail
  refine (iShare_t x Hhx.out _).mono ?_
  rintro e w2 ⟨rfl, rfl⟩
  go_wp2_with fail
  rename_i Q1 K1 hK1
  have key : ∀ (a0 : Nat) (w1 : World), Hid (Kept w [(a0, #[.float .f32 (mixW ah bh x), .float .f32 (mixW av bv x)], 32), (w.heap.size, #[.float .f32 ah, .float .f32 av], 32), (w.heap.size + 1, #[.float .f32 bh, .float .f32 bv], 32), (w.heap.size + 1 + 1, #[.float .f32 0, .float .f32 0], 32)] w1) → K1 { tmps := (.agg #[.float .f32 ah, .float .f32 av] :: .agg #[.float .f32 bh, .float .f32 bv] :: .float .f32 x :: .pointer (some ⟨w.heap.size, 0, none⟩) :: .pointer (some ⟨w.heap.size + 1, 0, none⟩) :: undef :: .pointer (some ⟨w.heap.size + 1 + 1, 0, none⟩) :: .int .i64 0 :: .pointer (some ⟨a0, 0, none⟩) :: .agg #[.float .f32 ah, .float .f32 av] :: .bool true :: .bool false :: .bool false :: .agg #[.float .f32 bh, .float .f32 bv] :: .bool true :: .bool false :: .bool false :: undef :: .float .f32 x :: .bool true :: .bool false :: undef :: .pointer (some ⟨w.heap.size, 0, none⟩) :: .float .f32 ah :: .pointer (some ⟨w.heap.size + 1, 0, none⟩) :: .float .f32 bh :: .float .f32 x :: .float .f32 (mixW ah bh x) :: .pointer (some ⟨w.heap.size, 1, none⟩) :: .float .f32 av :: .pointer (some ⟨w.heap.size + 1, 1, none⟩) :: .float .f32 bv :: .float .f32 x :: .float .f32 (mixW av bv x) :: .agg #[.float .f32 (mixW ah bh x), .float .f32 (mixW av bv x)] :: undef :: undef :: undef :: undef :: undef :: []).toArray, defers := [] } w1 := by
    intro a0 w1 k1
    clear k2
    go_wp2_with (first | (refine wpList_load_row rfl 32 _ rfl (a0) rfl 32 (#[.float .f32 (mixW ah bh x), .float .f32 (mixW av bv x)]) (0, 0) _ (k1.out.at (x := (a0, #[.float .f32 (mixW ah bh x), .float .f32 (mixW av bv x)], 32)) (by simp)) Try.underlying32 rfl (info_air) ?_))
    refine (iValidAir _ _ HM2.out.lt true Hhr.out _).mono ?_
    rintro e w50 ⟨rfl, hb50⟩
    have k51 := hid (k1.out.stay hb50)
    clear hb50
    go_wp2_with (first | (refine wpList_load_row rfl 32 _ rfl (a0) rfl 32 (#[.float .f32 (mixW ah bh x), .float .f32 (mixW av bv x)]) (0, 0) _ (k51.out.at (x := (a0, #[.float .f32 (mixW ah bh x), .float .f32 (mixW av bv x)], 32)) (by simp)) Try.underlying32 rfl (info_air) ?_) | (refine wpList_store_row rfl 32 _ _ rfl (w.heap.size + 1 + 1) (#[.float .f32 (mixW ah bh x), .float .f32 (mixW av bv x)]) rfl rfl 32 _ (k51.out.at (x := (w.heap.size + 1 + 1, #[.float .f32 0, .float .f32 0], 32)) (by simp)) (info_air) (by simp) (by simp [Value.oneCell']) ?_))
    exact bodyPost_ret (results_row_tmp rfl _ _ (w.heap.size + 1 + 1) 32 (#[.float .f32 (mixW ah bh x), .float .f32 (mixW av bv x)]) (0, 0) _ rfl (setRow_heap _ _ _ _ _ _ (k51.out.at (x := (w.heap.size + 1 + 1, #[.float .f32 0, .float .f32 0], 32)) (by simp))) Try.underlying32 rfl info_air) rfl ⟨rfl, below_row k51.out.1 (by omega) _⟩
  refine region_kept (w0 := w) (l := [(w.heap.size, #[.float .f32 ah, .float .f32 av], 32), (w.heap.size + 1, #[.float .f32 bh, .float .f32 bv], 32), (w.heap.size + 1 + 1, #[.float .f32 0, .float .f32 0], 32)]) 15 #[false, false, false, false, false, false, false, false, false, false, false, false, false, false, false] (by kernel_rfl) rfl rfl ?_
  have kd := k2.out.drew
  clear k2
  generalize World.drew _ = wd at kd ⊢
  refine take_val 0 { tmps := (.agg #[.float .f32 ah, .float .f32 av] :: .agg #[.float .f32 bh, .float .f32 bv] :: .float .f32 x :: .pointer (some ⟨w.heap.size, 0, none⟩) :: .pointer (some ⟨w.heap.size + 1, 0, none⟩) :: undef :: .pointer (some ⟨w.heap.size + 1 + 1, 0, none⟩) :: .int .i64 0 :: undef :: .agg #[.float .f32 ah, .float .f32 av] :: .bool true :: .bool false :: .bool false :: .agg #[.float .f32 bh, .float .f32 bv] :: .bool true :: .bool false :: .bool false :: undef :: .float .f32 x :: .bool true :: .bool false :: undef :: .pointer (some ⟨w.heap.size, 0, none⟩) :: undef :: undef :: undef :: undef :: undef :: undef :: undef :: undef :: undef :: undef :: undef :: undef :: undef :: undef :: undef :: undef :: undef :: []).toArray, defers := [] } #[true, false, false, false, false, false, false, false, false, false, false, false, false, false, false] (.pointer (some ⟨w.heap.size, 0, none⟩)) rfl (by rfl) (by kernel_rfl) (by kernel_rfl) (by kernel_rfl) (fun w => by unfold execOp; go_simp) (by rfl) (by rfl) (kd) ?_
  refine take_cell 1 { tmps := (.agg #[.float .f32 ah, .float .f32 av] :: .agg #[.float .f32 bh, .float .f32 bv] :: .float .f32 x :: .pointer (some ⟨w.heap.size, 0, none⟩) :: .pointer (some ⟨w.heap.size + 1, 0, none⟩) :: undef :: .pointer (some ⟨w.heap.size + 1 + 1, 0, none⟩) :: .int .i64 0 :: undef :: .agg #[.float .f32 ah, .float .f32 av] :: .bool true :: .bool false :: .bool false :: .agg #[.float .f32 bh, .float .f32 bv] :: .bool true :: .bool false :: .bool false :: undef :: .float .f32 x :: .bool true :: .bool false :: undef :: .pointer (some ⟨w.heap.size, 0, none⟩) :: .float .f32 ah :: undef :: undef :: undef :: undef :: undef :: undef :: undef :: undef :: undef :: undef :: undef :: undef :: undef :: undef :: undef :: undef :: []).toArray, defers := [] } #[true, true, false, false, false, false, false, false, false, false, false, false, false, false, false] (.float .f32 ah) rfl (by rfl) (by kernel_rfl) (by kernel_rfl) (by kernel_rfl) (fun wq hS => by have hcell : wq.cell? ⟨w.heap.size, 0, none⟩ = some (.float .f32 ah) := (cell_of_row wq (w.heap.size) 0 _ _ _ (hS.at (x := (w.heap.size, #[.float .f32 ah, .float .f32 av], 32)) (by simp))).trans rfl; clear hS; unfold execOp; go_simp) (by rfl) (by rfl) (kd) ?_
  refine take_val 2 { tmps := (.agg #[.float .f32 ah, .float .f32 av] :: .agg #[.float .f32 bh, .float .f32 bv] :: .float .f32 x :: .pointer (some ⟨w.heap.size, 0, none⟩) :: .pointer (some ⟨w.heap.size + 1, 0, none⟩) :: undef :: .pointer (some ⟨w.heap.size + 1 + 1, 0, none⟩) :: .int .i64 0 :: undef :: .agg #[.float .f32 ah, .float .f32 av] :: .bool true :: .bool false :: .bool false :: .agg #[.float .f32 bh, .float .f32 bv] :: .bool true :: .bool false :: .bool false :: undef :: .float .f32 x :: .bool true :: .bool false :: undef :: .pointer (some ⟨w.heap.size, 0, none⟩) :: .float .f32 ah :: .pointer (some ⟨w.heap.size + 1, 0, none⟩) :: undef :: undef :: undef :: undef :: undef :: undef :: undef :: undef :: undef :: undef :: undef :: undef :: undef :: undef :: undef :: []).toArray, defers := [] } #[true, true, true, false, false, false, false, false, false, false, false, false, false, false, false] (.pointer (some ⟨w.heap.size + 1, 0, none⟩)) rfl (by rfl) (by kernel_rfl) (by kernel_rfl) (by kernel_rfl) (fun w => by unfold execOp; go_simp) (by rfl) (by rfl) (kd) ?_
  refine take_cell 3 { tmps := (.agg #[.float .f32 ah, .float .f32 av] :: .agg #[.float .f32 bh, .float .f32 bv] :: .float .f32 x :: .pointer (some ⟨w.heap.size, 0, none⟩) :: .pointer (some ⟨w.heap.size + 1, 0, none⟩) :: undef :: .pointer (some ⟨w.heap.size + 1 + 1, 0, none⟩) :: .int .i64 0 :: undef :: .agg #[.float .f32 ah, .float .f32 av] :: .bool true :: .bool false :: .bool false :: .agg #[.float .f32 bh, .float .f32 bv] :: .bool true :: .bool false :: .bool false :: undef :: .float .f32 x :: .bool true :: .bool false :: undef :: .pointer (some ⟨w.heap.size, 0, none⟩) :: .float .f32 ah :: .pointer (some ⟨w.heap.size + 1, 0, none⟩) :: .float .f32 bh :: undef :: undef :: undef :: undef :: undef :: undef :: undef :: undef :: undef :: undef :: undef :: undef :: undef :: undef :: []).toArray, defers := [] } #[true, true, true, true, false, false, false, false, false, false, false, false, false, false, false] (.float .f32 bh) rfl (by rfl) (by kernel_rfl) (by kernel_rfl) (by kernel_rfl) (fun wq hS => by have hcell : wq.cell? ⟨w.heap.size + 1, 0, none⟩ = some (.float .f32 bh) := (cell_of_row wq (w.heap.size + 1) 0 _ _ _ (hS.at (x := (w.heap.size + 1, #[.float .f32 bh, .float .f32 bv], 32)) (by simp))).trans rfl; clear hS; unfold execOp; go_simp) (by rfl) (by rfl) (kd) ?_
  refine take_val 4 { tmps := (.agg #[.float .f32 ah, .float .f32 av] :: .agg #[.float .f32 bh, .float .f32 bv] :: .float .f32 x :: .pointer (some ⟨w.heap.size, 0, none⟩) :: .pointer (some ⟨w.heap.size + 1, 0, none⟩) :: undef :: .pointer (some ⟨w.heap.size + 1 + 1, 0, none⟩) :: .int .i64 0 :: undef :: .agg #[.float .f32 ah, .float .f32 av] :: .bool true :: .bool false :: .bool false :: .agg #[.float .f32 bh, .float .f32 bv] :: .bool true :: .bool false :: .bool false :: undef :: .float .f32 x :: .bool true :: .bool false :: undef :: .pointer (some ⟨w.heap.size, 0, none⟩) :: .float .f32 ah :: .pointer (some ⟨w.heap.size + 1, 0, none⟩) :: .float .f32 bh :: .float .f32 x :: undef :: undef :: undef :: undef :: undef :: undef :: undef :: undef :: undef :: undef :: undef :: undef :: undef :: []).toArray, defers := [] } #[true, true, true, true, true, false, false, false, false, false, false, false, false, false, false] (.float .f32 x) rfl (by rfl) (by kernel_rfl) (by kernel_rfl) (by kernel_rfl) (fun w => by rfl) (by rfl) (by rfl) (kd) ?_
  refine take_val 6 { tmps := (.agg #[.float .f32 ah, .float .f32 av] :: .agg #[.float .f32 bh, .float .f32 bv] :: .float .f32 x :: .pointer (some ⟨w.heap.size, 0, none⟩) :: .pointer (some ⟨w.heap.size + 1, 0, none⟩) :: undef :: .pointer (some ⟨w.heap.size + 1 + 1, 0, none⟩) :: .int .i64 0 :: undef :: .agg #[.float .f32 ah, .float .f32 av] :: .bool true :: .bool false :: .bool false :: .agg #[.float .f32 bh, .float .f32 bv] :: .bool true :: .bool false :: .bool false :: undef :: .float .f32 x :: .bool true :: .bool false :: undef :: .pointer (some ⟨w.heap.size, 0, none⟩) :: .float .f32 ah :: .pointer (some ⟨w.heap.size + 1, 0, none⟩) :: .float .f32 bh :: .float .f32 x :: undef :: .pointer (some ⟨w.heap.size, 1, none⟩) :: undef :: undef :: undef :: undef :: undef :: undef :: undef :: undef :: undef :: undef :: undef :: []).toArray, defers := [] } #[true, true, true, true, true, false, true, false, false, false, false, false, false, false, false] (.pointer (some ⟨w.heap.size, 1, none⟩)) rfl (by rfl) (by kernel_rfl) (by kernel_rfl) (by kernel_rfl) (fun w => by unfold execOp; go_simp) (by rfl) (by rfl) (kd) ?_
  refine take_cell 7 { tmps := (.agg #[.float .f32 ah, .float .f32 av] :: .agg #[.float .f32 bh, .float .f32 bv] :: .float .f32 x :: .pointer (some ⟨w.heap.size, 0, none⟩) :: .pointer (some ⟨w.heap.size + 1, 0, none⟩) :: undef :: .pointer (some ⟨w.heap.size + 1 + 1, 0, none⟩) :: .int .i64 0 :: undef :: .agg #[.float .f32 ah, .float .f32 av] :: .bool true :: .bool false :: .bool false :: .agg #[.float .f32 bh, .float .f32 bv] :: .bool true :: .bool false :: .bool false :: undef :: .float .f32 x :: .bool true :: .bool false :: undef :: .pointer (some ⟨w.heap.size, 0, none⟩) :: .float .f32 ah :: .pointer (some ⟨w.heap.size + 1, 0, none⟩) :: .float .f32 bh :: .float .f32 x :: undef :: .pointer (some ⟨w.heap.size, 1, none⟩) :: .float .f32 av :: undef :: undef :: undef :: undef :: undef :: undef :: undef :: undef :: undef :: undef :: []).toArray, defers := [] } #[true, true, true, true, true, false, true, true, false, false, false, false, false, false, false] (.float .f32 av) rfl (by rfl) (by kernel_rfl) (by kernel_rfl) (by kernel_rfl) (fun wq hS => by have hcell : wq.cell? ⟨w.heap.size, 1, none⟩ = some (.float .f32 av) := (cell_of_row wq (w.heap.size) 1 _ _ _ (hS.at (x := (w.heap.size, #[.float .f32 ah, .float .f32 av], 32)) (by simp))).trans rfl; clear hS; unfold execOp; go_simp) (by rfl) (by rfl) (kd) ?_
  refine take_val 8 { tmps := (.agg #[.float .f32 ah, .float .f32 av] :: .agg #[.float .f32 bh, .float .f32 bv] :: .float .f32 x :: .pointer (some ⟨w.heap.size, 0, none⟩) :: .pointer (some ⟨w.heap.size + 1, 0, none⟩) :: undef :: .pointer (some ⟨w.heap.size + 1 + 1, 0, none⟩) :: .int .i64 0 :: undef :: .agg #[.float .f32 ah, .float .f32 av] :: .bool true :: .bool false :: .bool false :: .agg #[.float .f32 bh, .float .f32 bv] :: .bool true :: .bool false :: .bool false :: undef :: .float .f32 x :: .bool true :: .bool false :: undef :: .pointer (some ⟨w.heap.size, 0, none⟩) :: .float .f32 ah :: .pointer (some ⟨w.heap.size + 1, 0, none⟩) :: .float .f32 bh :: .float .f32 x :: undef :: .pointer (some ⟨w.heap.size, 1, none⟩) :: .float .f32 av :: .pointer (some ⟨w.heap.size + 1, 1, none⟩) :: undef :: undef :: undef :: undef :: undef :: undef :: undef :: undef :: undef :: []).toArray, defers := [] } #[true, true, true, true, true, false, true, true, true, false, false, false, false, false, false] (.pointer (some ⟨w.heap.size + 1, 1, none⟩)) rfl (by rfl) (by kernel_rfl) (by kernel_rfl) (by kernel_rfl) (fun w => by unfold execOp; go_simp) (by rfl) (by rfl) (kd) ?_
  refine take_cell 9 { tmps := (.agg #[.float .f32 ah, .float .f32 av] :: .agg #[.float .f32 bh, .float .f32 bv] :: .float .f32 x :: .pointer (some ⟨w.heap.size, 0, none⟩) :: .pointer (some ⟨w.heap.size + 1, 0, none⟩) :: undef :: .pointer (some ⟨w.heap.size + 1 + 1, 0, none⟩) :: .int .i64 0 :: undef :: .agg #[.float .f32 ah, .float .f32 av] :: .bool true :: .bool false :: .bool false :: .agg #[.float .f32 bh, .float .f32 bv] :: .bool true :: .bool false :: .bool false :: undef :: .float .f32 x :: .bool true :: .bool false :: undef :: .pointer (some ⟨w.heap.size, 0, none⟩) :: .float .f32 ah :: .pointer (some ⟨w.heap.size + 1, 0, none⟩) :: .float .f32 bh :: .float .f32 x :: undef :: .pointer (some ⟨w.heap.size, 1, none⟩) :: .float .f32 av :: .pointer (some ⟨w.heap.size + 1, 1, none⟩) :: .float .f32 bv :: undef :: undef :: undef :: undef :: undef :: undef :: undef :: undef :: []).toArray, defers := [] } #[true, true, true, true, true, false, true, true, true, true, false, false, false, false, false] (.float .f32 bv) rfl (by rfl) (by kernel_rfl) (by kernel_rfl) (by kernel_rfl) (fun wq hS => by have hcell : wq.cell? ⟨w.heap.size + 1, 1, none⟩ = some (.float .f32 bv) := (cell_of_row wq (w.heap.size + 1) 1 _ _ _ (hS.at (x := (w.heap.size + 1, #[.float .f32 bh, .float .f32 bv], 32)) (by simp))).trans rfl; clear hS; unfold execOp; go_simp) (by rfl) (by rfl) (kd) ?_
  refine take_val 10 { tmps := (.agg #[.float .f32 ah, .float .f32 av] :: .agg #[.float .f32 bh, .float .f32 bv] :: .float .f32 x :: .pointer (some ⟨w.heap.size, 0, none⟩) :: .pointer (some ⟨w.heap.size + 1, 0, none⟩) :: undef :: .pointer (some ⟨w.heap.size + 1 + 1, 0, none⟩) :: .int .i64 0 :: undef :: .agg #[.float .f32 ah, .float .f32 av] :: .bool true :: .bool false :: .bool false :: .agg #[.float .f32 bh, .float .f32 bv] :: .bool true :: .bool false :: .bool false :: undef :: .float .f32 x :: .bool true :: .bool false :: undef :: .pointer (some ⟨w.heap.size, 0, none⟩) :: .float .f32 ah :: .pointer (some ⟨w.heap.size + 1, 0, none⟩) :: .float .f32 bh :: .float .f32 x :: undef :: .pointer (some ⟨w.heap.size, 1, none⟩) :: .float .f32 av :: .pointer (some ⟨w.heap.size + 1, 1, none⟩) :: .float .f32 bv :: .float .f32 x :: undef :: undef :: undef :: undef :: undef :: undef :: undef :: []).toArray, defers := [] } #[true, true, true, true, true, false, true, true, true, true, true, false, false, false, false] (.float .f32 x) rfl (by rfl) (by kernel_rfl) (by kernel_rfl) (by kernel_rfl) (fun w => by rfl) (by rfl) (by rfl) (kd) ?_
  refine wpAnyH_ready (rs := [5, 13]) (by kernel_rfl) (by simp) ?_
  refine callK 5 { tmps := (.agg #[.float .f32 ah, .float .f32 av] :: .agg #[.float .f32 bh, .float .f32 bv] :: .float .f32 x :: .pointer (some ⟨w.heap.size, 0, none⟩) :: .pointer (some ⟨w.heap.size + 1, 0, none⟩) :: undef :: .pointer (some ⟨w.heap.size + 1 + 1, 0, none⟩) :: .int .i64 0 :: undef :: .agg #[.float .f32 ah, .float .f32 av] :: .bool true :: .bool false :: .bool false :: .agg #[.float .f32 bh, .float .f32 bv] :: .bool true :: .bool false :: .bool false :: undef :: .float .f32 x :: .bool true :: .bool false :: undef :: .pointer (some ⟨w.heap.size, 0, none⟩) :: .float .f32 ah :: .pointer (some ⟨w.heap.size + 1, 0, none⟩) :: .float .f32 bh :: .float .f32 x :: .float .f32 (mixW ah bh x) :: .pointer (some ⟨w.heap.size, 1, none⟩) :: .float .f32 av :: .pointer (some ⟨w.heap.size + 1, 1, none⟩) :: .float .f32 bv :: .float .f32 x :: undef :: undef :: undef :: undef :: undef :: undef :: undef :: []).toArray, defers := [] } #[true, true, true, true, true, true, true, true, true, true, true, false, false, false, false] (.float .f32 (mixW ah bh x)) kd rfl (by rfl) 158 #[.float .f32 ah, .float .f32 bh, .float .f32 x] (run_mixN3 _ _ _ rfl _ _ rfl _ _ rfl _ _ _ _ _ _) (by rfl) (by rfl) (loose (iMixN _ _ _ HM1.out _)) (fun w1 k1 => ?_) ?_
  · refine ⟨k1, ?_⟩
    refine wpAnyH_ready (rs := [11, 13]) (by kernel_rfl) (by simp) ?_
    refine callK 11 { tmps := (.agg #[.float .f32 ah, .float .f32 av] :: .agg #[.float .f32 bh, .float .f32 bv] :: .float .f32 x :: .pointer (some ⟨w.heap.size, 0, none⟩) :: .pointer (some ⟨w.heap.size + 1, 0, none⟩) :: undef :: .pointer (some ⟨w.heap.size + 1 + 1, 0, none⟩) :: .int .i64 0 :: undef :: .agg #[.float .f32 ah, .float .f32 av] :: .bool true :: .bool false :: .bool false :: .agg #[.float .f32 bh, .float .f32 bv] :: .bool true :: .bool false :: .bool false :: undef :: .float .f32 x :: .bool true :: .bool false :: undef :: .pointer (some ⟨w.heap.size, 0, none⟩) :: .float .f32 ah :: .pointer (some ⟨w.heap.size + 1, 0, none⟩) :: .float .f32 bh :: .float .f32 x :: .float .f32 (mixW ah bh x) :: .pointer (some ⟨w.heap.size, 1, none⟩) :: .float .f32 av :: .pointer (some ⟨w.heap.size + 1, 1, none⟩) :: .float .f32 bv :: .float .f32 x :: .float .f32 (mixW av bv x) :: undef :: undef :: undef :: undef :: undef :: undef :: []).toArray, defers := [] } #[true, true, true, true, true, true, true, true, true, true, true, true, false, false, false] (.float .f32 (mixW av bv x)) k1 rfl (by rfl) 158 #[.float .f32 av, .float .f32 bv, .float .f32 x] (run_mixN3 _ _ _ rfl _ _ rfl _ _ rfl _ _ _ _ _ _) (by rfl) (by rfl) (loose (iMixN _ _ _ HM2.out _)) (fun w2 k2 => ?_) ?_
    · refine ⟨k2, ?_⟩
      refine take_val 12 { tmps := (.agg #[.float .f32 ah, .float .f32 av] :: .agg #[.float .f32 bh, .float .f32 bv] :: .float .f32 x :: .pointer (some ⟨w.heap.size, 0, none⟩) :: .pointer (some ⟨w.heap.size + 1, 0, none⟩) :: undef :: .pointer (some ⟨w.heap.size + 1 + 1, 0, none⟩) :: .int .i64 0 :: undef :: .agg #[.float .f32 ah, .float .f32 av] :: .bool true :: .bool false :: .bool false :: .agg #[.float .f32 bh, .float .f32 bv] :: .bool true :: .bool false :: .bool false :: undef :: .float .f32 x :: .bool true :: .bool false :: undef :: .pointer (some ⟨w.heap.size, 0, none⟩) :: .float .f32 ah :: .pointer (some ⟨w.heap.size + 1, 0, none⟩) :: .float .f32 bh :: .float .f32 x :: .float .f32 (mixW ah bh x) :: .pointer (some ⟨w.heap.size, 1, none⟩) :: .float .f32 av :: .pointer (some ⟨w.heap.size + 1, 1, none⟩) :: .float .f32 bv :: .float .f32 x :: .float .f32 (mixW av bv x) :: .agg #[.float .f32 (mixW ah bh x), .float .f32 (mixW av bv x)] :: undef :: undef :: undef :: undef :: undef :: []).toArray, defers := [] } #[true, true, true, true, true, true, true, true, true, true, true, true, true, false, false] (.agg #[.float .f32 (mixW ah bh x), .float .f32 (mixW av bv x)]) rfl (by rfl) (by kernel_rfl) (by kernel_rfl) (by kernel_rfl) (fun w => by unfold execOp; go_simp) (by rfl) (by rfl) (k2) ?_
      refine wpAnyH_ready (rs := [13]) (by kernel_rfl) (by simp) ?_
      refine allocK 13 (fun g3 => { tmps := (.agg #[.float .f32 ah, .float .f32 av] :: .agg #[.float .f32 bh, .float .f32 bv] :: .float .f32 x :: .pointer (some ⟨w.heap.size, 0, none⟩) :: .pointer (some ⟨w.heap.size + 1, 0, none⟩) :: undef :: .pointer (some ⟨w.heap.size + 1 + 1, 0, none⟩) :: .int .i64 0 :: .pointer (some ⟨g3, 0, none⟩) :: .agg #[.float .f32 ah, .float .f32 av] :: .bool true :: .bool false :: .bool false :: .agg #[.float .f32 bh, .float .f32 bv] :: .bool true :: .bool false :: .bool false :: undef :: .float .f32 x :: .bool true :: .bool false :: undef :: .pointer (some ⟨w.heap.size, 0, none⟩) :: .float .f32 ah :: .pointer (some ⟨w.heap.size + 1, 0, none⟩) :: .float .f32 bh :: .float .f32 x :: .float .f32 (mixW ah bh x) :: .pointer (some ⟨w.heap.size, 1, none⟩) :: .float .f32 av :: .pointer (some ⟨w.heap.size + 1, 1, none⟩) :: .float .f32 bv :: .float .f32 x :: .float .f32 (mixW av bv x) :: .agg #[.float .f32 (mixW ah bh x), .float .f32 (mixW av bv x)] :: undef :: undef :: undef :: undef :: undef :: []).toArray, defers := [] }) #[true, true, true, true, true, true, true, true, true, true, true, true, true, true, false] k2 rfl (by rfl) (#[.float .f32 0, .float .f32 0]) 32 (alloc_air _ _ _ _ _ _ _) (fun g => by rfl) (by rfl) (fun w3 g3 k3 hB3 hn3 => ?_) AllReadyH.nil
      refine ⟨k3.tail, ?_⟩
      refine wpAnyH_ready (rs := [14]) (by kernel_rfl) (by simp) ?_
      refine storeK 14 { tmps := (.agg #[.float .f32 ah, .float .f32 av] :: .agg #[.float .f32 bh, .float .f32 bv] :: .float .f32 x :: .pointer (some ⟨w.heap.size, 0, none⟩) :: .pointer (some ⟨w.heap.size + 1, 0, none⟩) :: undef :: .pointer (some ⟨w.heap.size + 1 + 1, 0, none⟩) :: .int .i64 0 :: .pointer (some ⟨g3, 0, none⟩) :: .agg #[.float .f32 ah, .float .f32 av] :: .bool true :: .bool false :: .bool false :: .agg #[.float .f32 bh, .float .f32 bv] :: .bool true :: .bool false :: .bool false :: undef :: .float .f32 x :: .bool true :: .bool false :: undef :: .pointer (some ⟨w.heap.size, 0, none⟩) :: .float .f32 ah :: .pointer (some ⟨w.heap.size + 1, 0, none⟩) :: .float .f32 bh :: .float .f32 x :: .float .f32 (mixW ah bh x) :: .pointer (some ⟨w.heap.size, 1, none⟩) :: .float .f32 av :: .pointer (some ⟨w.heap.size + 1, 1, none⟩) :: .float .f32 bv :: .float .f32 x :: .float .f32 (mixW av bv x) :: .agg #[.float .f32 (mixW ah bh x), .float .f32 (mixW av bv x)] :: undef :: undef :: undef :: undef :: undef :: []).toArray, defers := [] } #[true, true, true, true, true, true, true, true, true, true, true, true, true, true, true] k3 hB3 hn3 rfl (by rfl) 32 _ _ rfl (#[.float .f32 (mixW ah bh x), .float .f32 (mixW av bv x)]) (by rfl) (by rfl) (info_air) (by simp) (by simp [Value.oneCell']) (by rfl) (by rfl) (fun w4 k4 => ?_) AllReadyH.nil
      refine ⟨k4.tail, ?_⟩
      exact wpAnyH_done (by kernel_rfl) (NoPanic.normal (key g3 _ (hid k4))) _
    refine allocK 13 (fun g5 => { tmps := (.agg #[.float .f32 ah, .float .f32 av] :: .agg #[.float .f32 bh, .float .f32 bv] :: .float .f32 x :: .pointer (some ⟨w.heap.size, 0, none⟩) :: .pointer (some ⟨w.heap.size + 1, 0, none⟩) :: undef :: .pointer (some ⟨w.heap.size + 1 + 1, 0, none⟩) :: .int .i64 0 :: .pointer (some ⟨g5, 0, none⟩) :: .agg #[.float .f32 ah, .float .f32 av] :: .bool true :: .bool false :: .bool false :: .agg #[.float .f32 bh, .float .f32 bv] :: .bool true :: .bool false :: .bool false :: undef :: .float .f32 x :: .bool true :: .bool false :: undef :: .pointer (some ⟨w.heap.size, 0, none⟩) :: .float .f32 ah :: .pointer (some ⟨w.heap.size + 1, 0, none⟩) :: .float .f32 bh :: .float .f32 x :: .float .f32 (mixW ah bh x) :: .pointer (some ⟨w.heap.size, 1, none⟩) :: .float .f32 av :: .pointer (some ⟨w.heap.size + 1, 1, none⟩) :: .float .f32 bv :: .float .f32 x :: undef :: undef :: undef :: undef :: undef :: undef :: undef :: []).toArray, defers := [] }) #[true, true, true, true, true, true, true, true, true, true, true, false, false, true, false] k1 rfl (by rfl) (#[.float .f32 0, .float .f32 0]) 32 (alloc_air _ _ _ _ _ _ _) (fun g => by rfl) (by rfl) (fun w5 g5 k5 hB5 hn5 => ?_) AllReadyH.nil
    refine ⟨k5.tail, ?_⟩
    refine wpAnyH_ready (rs := [11]) (by kernel_rfl) (by simp) ?_
    refine callK 11 { tmps := (.agg #[.float .f32 ah, .float .f32 av] :: .agg #[.float .f32 bh, .float .f32 bv] :: .float .f32 x :: .pointer (some ⟨w.heap.size, 0, none⟩) :: .pointer (some ⟨w.heap.size + 1, 0, none⟩) :: undef :: .pointer (some ⟨w.heap.size + 1 + 1, 0, none⟩) :: .int .i64 0 :: .pointer (some ⟨g5, 0, none⟩) :: .agg #[.float .f32 ah, .float .f32 av] :: .bool true :: .bool false :: .bool false :: .agg #[.float .f32 bh, .float .f32 bv] :: .bool true :: .bool false :: .bool false :: undef :: .float .f32 x :: .bool true :: .bool false :: undef :: .pointer (some ⟨w.heap.size, 0, none⟩) :: .float .f32 ah :: .pointer (some ⟨w.heap.size + 1, 0, none⟩) :: .float .f32 bh :: .float .f32 x :: .float .f32 (mixW ah bh x) :: .pointer (some ⟨w.heap.size, 1, none⟩) :: .float .f32 av :: .pointer (some ⟨w.heap.size + 1, 1, none⟩) :: .float .f32 bv :: .float .f32 x :: .float .f32 (mixW av bv x) :: undef :: undef :: undef :: undef :: undef :: undef :: []).toArray, defers := [] } #[true, true, true, true, true, true, true, true, true, true, true, true, false, true, false] (.float .f32 (mixW av bv x)) k5 rfl (by rfl) 158 #[.float .f32 av, .float .f32 bv, .float .f32 x] (run_mixN3 _ _ _ rfl _ _ rfl _ _ rfl _ _ _ _ _ _) (by rfl) (by rfl) (loose (iMixN _ _ _ HM2.out _)) (fun w6 k6 => ?_) AllReadyH.nil
    refine ⟨k6.tail, ?_⟩
    refine take_val 12 { tmps := (.agg #[.float .f32 ah, .float .f32 av] :: .agg #[.float .f32 bh, .float .f32 bv] :: .float .f32 x :: .pointer (some ⟨w.heap.size, 0, none⟩) :: .pointer (some ⟨w.heap.size + 1, 0, none⟩) :: undef :: .pointer (some ⟨w.heap.size + 1 + 1, 0, none⟩) :: .int .i64 0 :: .pointer (some ⟨g5, 0, none⟩) :: .agg #[.float .f32 ah, .float .f32 av] :: .bool true :: .bool false :: .bool false :: .agg #[.float .f32 bh, .float .f32 bv] :: .bool true :: .bool false :: .bool false :: undef :: .float .f32 x :: .bool true :: .bool false :: undef :: .pointer (some ⟨w.heap.size, 0, none⟩) :: .float .f32 ah :: .pointer (some ⟨w.heap.size + 1, 0, none⟩) :: .float .f32 bh :: .float .f32 x :: .float .f32 (mixW ah bh x) :: .pointer (some ⟨w.heap.size, 1, none⟩) :: .float .f32 av :: .pointer (some ⟨w.heap.size + 1, 1, none⟩) :: .float .f32 bv :: .float .f32 x :: .float .f32 (mixW av bv x) :: .agg #[.float .f32 (mixW ah bh x), .float .f32 (mixW av bv x)] :: undef :: undef :: undef :: undef :: undef :: []).toArray, defers := [] } #[true, true, true, true, true, true, true, true, true, true, true, true, true, true, false] (.agg #[.float .f32 (mixW ah bh x), .float .f32 (mixW av bv x)]) rfl (by rfl) (by kernel_rfl) (by kernel_rfl) (by kernel_rfl) (fun w => by unfold execOp; go_simp) (by rfl) (by rfl) (k6.tail) ?_
    refine wpAnyH_ready (rs := [14]) (by kernel_rfl) (by simp) ?_
    refine storeK 14 { tmps := (.agg #[.float .f32 ah, .float .f32 av] :: .agg #[.float .f32 bh, .float .f32 bv] :: .float .f32 x :: .pointer (some ⟨w.heap.size, 0, none⟩) :: .pointer (some ⟨w.heap.size + 1, 0, none⟩) :: undef :: .pointer (some ⟨w.heap.size + 1 + 1, 0, none⟩) :: .int .i64 0 :: .pointer (some ⟨g5, 0, none⟩) :: .agg #[.float .f32 ah, .float .f32 av] :: .bool true :: .bool false :: .bool false :: .agg #[.float .f32 bh, .float .f32 bv] :: .bool true :: .bool false :: .bool false :: undef :: .float .f32 x :: .bool true :: .bool false :: undef :: .pointer (some ⟨w.heap.size, 0, none⟩) :: .float .f32 ah :: .pointer (some ⟨w.heap.size + 1, 0, none⟩) :: .float .f32 bh :: .float .f32 x :: .float .f32 (mixW ah bh x) :: .pointer (some ⟨w.heap.size, 1, none⟩) :: .float .f32 av :: .pointer (some ⟨w.heap.size + 1, 1, none⟩) :: .float .f32 bv :: .float .f32 x :: .float .f32 (mixW av bv x) :: .agg #[.float .f32 (mixW ah bh x), .float .f32 (mixW av bv x)] :: undef :: undef :: undef :: undef :: undef :: []).toArray, defers := [] } #[true, true, true, true, true, true, true, true, true, true, true, true, true, true, true] k6 hB5 hn5 rfl (by rfl) 32 _ _ rfl (#[.float .f32 (mixW ah bh x), .float .f32 (mixW av bv x)]) (by rfl) (by rfl) (info_air) (by simp) (by simp [Value.oneCell']) (by rfl) (by rfl) (fun w7 k7 => ?_) AllReadyH.nil
    refine ⟨k7.tail, ?_⟩
    exact wpAnyH_done (by kernel_rfl) (NoPanic.normal (key g5 _ (hid k7))) _
  refine allocK 13 (fun g8 => { tmps := (.agg #[.float .f32 ah, .float .f32 av] :: .agg #[.float .f32 bh, .float .f32 bv] :: .float .f32 x :: .pointer (some ⟨w.heap.size, 0, none⟩) :: .pointer (some ⟨w.heap.size + 1, 0, none⟩) :: undef :: .pointer (some ⟨w.heap.size + 1 + 1, 0, none⟩) :: .int .i64 0 :: .pointer (some ⟨g8, 0, none⟩) :: .agg #[.float .f32 ah, .float .f32 av] :: .bool true :: .bool false :: .bool false :: .agg #[.float .f32 bh, .float .f32 bv] :: .bool true :: .bool false :: .bool false :: undef :: .float .f32 x :: .bool true :: .bool false :: undef :: .pointer (some ⟨w.heap.size, 0, none⟩) :: .float .f32 ah :: .pointer (some ⟨w.heap.size + 1, 0, none⟩) :: .float .f32 bh :: .float .f32 x :: undef :: .pointer (some ⟨w.heap.size, 1, none⟩) :: .float .f32 av :: .pointer (some ⟨w.heap.size + 1, 1, none⟩) :: .float .f32 bv :: .float .f32 x :: undef :: undef :: undef :: undef :: undef :: undef :: undef :: []).toArray, defers := [] }) #[true, true, true, true, true, false, true, true, true, true, true, false, false, true, false] kd rfl (by rfl) (#[.float .f32 0, .float .f32 0]) 32 (alloc_air _ _ _ _ _ _ _) (fun g => by rfl) (by rfl) (fun w8 g8 k8 hB8 hn8 => ?_) AllReadyH.nil
  refine ⟨k8.tail, ?_⟩
  refine wpAnyH_ready (rs := [5]) (by kernel_rfl) (by simp) ?_
  refine callK 5 { tmps := (.agg #[.float .f32 ah, .float .f32 av] :: .agg #[.float .f32 bh, .float .f32 bv] :: .float .f32 x :: .pointer (some ⟨w.heap.size, 0, none⟩) :: .pointer (some ⟨w.heap.size + 1, 0, none⟩) :: undef :: .pointer (some ⟨w.heap.size + 1 + 1, 0, none⟩) :: .int .i64 0 :: .pointer (some ⟨g8, 0, none⟩) :: .agg #[.float .f32 ah, .float .f32 av] :: .bool true :: .bool false :: .bool false :: .agg #[.float .f32 bh, .float .f32 bv] :: .bool true :: .bool false :: .bool false :: undef :: .float .f32 x :: .bool true :: .bool false :: undef :: .pointer (some ⟨w.heap.size, 0, none⟩) :: .float .f32 ah :: .pointer (some ⟨w.heap.size + 1, 0, none⟩) :: .float .f32 bh :: .float .f32 x :: .float .f32 (mixW ah bh x) :: .pointer (some ⟨w.heap.size, 1, none⟩) :: .float .f32 av :: .pointer (some ⟨w.heap.size + 1, 1, none⟩) :: .float .f32 bv :: .float .f32 x :: undef :: undef :: undef :: undef :: undef :: undef :: undef :: []).toArray, defers := [] } #[true, true, true, true, true, true, true, true, true, true, true, false, false, true, false] (.float .f32 (mixW ah bh x)) k8 rfl (by rfl) 158 #[.float .f32 ah, .float .f32 bh, .float .f32 x] (run_mixN3 _ _ _ rfl _ _ rfl _ _ rfl _ _ _ _ _ _) (by rfl) (by rfl) (loose (iMixN _ _ _ HM1.out _)) (fun w9 k9 => ?_) AllReadyH.nil
  refine ⟨k9.tail, ?_⟩
  refine wpAnyH_ready (rs := [11]) (by kernel_rfl) (by simp) ?_
  refine callK 11 { tmps := (.agg #[.float .f32 ah, .float .f32 av] :: .agg #[.float .f32 bh, .float .f32 bv] :: .float .f32 x :: .pointer (some ⟨w.heap.size, 0, none⟩) :: .pointer (some ⟨w.heap.size + 1, 0, none⟩) :: undef :: .pointer (some ⟨w.heap.size + 1 + 1, 0, none⟩) :: .int .i64 0 :: .pointer (some ⟨g8, 0, none⟩) :: .agg #[.float .f32 ah, .float .f32 av] :: .bool true :: .bool false :: .bool false :: .agg #[.float .f32 bh, .float .f32 bv] :: .bool true :: .bool false :: .bool false :: undef :: .float .f32 x :: .bool true :: .bool false :: undef :: .pointer (some ⟨w.heap.size, 0, none⟩) :: .float .f32 ah :: .pointer (some ⟨w.heap.size + 1, 0, none⟩) :: .float .f32 bh :: .float .f32 x :: .float .f32 (mixW ah bh x) :: .pointer (some ⟨w.heap.size, 1, none⟩) :: .float .f32 av :: .pointer (some ⟨w.heap.size + 1, 1, none⟩) :: .float .f32 bv :: .float .f32 x :: .float .f32 (mixW av bv x) :: undef :: undef :: undef :: undef :: undef :: undef :: []).toArray, defers := [] } #[true, true, true, true, true, true, true, true, true, true, true, true, false, true, false] (.float .f32 (mixW av bv x)) k9 rfl (by rfl) 158 #[.float .f32 av, .float .f32 bv, .float .f32 x] (run_mixN3 _ _ _ rfl _ _ rfl _ _ rfl _ _ _ _ _ _) (by rfl) (by rfl) (loose (iMixN _ _ _ HM2.out _)) (fun w10 k10 => ?_) AllReadyH.nil
  refine ⟨k10.tail, ?_⟩
  refine take_val 12 { tmps := (.agg #[.float .f32 ah, .float .f32 av] :: .agg #[.float .f32 bh, .float .f32 bv] :: .float .f32 x :: .pointer (some ⟨w.heap.size, 0, none⟩) :: .pointer (some ⟨w.heap.size + 1, 0, none⟩) :: undef :: .pointer (some ⟨w.heap.size + 1 + 1, 0, none⟩) :: .int .i64 0 :: .pointer (some ⟨g8, 0, none⟩) :: .agg #[.float .f32 ah, .float .f32 av] :: .bool true :: .bool false :: .bool false :: .agg #[.float .f32 bh, .float .f32 bv] :: .bool true :: .bool false :: .bool false :: undef :: .float .f32 x :: .bool true :: .bool false :: undef :: .pointer (some ⟨w.heap.size, 0, none⟩) :: .float .f32 ah :: .pointer (some ⟨w.heap.size + 1, 0, none⟩) :: .float .f32 bh :: .float .f32 x :: .float .f32 (mixW ah bh x) :: .pointer (some ⟨w.heap.size, 1, none⟩) :: .float .f32 av :: .pointer (some ⟨w.heap.size + 1, 1, none⟩) :: .float .f32 bv :: .float .f32 x :: .float .f32 (mixW av bv x) :: .agg #[.float .f32 (mixW ah bh x), .float .f32 (mixW av bv x)] :: undef :: undef :: undef :: undef :: undef :: []).toArray, defers := [] } #[true, true, true, true, true, true, true, true, true, true, true, true, true, true, false] (.agg #[.float .f32 (mixW ah bh x), .float .f32 (mixW av bv x)]) rfl (by rfl) (by kernel_rfl) (by kernel_rfl) (by kernel_rfl) (fun w => by unfold execOp; go_simp) (by rfl) (by rfl) (k10.tail) ?_
  refine wpAnyH_ready (rs := [14]) (by kernel_rfl) (by simp) ?_
  refine storeK 14 { tmps := (.agg #[.float .f32 ah, .float .f32 av] :: .agg #[.float .f32 bh, .float .f32 bv] :: .float .f32 x :: .pointer (some ⟨w.heap.size, 0, none⟩) :: .pointer (some ⟨w.heap.size + 1, 0, none⟩) :: undef :: .pointer (some ⟨w.heap.size + 1 + 1, 0, none⟩) :: .int .i64 0 :: .pointer (some ⟨g8, 0, none⟩) :: .agg #[.float .f32 ah, .float .f32 av] :: .bool true :: .bool false :: .bool false :: .agg #[.float .f32 bh, .float .f32 bv] :: .bool true :: .bool false :: .bool false :: undef :: .float .f32 x :: .bool true :: .bool false :: undef :: .pointer (some ⟨w.heap.size, 0, none⟩) :: .float .f32 ah :: .pointer (some ⟨w.heap.size + 1, 0, none⟩) :: .float .f32 bh :: .float .f32 x :: .float .f32 (mixW ah bh x) :: .pointer (some ⟨w.heap.size, 1, none⟩) :: .float .f32 av :: .pointer (some ⟨w.heap.size + 1, 1, none⟩) :: .float .f32 bv :: .float .f32 x :: .float .f32 (mixW av bv x) :: .agg #[.float .f32 (mixW ah bh x), .float .f32 (mixW av bv x)] :: undef :: undef :: undef :: undef :: undef :: []).toArray, defers := [] } #[true, true, true, true, true, true, true, true, true, true, true, true, true, true, true] k10 hB8 hn8 rfl (by rfl) 32 _ _ rfl (#[.float .f32 (mixW ah bh x), .float .f32 (mixW av bv x)]) (by rfl) (by rfl) (info_air) (by simp) (by simp [Value.oneCell']) (by rfl) (by rfl) (fun w11 k11 => ?_) AllReadyH.nil
  refine ⟨k11.tail, ?_⟩
  exact wpAnyH_done (by kernel_rfl) (NoPanic.normal (key g8 _ (hid k11))) _

set_option maxRecDepth 100000 in
set_option maxHeartbeats 2000000 in
theorem iMixAir_state (ah av bh bv x : Nat) (hv1 : av < 4294967296) (hq1 : airB ah av = true) (hv2 : bv < 4294967296) (hq2 : airB bh bv = true) (hx : Share x) (M1 : MixF ah bh x) (M2 : MixF av bv x) (hr : airB (mixW ah bh x) (mixW av bv x) = false) (w : World) :
    Calls Try.prog 120 #[.agg #[.float .f32 ah, .float .f32 av], .agg #[.float .f32 bh, .float .f32 bv], .float .f32 x] w fun e w' => e = .returned (.tuple #[.agg #[.float .f32 0, .float .f32 0], .int .i64 4]) ∧ Below w.heap.size w w' := by
  have k0 : Hid (Kept w [(w.heap.size, #[.float .f32 ah, .float .f32 av], 32), (w.heap.size + 1, #[.float .f32 bh, .float .f32 bv], 32), (w.heap.size + 1 + 1, #[.float .f32 0, .float .f32 0], 32)] (((w.alloc (.cells (#[.float .f32 ah, .float .f32 av]) 32)).alloc (.cells (#[.float .f32 bh, .float .f32 bv]) 32)).alloc (.cells (#[.float .f32 0, .float .f32 0]) 32))) := hid (((((Kept.nil w).push (#[.float .f32 ah, .float .f32 av]) 32).push (#[.float .f32 bh, .float .f32 bv]) 32).push (#[.float .f32 0, .float .f32 0]) 32).sub (by simp))
  have Hhv1 := hid hv1
  have Hhq1 := hid hq1
  have Hhv2 := hid hv2
  have Hhq2 := hid hq2
  have Hhx := hid hx
  have HM1 := hid M1
  have HM2 := hid M2
  have Hhr := hid hr
  clear hv1 hq1 hv2 hq2 hx M1 M2 hr
  go_enter Try.func120, Try.ntmps120
  go_wp2_with (first | (refine wpList_load_row rfl 32 _ rfl (w.heap.size) rfl 32 (#[.float .f32 ah, .float .f32 av]) (0, 0) _ (k0.out.at (x := (w.heap.size, #[.float .f32 ah, .float .f32 av], 32)) (by simp)) Try.underlying32 rfl (info_air) ?_))
  refine (iValidAir ah av Hhv1.out true Hhq1.out _).mono ?_
  rintro e w0 ⟨rfl, hb0⟩
  have k1 := hid (k0.out.stay hb0)
  clear hb0
  go_wp2_with (first | (refine wpList_load_g rfl 32 _ rfl (w.heap.size + 1) rfl 32 (#[.float .f32 bh, .float .f32 bv]) (0, 0) _ (k1.out.at (x := (w.heap.size + 1, #[.float .f32 bh, .float .f32 bv], 32)) (by simp)) Try.underlying32 rfl (info_air) ?_))
  refine (iValidAir bh bv Hhv2.out true Hhq2.out _).mono ?_
  rintro e w1 ⟨rfl, hb1⟩
  have k2 := hid (k1.out.stay hb1)
  clear hb1
  go_wp2_with fail
  refine (iShare_t x Hhx.out _).mono ?_
  rintro e w2 ⟨rfl, rfl⟩
  go_wp2_with fail
  rename_i Q1 K1 hK1
  have key : ∀ (a0 : Nat) (w1 : World), Hid (Kept w [(a0, #[.float .f32 (mixW ah bh x), .float .f32 (mixW av bv x)], 32), (w.heap.size, #[.float .f32 ah, .float .f32 av], 32), (w.heap.size + 1, #[.float .f32 bh, .float .f32 bv], 32), (w.heap.size + 1 + 1, #[.float .f32 0, .float .f32 0], 32)] w1) → K1 { tmps := (.agg #[.float .f32 ah, .float .f32 av] :: .agg #[.float .f32 bh, .float .f32 bv] :: .float .f32 x :: .pointer (some ⟨w.heap.size, 0, none⟩) :: .pointer (some ⟨w.heap.size + 1, 0, none⟩) :: undef :: .pointer (some ⟨w.heap.size + 1 + 1, 0, none⟩) :: .int .i64 0 :: .pointer (some ⟨a0, 0, none⟩) :: .agg #[.float .f32 ah, .float .f32 av] :: .bool true :: .bool false :: .bool false :: .agg #[.float .f32 bh, .float .f32 bv] :: .bool true :: .bool false :: .bool false :: undef :: .float .f32 x :: .bool true :: .bool false :: undef :: .pointer (some ⟨w.heap.size, 0, none⟩) :: .float .f32 ah :: .pointer (some ⟨w.heap.size + 1, 0, none⟩) :: .float .f32 bh :: .float .f32 x :: .float .f32 (mixW ah bh x) :: .pointer (some ⟨w.heap.size, 1, none⟩) :: .float .f32 av :: .pointer (some ⟨w.heap.size + 1, 1, none⟩) :: .float .f32 bv :: .float .f32 x :: .float .f32 (mixW av bv x) :: .agg #[.float .f32 (mixW ah bh x), .float .f32 (mixW av bv x)] :: undef :: undef :: undef :: undef :: undef :: []).toArray, defers := [] } w1 := by
    intro a0 w1 k1
    clear k2
    go_wp2_with (first | (refine wpList_load_row rfl 32 _ rfl (a0) rfl 32 (#[.float .f32 (mixW ah bh x), .float .f32 (mixW av bv x)]) (0, 0) _ (k1.out.at (x := (a0, #[.float .f32 (mixW ah bh x), .float .f32 (mixW av bv x)], 32)) (by simp)) Try.underlying32 rfl (info_air) ?_))
    refine (iValidAir _ _ HM2.out.lt false Hhr.out _).mono ?_
    rintro e w50 ⟨rfl, hb50⟩
    have k51 := hid (k1.out.stay hb50)
    clear hb50
    go_wp2_with (first | (refine wpList_store_row rfl 32 _ _ rfl (w.heap.size + 1 + 1) (#[.float .f32 0, .float .f32 0]) rfl rfl 32 _ (k51.out.at (x := (w.heap.size + 1 + 1, #[.float .f32 0, .float .f32 0], 32)) (by simp)) (info_air) (by simp) (by simp [Value.oneCell']) ?_))
    exact bodyPost_ret (results_row_tmp rfl _ _ (w.heap.size + 1 + 1) 32 (#[.float .f32 0, .float .f32 0]) (0, 0) _ rfl (setRow_heap _ _ _ _ _ _ (k51.out.at (x := (w.heap.size + 1 + 1, #[.float .f32 0, .float .f32 0], 32)) (by simp))) Try.underlying32 rfl info_air) rfl ⟨rfl, below_row k51.out.1 (by omega) _⟩
  refine region_kept (w0 := w) (l := [(w.heap.size, #[.float .f32 ah, .float .f32 av], 32), (w.heap.size + 1, #[.float .f32 bh, .float .f32 bv], 32), (w.heap.size + 1 + 1, #[.float .f32 0, .float .f32 0], 32)]) 15 #[false, false, false, false, false, false, false, false, false, false, false, false, false, false, false] (by kernel_rfl) rfl rfl ?_
  have kd := k2.out.drew
  clear k2
  generalize World.drew _ = wd at kd ⊢
  refine take_val 0 { tmps := (.agg #[.float .f32 ah, .float .f32 av] :: .agg #[.float .f32 bh, .float .f32 bv] :: .float .f32 x :: .pointer (some ⟨w.heap.size, 0, none⟩) :: .pointer (some ⟨w.heap.size + 1, 0, none⟩) :: undef :: .pointer (some ⟨w.heap.size + 1 + 1, 0, none⟩) :: .int .i64 0 :: undef :: .agg #[.float .f32 ah, .float .f32 av] :: .bool true :: .bool false :: .bool false :: .agg #[.float .f32 bh, .float .f32 bv] :: .bool true :: .bool false :: .bool false :: undef :: .float .f32 x :: .bool true :: .bool false :: undef :: .pointer (some ⟨w.heap.size, 0, none⟩) :: undef :: undef :: undef :: undef :: undef :: undef :: undef :: undef :: undef :: undef :: undef :: undef :: undef :: undef :: undef :: undef :: undef :: []).toArray, defers := [] } #[true, false, false, false, false, false, false, false, false, false, false, false, false, false, false] (.pointer (some ⟨w.heap.size, 0, none⟩)) rfl (by rfl) (by kernel_rfl) (by kernel_rfl) (by kernel_rfl) (fun w => by unfold execOp; go_simp) (by rfl) (by rfl) (kd) ?_
  refine take_cell 1 { tmps := (.agg #[.float .f32 ah, .float .f32 av] :: .agg #[.float .f32 bh, .float .f32 bv] :: .float .f32 x :: .pointer (some ⟨w.heap.size, 0, none⟩) :: .pointer (some ⟨w.heap.size + 1, 0, none⟩) :: undef :: .pointer (some ⟨w.heap.size + 1 + 1, 0, none⟩) :: .int .i64 0 :: undef :: .agg #[.float .f32 ah, .float .f32 av] :: .bool true :: .bool false :: .bool false :: .agg #[.float .f32 bh, .float .f32 bv] :: .bool true :: .bool false :: .bool false :: undef :: .float .f32 x :: .bool true :: .bool false :: undef :: .pointer (some ⟨w.heap.size, 0, none⟩) :: .float .f32 ah :: undef :: undef :: undef :: undef :: undef :: undef :: undef :: undef :: undef :: undef :: undef :: undef :: undef :: undef :: undef :: undef :: []).toArray, defers := [] } #[true, true, false, false, false, false, false, false, false, false, false, false, false, false, false] (.float .f32 ah) rfl (by rfl) (by kernel_rfl) (by kernel_rfl) (by kernel_rfl) (fun wq hS => by have hcell : wq.cell? ⟨w.heap.size, 0, none⟩ = some (.float .f32 ah) := (cell_of_row wq (w.heap.size) 0 _ _ _ (hS.at (x := (w.heap.size, #[.float .f32 ah, .float .f32 av], 32)) (by simp))).trans rfl; clear hS; unfold execOp; go_simp) (by rfl) (by rfl) (kd) ?_
  refine take_val 2 { tmps := (.agg #[.float .f32 ah, .float .f32 av] :: .agg #[.float .f32 bh, .float .f32 bv] :: .float .f32 x :: .pointer (some ⟨w.heap.size, 0, none⟩) :: .pointer (some ⟨w.heap.size + 1, 0, none⟩) :: undef :: .pointer (some ⟨w.heap.size + 1 + 1, 0, none⟩) :: .int .i64 0 :: undef :: .agg #[.float .f32 ah, .float .f32 av] :: .bool true :: .bool false :: .bool false :: .agg #[.float .f32 bh, .float .f32 bv] :: .bool true :: .bool false :: .bool false :: undef :: .float .f32 x :: .bool true :: .bool false :: undef :: .pointer (some ⟨w.heap.size, 0, none⟩) :: .float .f32 ah :: .pointer (some ⟨w.heap.size + 1, 0, none⟩) :: undef :: undef :: undef :: undef :: undef :: undef :: undef :: undef :: undef :: undef :: undef :: undef :: undef :: undef :: undef :: []).toArray, defers := [] } #[true, true, true, false, false, false, false, false, false, false, false, false, false, false, false] (.pointer (some ⟨w.heap.size + 1, 0, none⟩)) rfl (by rfl) (by kernel_rfl) (by kernel_rfl) (by kernel_rfl) (fun w => by unfold execOp; go_simp) (by rfl) (by rfl) (kd) ?_
  refine take_cell 3 { tmps := (.agg #[.float .f32 ah, .float .f32 av] :: .agg #[.float .f32 bh, .float .f32 bv] :: .float .f32 x :: .pointer (some ⟨w.heap.size, 0, none⟩) :: .pointer (some ⟨w.heap.size + 1, 0, none⟩) :: undef :: .pointer (some ⟨w.heap.size + 1 + 1, 0, none⟩) :: .int .i64 0 :: undef :: .agg #[.float .f32 ah, .float .f32 av] :: .bool true :: .bool false :: .bool false :: .agg #[.float .f32 bh, .float .f32 bv] :: .bool true :: .bool false :: .bool false :: undef :: .float .f32 x :: .bool true :: .bool false :: undef :: .pointer (some ⟨w.heap.size, 0, none⟩) :: .float .f32 ah :: .pointer (some ⟨w.heap.size + 1, 0, none⟩) :: .float .f32 bh :: undef :: undef :: undef :: undef :: undef :: undef :: undef :: undef :: undef :: undef :: undef :: undef :: undef :: undef :: []).toArray, defers := [] } #[true, true, true, true, false, false, false, false, false, false, false, false, false, false, false] (.float .f32 bh) rfl (by rfl) (by kernel_rfl) (by kernel_rfl) (by kernel_rfl) (fun wq hS => by have hcell : wq.cell? ⟨w.heap.size + 1, 0, none⟩ = some (.float .f32 bh) := (cell_of_row wq (w.heap.size + 1) 0 _ _ _ (hS.at (x := (w.heap.size + 1, #[.float .f32 bh, .float .f32 bv], 32)) (by simp))).trans rfl; clear hS; unfold execOp; go_simp) (by rfl) (by rfl) (kd) ?_
  refine take_val 4 { tmps := (.agg #[.float .f32 ah, .float .f32 av] :: .agg #[.float .f32 bh, .float .f32 bv] :: .float .f32 x :: .pointer (some ⟨w.heap.size, 0, none⟩) :: .pointer (some ⟨w.heap.size + 1, 0, none⟩) :: undef :: .pointer (some ⟨w.heap.size + 1 + 1, 0, none⟩) :: .int .i64 0 :: undef :: .agg #[.float .f32 ah, .float .f32 av] :: .bool true :: .bool false :: .bool false :: .agg #[.float .f32 bh, .float .f32 bv] :: .bool true :: .bool false :: .bool false :: undef :: .float .f32 x :: .bool true :: .bool false :: undef :: .pointer (some ⟨w.heap.size, 0, none⟩) :: .float .f32 ah :: .pointer (some ⟨w.heap.size + 1, 0, none⟩) :: .float .f32 bh :: .float .f32 x :: undef :: undef :: undef :: undef :: undef :: undef :: undef :: undef :: undef :: undef :: undef :: undef :: undef :: []).toArray, defers := [] } #[true, true, true, true, true, false, false, false, false, false, false, false, false, false, false] (.float .f32 x) rfl (by rfl) (by kernel_rfl) (by kernel_rfl) (by kernel_rfl) (fun w => by rfl) (by rfl) (by rfl) (kd) ?_
  refine take_val 6 { tmps := (.agg #[.float .f32 ah, .float .f32 av] :: .agg #[.float .f32 bh, .float .f32 bv] :: .float .f32 x :: .pointer (some ⟨w.heap.size, 0, none⟩) :: .pointer (some ⟨w.heap.size + 1, 0, none⟩) :: undef :: .pointer (some ⟨w.heap.size + 1 + 1, 0, none⟩) :: .int .i64 0 :: undef :: .agg #[.float .f32 ah, .float .f32 av] :: .bool true :: .bool false :: .bool false :: .agg #[.float .f32 bh, .float .f32 bv] :: .bool true :: .bool false :: .bool false :: undef :: .float .f32 x :: .bool true :: .bool false :: undef :: .pointer (some ⟨w.heap.size, 0, none⟩) :: .float .f32 ah :: .pointer (some ⟨w.heap.size + 1, 0, none⟩) :: .float .f32 bh :: .float .f32 x :: undef :: .pointer (some ⟨w.heap.size, 1, none⟩) :: undef :: undef :: undef :: undef :: undef :: undef :: undef :: undef :: undef :: undef :: undef :: []).toArray, defers := [] } #[true, true, true, true, true, false, true, false, false, false, false, false, false, false, false] (.pointer (some ⟨w.heap.size, 1, none⟩)) rfl (by rfl) (by kernel_rfl) (by kernel_rfl) (by kernel_rfl) (fun w => by unfold execOp; go_simp) (by rfl) (by rfl) (kd) ?_
  refine take_cell 7 { tmps := (.agg #[.float .f32 ah, .float .f32 av] :: .agg #[.float .f32 bh, .float .f32 bv] :: .float .f32 x :: .pointer (some ⟨w.heap.size, 0, none⟩) :: .pointer (some ⟨w.heap.size + 1, 0, none⟩) :: undef :: .pointer (some ⟨w.heap.size + 1 + 1, 0, none⟩) :: .int .i64 0 :: undef :: .agg #[.float .f32 ah, .float .f32 av] :: .bool true :: .bool false :: .bool false :: .agg #[.float .f32 bh, .float .f32 bv] :: .bool true :: .bool false :: .bool false :: undef :: .float .f32 x :: .bool true :: .bool false :: undef :: .pointer (some ⟨w.heap.size, 0, none⟩) :: .float .f32 ah :: .pointer (some ⟨w.heap.size + 1, 0, none⟩) :: .float .f32 bh :: .float .f32 x :: undef :: .pointer (some ⟨w.heap.size, 1, none⟩) :: .float .f32 av :: undef :: undef :: undef :: undef :: undef :: undef :: undef :: undef :: undef :: undef :: []).toArray, defers := [] } #[true, true, true, true, true, false, true, true, false, false, false, false, false, false, false] (.float .f32 av) rfl (by rfl) (by kernel_rfl) (by kernel_rfl) (by kernel_rfl) (fun wq hS => by have hcell : wq.cell? ⟨w.heap.size, 1, none⟩ = some (.float .f32 av) := (cell_of_row wq (w.heap.size) 1 _ _ _ (hS.at (x := (w.heap.size, #[.float .f32 ah, .float .f32 av], 32)) (by simp))).trans rfl; clear hS; unfold execOp; go_simp) (by rfl) (by rfl) (kd) ?_
  refine take_val 8 { tmps := (.agg #[.float .f32 ah, .float .f32 av] :: .agg #[.float .f32 bh, .float .f32 bv] :: .float .f32 x :: .pointer (some ⟨w.heap.size, 0, none⟩) :: .pointer (some ⟨w.heap.size + 1, 0, none⟩) :: undef :: .pointer (some ⟨w.heap.size + 1 + 1, 0, none⟩) :: .int .i64 0 :: undef :: .agg #[.float .f32 ah, .float .f32 av] :: .bool true :: .bool false :: .bool false :: .agg #[.float .f32 bh, .float .f32 bv] :: .bool true :: .bool false :: .bool false :: undef :: .float .f32 x :: .bool true :: .bool false :: undef :: .pointer (some ⟨w.heap.size, 0, none⟩) :: .float .f32 ah :: .pointer (some ⟨w.heap.size + 1, 0, none⟩) :: .float .f32 bh :: .float .f32 x :: undef :: .pointer (some ⟨w.heap.size, 1, none⟩) :: .float .f32 av :: .pointer (some ⟨w.heap.size + 1, 1, none⟩) :: undef :: undef :: undef :: undef :: undef :: undef :: undef :: undef :: undef :: []).toArray, defers := [] } #[true, true, true, true, true, false, true, true, true, false, false, false, false, false, false] (.pointer (some ⟨w.heap.size + 1, 1, none⟩)) rfl (by rfl) (by kernel_rfl) (by kernel_rfl) (by kernel_rfl) (fun w => by unfold execOp; go_simp) (by rfl) (by rfl) (kd) ?_
  refine take_cell 9 { tmps := (.agg #[.float .f32 ah, .float .f32 av] :: .agg #[.float .f32 bh, .float .f32 bv] :: .float .f32 x :: .pointer (some ⟨w.heap.size, 0, none⟩) :: .pointer (some ⟨w.heap.size + 1, 0, none⟩) :: undef :: .pointer (some ⟨w.heap.size + 1 + 1, 0, none⟩) :: .int .i64 0 :: undef :: .agg #[.float .f32 ah, .float .f32 av] :: .bool true :: .bool false :: .bool false :: .agg #[.float .f32 bh, .float .f32 bv] :: .bool true :: .bool false :: .bool false :: undef :: .float .f32 x :: .bool true :: .bool false :: undef :: .pointer (some ⟨w.heap.size, 0, none⟩) :: .float .f32 ah :: .pointer (some ⟨w.heap.size + 1, 0, none⟩) :: .float .f32 bh :: .float .f32 x :: undef :: .pointer (some ⟨w.heap.size, 1, none⟩) :: .float .f32 av :: .pointer (some ⟨w.heap.size + 1, 1, none⟩) :: .float .f32 bv :: undef :: undef :: undef :: undef :: undef :: undef :: undef :: undef :: []).toArray, defers := [] } #[true, true, true, true, true, false, true, true, true, true, false, false, false, false, false] (.float .f32 bv) rfl (by rfl) (by kernel_rfl) (by kernel_rfl) (by kernel_rfl) (fun wq hS => by have hcell : wq.cell? ⟨w.heap.size + 1, 1, none⟩ = some (.float .f32 bv) := (cell_of_row wq (w.heap.size + 1) 1 _ _ _ (hS.at (x := (w.heap.size + 1, #[.float .f32 bh, .float .f32 bv], 32)) (by simp))).trans rfl; clear hS; unfold execOp; go_simp) (by rfl) (by rfl) (kd) ?_
  refine take_val 10 { tmps := (.agg #[.float .f32 ah, .float .f32 av] :: .agg #[.float .f32 bh, .float .f32 bv] :: .float .f32 x :: .pointer (some ⟨w.heap.size, 0, none⟩) :: .pointer (some ⟨w.heap.size + 1, 0, none⟩) :: undef :: .pointer (some ⟨w.heap.size + 1 + 1, 0, none⟩) :: .int .i64 0 :: undef :: .agg #[.float .f32 ah, .float .f32 av] :: .bool true :: .bool false :: .bool false :: .agg #[.float .f32 bh, .float .f32 bv] :: .bool true :: .bool false :: .bool false :: undef :: .float .f32 x :: .bool true :: .bool false :: undef :: .pointer (some ⟨w.heap.size, 0, none⟩) :: .float .f32 ah :: .pointer (some ⟨w.heap.size + 1, 0, none⟩) :: .float .f32 bh :: .float .f32 x :: undef :: .pointer (some ⟨w.heap.size, 1, none⟩) :: .float .f32 av :: .pointer (some ⟨w.heap.size + 1, 1, none⟩) :: .float .f32 bv :: .float .f32 x :: undef :: undef :: undef :: undef :: undef :: undef :: undef :: []).toArray, defers := [] } #[true, true, true, true, true, false, true, true, true, true, true, false, false, false, false] (.float .f32 x) rfl (by rfl) (by kernel_rfl) (by kernel_rfl) (by kernel_rfl) (fun w => by rfl) (by rfl) (by rfl) (kd) ?_
  refine wpAnyH_ready (rs := [5, 13]) (by kernel_rfl) (by simp) ?_
  refine callK 5 { tmps := (.agg #[.float .f32 ah, .float .f32 av] :: .agg #[.float .f32 bh, .float .f32 bv] :: .float .f32 x :: .pointer (some ⟨w.heap.size, 0, none⟩) :: .pointer (some ⟨w.heap.size + 1, 0, none⟩) :: undef :: .pointer (some ⟨w.heap.size + 1 + 1, 0, none⟩) :: .int .i64 0 :: undef :: .agg #[.float .f32 ah, .float .f32 av] :: .bool true :: .bool false :: .bool false :: .agg #[.float .f32 bh, .float .f32 bv] :: .bool true :: .bool false :: .bool false :: undef :: .float .f32 x :: .bool true :: .bool false :: undef :: .pointer (some ⟨w.heap.size, 0, none⟩) :: .float .f32 ah :: .pointer (some ⟨w.heap.size + 1, 0, none⟩) :: .float .f32 bh :: .float .f32 x :: .float .f32 (mixW ah bh x) :: .pointer (some ⟨w.heap.size, 1, none⟩) :: .float .f32 av :: .pointer (some ⟨w.heap.size + 1, 1, none⟩) :: .float .f32 bv :: .float .f32 x :: undef :: undef :: undef :: undef :: undef :: undef :: undef :: []).toArray, defers := [] } #[true, true, true, true, true, true, true, true, true, true, true, false, false, false, false] (.float .f32 (mixW ah bh x)) kd rfl (by rfl) 158 #[.float .f32 ah, .float .f32 bh, .float .f32 x] (run_mixN3 _ _ _ rfl _ _ rfl _ _ rfl _ _ _ _ _ _) (by rfl) (by rfl) (loose (iMixN _ _ _ HM1.out _)) (fun w1 k1 => ?_) ?_
  · refine ⟨k1, ?_⟩
    refine wpAnyH_ready (rs := [11, 13]) (by kernel_rfl) (by simp) ?_
    refine callK 11 { tmps := (.agg #[.float .f32 ah, .float .f32 av] :: .agg #[.float .f32 bh, .float .f32 bv] :: .float .f32 x :: .pointer (some ⟨w.heap.size, 0, none⟩) :: .pointer (some ⟨w.heap.size + 1, 0, none⟩) :: undef :: .pointer (some ⟨w.heap.size + 1 + 1, 0, none⟩) :: .int .i64 0 :: undef :: .agg #[.float .f32 ah, .float .f32 av] :: .bool true :: .bool false :: .bool false :: .agg #[.float .f32 bh, .float .f32 bv] :: .bool true :: .bool false :: .bool false :: undef :: .float .f32 x :: .bool true :: .bool false :: undef :: .pointer (some ⟨w.heap.size, 0, none⟩) :: .float .f32 ah :: .pointer (some ⟨w.heap.size + 1, 0, none⟩) :: .float .f32 bh :: .float .f32 x :: .float .f32 (mixW ah bh x) :: .pointer (some ⟨w.heap.size, 1, none⟩) :: .float .f32 av :: .pointer (some ⟨w.heap.size + 1, 1, none⟩) :: .float .f32 bv :: .float .f32 x :: .float .f32 (mixW av bv x) :: undef :: undef :: undef :: undef :: undef :: undef :: []).toArray, defers := [] } #[true, true, true, true, true, true, true, true, true, true, true, true, false, false, false] (.float .f32 (mixW av bv x)) k1 rfl (by rfl) 158 #[.float .f32 av, .float .f32 bv, .float .f32 x] (run_mixN3 _ _ _ rfl _ _ rfl _ _ rfl _ _ _ _ _ _) (by rfl) (by rfl) (loose (iMixN _ _ _ HM2.out _)) (fun w2 k2 => ?_) ?_
    · refine ⟨k2, ?_⟩
      refine take_val 12 { tmps := (.agg #[.float .f32 ah, .float .f32 av] :: .agg #[.float .f32 bh, .float .f32 bv] :: .float .f32 x :: .pointer (some ⟨w.heap.size, 0, none⟩) :: .pointer (some ⟨w.heap.size + 1, 0, none⟩) :: undef :: .pointer (some ⟨w.heap.size + 1 + 1, 0, none⟩) :: .int .i64 0 :: undef :: .agg #[.float .f32 ah, .float .f32 av] :: .bool true :: .bool false :: .bool false :: .agg #[.float .f32 bh, .float .f32 bv] :: .bool true :: .bool false :: .bool false :: undef :: .float .f32 x :: .bool true :: .bool false :: undef :: .pointer (some ⟨w.heap.size, 0, none⟩) :: .float .f32 ah :: .pointer (some ⟨w.heap.size + 1, 0, none⟩) :: .float .f32 bh :: .float .f32 x :: .float .f32 (mixW ah bh x) :: .pointer (some ⟨w.heap.size, 1, none⟩) :: .float .f32 av :: .pointer (some ⟨w.heap.size + 1, 1, none⟩) :: .float .f32 bv :: .float .f32 x :: .float .f32 (mixW av bv x) :: .agg #[.float .f32 (mixW ah bh x), .float .f32 (mixW av bv x)] :: undef :: undef :: undef :: undef :: undef :: []).toArray, defers := [] } #[true, true, true, true, true, true, true, true, true, true, true, true, true, false, false] (.agg #[.float .f32 (mixW ah bh x), .float .f32 (mixW av bv x)]) rfl (by rfl) (by kernel_rfl) (by kernel_rfl) (by kernel_rfl) (fun w => by unfold execOp; go_simp) (by rfl) (by rfl) (k2) ?_
      refine wpAnyH_ready (rs := [13]) (by kernel_rfl) (by simp) ?_
      refine allocK 13 (fun g3 => { tmps := (.agg #[.float .f32 ah, .float .f32 av] :: .agg #[.float .f32 bh, .float .f32 bv] :: .float .f32 x :: .pointer (some ⟨w.heap.size, 0, none⟩) :: .pointer (some ⟨w.heap.size + 1, 0, none⟩) :: undef :: .pointer (some ⟨w.heap.size + 1 + 1, 0, none⟩) :: .int .i64 0 :: .pointer (some ⟨g3, 0, none⟩) :: .agg #[.float .f32 ah, .float .f32 av] :: .bool true :: .bool false :: .bool false :: .agg #[.float .f32 bh, .float .f32 bv] :: .bool true :: .bool false :: .bool false :: undef :: .float .f32 x :: .bool true :: .bool false :: undef :: .pointer (some ⟨w.heap.size, 0, none⟩) :: .float .f32 ah :: .pointer (some ⟨w.heap.size + 1, 0, none⟩) :: .float .f32 bh :: .float .f32 x :: .float .f32 (mixW ah bh x) :: .pointer (some ⟨w.heap.size, 1, none⟩) :: .float .f32 av :: .pointer (some ⟨w.heap.size + 1, 1, none⟩) :: .float .f32 bv :: .float .f32 x :: .float .f32 (mixW av bv x) :: .agg #[.float .f32 (mixW ah bh x), .float .f32 (mixW av bv x)] :: undef :: undef :: undef :: undef :: undef :: []).toArray, defers := [] }) #[true, true, true, true, true, true, true, true, true, true, true, true, true, true, false] k2 rfl (by rfl) (#[.float .f32 0, .float .f32 0]) 32 (alloc_air _ _ _ _ _ _ _) (fun g => by rfl) (by rfl) (fun w3 g3 k3 hB3 hn3 => ?_) AllReadyH.nil
      refine ⟨k3.tail, ?_⟩
      refine wpAnyH_ready (rs := [14]) (by kernel_rfl) (by simp) ?_
      refine storeK 14 { tmps := (.agg #[.float .f32 ah, .float .f32 av] :: .agg #[.float .f32 bh, .float .f32 bv] :: .float .f32 x :: .pointer (some ⟨w.heap.size, 0, none⟩) :: .pointer (some ⟨w.heap.size + 1, 0, none⟩) :: undef :: .pointer (some ⟨w.heap.size + 1 + 1, 0, none⟩) :: .int .i64 0 :: .pointer (some ⟨g3, 0, none⟩) :: .agg #[.float .f32 ah, .float .f32 av] :: .bool true :: .bool false :: .bool false :: .agg #[.float .f32 bh, .float .f32 bv] :: .bool true :: .bool false :: .bool false :: undef :: .float .f32 x :: .bool true :: .bool false :: undef :: .pointer (some ⟨w.heap.size, 0, none⟩) :: .float .f32 ah :: .pointer (some ⟨w.heap.size + 1, 0, none⟩) :: .float .f32 bh :: .float .f32 x :: .float .f32 (mixW ah bh x) :: .pointer (some ⟨w.heap.size, 1, none⟩) :: .float .f32 av :: .pointer (some ⟨w.heap.size + 1, 1, none⟩) :: .float .f32 bv :: .float .f32 x :: .float .f32 (mixW av bv x) :: .agg #[.float .f32 (mixW ah bh x), .float .f32 (mixW av bv x)] :: undef :: undef :: undef :: undef :: undef :: []).toArray, defers := [] } #[true, true, true, true, true, true, true, true, true, true, true, true, true, true, true] k3 hB3 hn3 rfl (by rfl) 32 _ _ rfl (#[.float .f32 (mixW ah bh x), .float .f32 (mixW av bv x)]) (by rfl) (by rfl) (info_air) (by simp) (by simp [Value.oneCell']) (by rfl) (by rfl) (fun w4 k4 => ?_) AllReadyH.nil
      refine ⟨k4.tail, ?_⟩
      exact wpAnyH_done (by kernel_rfl) (NoPanic.normal (key g3 _ (hid k4))) _
    refine allocK 13 (fun g5 => { tmps := (.agg #[.float .f32 ah, .float .f32 av] :: .agg #[.float .f32 bh, .float .f32 bv] :: .float .f32 x :: .pointer (some ⟨w.heap.size, 0, none⟩) :: .pointer (some ⟨w.heap.size + 1, 0, none⟩) :: undef :: .pointer (some ⟨w.heap.size + 1 + 1, 0, none⟩) :: .int .i64 0 :: .pointer (some ⟨g5, 0, none⟩) :: .agg #[.float .f32 ah, .float .f32 av] :: .bool true :: .bool false :: .bool false :: .agg #[.float .f32 bh, .float .f32 bv] :: .bool true :: .bool false :: .bool false :: undef :: .float .f32 x :: .bool true :: .bool false :: undef :: .pointer (some ⟨w.heap.size, 0, none⟩) :: .float .f32 ah :: .pointer (some ⟨w.heap.size + 1, 0, none⟩) :: .float .f32 bh :: .float .f32 x :: .float .f32 (mixW ah bh x) :: .pointer (some ⟨w.heap.size, 1, none⟩) :: .float .f32 av :: .pointer (some ⟨w.heap.size + 1, 1, none⟩) :: .float .f32 bv :: .float .f32 x :: undef :: undef :: undef :: undef :: undef :: undef :: undef :: []).toArray, defers := [] }) #[true, true, true, true, true, true, true, true, true, true, true, false, false, true, false] k1 rfl (by rfl) (#[.float .f32 0, .float .f32 0]) 32 (alloc_air _ _ _ _ _ _ _) (fun g => by rfl) (by rfl) (fun w5 g5 k5 hB5 hn5 => ?_) AllReadyH.nil
    refine ⟨k5.tail, ?_⟩
    refine wpAnyH_ready (rs := [11]) (by kernel_rfl) (by simp) ?_
    refine callK 11 { tmps := (.agg #[.float .f32 ah, .float .f32 av] :: .agg #[.float .f32 bh, .float .f32 bv] :: .float .f32 x :: .pointer (some ⟨w.heap.size, 0, none⟩) :: .pointer (some ⟨w.heap.size + 1, 0, none⟩) :: undef :: .pointer (some ⟨w.heap.size + 1 + 1, 0, none⟩) :: .int .i64 0 :: .pointer (some ⟨g5, 0, none⟩) :: .agg #[.float .f32 ah, .float .f32 av] :: .bool true :: .bool false :: .bool false :: .agg #[.float .f32 bh, .float .f32 bv] :: .bool true :: .bool false :: .bool false :: undef :: .float .f32 x :: .bool true :: .bool false :: undef :: .pointer (some ⟨w.heap.size, 0, none⟩) :: .float .f32 ah :: .pointer (some ⟨w.heap.size + 1, 0, none⟩) :: .float .f32 bh :: .float .f32 x :: .float .f32 (mixW ah bh x) :: .pointer (some ⟨w.heap.size, 1, none⟩) :: .float .f32 av :: .pointer (some ⟨w.heap.size + 1, 1, none⟩) :: .float .f32 bv :: .float .f32 x :: .float .f32 (mixW av bv x) :: undef :: undef :: undef :: undef :: undef :: undef :: []).toArray, defers := [] } #[true, true, true, true, true, true, true, true, true, true, true, true, false, true, false] (.float .f32 (mixW av bv x)) k5 rfl (by rfl) 158 #[.float .f32 av, .float .f32 bv, .float .f32 x] (run_mixN3 _ _ _ rfl _ _ rfl _ _ rfl _ _ _ _ _ _) (by rfl) (by rfl) (loose (iMixN _ _ _ HM2.out _)) (fun w6 k6 => ?_) AllReadyH.nil
    refine ⟨k6.tail, ?_⟩
    refine take_val 12 { tmps := (.agg #[.float .f32 ah, .float .f32 av] :: .agg #[.float .f32 bh, .float .f32 bv] :: .float .f32 x :: .pointer (some ⟨w.heap.size, 0, none⟩) :: .pointer (some ⟨w.heap.size + 1, 0, none⟩) :: undef :: .pointer (some ⟨w.heap.size + 1 + 1, 0, none⟩) :: .int .i64 0 :: .pointer (some ⟨g5, 0, none⟩) :: .agg #[.float .f32 ah, .float .f32 av] :: .bool true :: .bool false :: .bool false :: .agg #[.float .f32 bh, .float .f32 bv] :: .bool true :: .bool false :: .bool false :: undef :: .float .f32 x :: .bool true :: .bool false :: undef :: .pointer (some ⟨w.heap.size, 0, none⟩) :: .float .f32 ah :: .pointer (some ⟨w.heap.size + 1, 0, none⟩) :: .float .f32 bh :: .float .f32 x :: .float .f32 (mixW ah bh x) :: .pointer (some ⟨w.heap.size, 1, none⟩) :: .float .f32 av :: .pointer (some ⟨w.heap.size + 1, 1, none⟩) :: .float .f32 bv :: .float .f32 x :: .float .f32 (mixW av bv x) :: .agg #[.float .f32 (mixW ah bh x), .float .f32 (mixW av bv x)] :: undef :: undef :: undef :: undef :: undef :: []).toArray, defers := [] } #[true, true, true, true, true, true, true, true, true, true, true, true, true, true, false] (.agg #[.float .f32 (mixW ah bh x), .float .f32 (mixW av bv x)]) rfl (by rfl) (by kernel_rfl) (by kernel_rfl) (by kernel_rfl) (fun w => by unfold execOp; go_simp) (by rfl) (by rfl) (k6.tail) ?_
    refine wpAnyH_ready (rs := [14]) (by kernel_rfl) (by simp) ?_
    refine storeK 14 { tmps := (.agg #[.float .f32 ah, .float .f32 av] :: .agg #[.float .f32 bh, .float .f32 bv] :: .float .f32 x :: .pointer (some ⟨w.heap.size, 0, none⟩) :: .pointer (some ⟨w.heap.size + 1, 0, none⟩) :: undef :: .pointer (some ⟨w.heap.size + 1 + 1, 0, none⟩) :: .int .i64 0 :: .pointer (some ⟨g5, 0, none⟩) :: .agg #[.float .f32 ah, .float .f32 av] :: .bool true :: .bool false :: .bool false :: .agg #[.float .f32 bh, .float .f32 bv] :: .bool true :: .bool false :: .bool false :: undef :: .float .f32 x :: .bool true :: .bool false :: undef :: .pointer (some ⟨w.heap.size, 0, none⟩) :: .float .f32 ah :: .pointer (some ⟨w.heap.size + 1, 0, none⟩) :: .float .f32 bh :: .float .f32 x :: .float .f32 (mixW ah bh x) :: .pointer (some ⟨w.heap.size, 1, none⟩) :: .float .f32 av :: .pointer (some ⟨w.heap.size + 1, 1, none⟩) :: .float .f32 bv :: .float .f32 x :: .float .f32 (mixW av bv x) :: .agg #[.float .f32 (mixW ah bh x), .float .f32 (mixW av bv x)] :: undef :: undef :: undef :: undef :: undef :: []).toArray, defers := [] } #[true, true, true, true, true, true, true, true, true, true, true, true, true, true, true] k6 hB5 hn5 rfl (by rfl) 32 _ _ rfl (#[.float .f32 (mixW ah bh x), .float .f32 (mixW av bv x)]) (by rfl) (by rfl) (info_air) (by simp) (by simp [Value.oneCell']) (by rfl) (by rfl) (fun w7 k7 => ?_) AllReadyH.nil
    refine ⟨k7.tail, ?_⟩
    exact wpAnyH_done (by kernel_rfl) (NoPanic.normal (key g5 _ (hid k7))) _
  refine allocK 13 (fun g8 => { tmps := (.agg #[.float .f32 ah, .float .f32 av] :: .agg #[.float .f32 bh, .float .f32 bv] :: .float .f32 x :: .pointer (some ⟨w.heap.size, 0, none⟩) :: .pointer (some ⟨w.heap.size + 1, 0, none⟩) :: undef :: .pointer (some ⟨w.heap.size + 1 + 1, 0, none⟩) :: .int .i64 0 :: .pointer (some ⟨g8, 0, none⟩) :: .agg #[.float .f32 ah, .float .f32 av] :: .bool true :: .bool false :: .bool false :: .agg #[.float .f32 bh, .float .f32 bv] :: .bool true :: .bool false :: .bool false :: undef :: .float .f32 x :: .bool true :: .bool false :: undef :: .pointer (some ⟨w.heap.size, 0, none⟩) :: .float .f32 ah :: .pointer (some ⟨w.heap.size + 1, 0, none⟩) :: .float .f32 bh :: .float .f32 x :: undef :: .pointer (some ⟨w.heap.size, 1, none⟩) :: .float .f32 av :: .pointer (some ⟨w.heap.size + 1, 1, none⟩) :: .float .f32 bv :: .float .f32 x :: undef :: undef :: undef :: undef :: undef :: undef :: undef :: []).toArray, defers := [] }) #[true, true, true, true, true, false, true, true, true, true, true, false, false, true, false] kd rfl (by rfl) (#[.float .f32 0, .float .f32 0]) 32 (alloc_air _ _ _ _ _ _ _) (fun g => by rfl) (by rfl) (fun w8 g8 k8 hB8 hn8 => ?_) AllReadyH.nil
  refine ⟨k8.tail, ?_⟩
  refine wpAnyH_ready (rs := [5]) (by kernel_rfl) (by simp) ?_
  refine callK 5 { tmps := (.agg #[.float .f32 ah, .float .f32 av] :: .agg #[.float .f32 bh, .float .f32 bv] :: .float .f32 x :: .pointer (some ⟨w.heap.size, 0, none⟩) :: .pointer (some ⟨w.heap.size + 1, 0, none⟩) :: undef :: .pointer (some ⟨w.heap.size + 1 + 1, 0, none⟩) :: .int .i64 0 :: .pointer (some ⟨g8, 0, none⟩) :: .agg #[.float .f32 ah, .float .f32 av] :: .bool true :: .bool false :: .bool false :: .agg #[.float .f32 bh, .float .f32 bv] :: .bool true :: .bool false :: .bool false :: undef :: .float .f32 x :: .bool true :: .bool false :: undef :: .pointer (some ⟨w.heap.size, 0, none⟩) :: .float .f32 ah :: .pointer (some ⟨w.heap.size + 1, 0, none⟩) :: .float .f32 bh :: .float .f32 x :: .float .f32 (mixW ah bh x) :: .pointer (some ⟨w.heap.size, 1, none⟩) :: .float .f32 av :: .pointer (some ⟨w.heap.size + 1, 1, none⟩) :: .float .f32 bv :: .float .f32 x :: undef :: undef :: undef :: undef :: undef :: undef :: undef :: []).toArray, defers := [] } #[true, true, true, true, true, true, true, true, true, true, true, false, false, true, false] (.float .f32 (mixW ah bh x)) k8 rfl (by rfl) 158 #[.float .f32 ah, .float .f32 bh, .float .f32 x] (run_mixN3 _ _ _ rfl _ _ rfl _ _ rfl _ _ _ _ _ _) (by rfl) (by rfl) (loose (iMixN _ _ _ HM1.out _)) (fun w9 k9 => ?_) AllReadyH.nil
  refine ⟨k9.tail, ?_⟩
  refine wpAnyH_ready (rs := [11]) (by kernel_rfl) (by simp) ?_
  refine callK 11 { tmps := (.agg #[.float .f32 ah, .float .f32 av] :: .agg #[.float .f32 bh, .float .f32 bv] :: .float .f32 x :: .pointer (some ⟨w.heap.size, 0, none⟩) :: .pointer (some ⟨w.heap.size + 1, 0, none⟩) :: undef :: .pointer (some ⟨w.heap.size + 1 + 1, 0, none⟩) :: .int .i64 0 :: .pointer (some ⟨g8, 0, none⟩) :: .agg #[.float .f32 ah, .float .f32 av] :: .bool true :: .bool false :: .bool false :: .agg #[.float .f32 bh, .float .f32 bv] :: .bool true :: .bool false :: .bool false :: undef :: .float .f32 x :: .bool true :: .bool false :: undef :: .pointer (some ⟨w.heap.size, 0, none⟩) :: .float .f32 ah :: .pointer (some ⟨w.heap.size + 1, 0, none⟩) :: .float .f32 bh :: .float .f32 x :: .float .f32 (mixW ah bh x) :: .pointer (some ⟨w.heap.size, 1, none⟩) :: .float .f32 av :: .pointer (some ⟨w.heap.size + 1, 1, none⟩) :: .float .f32 bv :: .float .f32 x :: .float .f32 (mixW av bv x) :: undef :: undef :: undef :: undef :: undef :: undef :: []).toArray, defers := [] } #[true, true, true, true, true, true, true, true, true, true, true, true, false, true, false] (.float .f32 (mixW av bv x)) k9 rfl (by rfl) 158 #[.float .f32 av, .float .f32 bv, .float .f32 x] (run_mixN3 _ _ _ rfl _ _ rfl _ _ rfl _ _ _ _ _ _) (by rfl) (by rfl) (loose (iMixN _ _ _ HM2.out _)) (fun w10 k10 => ?_) AllReadyH.nil
  refine ⟨k10.tail, ?_⟩
  refine take_val 12 { tmps := (.agg #[.float .f32 ah, .float .f32 av] :: .agg #[.float .f32 bh, .float .f32 bv] :: .float .f32 x :: .pointer (some ⟨w.heap.size, 0, none⟩) :: .pointer (some ⟨w.heap.size + 1, 0, none⟩) :: undef :: .pointer (some ⟨w.heap.size + 1 + 1, 0, none⟩) :: .int .i64 0 :: .pointer (some ⟨g8, 0, none⟩) :: .agg #[.float .f32 ah, .float .f32 av] :: .bool true :: .bool false :: .bool false :: .agg #[.float .f32 bh, .float .f32 bv] :: .bool true :: .bool false :: .bool false :: undef :: .float .f32 x :: .bool true :: .bool false :: undef :: .pointer (some ⟨w.heap.size, 0, none⟩) :: .float .f32 ah :: .pointer (some ⟨w.heap.size + 1, 0, none⟩) :: .float .f32 bh :: .float .f32 x :: .float .f32 (mixW ah bh x) :: .pointer (some ⟨w.heap.size, 1, none⟩) :: .float .f32 av :: .pointer (some ⟨w.heap.size + 1, 1, none⟩) :: .float .f32 bv :: .float .f32 x :: .float .f32 (mixW av bv x) :: .agg #[.float .f32 (mixW ah bh x), .float .f32 (mixW av bv x)] :: undef :: undef :: undef :: undef :: undef :: []).toArray, defers := [] } #[true, true, true, true, true, true, true, true, true, true, true, true, true, true, false] (.agg #[.float .f32 (mixW ah bh x), .float .f32 (mixW av bv x)]) rfl (by rfl) (by kernel_rfl) (by kernel_rfl) (by kernel_rfl) (fun w => by unfold execOp; go_simp) (by rfl) (by rfl) (k10.tail) ?_
  refine wpAnyH_ready (rs := [14]) (by kernel_rfl) (by simp) ?_
  refine storeK 14 { tmps := (.agg #[.float .f32 ah, .float .f32 av] :: .agg #[.float .f32 bh, .float .f32 bv] :: .float .f32 x :: .pointer (some ⟨w.heap.size, 0, none⟩) :: .pointer (some ⟨w.heap.size + 1, 0, none⟩) :: undef :: .pointer (some ⟨w.heap.size + 1 + 1, 0, none⟩) :: .int .i64 0 :: .pointer (some ⟨g8, 0, none⟩) :: .agg #[.float .f32 ah, .float .f32 av] :: .bool true :: .bool false :: .bool false :: .agg #[.float .f32 bh, .float .f32 bv] :: .bool true :: .bool false :: .bool false :: undef :: .float .f32 x :: .bool true :: .bool false :: undef :: .pointer (some ⟨w.heap.size, 0, none⟩) :: .float .f32 ah :: .pointer (some ⟨w.heap.size + 1, 0, none⟩) :: .float .f32 bh :: .float .f32 x :: .float .f32 (mixW ah bh x) :: .pointer (some ⟨w.heap.size, 1, none⟩) :: .float .f32 av :: .pointer (some ⟨w.heap.size + 1, 1, none⟩) :: .float .f32 bv :: .float .f32 x :: .float .f32 (mixW av bv x) :: .agg #[.float .f32 (mixW ah bh x), .float .f32 (mixW av bv x)] :: undef :: undef :: undef :: undef :: undef :: []).toArray, defers := [] } #[true, true, true, true, true, true, true, true, true, true, true, true, true, true, true] k10 hB8 hn8 rfl (by rfl) 32 _ _ rfl (#[.float .f32 (mixW ah bh x), .float .f32 (mixW av bv x)]) (by rfl) (by rfl) (info_air) (by simp) (by simp [Value.oneCell']) (by rfl) (by rfl) (fun w11 k11 => ?_) AllReadyH.nil
  refine ⟨k11.tail, ?_⟩
  exact wpAnyH_done (by kernel_rfl) (NoPanic.normal (key g8 _ (hid k11))) _

theorem info_par : (Try.prog.info? 88).map (·.size) = some 3 := by kernel_rfl

theorem info_lpar : (Try.prog.info? 86).map (·.size) = some 3 := by kernel_rfl

theorem iHgt (x : Nat) (hx : x < 4294967296) (q : Bool) (hq : hgtB x = q) (w : World) :
    Calls Try.prog 148 #[.float .f32 x] w fun e w' => e = .returned (.bool q) ∧ Below w.heap.size w w' := by
  have e1 : hgtB x = (amtB x && (FloatKind.f32.format.order x 1106247680 == some .lt || FloatKind.f32.format.order x 1106247680 == some .eq)) := rfl
  rw [e1] at hq
  have Hx := hid hx
  clear e1 hx
  rcases a : amtB x with _ | _
  · have Ha := hid a
    rw [a] at hq
    simp only [Bool.false_and] at hq
    subst hq
    clear a
    go_enter Try.func148, Try.ntmps148
    go_wp2_with fail
    refine (isAmount_f x Hx.out Ha.out _).mono ?_
    rintro e w1 ⟨rfl, hb1⟩
    go_wp2
    go_ret
    exact ⟨rfl, hb1⟩
  · have Ha := hid a
    rw [a] at hq
    simp only [Bool.true_and] at hq
    clear a
    cases q
    all_goals
      go_enter Try.func148, Try.ntmps148
      go_wp2_with fail
      refine (isAmount_t x Ha.out _).mono ?_
      rintro e w1 ⟨rfl, rfl⟩
      go_wp2
      go_ret
      exact ⟨rfl, Below.refl _ _⟩

theorem sHgt (x : Nat) (hx : x < 4294967296) (q : Bool) (hq : hgtB x = q) (w : World) :
    Calls Try.prog 139 #[.float .f32 x] w fun e w' => e = .returned (.bool q) ∧ Below w.heap.size w w' := by
  have e1 : hgtB x = (amtB x && (FloatKind.f32.format.order x 1106247680 == some .lt || FloatKind.f32.format.order x 1106247680 == some .eq)) := rfl
  rw [e1] at hq
  have Hx := hid hx
  clear e1 hx
  rcases a : amtB x with _ | _
  · have Ha := hid a
    rw [a] at hq
    simp only [Bool.false_and] at hq
    subst hq
    clear a
    go_enter Try.func139, Try.ntmps139
    go_wp2_with fail
    refine (sAmount_f x Hx.out Ha.out _).mono ?_
    rintro e w1 ⟨rfl, hb1⟩
    go_wp2
    go_ret
    exact ⟨rfl, hb1⟩
  · have Ha := hid a
    rw [a] at hq
    simp only [Bool.true_and] at hq
    clear a
    cases q
    all_goals
      go_enter Try.func139, Try.ntmps139
      go_wp2_with fail
      refine (sAmount_t x Ha.out _).mono ?_
      rintro e w1 ⟨rfl, rfl⟩
      go_wp2
      go_ret
      exact ⟨rfl, Below.refl _ _⟩

set_option maxRecDepth 100000 in
theorem sAirAt_f (h v : Nat) (hv : v < 4294967296) (hq : airB h v = false) (w : World) (g o : Nat) (c0 : w.cell? ⟨g, o, none⟩ = some (.float .f32 h)) (c1 : w.cell? ⟨g, o + 1, none⟩ = some (.float .f32 v)) :
    Calls Try.prog 65 #[.pointer (some ⟨g, o, none⟩)] w fun e w' => e = .returned (.bool false) ∧ Below w.heap.size w w' := by
  have Hv := hid hv
  have e1 : airB h v = (heatB h && amtB v && vapB v) := rfl
  rw [e1] at hq
  clear hv e1
  rcases a : heatB h with _ | _
  · have Ha := hid a
    clear a hq
    go_enter Try.func65, Try.ntmps65
    go_wp2_with fail
    refine (sHeat h false Ha.out _).mono ?_
    rintro e w1 ⟨rfl, rfl⟩
    go_wp2
    go_ret
    exact ⟨rfl, Below.refl _ _⟩
  · have Ha := hid a
    rw [a] at hq
    clear a
    rcases b : amtB v with _ | _
    · have Hb := hid b
      clear b hq
      go_enter Try.func65, Try.ntmps65
      go_wp2_with fail
      refine (sHeat h true Ha.out _).mono ?_
      rintro e w1 ⟨rfl, rfl⟩
      go_wp2_with fail
      refine (sAmount_f v Hv.out Hb.out _).mono ?_
      rintro e w1 ⟨rfl, hb1⟩
      go_wp2
      go_ret
      exact ⟨rfl, hb1⟩
    · have Hb := hid b
      rw [b] at hq
      simp only [Bool.true_and] at hq
      have hc : (FloatKind.f32.format.order v 1148846080 == some .lt || FloatKind.f32.format.order v 1148846080 == some .eq) = false := hq
      clear b hq
      go_enter Try.func65, Try.ntmps65
      go_wp2_with fail
      refine (sHeat h true Ha.out _).mono ?_
      rintro e w1 ⟨rfl, rfl⟩
      go_wp2_with fail
      refine (sAmount_t v Hb.out _).mono ?_
      rintro e w1 ⟨rfl, rfl⟩
      go_wp2
      go_ret
      exact ⟨rfl, Below.refl _ _⟩

set_option maxRecDepth 100000 in
theorem sAirAt_t (h v : Nat) (hq : airB h v = true) (w : World) (g o : Nat) (c0 : w.cell? ⟨g, o, none⟩ = some (.float .f32 h)) (c1 : w.cell? ⟨g, o + 1, none⟩ = some (.float .f32 v)) :
    Calls Try.prog 65 #[.pointer (some ⟨g, o, none⟩)] w fun e w' => e = .returned (.bool true) ∧ w = w' := by
  obtain ⟨a, b, c⟩ := airB_iff.1 hq
  have hc : (FloatKind.f32.format.order v 1148846080 == some .lt || FloatKind.f32.format.order v 1148846080 == some .eq) = true := c
  have Ha := hid a
  have Hb := hid b
  clear a b c hq
  go_enter Try.func65, Try.ntmps65
  go_wp2_with fail
  refine (sHeat h true Ha.out _).mono ?_
  rintro e w1 ⟨rfl, rfl⟩
  go_wp2_with fail
  refine (sAmount_t v Hb.out _).mono ?_
  rintro e w1 ⟨rfl, rfl⟩
  go_wp2
  go_ret
  exact ⟨rfl, rfl⟩

theorem sAirAt (h v : Nat) (hv : v < 4294967296) (q : Bool) (hq : airB h v = q) (w : World) (g o : Nat) (c0 : w.cell? ⟨g, o, none⟩ = some (.float .f32 h)) (c1 : w.cell? ⟨g, o + 1, none⟩ = some (.float .f32 v)) :
    Calls Try.prog 65 #[.pointer (some ⟨g, o, none⟩)] w fun e w' => e = .returned (.bool q) ∧ Below w.heap.size w w' := by
  cases q
  · exact sAirAt_f h v hv hq w g o c0 c1
  · exact loose (sAirAt_t h v hq w g o c0 c1)

set_option maxRecDepth 100000 in
theorem sParOk (a h v : Nat) (ha : a < 4294967296) (hv : v < 4294967296) (q : Bool) (hq : parB a h v = q) (w : World) (g : Nat) (T : TypeId) (hg : parAt w g a h v T) :
    Calls Try.prog 99 #[.pointer (some ⟨g, 0, none⟩)] w fun e w' => e = .returned (.bool q) ∧ Below w.heap.size w w' := by
  have c0 := hg.c0
  have G := hid hg
  have Ha := hid ha
  have Hv := hid hv
  have e1 : parB a h v = (hgtB a && airB h v) := rfl
  rw [e1] at hq
  clear ha hv e1 hg
  rcases x : hgtB a with _ | _
  · have Hx := hid x
    rw [x] at hq
    simp only [Bool.false_and] at hq
    subst hq
    clear x
    go_enter Try.func99, Try.ntmps99
    go_wp2_with fail
    refine (sHgt a Ha.out false Hx.out _).mono ?_
    rintro e w1 ⟨rfl, hb1⟩
    go_wp2
    go_ret
    exact ⟨rfl, hb1⟩
  · have Hx := hid x
    rw [x] at hq
    simp only [Bool.true_and] at hq
    have Hq := hid hq
    clear x hq
    go_enter Try.func99, Try.ntmps99
    go_wp2_with fail
    refine (sHgt a Ha.out true Hx.out _).mono ?_
    rintro e w1 ⟨rfl, hb1⟩
    have G1 := hid (G.out.stay hb1)
    go_wp2_with fail
    refine (sAirAt h v Hv.out q Hq.out _ g 1 G1.out.c1 G1.out.c2).mono ?_
    rintro e w2 ⟨rfl, hb2⟩
    cases q
    all_goals
      go_wp2
      go_ret
      exact ⟨rfl, stp hb1 (Nat.le_refl _) hb2⟩

set_option maxRecDepth 100000 in
theorem iValidParcel (a h v : Nat) (ha : a < 4294967296) (hv : v < 4294967296) (q : Bool) (hq : parB a h v = q) (w : World) :
    Calls Try.prog 104 #[.agg #[.float .f32 a, .float .f32 h, .float .f32 v]] w fun e w' => e = .returned (.bool q) ∧ Below w.heap.size w w' := by
  have b0 := boxed w (.cells #[.float .f32 a, .float .f32 h, .float .f32 v] 88)
  have A0 := hid (parAt.new w a h v 88)
  have Ha := hid ha
  have Hv := hid hv
  have e1 : parB a h v = (hgtB a && airB h v) := rfl
  rw [e1] at hq
  clear ha hv e1
  rcases x : hgtB a with _ | _
  · have Hx := hid x
    rw [x] at hq
    simp only [Bool.false_and] at hq
    subst hq
    clear x
    go_enter Try.func104, Try.ntmps104
    go_wp2_with fail
    refine (iHgt a Ha.out false Hx.out _).mono ?_
    rintro e w1 ⟨rfl, hb1⟩
    go_wp2
    go_ret
    exact ⟨rfl, stp b0 (Nat.le_refl _) hb1⟩
  · have Hx := hid x
    rw [x] at hq
    simp only [Bool.true_and] at hq
    have Hq := hid hq
    clear x hq
    go_enter Try.func104, Try.ntmps104
    go_wp2_with fail
    refine (iHgt a Ha.out true Hx.out _).mono ?_
    rintro e w1 ⟨rfl, hb1⟩
    have A1 := hid (A0.out.stay hb1)
    have b1 := stp b0 (Nat.le_refl _) hb1
    go_wp2_with (refine wpList_load_air (by rfl) 32 _ rfl w.heap.size rfl a h v 88 A1.out _ Try.underlying32 rfl info_air ?_)
    refine (iValidAir h v Hv.out q Hq.out _).mono ?_
    rintro e w2 ⟨rfl, hb2⟩
    cases q
    all_goals
      go_wp2
      go_ret
      exact ⟨rfl, stp b1 (Nat.le_refl _) hb2⟩

set_option maxRecDepth 100000 in
theorem toParcel (a h v : Nat) (w : World) :
    Calls Try.prog 47 #[.agg #[.float .f32 a, .float .f32 h, .float .f32 v]] w fun e w' => e = .returned (.agg #[.float .f32 a, .float .f32 h, .float .f32 v]) ∧ Below w.heap.size w w' := by
  have k0 : Hid (Kept w [(w.heap.size + 1 + 1, #[.float .f32 a, .float .f32 0, .float .f32 0], 88), (w.heap.size + 1, #[.float .f32 0, .float .f32 0, .float .f32 0], 88)] (((w.alloc (.cells #[.float .f32 a, .float .f32 h, .float .f32 v] 86)).alloc (.cells #[.float .f32 0, .float .f32 0, .float .f32 0] 88)).alloc (.cells #[.float .f32 a, .float .f32 0, .float .f32 0] 88))) := hid (((((Kept.nil w).push _ _).push _ _).push _ _).sub (by simp))
  have A0 : Hid (parAt (((w.alloc (.cells #[.float .f32 a, .float .f32 h, .float .f32 v] 86)).alloc (.cells #[.float .f32 0, .float .f32 0, .float .f32 0] 88)).alloc (.cells #[.float .f32 a, .float .f32 0, .float .f32 0] 88)) w.heap.size a h v 86) := hid (((((Kept.nil w).push _ _).push _ _).push _ _).at (x := (w.heap.size, #[.float .f32 a, .float .f32 h, .float .f32 v], 86)) (by simp))
  go_enter Try.func47, Try.ntmps47
  go_wp2_with (refine wpList_load_air (by rfl) 26 _ rfl w.heap.size rfl a h v 86 A0.out _ Try.underlying26 rfl info_lair ?_)
  refine (toAir h v _).mono ?_
  rintro e w1 ⟨rfl, hb1⟩
  have k1 := hid (k0.out.stay hb1)
  clear k0 A0 hb1
  have tok1 : True := trivial
  go_wp2_with (first | (have _t := tok1; refine store_air (w0 := w) (l := [(w.heap.size + 1, #[.float .f32 0, .float .f32 0, .float .f32 0], 88)]) rfl 32 _ _ rfl (w.heap.size + 1 + 1) rfl h v rfl a 0 0 88 k1.out (by omega) (by simp) info_air ?_; intro w2 k2; have k2 := hid k2; clear tok1) | (have _t := k2; refine wpList_load_row rfl 88 _ rfl (w.heap.size + 1 + 1) rfl 88 (#[.float .f32 a, .float .f32 h, .float .f32 v]) (0, 0) _ (k2.out.at (x := (w.heap.size + 1 + 1, #[.float .f32 a, .float .f32 h, .float .f32 v], 88)) (by simp)) Try.underlying88 rfl (info_par) ?_) | (have _t := k2; refine store_kept (w0 := w) (l := []) rfl 88 _ _ rfl (w.heap.size + 1) (#[.float .f32 a, .float .f32 h, .float .f32 v]) rfl rfl 88 (#[.float .f32 0, .float .f32 0, .float .f32 0]) (k2.out.sub (by simp)) (by omega) (by simp) (info_par) (by simp) (by simp [Value.oneCell']) ?_; intro w3 k3; have k3 := hid k3))
  exact bodyPost_ret (results_cell_row rfl _ _ (w.heap.size + 1) 88 #[.float .f32 a, .float .f32 h, .float .f32 v] (0, 0) _ rfl (k3.out.at (x := (w.heap.size + 1, #[.float .f32 a, .float .f32 h, .float .f32 v], 88)) (by simp)) Try.underlying88 rfl info_par) rfl ⟨rfl, k3.out.1⟩

set_option maxRecDepth 100000 in
theorem eqParcel (a h v : Nat) (ha : a < 4294967296) (hh : h < 4294967296) (hv : v < 4294967296) (fa : finB a = true) (fh : finB h = true) (fv : finB v = true) (w : World) :
    Calls Try.prog 49 #[.agg #[.float .f32 a, .float .f32 h, .float .f32 v], .agg #[.float .f32 a, .float .f32 h, .float .f32 v]] w fun e w' => e = .returned (.bool true) ∧ Below w.heap.size w w' := by
  have hc0 := fun w => run_conv_wid (P := Try.prog) w 22 94 a ha Try.underlying22 Try.underlying94 (finB_iff.1 fa)
  have Ha := hid ha
  have Hh := hid hh
  have Hv := hid hv
  have Fa := hid fa
  have Fh := hid fh
  have Fv := hid fv
  have k0 : Hid (Kept w [(w.heap.size, #[.float .f32 a, .float .f32 h, .float .f32 v], 88), (w.heap.size + 1, #[.float .f32 a, .float .f32 h, .float .f32 v], 88)] ((w.alloc (.cells #[.float .f32 a, .float .f32 h, .float .f32 v] 88)).alloc (.cells #[.float .f32 a, .float .f32 h, .float .f32 v] 88))) := hid ((((Kept.nil w).push _ _).push _ _).sub (by simp))
  have A0 : Hid (parAt ((w.alloc (.cells #[.float .f32 a, .float .f32 h, .float .f32 v] 88)).alloc (.cells #[.float .f32 a, .float .f32 h, .float .f32 v] 88)) w.heap.size a h v 88) := hid (k0.out.at (x := (w.heap.size, _, _)) (by simp))
  have A1 : Hid (parAt ((w.alloc (.cells #[.float .f32 a, .float .f32 h, .float .f32 v] 88)).alloc (.cells #[.float .f32 a, .float .f32 h, .float .f32 v] 88)) (w.heap.size + 1) a h v 88) := hid (k0.out.at (x := (w.heap.size + 1, _, _)) (by simp))
  clear ha hh hv fa fh fv
  go_enter Try.func49, Try.ntmps49
  go_wp2_with fail
  refine (sameFloat a Ha.out Fa.out _).mono ?_
  rintro e w1 ⟨rfl, rfl⟩
  go_wp2_with (first | (refine wpList_load_air (by rfl) 32 _ rfl w.heap.size rfl a h v 88 A0.out _ Try.underlying32 rfl info_air ?_) | (refine wpList_load_air (by rfl) 32 _ rfl (w.heap.size + 1) rfl a h v 88 A1.out _ Try.underlying32 rfl info_air ?_))
  refine (eqAir h v Hh.out Hv.out Fh.out Fv.out _).mono ?_
  rintro e w2 ⟨rfl, hb2⟩
  go_wp2
  go_ret
  exact ⟨rfl, (k0.out.stay hb2).1⟩

set_option maxHeartbeats 2000000 in
set_option maxRecDepth 100000 in
theorem iSettle_ok (h v : Nat) (hx : h < 4294967296) (hq : airB h v = true) (H V G : Nat) (hs : sett 30 h v 0 = (H, V, G)) (w : World) :
    Calls Try.prog 205 #[.agg #[.float .f32 h, .float .f32 v]] w fun e w' => e = .returned (.tuple #[.agg #[.float .f32 H, .float .f32 V], .float .f32 G, .int .i64 0]) ∧ Below w.heap.size w w' := by
  have k0 : Hid (Kept w [(w.heap.size + 1, #[.float .f32 0, .float .f32 0], 32), (w.heap.size, #[.float .f32 h, .float .f32 v], 32)] ((w.alloc (.cells #[.float .f32 h, .float .f32 v] 32)).alloc (.cells #[.float .f32 0, .float .f32 0] 32))) := hid ((((Kept.nil w).push _ _).push _ _).sub (by simp))
  have HX := hid hx
  have HQ := hid hq
  have HS := hid hs
  have hv : v < 4294967296 := amt_lt (airB_iff.1 hq).2.1
  have HV := hid hv
  have S0 := hid (Settled.first hx hq)
  clear hx hq hs hv
  go_enter Try.func205, Try.ntmps205
  go_wp2_with (refine wpList_load_row rfl 32 _ rfl (w.heap.size) rfl 32 (#[.float .f32 h, .float .f32 v]) (0, 0) _ (k0.out.at (x := (w.heap.size, #[.float .f32 h, .float .f32 v], 32)) (by simp)) Try.underlying32 rfl (info_air) ?_)
  refine (iValidAir h v HV.out true HQ.out _).mono ?_
  rintro e w1 ⟨rfl, hb1⟩
  have k1 := hid (k0.out.stay hb1)
  have hlt : w.heap.size + 1 < w1.heap.size := k1.out.lt (x := (w.heap.size + 1, #[.float .f32 0, .float .f32 0], 32)) (by simp)
  have HL := hid hlt
  have k2 := hid ((k1.out.push #[.float .f32 h, .float .f32 v] 32).sub (l' := [(w1.heap.size, #[.float .f32 h, .float .f32 v], 32), (w.heap.size + 1, #[.float .f32 0, .float .f32 0], 32)]) (by intro x hx; simp only [List.mem_cons, List.not_mem_nil, or_false] at hx; rcases hx with rfl | rfl <;> simp))
  clear k0 hb1 hlt
  go_wp2_with (refine wpList_load_row rfl 32 _ rfl (w.heap.size) rfl 32 (#[.float .f32 h, .float .f32 v]) (0, 0) _ (k1.out.at (x := (w.heap.size, #[.float .f32 h, .float .f32 v], 32)) (by simp)) Try.underlying32 rfl (info_air) ?_)
  clear k1
  go_loopw [14, 6] (fun i gs wr => ∃ k h1 v1 g1 : Nat, k ≤ 30 ∧ i = .int .i64 k ∧ gs = .float .f32 g1 ∧ Hid (Settled k h1 v1 g1) ∧ Hid (sett (30 - k) h1 v1 g1 = (H, V, G)) ∧ Hid (Kept w [(w1.heap.size, #[.float .f32 h1, .float .f32 v1], 32), (w.heap.size + 1, #[.float .f32 0, .float .f32 0], 32)] wr)) (fun i _ _ => 30 - (intOf i).toNat)
  case atStart => exact ⟨0, h, v, 0, by omega, rfl, rfl, S0, HS, k2⟩
  case round =>
    obtain ⟨k, h1, v1, g1, hk, rfl, rfl, hS, hg, hK⟩ := hrel
    clear k2 S0 HS HQ HX HV
    by_cases hlt : k < 30
    · have hk3 : (k : Int) < 30 := by omega
      have HF := hid (sat_facts hS.out.hw hS.out.heat)
      have Hk := hid hlt
      have e0 := exc_facts HF.out hS.out.amt
      have hs := hid (fun w => run_float_arith (P := Try.prog) w .sub 22 .f32 _ _ _ e0.1)
      clear e0
      go_wp2_with fail
      refine region_kept (w0 := w) (l := [(w1.heap.size, #[.float .f32 h1, .float .f32 v1], 32), (w.heap.size + 1, #[.float .f32 0, .float .f32 0], 32)]) 7 #[false, false, false, false, false, false, false] (by kernel_rfl) rfl rfl ?_
      have kd := hK.out.drew
      clear hK
      generalize wr.drew = wd at kd ⊢
      refine take_val 0 _ _ (.pointer (some ⟨w1.heap.size, 1, none⟩)) rfl (by rfl) (by kernel_rfl) (by kernel_rfl) (by kernel_rfl) (fun w => by unfold execOp; go_simp) rfl rfl kd ?_
      refine take_val 2 _ _ (.pointer (some ⟨w1.heap.size, 0, none⟩)) rfl (by rfl) (by kernel_rfl) (by kernel_rfl) (by kernel_rfl) (fun w => by unfold execOp; go_simp) rfl rfl kd ?_
      simp only [Act.put, List.setIfInBounds_toArray, List.set_cons_zero, List.set_cons_succ]
      refine take_cell 1 _ _ (.float .f32 v1) rfl (by rfl) (by kernel_rfl) (by kernel_rfl) (by kernel_rfl) (fun wq hS => by have hcell := (show airAt wq (w1.heap.size) h1 v1 32 from hS.at (x := (w1.heap.size, _, _)) (by simp)).c1; clear hS; unfold execOp; go_simp) rfl rfl kd ?_
      refine take_cell 3 _ _ (.float .f32 h1) rfl (by rfl) (by kernel_rfl) (by kernel_rfl) (by kernel_rfl) (fun wq hS => by have hcell := (show airAt wq (w1.heap.size) h1 v1 32 from hS.at (x := (w1.heap.size, _, _)) (by simp)).c0; clear hS; unfold execOp; go_simp) rfl rfl kd ?_
      simp only [Act.put, List.setIfInBounds_toArray, List.set_cons_zero, List.set_cons_succ]
      refine wpAnyH_ready (rs := [4]) (by kernel_rfl) (by simp) ?_
      refine callK 4 _ _ (.float .f32 (satF h1)) kd rfl (by rfl) 187 #[.float .f32 h1] (fun w => by unfold execOp; go_simp) rfl rfl ?hc (fun wc kd => ?_) AllReadyH.nil
      case hc => exact loose (iSat h1 HF.out _)
      refine ⟨kd, ?_⟩
      simp only [Act.put, List.setIfInBounds_toArray, List.set_cons_zero, List.set_cons_succ]
      refine take_val 5 _ _ (.float .f32 (excF h1 v1)) rfl (by rfl) (by kernel_rfl) (by kernel_rfl) (by kernel_rfl) (fun w => run_binop_val _ _ _ _ (by rfl) (by rfl) (by simp [eqGuard]) (hs.out w)) rfl rfl kd ?_
      simp only [Act.put, List.setIfInBounds_toArray, List.set_cons_zero, List.set_cons_succ]
      refine take_val 6 _ _ (.float .f32 (excF h1 v1)) rfl (by rfl) (by kernel_rfl) (by kernel_rfl) (by kernel_rfl) (fun w => by rfl) rfl rfl kd ?_
      refine wpAnyH_done (by kernel_rfl) (NoPanic.normal ?_) _
      simp only [Act.put, List.setIfInBounds_toArray, List.set_cons_zero, List.set_cons_succ]
      have K1 := hid kd
      clear kd hs
      have EX := hid (exc_facts HF.out hS.out.amt)
      rcases exc_two EX.out.2.1 EX.out.2.2 with hp | hp
      · have SS := hid (settle_step hS.out Hk.out hp.2.2.1)
        have hle : (FloatKind.f32.format.order (excF h1 v1) 0 == some .lt || FloatKind.f32.format.order (excF h1 v1) 0 == some .eq) = false := hp.2.2.2
        have E2 := hid (sett_go (g := g1) Hk.out hp.2.2.1)
        have r1 := fun w => run_float_arith (P := Try.prog) w .mul 22 .f32 _ _ _ SS.out.1.pq
        have r2 := fun w => run_float_arith (P := Try.prog) w .sub 22 .f32 _ _ _ SS.out.1.pv
        have r3 := fun w => run_float_arith (P := Try.prog) w .mul 22 .f32 _ _ _ SS.out.1.pd
        have r4 := fun w => run_float_arith (P := Try.prog) w .add 22 .f32 _ _ _ SS.out.1.pt
        have r5 := fun w => run_float_arith (P := Try.prog) w .add 22 .f32 _ _ _ SS.out.1.pg
        have r6 := fun ts t w => run_min_sv (P := Try.prog) ts t SS.out.1.pw fw_60 (by decide +kernel) w
        have a0 := (show airAt wc w1.heap.size h1 v1 32 from K1.out.at (x := (w1.heap.size, _, _)) (by simp))
        have c0 := a0.c0
        have c1 := a0.c1
        have f0 : wc.frozen? ⟨w1.heap.size, 0, none⟩ = false := frozen_of_row wc w1.heap.size 0 _ _ a0
        have f1 : wc.frozen? ⟨w1.heap.size, 1, none⟩ = false := frozen_of_row wc w1.heap.size 1 _ _ a0
        have K3 : Hid (Kept w [(w1.heap.size, #[.float .f32 (stH h1 v1), .float .f32 (stV h1 v1)], 32), (w.heap.size + 1, #[.float .f32 0, .float .f32 0], 32)] ((wc.setCell ⟨w1.heap.size, 1, none⟩ (.float .f32 (stV h1 v1))).setCell ⟨w1.heap.size, 0, none⟩ (.float .f32 (stH h1 v1)))) := hid ((K1.out.lcell (by have := HL.out; omega) (by have := HL.out; simp; omega) 1 _).lcell (by have := HL.out; omega) (by have := HL.out; simp; omega) 0 _)
        clear a0 hp
        go_wp2_with fail
        go_roundw
        case rel => exact ⟨k + 1, stH h1 v1, stV h1 v1, stG h1 v1 g1, by omega, by go_num, rfl, hid SS.out.2, hid (by rw [← E2.out]; exact hg.out), K3⟩
        case measure => simp [intOf]; omega
      · have hle : (FloatKind.f32.format.order (excF h1 v1) 0 == some .lt || FloatKind.f32.format.order (excF h1 v1) 0 == some .eq) = true := hp.2
        have E := hg.out
        rw [sett_stop hp.1] at E
        obtain ⟨rfl, rfl, rfl⟩ : h1 = H ∧ v1 = V ∧ g1 = G := by simpa using E
        go_wp2_with (first | (refine wpList_load_row rfl 32 _ rfl (w1.heap.size) rfl 32 (#[.float .f32 h1, .float .f32 v1]) (0, 0) _ (K1.out.at (x := (w1.heap.size, #[.float .f32 h1, .float .f32 v1], 32)) (by simp)) Try.underlying32 rfl (info_air) ?_) | (have _t := K1; refine store_kept (w0 := w) (l := [(w1.heap.size, #[.float .f32 h1, .float .f32 v1], 32)]) rfl 32 _ _ rfl (w.heap.size + 1) (#[.float .f32 h1, .float .f32 v1]) rfl rfl 32 (#[.float .f32 0, .float .f32 0]) (K1.out.sub (by intro x hx; simp only [List.mem_cons, List.not_mem_nil, or_false] at hx; rcases hx with rfl | rfl <;> simp)) (by omega) (by have := HL.out; simp; omega) (info_air) (by simp) (by simp [Value.oneCell']) ?_; intro wkz kz; have kz := hid kz))
        exact bodyPost_ret (results_row_tmp2 rfl _ _ (w.heap.size + 1) 32 (#[.float .f32 h1, .float .f32 v1]) (0, 0) _ rfl (kz.out.at (x := (w.heap.size + 1, #[.float .f32 h1, .float .f32 v1], 32)) (by simp)) Try.underlying32 rfl info_air) rfl ⟨rfl, kz.out.1⟩
    · obtain rfl : k = 30 := by omega
      have E := hg.out
      rw [show sett (30 - 30) h1 v1 g1 = (h1, v1, g1) from rfl] at E
      obtain ⟨rfl, rfl, rfl⟩ : h1 = H ∧ v1 = V ∧ g1 = G := by simpa using E
      go_wp2_with (first | (refine wpList_load_row rfl 32 _ rfl (w1.heap.size) rfl 32 (#[.float .f32 h1, .float .f32 v1]) (0, 0) _ (hK.out.at (x := (w1.heap.size, #[.float .f32 h1, .float .f32 v1], 32)) (by simp)) Try.underlying32 rfl (info_air) ?_) | (have _t := hK; refine store_kept (w0 := w) (l := [(w1.heap.size, #[.float .f32 h1, .float .f32 v1], 32)]) rfl 32 _ _ rfl (w.heap.size + 1) (#[.float .f32 h1, .float .f32 v1]) rfl rfl 32 (#[.float .f32 0, .float .f32 0]) (hK.out.sub (by intro x hx; simp only [List.mem_cons, List.not_mem_nil, or_false] at hx; rcases hx with rfl | rfl <;> simp)) (by omega) (by have := HL.out; simp; omega) (info_air) (by simp) (by simp [Value.oneCell']) ?_; intro wkz kz; have kz := hid kz))
      exact bodyPost_ret (results_row_tmp2 rfl _ _ (w.heap.size + 1) 32 (#[.float .f32 h1, .float .f32 v1]) (0, 0) _ rfl (kz.out.at (x := (w.heap.size + 1, #[.float .f32 h1, .float .f32 v1], 32)) (by simp)) Try.underlying32 rfl info_air) rfl ⟨rfl, kz.out.1⟩

set_option maxHeartbeats 2000000 in
set_option maxRecDepth 100000 in
theorem sSettle (h v : Nat) (hx : h < 4294967296) (hq : airB h v = true) (H V G : Nat) (hs : sett 30 h v 0 = (H, V, G)) (w : World) :
    Calls Try.prog 175 #[.agg #[.float .f32 h, .float .f32 v]] w fun e w' => e = .returned (.tuple #[.agg #[.float .f32 H, .float .f32 V], .float .f32 G]) ∧ Below w.heap.size w w' := by
  have k0 : Hid (Kept w [(w.heap.size, #[.float .f32 h, .float .f32 v], 32), (w.heap.size + 1, #[.float .f32 0, .float .f32 0], 32)] ((w.alloc (.cells #[.float .f32 h, .float .f32 v] 32)).alloc (.cells #[.float .f32 0, .float .f32 0] 32))) := hid ((((Kept.nil w).push _ _).push _ _).sub (by simp))
  have HS := hid hs
  have S0 := hid (Settled.first hx hq)
  clear hx hq hs
  go_enter Try.func175, Try.ntmps175
  go_wp2_with fail
  go_loopw [5, 4] (fun i gs wr => ∃ k h1 v1 g1 : Nat, k ≤ 30 ∧ i = .int .i64 k ∧ gs = .float .f32 g1 ∧ Hid (Settled k h1 v1 g1) ∧ Hid (sett (30 - k) h1 v1 g1 = (H, V, G)) ∧ Hid (Kept w [(w.heap.size, #[.float .f32 h1, .float .f32 v1], 32), (w.heap.size + 1, #[.float .f32 0, .float .f32 0], 32)] wr)) (fun i _ _ => 30 - (intOf i).toNat)
  case atStart => exact ⟨0, h, v, 0, by omega, rfl, rfl, S0, HS, k0⟩
  case round =>
    obtain ⟨k, h1, v1, g1, hk, rfl, rfl, hS, hg, hK⟩ := hrel
    clear k0 S0 HS
    by_cases hlt : k < 30
    · have hk3 : (k : Int) < 30 := by omega
      have HF := hid (sat_facts hS.out.hw hS.out.heat)
      have Hk := hid hlt
      go_wp2_with fail
      refine (sExcess h1 v1 hS.out.hw hS.out.air _ w.heap.size 32 (hK.out.at (x := (w.heap.size, _, _)) (by simp))).mono ?_
      rintro e w2 ⟨rfl, hb2⟩
      have K1 := hid (hK.out.stay hb2)
      clear hK hb2
      have EX := hid (exc_facts HF.out hS.out.amt)
      rcases exc_two EX.out.2.1 EX.out.2.2 with hp | hp
      · have SS := hid (settle_step hS.out Hk.out hp.2.2.1)
        have hgt : (FloatKind.f32.format.order (excF h1 v1) 0 == some .gt) = true := hp.2.2.1
        have E2 := hid (sett_go (g := g1) Hk.out hp.2.2.1)
        have r1 := fun w => run_float_arith (P := Try.prog) w .mul 22 .f32 _ _ _ SS.out.1.pq
        have r2 := fun w => run_float_arith (P := Try.prog) w .sub 22 .f32 _ _ _ SS.out.1.pv
        have r3 := fun w => run_float_arith (P := Try.prog) w .mul 22 .f32 _ _ _ SS.out.1.pd
        have r4 := fun w => run_float_arith (P := Try.prog) w .add 22 .f32 _ _ _ SS.out.1.pt
        have r5 := fun w => run_float_arith (P := Try.prog) w .add 22 .f32 _ _ _ SS.out.1.pg
        have a0 := (show airAt w2 w.heap.size h1 v1 32 from K1.out.at (x := (w.heap.size, _, _)) (by simp))
        have c0 := a0.c0
        have c1 := a0.c1
        have f0 : w2.frozen? ⟨w.heap.size, 0, none⟩ = false := frozen_of_row w2 w.heap.size 0 _ _ a0
        have f1 : w2.frozen? ⟨w.heap.size, 1, none⟩ = false := frozen_of_row w2 w.heap.size 1 _ _ a0
        have K3 := (K1.out.lcell (Nat.le_refl _) (by simp) 1 (.float .f32 (stV h1 v1))).lcell (Nat.le_refl _) (by simp) 0 (.float .f32 (stT h1 v1))
        clear a0 hp
        rcases hc : FloatKind.f32.format.order (stT h1 v1) 1114636288 == some .gt with _ | _
        · have eH : stH h1 v1 = stT h1 v1 := if_pos (Int.not_lt.1 fun hh => by have h9 := (gt_sv SS.out.1.pw fw_60).2 hh; exact absurd (h9.symm.trans hc) (by decide))
          have K4 := hid K3
          clear K3
          go_wp2_with fail
          go_roundw
          case rel => exact ⟨k + 1, stH h1 v1, stV h1 v1, stG h1 v1 g1, by omega, by go_num, rfl, hid SS.out.2, hid (by rw [← E2.out]; exact hg.out), hid (by rw [eH]; exact K4.out)⟩
          case measure => simp [intOf]; omega
        · have eH : stH h1 v1 = 1114636288 := if_neg (Int.not_le.2 ((gt_sv SS.out.1.pw fw_60).1 hc))
          have K4 := hid (K3.lcell (Nat.le_refl _) (by simp) 0 (.float .f32 1114636288))
          clear K3
          go_wp2_with fail
          go_roundw
          case rel => exact ⟨k + 1, stH h1 v1, stV h1 v1, stG h1 v1 g1, by omega, by go_num, rfl, hid SS.out.2, hid (by rw [← E2.out]; exact hg.out), hid (by rw [eH]; exact K4.out)⟩
          case measure => simp [intOf]; omega
      · have hgt : (FloatKind.f32.format.order (excF h1 v1) 0 == some .gt) = false := hp.1
        have E := hg.out
        rw [sett_stop hp.1] at E
        obtain ⟨rfl, rfl, rfl⟩ : h1 = H ∧ v1 = V ∧ g1 = G := by simpa using E
        go_wp2_with (first | (refine wpList_load_row rfl 32 _ rfl (w.heap.size) rfl 32 (#[.float .f32 h1, .float .f32 v1]) (0, 0) _ (K1.out.at (x := (w.heap.size, #[.float .f32 h1, .float .f32 v1], 32)) (by simp)) Try.underlying32 rfl (info_air) ?_) | (have _t := K1; refine store_kept (w0 := w) (l := [(w.heap.size, #[.float .f32 h1, .float .f32 v1], 32)]) rfl 32 _ _ rfl (w.heap.size + 1) (#[.float .f32 h1, .float .f32 v1]) rfl rfl 32 (#[.float .f32 0, .float .f32 0]) (K1.out.sub (by intro x hx; simp only [List.mem_cons, List.not_mem_nil, or_false] at hx; rcases hx with rfl | rfl <;> simp)) (by omega) (by simp) (info_air) (by simp) (by simp [Value.oneCell']) ?_; intro wkz kz; have kz := hid kz))
        exact bodyPost_ret (results_row_tmp rfl _ _ (w.heap.size + 1) 32 (#[.float .f32 h1, .float .f32 v1]) (0, 0) _ rfl (kz.out.at (x := (w.heap.size + 1, #[.float .f32 h1, .float .f32 v1], 32)) (by simp)) Try.underlying32 rfl info_air) rfl ⟨rfl, kz.out.1⟩
    · obtain rfl : k = 30 := by omega
      have E := hg.out
      rw [show sett (30 - 30) h1 v1 g1 = (h1, v1, g1) from rfl] at E
      obtain ⟨rfl, rfl, rfl⟩ : h1 = H ∧ v1 = V ∧ g1 = G := by simpa using E
      go_wp2_with (first | (refine wpList_load_row rfl 32 _ rfl (w.heap.size) rfl 32 (#[.float .f32 h1, .float .f32 v1]) (0, 0) _ (hK.out.at (x := (w.heap.size, #[.float .f32 h1, .float .f32 v1], 32)) (by simp)) Try.underlying32 rfl (info_air) ?_) | (have _t := hK; refine store_kept (w0 := w) (l := [(w.heap.size, #[.float .f32 h1, .float .f32 v1], 32)]) rfl 32 _ _ rfl (w.heap.size + 1) (#[.float .f32 h1, .float .f32 v1]) rfl rfl 32 (#[.float .f32 0, .float .f32 0]) (hK.out.sub (by intro x hx; simp only [List.mem_cons, List.not_mem_nil, or_false] at hx; rcases hx with rfl | rfl <;> simp)) (by omega) (by simp) (info_air) (by simp) (by simp [Value.oneCell']) ?_; intro wkz kz; have kz := hid kz))
      exact bodyPost_ret (results_row_tmp rfl _ _ (w.heap.size + 1) 32 (#[.float .f32 h1, .float .f32 v1]) (0, 0) _ rfl (kz.out.at (x := (w.heap.size + 1, #[.float .f32 h1, .float .f32 v1], 32)) (by simp)) Try.underlying32 rfl info_air) rfl ⟨rfl, kz.out.1⟩

theorem info_lev : (Try.prog.info? 153).map (·.size) = some 3 := by kernel_rfl

set_option maxRecDepth 100000 in
set_option maxHeartbeats 2000000 in
theorem sMixAt (ah av bh bv x : Nat) (M1 : MixF ah bh x) (M2 : MixF av bv x) (w : World) (g o k p : Nat)
    (hC : ∀ w', Below w.heap.size w w' → w'.cell? ⟨g, o, none⟩ = some (.float .f32 ah) ∧ w'.cell? ⟨g, o + 1, none⟩ = some (.float .f32 av) ∧ w'.cell? ⟨k, p, none⟩ = some (.float .f32 bh) ∧ w'.cell? ⟨k, p + 1, none⟩ = some (.float .f32 bv)) :
    Calls Try.prog 112 #[.pointer (some ⟨g, o, none⟩), .pointer (some ⟨k, p, none⟩), .float .f32 x] w fun e w' => e = .returned (.agg #[.float .f32 (mixW ah bh x), .float .f32 (mixW av bv x)]) ∧ Below w.heap.size w w' := by
  have k0 := hid ((Kept.nil w).push #[.float .f32 0, .float .f32 0] 32)
  have HN0 := hid (Kept.nil w).fresh
  have HB0 := hid (Nat.le_refl w.heap.size)
  have HC := hid hC
  have hr := hid (fun w => run_float_arith (P := Try.prog) w .sub 22 .f32 _ _ _ M1.r)
  have h1ah := hid (fun w => run_float_arith (P := Try.prog) w .mul 22 .f32 _ _ _ M1.m1)
  have h2bh := hid (fun w => run_float_arith (P := Try.prog) w .mul 22 .f32 _ _ _ M1.m2)
  have h3h := hid (fun w => run_float_arith (P := Try.prog) w .add 22 .f32 _ _ _ M1.s)
  have h1av := hid (fun w => run_float_arith (P := Try.prog) w .mul 22 .f32 _ _ _ M2.m1)
  have h2bv := hid (fun w => run_float_arith (P := Try.prog) w .mul 22 .f32 _ _ _ M2.m2)
  have h3v := hid (fun w => run_float_arith (P := Try.prog) w .add 22 .f32 _ _ _ M2.s)
  clear M1 M2 hC
  go_enter Try.func112, Try.ntmps112
  go_wp2_with fail
  refine region_kept (w0 := w) (l := []) 30 #[false, false, false, false, false, false, false, false, false, false, false, false, false, false, false, false, false, false, false, false, false, false, false, false, false, false, false, false, false, false] (by kernel_rfl) rfl rfl ?_
  have kd := k0.out.drew
  generalize World.drew _ = wd at kd ⊢
  clear k0
  refine take_val 0 _ _ (.pointer (some ⟨g, o, none⟩)) rfl (by rfl) (by kernel_rfl) (by kernel_rfl) (by kernel_rfl) (fun w => by rfl) rfl rfl kd.tail ?_
  simp only [Act.put, List.setIfInBounds_toArray, List.set_cons_zero, List.set_cons_succ]
  refine take_val 1 _ _ (.pointer (some ⟨g, o, none⟩)) rfl (by rfl) (by kernel_rfl) (by kernel_rfl) (by kernel_rfl) (fun w => by unfold execOp; go_simp) rfl rfl kd.tail ?_
  simp only [Act.put, List.setIfInBounds_toArray, List.set_cons_zero, List.set_cons_succ]
  refine take_val 2 _ _ (.pointer (some ⟨g, o, none⟩)) rfl (by rfl) (by kernel_rfl) (by kernel_rfl) (by kernel_rfl) (fun w => by unfold execOp; go_simp) rfl rfl kd.tail ?_
  simp only [Act.put, List.setIfInBounds_toArray, List.set_cons_zero, List.set_cons_succ]
  refine take_cell 3 _ _ (.float .f32 ah) rfl (by rfl) (by kernel_rfl) (by kernel_rfl) (by kernel_rfl) (fun wq hS => by have hcell : wq.cell? ⟨g, o, none⟩ = some (.float .f32 ah) := (HC.out wq hS.1).1; clear hS; unfold execOp; go_simp) rfl rfl kd.tail ?_
  simp only [Act.put, List.setIfInBounds_toArray, List.set_cons_zero, List.set_cons_succ]
  refine take_val 4 _ _ (.float .f32 x) rfl (by rfl) (by kernel_rfl) (by kernel_rfl) (by kernel_rfl) (fun w => by rfl) rfl rfl kd.tail ?_
  simp only [Act.put, List.setIfInBounds_toArray, List.set_cons_zero, List.set_cons_succ]
  refine take_val 5 _ _ (.float .f32 (restF x)) rfl (by rfl) (by kernel_rfl) (by kernel_rfl) (by kernel_rfl) (fun w => run_binop_val _ _ _ _ (by rfl) (by rfl) (by simp [eqGuard]) (hr.out w)) rfl rfl kd.tail ?_
  simp only [Act.put, List.setIfInBounds_toArray, List.set_cons_zero, List.set_cons_succ]
  refine take_val 6 _ _ (.float .f32 (fmul ah (restF x))) rfl (by rfl) (by kernel_rfl) (by kernel_rfl) (by kernel_rfl) (fun w => run_binop_val _ _ _ _ (by rfl) (by rfl) (by simp [eqGuard]) (h1ah.out w)) rfl rfl kd.tail ?_
  simp only [Act.put, List.setIfInBounds_toArray, List.set_cons_zero, List.set_cons_succ]
  refine take_val 7 _ _ (.pointer (some ⟨k, p, none⟩)) rfl (by rfl) (by kernel_rfl) (by kernel_rfl) (by kernel_rfl) (fun w => by rfl) rfl rfl kd.tail ?_
  simp only [Act.put, List.setIfInBounds_toArray, List.set_cons_zero, List.set_cons_succ]
  refine take_val 8 _ _ (.pointer (some ⟨k, p, none⟩)) rfl (by rfl) (by kernel_rfl) (by kernel_rfl) (by kernel_rfl) (fun w => by unfold execOp; go_simp) rfl rfl kd.tail ?_
  simp only [Act.put, List.setIfInBounds_toArray, List.set_cons_zero, List.set_cons_succ]
  refine take_val 9 _ _ (.pointer (some ⟨k, p, none⟩)) rfl (by rfl) (by kernel_rfl) (by kernel_rfl) (by kernel_rfl) (fun w => by unfold execOp; go_simp) rfl rfl kd.tail ?_
  simp only [Act.put, List.setIfInBounds_toArray, List.set_cons_zero, List.set_cons_succ]
  refine take_cell 10 _ _ (.float .f32 bh) rfl (by rfl) (by kernel_rfl) (by kernel_rfl) (by kernel_rfl) (fun wq hS => by have hcell : wq.cell? ⟨k, p, none⟩ = some (.float .f32 bh) := (HC.out wq hS.1).2.2.1; clear hS; unfold execOp; go_simp) rfl rfl kd.tail ?_
  simp only [Act.put, List.setIfInBounds_toArray, List.set_cons_zero, List.set_cons_succ]
  refine take_val 11 _ _ (.float .f32 x) rfl (by rfl) (by kernel_rfl) (by kernel_rfl) (by kernel_rfl) (fun w => by rfl) rfl rfl kd.tail ?_
  simp only [Act.put, List.setIfInBounds_toArray, List.set_cons_zero, List.set_cons_succ]
  refine take_val 12 _ _ (.float .f32 (fmul bh x)) rfl (by rfl) (by kernel_rfl) (by kernel_rfl) (by kernel_rfl) (fun w => run_binop_val _ _ _ _ (by rfl) (by rfl) (by simp [eqGuard]) (h2bh.out w)) rfl rfl kd.tail ?_
  simp only [Act.put, List.setIfInBounds_toArray, List.set_cons_zero, List.set_cons_succ]
  refine take_val 13 _ _ (.float .f32 (mixW ah bh x)) rfl (by rfl) (by kernel_rfl) (by kernel_rfl) (by kernel_rfl) (fun w => run_binop_val _ _ _ _ (by rfl) (by rfl) (by simp [eqGuard]) (h3h.out w)) rfl rfl kd.tail ?_
  simp only [Act.put, List.setIfInBounds_toArray, List.set_cons_zero, List.set_cons_succ]
  refine take_val 14 _ _ (.pointer (some ⟨g, o, none⟩)) rfl (by rfl) (by kernel_rfl) (by kernel_rfl) (by kernel_rfl) (fun w => by rfl) rfl rfl kd.tail ?_
  simp only [Act.put, List.setIfInBounds_toArray, List.set_cons_zero, List.set_cons_succ]
  refine take_val 15 _ _ (.pointer (some ⟨g, o, none⟩)) rfl (by rfl) (by kernel_rfl) (by kernel_rfl) (by kernel_rfl) (fun w => by unfold execOp; go_simp) rfl rfl kd.tail ?_
  simp only [Act.put, List.setIfInBounds_toArray, List.set_cons_zero, List.set_cons_succ]
  refine take_val 16 _ _ (.pointer (some ⟨g, o + 1, none⟩)) rfl (by rfl) (by kernel_rfl) (by kernel_rfl) (by kernel_rfl) (fun w => by unfold execOp; go_simp) rfl rfl kd.tail ?_
  simp only [Act.put, List.setIfInBounds_toArray, List.set_cons_zero, List.set_cons_succ]
  refine take_cell 17 _ _ (.float .f32 av) rfl (by rfl) (by kernel_rfl) (by kernel_rfl) (by kernel_rfl) (fun wq hS => by have hcell : wq.cell? ⟨g, o + 1, none⟩ = some (.float .f32 av) := (HC.out wq hS.1).2.1; clear hS; unfold execOp; go_simp) rfl rfl kd.tail ?_
  simp only [Act.put, List.setIfInBounds_toArray, List.set_cons_zero, List.set_cons_succ]
  refine take_val 18 _ _ (.float .f32 x) rfl (by rfl) (by kernel_rfl) (by kernel_rfl) (by kernel_rfl) (fun w => by rfl) rfl rfl kd.tail ?_
  simp only [Act.put, List.setIfInBounds_toArray, List.set_cons_zero, List.set_cons_succ]
  refine take_val 19 _ _ (.float .f32 (restF x)) rfl (by rfl) (by kernel_rfl) (by kernel_rfl) (by kernel_rfl) (fun w => run_binop_val _ _ _ _ (by rfl) (by rfl) (by simp [eqGuard]) (hr.out w)) rfl rfl kd.tail ?_
  simp only [Act.put, List.setIfInBounds_toArray, List.set_cons_zero, List.set_cons_succ]
  refine take_val 20 _ _ (.float .f32 (fmul av (restF x))) rfl (by rfl) (by kernel_rfl) (by kernel_rfl) (by kernel_rfl) (fun w => run_binop_val _ _ _ _ (by rfl) (by rfl) (by simp [eqGuard]) (h1av.out w)) rfl rfl kd.tail ?_
  simp only [Act.put, List.setIfInBounds_toArray, List.set_cons_zero, List.set_cons_succ]
  refine take_val 21 _ _ (.pointer (some ⟨k, p, none⟩)) rfl (by rfl) (by kernel_rfl) (by kernel_rfl) (by kernel_rfl) (fun w => by rfl) rfl rfl kd.tail ?_
  simp only [Act.put, List.setIfInBounds_toArray, List.set_cons_zero, List.set_cons_succ]
  refine take_val 22 _ _ (.pointer (some ⟨k, p, none⟩)) rfl (by rfl) (by kernel_rfl) (by kernel_rfl) (by kernel_rfl) (fun w => by unfold execOp; go_simp) rfl rfl kd.tail ?_
  simp only [Act.put, List.setIfInBounds_toArray, List.set_cons_zero, List.set_cons_succ]
  refine take_val 23 _ _ (.pointer (some ⟨k, p + 1, none⟩)) rfl (by rfl) (by kernel_rfl) (by kernel_rfl) (by kernel_rfl) (fun w => by unfold execOp; go_simp) rfl rfl kd.tail ?_
  simp only [Act.put, List.setIfInBounds_toArray, List.set_cons_zero, List.set_cons_succ]
  refine take_cell 24 _ _ (.float .f32 bv) rfl (by rfl) (by kernel_rfl) (by kernel_rfl) (by kernel_rfl) (fun wq hS => by have hcell : wq.cell? ⟨k, p + 1, none⟩ = some (.float .f32 bv) := (HC.out wq hS.1).2.2.2; clear hS; unfold execOp; go_simp) rfl rfl kd.tail ?_
  simp only [Act.put, List.setIfInBounds_toArray, List.set_cons_zero, List.set_cons_succ]
  refine take_val 25 _ _ (.float .f32 x) rfl (by rfl) (by kernel_rfl) (by kernel_rfl) (by kernel_rfl) (fun w => by rfl) rfl rfl kd.tail ?_
  simp only [Act.put, List.setIfInBounds_toArray, List.set_cons_zero, List.set_cons_succ]
  refine take_val 26 _ _ (.float .f32 (fmul bv x)) rfl (by rfl) (by kernel_rfl) (by kernel_rfl) (by kernel_rfl) (fun w => run_binop_val _ _ _ _ (by rfl) (by rfl) (by simp [eqGuard]) (h2bv.out w)) rfl rfl kd.tail ?_
  simp only [Act.put, List.setIfInBounds_toArray, List.set_cons_zero, List.set_cons_succ]
  refine take_val 27 _ _ (.float .f32 (mixW av bv x)) rfl (by rfl) (by kernel_rfl) (by kernel_rfl) (by kernel_rfl) (fun w => run_binop_val _ _ _ _ (by rfl) (by rfl) (by simp [eqGuard]) (h3v.out w)) rfl rfl kd.tail ?_
  simp only [Act.put, List.setIfInBounds_toArray, List.set_cons_zero, List.set_cons_succ]
  refine take_val 28 _ _ (.agg #[.float .f32 (mixW ah bh x), .float .f32 (mixW av bv x)]) rfl (by rfl) (by kernel_rfl) (by kernel_rfl) (by kernel_rfl) (fun w => by unfold execOp; go_simp) rfl rfl kd.tail ?_
  simp only [Act.put, List.setIfInBounds_toArray, List.set_cons_zero, List.set_cons_succ]
  refine wpAnyH_ready (rs := [29]) (by kernel_rfl) (by simp) ?_
  refine storeK 29 _ _ kd HB0.out HN0.out rfl (by rfl) 32 _ _ rfl (#[.float .f32 (mixW ah bh x), .float .f32 (mixW av bv x)]) rfl rfl (info_air) (by simp) (by simp [Value.oneCell']) rfl rfl (fun w1 k1 => ?_) AllReadyH.nil
  refine ⟨k1.tail, ?_⟩
  refine wpAnyH_done (by kernel_rfl) (NoPanic.normal ?_) _
  go_wp2
  exact bodyPost_ret (results_cell_row rfl _ _ (w.heap.size) 32 (#[.float .f32 (mixW ah bh x), .float .f32 (mixW av bv x)]) (0, 0) _ rfl (k1.at (x := (w.heap.size, _, _)) (by simp)) Try.underlying32 rfl info_air) rfl ⟨rfl, k1.1⟩

set_option maxRecDepth 100000 in
theorem sMixed_ok (aa ah av bh bv x : Nat) (M1 : MixF ah bh x) (M2 : MixF av bv x) (hr : airB (mixW ah bh x) (mixW av bv x) = true) (w : World) (k p : Nat)
    (hC : ∀ w', Below w.heap.size w w' → w'.cell? ⟨k, p, none⟩ = some (.float .f32 bh) ∧ w'.cell? ⟨k, p + 1, none⟩ = some (.float .f32 bv)) :
    Calls Try.prog 147 #[.agg #[.float .f32 aa, .float .f32 ah, .float .f32 av], .pointer (some ⟨k, p, none⟩), .float .f32 x] w fun e w' => e = .returned (.tuple #[.agg #[.float .f32 aa, .float .f32 (mixW ah bh x), .float .f32 (mixW av bv x)], .int .i64 0]) ∧ Below w.heap.size w w' := by
  have k0 : Hid (Kept w [(w.heap.size, #[.float .f32 aa, .float .f32 ah, .float .f32 av], 88), (w.heap.size + 1, #[.float .f32 0, .float .f32 0, .float .f32 0], 88)] ((w.alloc (.cells #[.float .f32 aa, .float .f32 ah, .float .f32 av] 88)).alloc (.cells #[.float .f32 0, .float .f32 0, .float .f32 0] 88))) := hid ((((Kept.nil w).push _ _).push _ _).sub (by simp))
  have HC := hid hC
  have HM1 := hid M1
  have HM2 := hid M2
  have HR := hid hr
  clear hC M1 M2 hr
  go_enter Try.func147, Try.ntmps147
  go_wp2_with fail
  refine (sMixAt ah av bh bv x HM1.out HM2.out _ w.heap.size 1 k p (fun w' hb => ?_)).mono ?_
  · have A1 : parAt w' w.heap.size aa ah av 88 := (k0.out.stay hb).at (x := (w.heap.size, _, _)) (by simp)
    exact ⟨A1.c1, A1.c2, HC.out w' (k0.out.1.trans (hb.mono k0.out.1.size))⟩
  rintro e w1 ⟨rfl, hb1⟩
  have k1 := hid (k0.out.stay hb1)
  clear k0 hb1
  have tok1 : True := trivial
  go_wp2_with (have _t := tok1; refine store_air (w0 := w) (l := [(w.heap.size + 1, #[.float .f32 0, .float .f32 0, .float .f32 0], 88)]) rfl 32 _ _ rfl (w.heap.size) rfl (mixW ah bh x) (mixW av bv x) rfl aa ah av 88 k1.out (by omega) (by simp) info_air ?_; intro w2 k2; have k2 := hid k2; clear tok1)
  have A2 : Hid (parAt w2 w.heap.size aa (mixW ah bh x) (mixW av bv x) 88) := hid (k2.out.at (x := (w.heap.size, _, _)) (by simp))

  refine (sAirAt_t _ _ HR.out _ w.heap.size 1 A2.out.c1 A2.out.c2).mono ?_
  rintro e w3 ⟨rfl, rfl⟩
  go_wp2_with (first | (refine wpList_load_row rfl 88 _ rfl (w.heap.size) rfl 88 (#[.float .f32 aa, .float .f32 (mixW ah bh x), .float .f32 (mixW av bv x)]) (0, 0) _ (k2.out.at (x := (w.heap.size, #[.float .f32 aa, .float .f32 (mixW ah bh x), .float .f32 (mixW av bv x)], 88)) (by simp)) Try.underlying88 rfl (info_par) ?_) | (refine store_kept (w0 := w) (l := [(w.heap.size, #[.float .f32 aa, .float .f32 (mixW ah bh x), .float .f32 (mixW av bv x)], 88)]) rfl 88 _ _ rfl (w.heap.size + 1) (#[.float .f32 aa, .float .f32 (mixW ah bh x), .float .f32 (mixW av bv x)]) rfl rfl 88 (#[.float .f32 0, .float .f32 0, .float .f32 0]) (k2.out.sub (by intro x hx; simp only [List.mem_cons, List.not_mem_nil, or_false] at hx; rcases hx with rfl | rfl <;> simp)) (by omega) (by simp) (info_par) (by simp) (by simp [Value.oneCell']) ?_; intro wkz kz; have kz := hid kz))
  exact bodyPost_ret (results_row_tmp rfl _ _ (w.heap.size + 1) 88 (#[.float .f32 aa, .float .f32 (mixW ah bh x), .float .f32 (mixW av bv x)]) (0, 0) _ rfl (kz.out.at (x := (w.heap.size + 1, #[.float .f32 aa, .float .f32 (mixW ah bh x), .float .f32 (mixW av bv x)], 88)) (by simp)) Try.underlying88 rfl info_par) rfl ⟨rfl, kz.out.1⟩

set_option maxRecDepth 100000 in
theorem sMixed_state (aa ah av bh bv x : Nat) (M1 : MixF ah bh x) (M2 : MixF av bv x) (hr : airB (mixW ah bh x) (mixW av bv x) = false) (w : World) (k p : Nat)
    (hC : ∀ w', Below w.heap.size w w' → w'.cell? ⟨k, p, none⟩ = some (.float .f32 bh) ∧ w'.cell? ⟨k, p + 1, none⟩ = some (.float .f32 bv)) :
    Calls Try.prog 147 #[.agg #[.float .f32 aa, .float .f32 ah, .float .f32 av], .pointer (some ⟨k, p, none⟩), .float .f32 x] w fun e w' => e = .returned (.tuple #[.agg #[.float .f32 0, .float .f32 0, .float .f32 0], .int .i64 4]) ∧ Below w.heap.size w w' := by
  have k0 : Hid (Kept w [(w.heap.size, #[.float .f32 aa, .float .f32 ah, .float .f32 av], 88), (w.heap.size + 1, #[.float .f32 0, .float .f32 0, .float .f32 0], 88)] ((w.alloc (.cells #[.float .f32 aa, .float .f32 ah, .float .f32 av] 88)).alloc (.cells #[.float .f32 0, .float .f32 0, .float .f32 0] 88))) := hid ((((Kept.nil w).push _ _).push _ _).sub (by simp))
  have HC := hid hC
  have HM1 := hid M1
  have HM2 := hid M2
  have HR := hid hr
  clear hC M1 M2 hr
  go_enter Try.func147, Try.ntmps147
  go_wp2_with fail
  refine (sMixAt ah av bh bv x HM1.out HM2.out _ w.heap.size 1 k p (fun w' hb => ?_)).mono ?_
  · have A1 : parAt w' w.heap.size aa ah av 88 := (k0.out.stay hb).at (x := (w.heap.size, _, _)) (by simp)
    exact ⟨A1.c1, A1.c2, HC.out w' (k0.out.1.trans (hb.mono k0.out.1.size))⟩
  rintro e w1 ⟨rfl, hb1⟩
  have k1 := hid (k0.out.stay hb1)
  clear k0 hb1
  have tok1 : True := trivial
  go_wp2_with (have _t := tok1; refine store_air (w0 := w) (l := [(w.heap.size + 1, #[.float .f32 0, .float .f32 0, .float .f32 0], 88)]) rfl 32 _ _ rfl (w.heap.size) rfl (mixW ah bh x) (mixW av bv x) rfl aa ah av 88 k1.out (by omega) (by simp) info_air ?_; intro w2 k2; have k2 := hid k2; clear tok1)
  have A2 : Hid (parAt w2 w.heap.size aa (mixW ah bh x) (mixW av bv x) 88) := hid (k2.out.at (x := (w.heap.size, _, _)) (by simp))

  refine (sAirAt_f _ _ HM2.out.lt HR.out _ w.heap.size 1 A2.out.c1 A2.out.c2).mono ?_
  rintro e w3 ⟨rfl, hb3⟩
  have k3 := hid (k2.out.stay hb3)
  go_wp2_with (refine store_kept (w0 := w) (l := []) rfl 88 _ _ rfl (w.heap.size + 1) (#[.float .f32 0, .float .f32 0, .float .f32 0]) rfl rfl 88 (#[.float .f32 0, .float .f32 0, .float .f32 0]) (k3.out.sub (by intro x hx; simp only [List.mem_cons, List.not_mem_nil, or_false] at hx; rcases hx with rfl <;> simp)) (by omega) (by simp) (info_par) (by simp) (by simp [Value.oneCell']) ?_; intro wkz kz; have kz := hid kz)
  exact bodyPost_ret (results_row_tmp rfl _ _ (w.heap.size + 1) 88 (#[.float .f32 0, .float .f32 0, .float .f32 0]) (0, 0) _ rfl (kz.out.at (x := (w.heap.size + 1, #[.float .f32 0, .float .f32 0, .float .f32 0], 88)) (by simp)) Try.underlying88 rfl info_par) rfl ⟨rfl, kz.out.1⟩

set_option maxHeartbeats 1000000 in
set_option maxRecDepth 100000 in
theorem iMixParcels_ok (aa ah av ba bh bv x : Nat) (h0 : aa < 4294967296) (h2 : av < 4294967296) (h5 : ba < 4294967296) (h4 : bv < 4294967296) (hp : parB aa ah av = true) (hq : parB ba bh bv = true) (hx : Share x) (M1 : MixF ah bh x) (M2 : MixF av bv x) (hr : airB (mixW ah bh x) (mixW av bv x) = true) (w : World) :
    Calls Try.prog 180 #[.agg #[.float .f32 aa, .float .f32 ah, .float .f32 av], .agg #[.float .f32 ba, .float .f32 bh, .float .f32 bv], .float .f32 x] w fun e w' => e = .returned (.tuple #[.agg #[.float .f32 aa, .float .f32 (mixW ah bh x), .float .f32 (mixW av bv x)], .int .i64 0]) ∧ Below w.heap.size w w' := by
  have k0 : Hid (Kept w [(w.heap.size, #[.float .f32 aa, .float .f32 ah, .float .f32 av], 88), (w.heap.size + 1, #[.float .f32 ba, .float .f32 bh, .float .f32 bv], 88), (w.heap.size + 1 + 1, #[.float .f32 0, .float .f32 0, .float .f32 0], 88)] (((w.alloc (.cells #[.float .f32 aa, .float .f32 ah, .float .f32 av] 88)).alloc (.cells #[.float .f32 ba, .float .f32 bh, .float .f32 bv] 88)).alloc (.cells #[.float .f32 0, .float .f32 0, .float .f32 0] 88))) := hid (((((Kept.nil w).push _ _).push _ _).push _ _).sub (by simp))
  have H0 := hid h0
  have H2 := hid h2
  have H5 := hid h5
  have H4 := hid h4
  clear h0 h2 h5 h4
  have Xhp := hid hp
  have Xhq := hid hq
  have Xhx := hid hx
  have XM1 := hid M1
  have XM2 := hid M2
  have Xhr := hid hr
  clear hp hq hx M1 M2 hr
  go_enter Try.func180, Try.ntmps180

  go_wp2_with (first | (refine wpList_load_row rfl 88 _ rfl (w.heap.size) rfl 88 (#[.float .f32 aa, .float .f32 ah, .float .f32 av]) (0, 0) _ (k0.out.at (x := (w.heap.size, #[.float .f32 aa, .float .f32 ah, .float .f32 av], 88)) (by simp)) Try.underlying88 rfl (info_par) ?_))
  refine (iValidParcel aa ah av H0.out H2.out true Xhp.out _).mono ?_
  rintro e w0 ⟨rfl, hb0⟩
  have k1 := hid (k0.out.stay hb0)
  clear hb0
  go_wp2_with (first | (refine wpList_load_g rfl 88 _ rfl (w.heap.size + 1) rfl 88 (#[.float .f32 ba, .float .f32 bh, .float .f32 bv]) (0, 0) _ (k1.out.at (x := (w.heap.size + 1, #[.float .f32 ba, .float .f32 bh, .float .f32 bv], 88)) (by simp)) Try.underlying88 rfl (info_par) ?_))
  refine (iValidParcel ba bh bv H5.out H4.out true Xhq.out _).mono ?_
  rintro e w1 ⟨rfl, hb1⟩
  have k2 := hid (k1.out.stay hb1)
  clear hb1
  go_wp2_with (first | (refine wpList_load_air (by rfl) 32 _ rfl (w.heap.size) rfl aa ah av 88 (k2.out.at (x := (w.heap.size, #[.float .f32 aa, .float .f32 ah, .float .f32 av], 88)) (by simp)) _ Try.underlying32 rfl info_air ?_) | (refine wpList_load_air (by rfl) 32 _ rfl (w.heap.size + 1) rfl ba bh bv 88 (k2.out.at (x := (w.heap.size + 1, #[.float .f32 ba, .float .f32 bh, .float .f32 bv], 88)) (by simp)) _ Try.underlying32 rfl info_air ?_))
  refine (iMixAir_ok ah av bh bv x H2.out (parB_iff.1 Xhp.out).2 H4.out (parB_iff.1 Xhq.out).2 Xhx.out XM1.out XM2.out Xhr.out _).mono ?_
  rintro e w2 ⟨rfl, hb2⟩
  have k3 := hid (k2.out.stay hb2)
  clear hb2
  have k9 := hid (k3.out.push #[.float .f32 (mixW ah bh x), .float .f32 (mixW av bv x)] 32)
  have c0 : World.cell? (w2.alloc (.cells #[.float .f32 (mixW ah bh x), .float .f32 (mixW av bv x)] 32)) ⟨w.heap.size, 0, none⟩ = some (.float .f32 aa) := parAt.c0 (k9.out.at (x := (w.heap.size, #[.float .f32 aa, .float .f32 ah, .float .f32 av], 88)) (by simp))
  go_wp2_with (first | (refine wpList_load_row rfl 32 _ rfl (w2.heap.size) rfl 32 (#[.float .f32 (mixW ah bh x), .float .f32 (mixW av bv x)]) (0, 0) _ (k9.out.at (x := (w2.heap.size, #[.float .f32 (mixW ah bh x), .float .f32 (mixW av bv x)], 32)) (by simp)) Try.underlying32 rfl (info_air) ?_) | (refine store_kept (w0 := w) (l := []) rfl 88 _ _ rfl (w.heap.size + 1 + 1) (#[.float .f32 aa, .float .f32 (mixW ah bh x), .float .f32 (mixW av bv x)]) rfl rfl 88 (#[.float .f32 0, .float .f32 0, .float .f32 0]) (k9.out.sub (by intro x hx; simp only [List.mem_cons, List.not_mem_nil, or_false] at hx; rcases hx with rfl <;> simp)) (by omega) (by simp) (info_par) (by simp) (by simp [Value.oneCell']) ?_; intro wkz kz; have kz := hid kz))
  exact bodyPost_ret (results_row_tmp rfl _ _ (w.heap.size + 1 + 1) 88 (#[.float .f32 aa, .float .f32 (mixW ah bh x), .float .f32 (mixW av bv x)]) (0, 0) _ rfl (kz.out.at (x := (w.heap.size + 1 + 1, #[.float .f32 aa, .float .f32 (mixW ah bh x), .float .f32 (mixW av bv x)], 88)) (by simp)) Try.underlying88 rfl info_par) rfl ⟨rfl, kz.out.1⟩

set_option maxHeartbeats 1000000 in
set_option maxRecDepth 100000 in
theorem iMixParcels_state (aa ah av ba bh bv x : Nat) (h0 : aa < 4294967296) (h2 : av < 4294967296) (h5 : ba < 4294967296) (h4 : bv < 4294967296) (hp : parB aa ah av = true) (hq : parB ba bh bv = true) (hx : Share x) (M1 : MixF ah bh x) (M2 : MixF av bv x) (hr : airB (mixW ah bh x) (mixW av bv x) = false) (w : World) :
    Calls Try.prog 180 #[.agg #[.float .f32 aa, .float .f32 ah, .float .f32 av], .agg #[.float .f32 ba, .float .f32 bh, .float .f32 bv], .float .f32 x] w fun e w' => e = .returned (.tuple #[.agg #[.float .f32 0, .float .f32 0, .float .f32 0], .int .i64 4]) ∧ Below w.heap.size w w' := by
  have k0 : Hid (Kept w [(w.heap.size, #[.float .f32 aa, .float .f32 ah, .float .f32 av], 88), (w.heap.size + 1, #[.float .f32 ba, .float .f32 bh, .float .f32 bv], 88), (w.heap.size + 1 + 1, #[.float .f32 0, .float .f32 0, .float .f32 0], 88)] (((w.alloc (.cells #[.float .f32 aa, .float .f32 ah, .float .f32 av] 88)).alloc (.cells #[.float .f32 ba, .float .f32 bh, .float .f32 bv] 88)).alloc (.cells #[.float .f32 0, .float .f32 0, .float .f32 0] 88))) := hid (((((Kept.nil w).push _ _).push _ _).push _ _).sub (by simp))
  have H0 := hid h0
  have H2 := hid h2
  have H5 := hid h5
  have H4 := hid h4
  clear h0 h2 h5 h4
  have Xhp := hid hp
  have Xhq := hid hq
  have Xhx := hid hx
  have XM1 := hid M1
  have XM2 := hid M2
  have Xhr := hid hr
  clear hp hq hx M1 M2 hr
  go_enter Try.func180, Try.ntmps180

  go_wp2_with (first | (refine wpList_load_row rfl 88 _ rfl (w.heap.size) rfl 88 (#[.float .f32 aa, .float .f32 ah, .float .f32 av]) (0, 0) _ (k0.out.at (x := (w.heap.size, #[.float .f32 aa, .float .f32 ah, .float .f32 av], 88)) (by simp)) Try.underlying88 rfl (info_par) ?_))
  refine (iValidParcel aa ah av H0.out H2.out true Xhp.out _).mono ?_
  rintro e w0 ⟨rfl, hb0⟩
  have k1 := hid (k0.out.stay hb0)
  clear hb0
  go_wp2_with (first | (refine wpList_load_g rfl 88 _ rfl (w.heap.size + 1) rfl 88 (#[.float .f32 ba, .float .f32 bh, .float .f32 bv]) (0, 0) _ (k1.out.at (x := (w.heap.size + 1, #[.float .f32 ba, .float .f32 bh, .float .f32 bv], 88)) (by simp)) Try.underlying88 rfl (info_par) ?_))
  refine (iValidParcel ba bh bv H5.out H4.out true Xhq.out _).mono ?_
  rintro e w1 ⟨rfl, hb1⟩
  have k2 := hid (k1.out.stay hb1)
  clear hb1
  go_wp2_with (first | (refine wpList_load_air (by rfl) 32 _ rfl (w.heap.size) rfl aa ah av 88 (k2.out.at (x := (w.heap.size, #[.float .f32 aa, .float .f32 ah, .float .f32 av], 88)) (by simp)) _ Try.underlying32 rfl info_air ?_) | (refine wpList_load_air (by rfl) 32 _ rfl (w.heap.size + 1) rfl ba bh bv 88 (k2.out.at (x := (w.heap.size + 1, #[.float .f32 ba, .float .f32 bh, .float .f32 bv], 88)) (by simp)) _ Try.underlying32 rfl info_air ?_))
  refine (iMixAir_state ah av bh bv x H2.out (parB_iff.1 Xhp.out).2 H4.out (parB_iff.1 Xhq.out).2 Xhx.out XM1.out XM2.out Xhr.out _).mono ?_
  rintro e w2 ⟨rfl, hb2⟩
  have k3 := hid (k2.out.stay hb2)
  clear hb2
  have k9 := hid (k3.out.push #[.float .f32 0, .float .f32 0] 32)
  go_wp2_with (first | (refine store_kept (w0 := w) (l := []) rfl 88 _ _ rfl (w.heap.size + 1 + 1) (#[.float .f32 0, .float .f32 0, .float .f32 0]) rfl rfl 88 (#[.float .f32 0, .float .f32 0, .float .f32 0]) (k9.out.sub (by intro x hx; simp only [List.mem_cons, List.not_mem_nil, or_false] at hx; rcases hx with rfl <;> simp)) (by omega) (by simp) (info_par) (by simp) (by simp [Value.oneCell']) ?_; intro wkz kz; have kz := hid kz))
  exact bodyPost_ret (results_row_tmp rfl _ _ (w.heap.size + 1 + 1) 88 (#[.float .f32 0, .float .f32 0, .float .f32 0]) (0, 0) _ rfl (kz.out.at (x := (w.heap.size + 1 + 1, #[.float .f32 0, .float .f32 0, .float .f32 0], 88)) (by simp)) Try.underlying88 rfl info_par) rfl ⟨rfl, kz.out.1⟩

theorem info_llev : (Try.prog.info? 155).map (·.size) = some 3 := by kernel_rfl

theorem infoz_lev : (Try.prog.info? 153).map (fun i => (i.zero, i.size, i.bytes)) = some (some (.agg #[.float .f32 0, .float .f32 0, .float .f32 0]), 3, 12) := by kernel_rfl

theorem sameFloat2 (a b : Nat) (h : Same2 a b) (w : World) :
    Calls Try.prog 50 #[.float .f64 a, .float .f64 b] w fun e w' => e = .returned (.bool true) ∧ w = w' := by
  obtain ⟨h1, h2⟩ := h
  rcases h1 with ⟨h1, rfl⟩ | ⟨h1, h3, h4, h5⟩
  · have hn : (FloatKind.f64.format.order a a != some .eq) = false := by
      show (Ieee.Format.order D a a != some .eq) = false
      rw [h1]; rfl
    have hq : (FloatKind.f64.format.order a a == some .eq) = true := by
      show (Ieee.Format.order D a a == some .eq) = true
      rw [h1]; rfl
    rcases hz : (FloatKind.f64.format.order a 0 == some .eq) with _ | _
    · clear h1 h2
      go_enter Try.func50, Try.ntmps50
      go_wp2
      go_ret
      exact ⟨by simp, rfl⟩
    · obtain ⟨q, hd⟩ := h2 h1 (beq_iff_eq.1 hz)
      have hdiv := fun w => run_float_arith (P := Try.prog) w .quo 94 .f64 4607182418800017408 a q hd
      clear h1 h2 hd
      go_enter Try.func50, Try.ntmps50
      go_wp2
      go_ret
      exact ⟨by simp, rfl⟩
  · have hn : (FloatKind.f64.format.order a a != some .eq) = true := by
      show (Ieee.Format.order D a a != some .eq) = true
      rw [h1]; rfl
    have hm : (FloatKind.f64.format.order b b != some .eq) = true := by
      show (Ieee.Format.order D b b != some .eq) = true
      rw [h3]; rfl
    clear h1 h2 h3 h4 h5
    go_enter Try.func50, Try.ntmps50
    go_wp2
    go_ret
    exact ⟨by simp, rfl⟩

theorem eqAir_any (h v : Nat) (hh : h < 4294967296) (hv : v < 4294967296) (w : World) :
    Calls Try.prog 22 #[.agg #[.float .f32 h, .float .f32 v], .agg #[.float .f32 h, .float .f32 v]] w fun e w' => e = .returned (.bool true) ∧ Below w.heap.size w w' := by
  obtain ⟨z0, f0, c0, d0, s0⟩ := conv_any (P := Try.prog) 22 94 h hh Try.underlying22 Try.underlying94
  obtain ⟨z1, f1, c1, d1, s1⟩ := conv_any (P := Try.prog) 22 94 v hv Try.underlying22 Try.underlying94
  have S0 := hid s0
  have S1 := hid s1
  have D0 := hid d0
  have D1 := hid d1
  have k0 : Hid (Kept w [(w.heap.size + 1, #[.float .f32 h, .float .f32 v], 32), (w.heap.size, #[.float .f32 h, .float .f32 v], 32)] ((w.alloc (.cells #[.float .f32 h, .float .f32 v] 32)).alloc (.cells #[.float .f32 h, .float .f32 v] 32))) := hid ((((Kept.nil w).push _ _).push _ _).sub (by simp))
  have k2 := hid (kept_wf (kept_wf k0.out (D0.out _)) (D0.out _))
  have e0 : (f0 (f0 ((w.alloc (.cells #[.float .f32 h, .float .f32 v] 32)).alloc (.cells #[.float .f32 h, .float .f32 v] 32)))).cell? ⟨w.heap.size, 1, none⟩ = some (.float .f32 v) := (cell_of_row _ (w.heap.size) 1 _ _ _ (k2.out.at (x := (w.heap.size, #[.float .f32 h, .float .f32 v], 32)) (by simp))).trans rfl
  have e1 : (f0 ((w.alloc (.cells #[.float .f32 h, .float .f32 v] 32)).alloc (.cells #[.float .f32 h, .float .f32 v] 32))).cell? ⟨w.heap.size + 1, 0, none⟩ = some (.float .f32 h) := (cell_of_row _ (w.heap.size + 1) 0 _ _ _ ((kept_wf k0.out (D0.out _)).at (x := (w.heap.size + 1, #[.float .f32 h, .float .f32 v], 32)) (by simp))).trans rfl
  have e2 : (f1 (f0 (f0 ((w.alloc (.cells #[.float .f32 h, .float .f32 v] 32)).alloc (.cells #[.float .f32 h, .float .f32 v] 32))))).cell? ⟨w.heap.size + 1, 1, none⟩ = some (.float .f32 v) := (cell_of_row _ (w.heap.size + 1) 1 _ _ _ ((kept_wf k2.out (D1.out _)).at (x := (w.heap.size + 1, #[.float .f32 h, .float .f32 v], 32)) (by simp))).trans rfl
  clear hh hv s0 s1 d0 d1
  go_enter Try.func22, Try.ntmps22
  go_wp2_with fail
  refine (sameFloat2 _ _ (S0.out _ _) _).mono ?_
  rintro e w1 ⟨rfl, rfl⟩
  go_wp2_with fail
  refine (sameFloat2 _ _ (S1.out _ _) _).mono ?_
  rintro e w1 ⟨rfl, rfl⟩
  go_wp2
  go_ret
  exact ⟨rfl, (kept_wf (kept_wf k2.out (D1.out _)) (D1.out _)).1⟩

set_option maxRecDepth 100000 in
theorem eqLevel_any (a h v : Nat) (ha : a < 4294967296) (hh : h < 4294967296) (hv : v < 4294967296) (w : World) :
    Calls Try.prog 98 #[.agg #[.float .f32 a, .float .f32 h, .float .f32 v], .agg #[.float .f32 a, .float .f32 h, .float .f32 v]] w fun e w' => e = .returned (.bool true) ∧ Below w.heap.size w w' := by
  obtain ⟨z0, f0, c0, d0, s0⟩ := conv_any (P := Try.prog) 22 94 a ha Try.underlying22 Try.underlying94
  have S0 := hid s0
  have D0 := hid d0
  have Hh := hid hh
  have Hv := hid hv
  have k0 : Hid (Kept w [(w.heap.size + 1, #[.float .f32 a, .float .f32 h, .float .f32 v], 153), (w.heap.size, #[.float .f32 a, .float .f32 h, .float .f32 v], 153)] ((w.alloc (.cells #[.float .f32 a, .float .f32 h, .float .f32 v] 153)).alloc (.cells #[.float .f32 a, .float .f32 h, .float .f32 v] 153))) := hid ((((Kept.nil w).push _ _).push _ _).sub (by simp))
  have k2 := hid (kept_wf (kept_wf k0.out (D0.out _)) (D0.out _))
  have e1 : (f0 ((w.alloc (.cells #[.float .f32 a, .float .f32 h, .float .f32 v] 153)).alloc (.cells #[.float .f32 a, .float .f32 h, .float .f32 v] 153))).cell? ⟨w.heap.size + 1, 0, none⟩ = some (.float .f32 a) := (cell_of_row _ (w.heap.size + 1) 0 _ _ _ ((kept_wf k0.out (D0.out _)).at (x := (w.heap.size + 1, #[.float .f32 a, .float .f32 h, .float .f32 v], 153)) (by simp))).trans rfl
  have A0 : Hid (parAt (f0 (f0 ((w.alloc (.cells #[.float .f32 a, .float .f32 h, .float .f32 v] 153)).alloc (.cells #[.float .f32 a, .float .f32 h, .float .f32 v] 153)))) w.heap.size a h v 153) := hid (k2.out.at (x := (w.heap.size, _, _)) (by simp))
  have A1 : Hid (parAt (f0 (f0 ((w.alloc (.cells #[.float .f32 a, .float .f32 h, .float .f32 v] 153)).alloc (.cells #[.float .f32 a, .float .f32 h, .float .f32 v] 153)))) (w.heap.size + 1) a h v 153) := hid (k2.out.at (x := (w.heap.size + 1, _, _)) (by simp))
  clear ha hh hv s0 d0
  go_enter Try.func98, Try.ntmps98
  go_wp2_with fail
  refine (sameFloat2 _ _ (S0.out _ _) _).mono ?_
  rintro e w1 ⟨rfl, rfl⟩
  go_wp2_with (first | (refine wpList_load_air (by rfl) 32 _ rfl w.heap.size rfl a h v 153 A0.out _ Try.underlying32 rfl info_air ?_) | (refine wpList_load_air (by rfl) 32 _ rfl (w.heap.size + 1) rfl a h v 153 A1.out _ Try.underlying32 rfl info_air ?_))
  refine (eqAir_any h v Hh.out Hv.out _).mono ?_
  rintro e w2 ⟨rfl, hb2⟩
  go_wp2
  go_ret
  exact ⟨rfl, (k2.out.stay hb2).1⟩

set_option maxRecDepth 100000 in
theorem toLevel (a h v : Nat) (w : World) :
    Calls Try.prog 92 #[.agg #[.float .f32 a, .float .f32 h, .float .f32 v]] w fun e w' => e = .returned (.agg #[.float .f32 a, .float .f32 h, .float .f32 v]) ∧ Below w.heap.size w w' := by
  have k0 : Hid (Kept w [(w.heap.size + 1 + 1, #[.float .f32 a, .float .f32 0, .float .f32 0], 153), (w.heap.size + 1, #[.float .f32 0, .float .f32 0, .float .f32 0], 153)] (((w.alloc (.cells #[.float .f32 a, .float .f32 h, .float .f32 v] 155)).alloc (.cells #[.float .f32 0, .float .f32 0, .float .f32 0] 153)).alloc (.cells #[.float .f32 a, .float .f32 0, .float .f32 0] 153))) := hid (((((Kept.nil w).push _ _).push _ _).push _ _).sub (by simp))
  have A0 : Hid (parAt (((w.alloc (.cells #[.float .f32 a, .float .f32 h, .float .f32 v] 155)).alloc (.cells #[.float .f32 0, .float .f32 0, .float .f32 0] 153)).alloc (.cells #[.float .f32 a, .float .f32 0, .float .f32 0] 153)) w.heap.size a h v 155) := hid (((((Kept.nil w).push _ _).push _ _).push _ _).at (x := (w.heap.size, #[.float .f32 a, .float .f32 h, .float .f32 v], 155)) (by simp))
  go_enter Try.func92, Try.ntmps92
  go_wp2_with (refine wpList_load_air (by rfl) 26 _ rfl w.heap.size rfl a h v 155 A0.out _ Try.underlying26 rfl info_lair ?_)
  refine (toAir h v _).mono ?_
  rintro e w1 ⟨rfl, hb1⟩
  have k1 := hid (k0.out.stay hb1)
  clear k0 A0 hb1
  have tok1 : True := trivial
  go_wp2_with (first | (have _t := tok1; refine store_air (w0 := w) (l := [(w.heap.size + 1, #[.float .f32 0, .float .f32 0, .float .f32 0], 153)]) rfl 32 _ _ rfl (w.heap.size + 1 + 1) rfl h v rfl a 0 0 153 k1.out (by omega) (by simp) info_air ?_; intro w2 k2; have k2 := hid k2; clear tok1) | (have _t := k2; refine wpList_load_row rfl 153 _ rfl (w.heap.size + 1 + 1) rfl 153 (#[.float .f32 a, .float .f32 h, .float .f32 v]) (0, 0) _ (k2.out.at (x := (w.heap.size + 1 + 1, #[.float .f32 a, .float .f32 h, .float .f32 v], 153)) (by simp)) Try.underlying153 rfl (info_lev) ?_) | (have _t := k2; refine store_kept (w0 := w) (l := []) rfl 153 _ _ rfl (w.heap.size + 1) (#[.float .f32 a, .float .f32 h, .float .f32 v]) rfl rfl 153 (#[.float .f32 0, .float .f32 0, .float .f32 0]) (k2.out.sub (by simp)) (by omega) (by simp) (info_lev) (by simp) (by simp [Value.oneCell']) ?_; intro w3 k3; have k3 := hid k3))
  exact bodyPost_ret (results_cell_row rfl _ _ (w.heap.size + 1) 153 #[.float .f32 a, .float .f32 h, .float .f32 v] (0, 0) _ rfl (k3.out.at (x := (w.heap.size + 1, #[.float .f32 a, .float .f32 h, .float .f32 v], 153)) (by simp)) Try.underlying153 rfl info_lev) rfl ⟨rfl, k3.out.1⟩

theorem szLevels_ok (p : Option Addr) (n cap : Nat) (hn : n ≤ 1048576) (w : World) :
    Calls Try.prog 39 #[.slice p n cap, .int .i64 1048576] w fun e w' => e = .returned (.int .i64 (1048576 - (n : Int))) ∧ w = w' := by
  have h1 : IntKind.i64.wrap (1048576 - (n : Int)) = 1048576 - (n : Int) := by rw [IntKind.wrap_i64]; omega
  have h2 : ¬ (1048576 - (n : Int) < 0) := by omega
  go_enter Try.func39, Try.ntmps39
  go_wp2
  go_ret
  exact ⟨rfl, rfl⟩

theorem szLevels_no (p : Option Addr) (n cap : Nat) (hn : 1048576 < n) (hm : n ≤ maxLen) (w : World) :
    Calls Try.prog 39 #[.slice p n cap, .int .i64 1048576] w fun e w' => e = .returned (.int .i64 (-1)) ∧ w = w' := by
  have hm' : n ≤ 9223372036854775807 := hm
  have h1 : IntKind.i64.wrap (1048576 - (n : Int)) = 1048576 - (n : Int) := by rw [IntKind.wrap_i64]; omega
  have h2 : (1048576 - (n : Int) < 0) := by omega
  go_enter Try.func39, Try.ntmps39
  go_wp2
  go_ret
  exact ⟨rfl, rfl⟩

set_option maxRecDepth 100000 in
set_option maxHeartbeats 1000000 in
theorem toLevels (s : Value) (n : Nat) (x : Nat → Nat) (_hx : ∀ k, x k < 4294967296) (w : World) (hs : Rd w s n x) (hn : n ≤ 1048576) :
    Calls Try.prog 41 #[s] w fun e w' => ∃ g, e = .returned (.slice (some ⟨g, 0, none⟩) n n) ∧ Rd w' (.slice (some ⟨g, 0, none⟩) n n) n x ∧ Below w.heap.size w w' := by
  obtain ⟨p, cap, rfl, hc⟩ := hs
  have HC := hid hc
  have hmk := fun w => run_make3 (P := Try.prog) (t := 78) (e := 153) Try.underlying78 infoz_lev hn w
  have k0 : Hid (Kept w [(w.heap.size, vls (3 * n) (flw (part3 x 0)), 153)] (w.alloc (.cells (vls (3 * n) (flw fun _ => 0)) 153))) := hid (by rw [part3_zero]; exact (Kept.nil w).push _ _)
  clear hc
  go_enter Try.func41, Try.ntmps41
  go_wp2_with fail
  go_loopw [4] (fun i wr => ∃ k : Nat, k ≤ n ∧ i = .int .i64 k ∧ Hid (Kept w [(w.heap.size, vls (3 * n) (flw (part3 x k)), 153)] wr)) (fun i _ => n - (intOf i).toNat)
  case atStart => exact ⟨0, by omega, rfl, k0⟩
  case round =>
    obtain ⟨k, hk, rfl, h0⟩ := hrel
    clear k0 hmk
    by_cases hlt : k < n
    · have HK := hid hlt
      have hk3 : (k : Int) < (n : Int) := by omega
      obtain ⟨b, o, rfl, hcell⟩ := HC.out (by omega)
      have R1 := hid (fun wq (hb : Below w.heap.size w wq) => row3 (w := wq) (n := n) (x := x) (b := b) (o := o) (fun j hj => by have h1 := hcell j hj; rw [hb.cell (block_lt_of_cell h1)]; exact h1) HK.out)
      clear hcell
      have i1 := fun w => run_indexAt (P := Try.prog) (t := 76) (e := 155) Try.underlying76 info_llev (b := b) (o := o) (n := n) (cap := cap) (k := k) hlt w
      have i2 := fun w9 => run_indexAt (P := Try.prog) (t := 78) (e := 153) Try.underlying78 info_lev (b := w.heap.size) (o := 0) (n := n) (cap := n) (k := k) hlt w9
      simp only [Nat.zero_add] at i2
      go_wp2_with (refine wpList_load_mid rfl 155 _ rfl b (o + k * 3) rfl _ _ (R1.out _ h0.out.1) Try.underlying155 rfl info_llev ?_)
      refine (toLevel _ _ _ _).mono ?_
      rintro e w1 ⟨rfl, hb1⟩
      have h1 := hid (h0.out.stay hb1)
      have V1 : Hid (vAt w1 w.heap.size (3 * n) (flw (part3 x k)) 153) := hid (h1.out.at (x := (w.heap.size, vls (3 * n) (flw (part3 x k)), 153)) (by simp))
      clear i1
      go_wp2_with (refine wpList_store_mid rfl 153 _ _ rfl w.heap.size (k * 3) #[.float .f32 (x (k * 3)), .float .f32 (x (k * 3 + 1)), .float .f32 (x (k * 3 + 2))] rfl rfl (V1.out.there (k * 3) 3 (by have := HK.out; omega)) info_lev (by simp [Value.oneCell']) ?_)
      clear i2
      go_wp2
      go_roundw
      case rel => exact ⟨k + 1, by omega, by go_num, hid (by have h2 := h1.out.three (Nat.le_refl _) (by simp) (k * 3) (x (k * 3)) (x (k * 3 + 1)) (x (k * 3 + 2)); rw [part3_step] at h2; exact h2)⟩
      case measure => simp [intOf]; omega
    · obtain rfl : k = n := by omega
      go_wp2
      go_ret
      exact ⟨w.heap.size, rfl, Rd.of_vAt (vAt.part (T := 153) (k := k) (h0.out.at (x := (w.heap.size, vls (3 * k) (flw (part3 x k)), 153)) (by simp)) (Nat.le_refl _)) (Nat.le_refl _) _, h0.out.1⟩

set_option maxRecDepth 100000 in
set_option maxHeartbeats 1000000 in
theorem eqLevels (s t : Value) (n : Nat) (x : Nat → Nat) (hx : ∀ k, x k < 4294967296) (w : World) (hs : Rd w s n x) (ht : Rd w t n x) (hn : n ≤ 1048576) :
    Calls Try.prog 43 #[s, t] w fun e w' => e = .returned (.bool true) ∧ Below w.heap.size w w' := by
  obtain ⟨p, cap, rfl, hc⟩ := hs
  obtain ⟨p', cap', rfl, hc'⟩ := ht
  have HC := hid hc
  have HC' := hid hc'
  have HX := hid hx
  clear hc hc' hx
  go_enter Try.func43, Try.ntmps43
  go_wp2_with fail
  go_loopw [5] (fun i wr => ∃ k : Nat, k ≤ n ∧ i = .int .i64 k ∧ Hid (Kept w [] wr)) (fun i _ => n - (intOf i).toNat)
  case atStart => exact ⟨0, by omega, rfl, hid (Kept.nil w)⟩
  case round =>
    obtain ⟨k, hk, rfl, h0⟩ := hrel
    by_cases hlt : k < n
    · have HK := hid hlt
      have hk3 : (k : Int) < (n : Int) := by omega
      obtain ⟨b, o, rfl, hcell⟩ := HC.out (by omega)
      obtain ⟨b', o', rfl, hcell'⟩ := HC'.out (by omega)
      have R1 := hid (fun wq (hb : Below w.heap.size w wq) => row3 (w := wq) (n := n) (x := x) (b := b) (o := o) (fun j hj => by have h1 := hcell j hj; rw [hb.cell (block_lt_of_cell h1)]; exact h1) HK.out)
      have R2 := hid (fun wq (hb : Below w.heap.size w wq) => row3 (w := wq) (n := n) (x := x) (b := b') (o := o') (fun j hj => by have h1 := hcell' j hj; rw [hb.cell (block_lt_of_cell h1)]; exact h1) HK.out)
      clear hcell hcell'
      go_wp2_with fail
      refine region_kept (w0 := w) (l := []) 10 #[false, false, false, false, false, false, false, false, false, false] (by kernel_rfl) rfl rfl ?_
      have kd := h0.out.drew
      generalize World.drew _ = wd at kd ⊢
      refine take_val 0 _ _ (.slice (some ⟨b, o, none⟩) n cap) rfl (by rfl) (by kernel_rfl) (by kernel_rfl) (by kernel_rfl) (fun w => by rfl) rfl rfl kd ?_
      simp only [Act.put, List.setIfInBounds_toArray, List.set_cons_zero, List.set_cons_succ]
      refine take_val 1 _ _ (.int .i64 (k : Int)) rfl (by rfl) (by kernel_rfl) (by kernel_rfl) (by kernel_rfl) (fun w => by rfl) rfl rfl kd ?_
      simp only [Act.put, List.setIfInBounds_toArray, List.set_cons_zero, List.set_cons_succ]
      refine take_val 2 _ _ (.pointer (some ⟨b, o + k * 3, none⟩)) rfl (by rfl) (by kernel_rfl) (by kernel_rfl) (by kernel_rfl) (fun w => run_index_op _ _ rfl rfl (run_indexAt Try.underlying78 info_lev HK.out w)) rfl rfl kd ?_
      simp only [Act.put, List.setIfInBounds_toArray, List.set_cons_zero, List.set_cons_succ]
      refine take_cell 3 _ _ (.agg #[.float .f32 (x (k * 3)), .float .f32 (x (k * 3 + 1)), .float .f32 (x (k * 3 + 2))]) rfl (by rfl) (by kernel_rfl) (by kernel_rfl) (by kernel_rfl) (fun wq hS => run_load_mid 153 _ b (o + k * 3) [.float .f32 (x (k * 3)), .float .f32 (x (k * 3 + 1)), .float .f32 (x (k * 3 + 2))] rfl (R1.out _ hS.1) _ Try.underlying153 rfl info_lev) rfl rfl kd ?_
      simp only [Act.put, List.setIfInBounds_toArray, List.set_cons_zero, List.set_cons_succ]
      refine take_val 4 _ _ (.slice (some ⟨b', o', none⟩) n cap') rfl (by rfl) (by kernel_rfl) (by kernel_rfl) (by kernel_rfl) (fun w => by rfl) rfl rfl kd ?_
      simp only [Act.put, List.setIfInBounds_toArray, List.set_cons_zero, List.set_cons_succ]
      refine take_val 5 _ _ (.int .i64 (k : Int)) rfl (by rfl) (by kernel_rfl) (by kernel_rfl) (by kernel_rfl) (fun w => by rfl) rfl rfl kd ?_
      simp only [Act.put, List.setIfInBounds_toArray, List.set_cons_zero, List.set_cons_succ]
      refine take_val 6 _ _ (.pointer (some ⟨b', o' + k * 3, none⟩)) rfl (by rfl) (by kernel_rfl) (by kernel_rfl) (by kernel_rfl) (fun w => run_index_op _ _ rfl rfl (run_indexAt Try.underlying78 info_lev HK.out w)) rfl rfl kd ?_
      simp only [Act.put, List.setIfInBounds_toArray, List.set_cons_zero, List.set_cons_succ]
      refine take_cell 7 _ _ (.agg #[.float .f32 (x (k * 3)), .float .f32 (x (k * 3 + 1)), .float .f32 (x (k * 3 + 2))]) rfl (by rfl) (by kernel_rfl) (by kernel_rfl) (by kernel_rfl) (fun wq hS => run_load_mid 153 _ b' (o' + k * 3) [.float .f32 (x (k * 3)), .float .f32 (x (k * 3 + 1)), .float .f32 (x (k * 3 + 2))] rfl (R2.out _ hS.1) _ Try.underlying153 rfl info_lev) rfl rfl kd ?_
      simp only [Act.put, List.setIfInBounds_toArray, List.set_cons_zero, List.set_cons_succ]
      refine wpAnyH_ready (rs := [8]) (by kernel_rfl) (by simp) ?_
      refine callK 8 _ _ (.bool true) kd rfl (by rfl) 98 #[.agg #[.float .f32 (x (k * 3)), .float .f32 (x (k * 3 + 1)), .float .f32 (x (k * 3 + 2))], .agg #[.float .f32 (x (k * 3)), .float .f32 (x (k * 3 + 1)), .float .f32 (x (k * 3 + 2))]] (fun w => by unfold execOp; go_simp) rfl rfl ?hc1 (fun w1 k1 => ?_) AllReadyH.nil
      case hc1 => exact eqLevel_any _ _ _ (HX.out _) (HX.out _) (HX.out _) _
      refine ⟨k1, ?_⟩
      simp only [Act.put, List.setIfInBounds_toArray, List.set_cons_zero, List.set_cons_succ]
      refine take_val 9 _ _ (.bool false) rfl (by rfl) (by kernel_rfl) (by kernel_rfl) (by kernel_rfl) (fun w => by unfold execOp; go_simp) rfl rfl k1 ?_
      simp only [Act.put, List.setIfInBounds_toArray, List.set_cons_zero, List.set_cons_succ]
      refine wpAnyH_done (by kernel_rfl) (NoPanic.normal ?_) _
      go_wp2
      go_roundw
      case rel => exact ⟨k + 1, by omega, by go_num, hid k1⟩
      case measure => simp [intOf]; omega
    · obtain rfl : k = n := by omega
      go_wp2
      go_ret
      exact ⟨rfl, h0.out.1⟩

@[go_sem] theorem semAtSome (l : Nat) (ρ : Operand → Value) (o : Oper) (h : ∀ c, o.op ≠ .defer c) : Oper.semAt (some l) ρ o = execOp ρ o := Oper.semAt_some l ρ o h

def encL (x : Nat → Nat) (k : Nat) : Array Value := #[.int .i64 (k : Int), .agg #[.float .f32 (x (k * 3)), .float .f32 (x (k * 3 + 1)), .float .f32 (x (k * 3 + 2)), .float .f32 (x ((k + 1) * 3)), .float .f32 (x ((k + 1) * 3 + 1)), .float .f32 (x ((k + 1) * 3 + 2))]]

theorem iNeighbours (p : Option Addr) (n cap : Nat) (w : World) :
    Calls Try.prog 140 #[.slice p n cap] w fun e w' => e = .returned (.func (.func 170) #[] #[.pointer (some ⟨w.heap.size, 0, none⟩)]) ∧ w' = w.alloc (.cells #[.slice p n cap] 78) := by
  have hmf : ∀ (fn : Fn) (first cap : Array Value) (w : World), (Instr.makeFunc fn first cap).run Try.prog w = .ok (.func fn first cap) w := fun _ _ _ _ => rfl
  go_enter Try.func140, Try.ntmps140
  go_wp2
  go_ret
  exact ⟨rfl, rfl⟩

set_option maxRecDepth 100000 in
set_option maxHeartbeats 4000000 in
theorem neighbours1_in (m : Nat) (l Bs n0 : Nat) (p : Option Addr) (n cap : Nat) (x : Nat → Nat) (hn : n ≤ 1048576) (J Jx : List (Fin (n - 1)) → World → Prop) (hAb : ∀ pre W, J pre W → J pre W.drew)
    (hY : ∀ pre (k : Fin (n - 1)) W, J pre W → pre.length < n - 1 → YieldAt Fence.wide (m - 1) Try.prog l (encL x k.1) W fun e W' =>
      (e = .returned (.bool true) ∧ J (pre ++ [k]) W' ∧ Below n0 W W') ∨ (e = .returned (.bool false) ∧ Jx (pre ++ [k]) W'))
    (W : World) (hB : Bs < n0) (hBs : W.cell? ⟨Bs, 0, none⟩ = some (.slice p n cap))
    (hc : 0 < n → ∃ b o, p = some ⟨b, o, none⟩ ∧ b < n0 ∧ ∀ k, k < 3 * n → W.cell? ⟨b, o + k, none⟩ = some (.float .f32 (x k))) (h0 : J [] W) :
    CallsIn Fence.wide m Try.prog 170 #[.func (.yield l) #[] #[], .pointer (some ⟨Bs, 0, none⟩)] W fun e W' => (∃ v, e = .returned v) ∧
      ((∃ ys, ys = List.finRange (n - 1) ∧ J ys W') ∨ (∃ pre, pre <+: List.finRange (n - 1) ∧ Jx pre W')) := by
  refine callsIn_of_wp Try.func170 rfl trivial ?_ rfl
  simp only [Try.ntmps170, List.size_toArray, List.length_cons, List.length_nil, Nat.reduceAdd, Nat.reduceSub, Array.replicate_succ, Array.replicate_zero, List.push_toArray, List.append_toArray, List.nil_append, List.cons_append]
  have HC := hid hc
  have HY := hid hY
  have HBS := hid hBs
  clear hc hY hBs
  gi_wp2
  gi_loopw [3] (fun i wr => ∃ k : Nat, k ≤ n - 1 ∧ i = .int .i64 ((k : Int) + 1) ∧ J ((List.finRange (n - 1)).take k) wr ∧ Hid (Below n0 W wr))
    (fun i _ => n - (intOf i).toNat)
  case atStart => exact ⟨0, Nat.zero_le _, rfl, h0, hid (Below.refl _ _)⟩
  case round =>
    obtain ⟨k, hk, rfl, hJs, hnx⟩ := hrel
    have hbx := hid ((hnx.out.cell (p := ⟨Bs, 0, none⟩) hB).trans HBS.out)
    have hbx' := hbx.out
    by_cases hlt : k + 1 < n
    · have HL := hid hlt
      have HN : Hid (k ≤ 1048576) := hid (by omega)
      obtain ⟨b, o, rfl, hb, hcell⟩ := HC.out (by omega)
      have hcw : ∀ j, j < 3 * n → wr.cell? ⟨b, o + j, none⟩ = some (.float .f32 (x j)) := fun j hj => (hnx.out.cell (p := ⟨b, o + j, none⟩) hb).trans (hcell j hj)
      have R0 := hid (row3 hcw (i := k) (by omega))
      have R1 := hid (row3 hcw (i := k + 1) hlt)
      obtain ⟨fn, tmps, assign, body, hy, hR⟩ := HY.out _ ⟨k, by omega⟩ wr.drew (hAb _ wr hJs) (by simp; omega)
      have hy := hid (show (Instr.yield l #[.int .i64 (k : Int), .agg #[.float .f32 (x (k * 3)), .float .f32 (x (k * 3 + 1)), .float .f32 (x (k * 3 + 2)), .float .f32 (x ((k + 1) * 3)), .float .f32 (x ((k + 1) * 3 + 1)), .float .f32 (x ((k + 1) * 3 + 2))]]).run Try.prog wr.drew = _ from hy)
      have hR := hid hR
      clear hcell hcw
      have hk3 : (k : Int) + 1 < (n : Int) := by omega
      gi_wp2
      clear hbx'
      refine regionIn_any 15 #[false, false, false, false, false, false, false, false, false, false, false, false, false, false, false] (by kernel_rfl) rfl rfl ?_
      refine takeIn 0 _ _ (.func (.yield l) #[] #[]) rfl rfl (by rfl) (by kernel_rfl) (by kernel_rfl) (by kernel_rfl) (fun w => by rfl) (fun _ => rfl) rfl rfl ?_
      simp only [Act.put, List.setIfInBounds_toArray, List.set_cons_zero, List.set_cons_succ]
      refine takeIn 1 _ _ (.int .i64 ((k : Int) + 1)) rfl rfl (by rfl) (by kernel_rfl) (by kernel_rfl) (by kernel_rfl) (fun w => by rfl) (fun _ => rfl) rfl rfl ?_
      simp only [Act.put, List.setIfInBounds_toArray, List.set_cons_zero, List.set_cons_succ]
      refine takeIn 2 _ _ (.int .i64 (k : Int)) rfl rfl (by rfl) (by kernel_rfl) (by kernel_rfl) (by kernel_rfl) (fun w => run_binop_val _ _ _ _ (by rfl) (by rfl) (by simp [eqGuard]) (run_pred HN.out w)) (fun _ => rfl) rfl rfl ?_
      simp only [Act.put, List.setIfInBounds_toArray, List.set_cons_zero, List.set_cons_succ]
      refine takeIn 4 _ _ (.int .i64 ((k : Int) + 1)) rfl rfl (by rfl) (by kernel_rfl) (by kernel_rfl) (by kernel_rfl) (fun w => by rfl) (fun _ => rfl) rfl rfl ?_
      simp only [Act.put, List.setIfInBounds_toArray, List.set_cons_zero, List.set_cons_succ]
      refine takeIn 5 _ _ (.int .i64 (k : Int)) rfl rfl (by rfl) (by kernel_rfl) (by kernel_rfl) (by kernel_rfl) (fun w => run_binop_val _ _ _ _ (by rfl) (by rfl) (by simp [eqGuard]) (run_pred HN.out w)) (fun _ => rfl) rfl rfl ?_
      simp only [Act.put, List.setIfInBounds_toArray, List.set_cons_zero, List.set_cons_succ]
      refine takeIn 9 _ _ (.int .i64 ((k : Int) + 1)) rfl rfl (by rfl) (by kernel_rfl) (by kernel_rfl) (by kernel_rfl) (fun w => by rfl) (fun _ => rfl) rfl rfl ?_
      simp only [Act.put, List.setIfInBounds_toArray, List.set_cons_zero, List.set_cons_succ]
      refine wpAnyIn_ready (rs := [3, 8]) (by kernel_rfl) (by simp) ?_
      refine readIn 3 _ _ (.slice (some ⟨b, o, none⟩) n cap) rfl rfl (by rfl) (run_load_cell _ _ ⟨Bs, 0, none⟩ _ rfl (run_loadVar_one Try.underlying78 rfl hbx.out)) rfl rfl rfl ?_ ?_
      · simp only [Act.put, List.setIfInBounds_toArray, List.set_cons_zero, List.set_cons_succ]
        refine takeIn 6 _ _ (.pointer (some ⟨b, o + k * 3, none⟩)) rfl rfl (by rfl) (by kernel_rfl) (by kernel_rfl) (by kernel_rfl) (fun w => run_index_op _ _ rfl rfl (run_indexAt Try.underlying78 info_lev (by have := HL.out; omega) w)) (fun _ => rfl) rfl rfl ?_
        simp only [Act.put, List.setIfInBounds_toArray, List.set_cons_zero, List.set_cons_succ]
        refine wpAnyIn_ready (rs := [7, 8]) (by kernel_rfl) (by simp) ?_
        refine readIn 7 _ _ (.agg #[.float .f32 (x (k * 3)), .float .f32 (x (k * 3 + 1)), .float .f32 (x (k * 3 + 2))]) rfl rfl (by rfl) (run_load_mid 153 _ b (o + k * 3) [.float .f32 (x (k * 3)), .float .f32 (x (k * 3 + 1)), .float .f32 (x (k * 3 + 2))] rfl (R0.out) _ Try.underlying153 rfl info_lev) rfl rfl rfl ?_ ?_
        · simp only [Act.put, List.setIfInBounds_toArray, List.set_cons_zero, List.set_cons_succ]
          refine wpAnyIn_ready (rs := [8]) (by kernel_rfl) (by simp) ?_
          refine readIn 8 _ _ (.slice (some ⟨b, o, none⟩) n cap) rfl rfl (by rfl) (run_load_cell _ _ ⟨Bs, 0, none⟩ _ rfl (run_loadVar_one Try.underlying78 rfl hbx.out)) rfl rfl rfl ?_ AllReadyIn.nil
          simp only [Act.put, List.setIfInBounds_toArray, List.set_cons_zero, List.set_cons_succ]
          refine takeIn 10 _ _ (.pointer (some ⟨b, o + (k + 1) * 3, none⟩)) rfl rfl (by rfl) (by kernel_rfl) (by kernel_rfl) (by kernel_rfl) (fun w => run_index_op _ _ rfl rfl (run_indexAt Try.underlying78 info_lev (by have := HL.out; omega) w)) (fun _ => rfl) rfl rfl ?_
          simp only [Act.put, List.setIfInBounds_toArray, List.set_cons_zero, List.set_cons_succ]
          refine wpAnyIn_ready (rs := [11]) (by kernel_rfl) (by simp) ?_
          refine readIn 11 _ _ (.agg #[.float .f32 (x ((k + 1) * 3)), .float .f32 (x ((k + 1) * 3 + 1)), .float .f32 (x ((k + 1) * 3 + 2))]) rfl rfl (by rfl) (run_load_mid 153 _ b (o + (k + 1) * 3) [.float .f32 (x ((k + 1) * 3)), .float .f32 (x ((k + 1) * 3 + 1)), .float .f32 (x ((k + 1) * 3 + 2))] rfl (R1.out) _ Try.underlying153 rfl info_lev) rfl rfl rfl ?_ AllReadyIn.nil
          simp only [Act.put, List.setIfInBounds_toArray, List.set_cons_zero, List.set_cons_succ]
          refine takeIn 12 _ _ (.agg #[.float .f32 (x (k * 3)), .float .f32 (x (k * 3 + 1)), .float .f32 (x (k * 3 + 2)), .float .f32 (x ((k + 1) * 3)), .float .f32 (x ((k + 1) * 3 + 1)), .float .f32 (x ((k + 1) * 3 + 2))]) rfl rfl (by rfl) (by kernel_rfl) (by kernel_rfl) (by kernel_rfl) (fun w => by unfold execOp; go_simp) (fun _ => rfl) rfl rfl ?_
          simp only [Act.put, List.setIfInBounds_toArray, List.set_cons_zero, List.set_cons_succ]
          refine wpAnyIn_ready (rs := [13]) (by kernel_rfl) (by simp) ?_
          refine yieldIn (F := Fence.wide) (l := l) (fn := fn) (tmps := tmps) (assign := assign) (body := body) 13 rfl rfl (by rfl) (by have hy2 := hy.out; unfold execOp; go_simp) (fun _ _ => True.intro) (fun h => by cases h) hR.out (fun e W3 hr => ?_) AllReadyIn.nil
          rcases hr with ⟨rfl, hJ3, hk3⟩ | ⟨rfl, hJx3⟩
          · refine ⟨.bool true, rfl, ?_⟩
            simp only [Act.put, List.setIfInBounds_toArray, List.set_cons_zero, List.set_cons_succ]
            refine takeIn 14 _ _ (.bool false) rfl rfl (by rfl) (by kernel_rfl) (by kernel_rfl) (by kernel_rfl) (fun w => by unfold execOp; go_simp) (fun _ => rfl) rfl rfl ?_
            simp only [Act.put, List.setIfInBounds_toArray, List.set_cons_zero, List.set_cons_succ]
            refine wpAnyIn_done (by kernel_rfl) (NoPanic.normal ?_) _
            gi_wp2
            go_roundw
            case rel => exact ⟨k + 1, by omega, by go_num, by rw [take_fin (m := n - 1) (k := k) (by omega)]; exact hJ3, hid (hnx.out.drew.trans hk3)⟩
            case measure => simp [intOf]; omega
          · refine ⟨.bool false, rfl, ?_⟩
            simp only [Act.put, List.setIfInBounds_toArray, List.set_cons_zero, List.set_cons_succ]
            refine takeIn 14 _ _ (.bool true) rfl rfl (by rfl) (by kernel_rfl) (by kernel_rfl) (by kernel_rfl) (fun w => by unfold execOp; go_simp) (fun _ => rfl) rfl rfl ?_
            simp only [Act.put, List.setIfInBounds_toArray, List.set_cons_zero, List.set_cons_succ]
            refine wpAnyIn_done (by kernel_rfl) (NoPanic.normal ?_) _
            gi_wp2
            refine bodyPost_ret (results_none rfl _ _ _) rfl ?_
            exact ⟨⟨_, rfl⟩, .inr ⟨_, by rw [← take_fin (m := n - 1) (k := k) (by omega)]; exact List.take_prefix _ _, hJx3⟩⟩
        refine readIn 8 _ _ (.slice (some ⟨b, o, none⟩) n cap) rfl rfl (by rfl) (run_load_cell _ _ ⟨Bs, 0, none⟩ _ rfl (run_loadVar_one Try.underlying78 rfl hbx.out)) rfl rfl rfl ?_ AllReadyIn.nil
        simp only [Act.put, List.setIfInBounds_toArray, List.set_cons_zero, List.set_cons_succ]
        refine takeIn 10 _ _ (.pointer (some ⟨b, o + (k + 1) * 3, none⟩)) rfl rfl (by rfl) (by kernel_rfl) (by kernel_rfl) (by kernel_rfl) (fun w => run_index_op _ _ rfl rfl (run_indexAt Try.underlying78 info_lev (by have := HL.out; omega) w)) (fun _ => rfl) rfl rfl ?_
        simp only [Act.put, List.setIfInBounds_toArray, List.set_cons_zero, List.set_cons_succ]
        refine wpAnyIn_ready (rs := [7, 11]) (by kernel_rfl) (by simp) ?_
        refine readIn 7 _ _ (.agg #[.float .f32 (x (k * 3)), .float .f32 (x (k * 3 + 1)), .float .f32 (x (k * 3 + 2))]) rfl rfl (by rfl) (run_load_mid 153 _ b (o + k * 3) [.float .f32 (x (k * 3)), .float .f32 (x (k * 3 + 1)), .float .f32 (x (k * 3 + 2))] rfl (R0.out) _ Try.underlying153 rfl info_lev) rfl rfl rfl ?_ ?_
        · simp only [Act.put, List.setIfInBounds_toArray, List.set_cons_zero, List.set_cons_succ]
          refine wpAnyIn_ready (rs := [11]) (by kernel_rfl) (by simp) ?_
          refine readIn 11 _ _ (.agg #[.float .f32 (x ((k + 1) * 3)), .float .f32 (x ((k + 1) * 3 + 1)), .float .f32 (x ((k + 1) * 3 + 2))]) rfl rfl (by rfl) (run_load_mid 153 _ b (o + (k + 1) * 3) [.float .f32 (x ((k + 1) * 3)), .float .f32 (x ((k + 1) * 3 + 1)), .float .f32 (x ((k + 1) * 3 + 2))] rfl (R1.out) _ Try.underlying153 rfl info_lev) rfl rfl rfl ?_ AllReadyIn.nil
          simp only [Act.put, List.setIfInBounds_toArray, List.set_cons_zero, List.set_cons_succ]
          refine takeIn 12 _ _ (.agg #[.float .f32 (x (k * 3)), .float .f32 (x (k * 3 + 1)), .float .f32 (x (k * 3 + 2)), .float .f32 (x ((k + 1) * 3)), .float .f32 (x ((k + 1) * 3 + 1)), .float .f32 (x ((k + 1) * 3 + 2))]) rfl rfl (by rfl) (by kernel_rfl) (by kernel_rfl) (by kernel_rfl) (fun w => by unfold execOp; go_simp) (fun _ => rfl) rfl rfl ?_
          simp only [Act.put, List.setIfInBounds_toArray, List.set_cons_zero, List.set_cons_succ]
          refine wpAnyIn_ready (rs := [13]) (by kernel_rfl) (by simp) ?_
          refine yieldIn (F := Fence.wide) (l := l) (fn := fn) (tmps := tmps) (assign := assign) (body := body) 13 rfl rfl (by rfl) (by have hy2 := hy.out; unfold execOp; go_simp) (fun _ _ => True.intro) (fun h => by cases h) hR.out (fun e W3 hr => ?_) AllReadyIn.nil
          rcases hr with ⟨rfl, hJ3, hk3⟩ | ⟨rfl, hJx3⟩
          · refine ⟨.bool true, rfl, ?_⟩
            simp only [Act.put, List.setIfInBounds_toArray, List.set_cons_zero, List.set_cons_succ]
            refine takeIn 14 _ _ (.bool false) rfl rfl (by rfl) (by kernel_rfl) (by kernel_rfl) (by kernel_rfl) (fun w => by unfold execOp; go_simp) (fun _ => rfl) rfl rfl ?_
            simp only [Act.put, List.setIfInBounds_toArray, List.set_cons_zero, List.set_cons_succ]
            refine wpAnyIn_done (by kernel_rfl) (NoPanic.normal ?_) _
            gi_wp2
            go_roundw
            case rel => exact ⟨k + 1, by omega, by go_num, by rw [take_fin (m := n - 1) (k := k) (by omega)]; exact hJ3, hid (hnx.out.drew.trans hk3)⟩
            case measure => simp [intOf]; omega
          · refine ⟨.bool false, rfl, ?_⟩
            simp only [Act.put, List.setIfInBounds_toArray, List.set_cons_zero, List.set_cons_succ]
            refine takeIn 14 _ _ (.bool true) rfl rfl (by rfl) (by kernel_rfl) (by kernel_rfl) (by kernel_rfl) (fun w => by unfold execOp; go_simp) (fun _ => rfl) rfl rfl ?_
            simp only [Act.put, List.setIfInBounds_toArray, List.set_cons_zero, List.set_cons_succ]
            refine wpAnyIn_done (by kernel_rfl) (NoPanic.normal ?_) _
            gi_wp2
            refine bodyPost_ret (results_none rfl _ _ _) rfl ?_
            exact ⟨⟨_, rfl⟩, .inr ⟨_, by rw [← take_fin (m := n - 1) (k := k) (by omega)]; exact List.take_prefix _ _, hJx3⟩⟩
        refine readIn 11 _ _ (.agg #[.float .f32 (x ((k + 1) * 3)), .float .f32 (x ((k + 1) * 3 + 1)), .float .f32 (x ((k + 1) * 3 + 2))]) rfl rfl (by rfl) (run_load_mid 153 _ b (o + (k + 1) * 3) [.float .f32 (x ((k + 1) * 3)), .float .f32 (x ((k + 1) * 3 + 1)), .float .f32 (x ((k + 1) * 3 + 2))] rfl (R1.out) _ Try.underlying153 rfl info_lev) rfl rfl rfl ?_ AllReadyIn.nil
        simp only [Act.put, List.setIfInBounds_toArray, List.set_cons_zero, List.set_cons_succ]
        refine wpAnyIn_ready (rs := [7]) (by kernel_rfl) (by simp) ?_
        refine readIn 7 _ _ (.agg #[.float .f32 (x (k * 3)), .float .f32 (x (k * 3 + 1)), .float .f32 (x (k * 3 + 2))]) rfl rfl (by rfl) (run_load_mid 153 _ b (o + k * 3) [.float .f32 (x (k * 3)), .float .f32 (x (k * 3 + 1)), .float .f32 (x (k * 3 + 2))] rfl (R0.out) _ Try.underlying153 rfl info_lev) rfl rfl rfl ?_ AllReadyIn.nil
        simp only [Act.put, List.setIfInBounds_toArray, List.set_cons_zero, List.set_cons_succ]
        refine takeIn 12 _ _ (.agg #[.float .f32 (x (k * 3)), .float .f32 (x (k * 3 + 1)), .float .f32 (x (k * 3 + 2)), .float .f32 (x ((k + 1) * 3)), .float .f32 (x ((k + 1) * 3 + 1)), .float .f32 (x ((k + 1) * 3 + 2))]) rfl rfl (by rfl) (by kernel_rfl) (by kernel_rfl) (by kernel_rfl) (fun w => by unfold execOp; go_simp) (fun _ => rfl) rfl rfl ?_
        simp only [Act.put, List.setIfInBounds_toArray, List.set_cons_zero, List.set_cons_succ]
        refine wpAnyIn_ready (rs := [13]) (by kernel_rfl) (by simp) ?_
        refine yieldIn (F := Fence.wide) (l := l) (fn := fn) (tmps := tmps) (assign := assign) (body := body) 13 rfl rfl (by rfl) (by have hy2 := hy.out; unfold execOp; go_simp) (fun _ _ => True.intro) (fun h => by cases h) hR.out (fun e W3 hr => ?_) AllReadyIn.nil
        rcases hr with ⟨rfl, hJ3, hk3⟩ | ⟨rfl, hJx3⟩
        · refine ⟨.bool true, rfl, ?_⟩
          simp only [Act.put, List.setIfInBounds_toArray, List.set_cons_zero, List.set_cons_succ]
          refine takeIn 14 _ _ (.bool false) rfl rfl (by rfl) (by kernel_rfl) (by kernel_rfl) (by kernel_rfl) (fun w => by unfold execOp; go_simp) (fun _ => rfl) rfl rfl ?_
          simp only [Act.put, List.setIfInBounds_toArray, List.set_cons_zero, List.set_cons_succ]
          refine wpAnyIn_done (by kernel_rfl) (NoPanic.normal ?_) _
          gi_wp2
          go_roundw
          case rel => exact ⟨k + 1, by omega, by go_num, by rw [take_fin (m := n - 1) (k := k) (by omega)]; exact hJ3, hid (hnx.out.drew.trans hk3)⟩
          case measure => simp [intOf]; omega
        · refine ⟨.bool false, rfl, ?_⟩
          simp only [Act.put, List.setIfInBounds_toArray, List.set_cons_zero, List.set_cons_succ]
          refine takeIn 14 _ _ (.bool true) rfl rfl (by rfl) (by kernel_rfl) (by kernel_rfl) (by kernel_rfl) (fun w => by unfold execOp; go_simp) (fun _ => rfl) rfl rfl ?_
          simp only [Act.put, List.setIfInBounds_toArray, List.set_cons_zero, List.set_cons_succ]
          refine wpAnyIn_done (by kernel_rfl) (NoPanic.normal ?_) _
          gi_wp2
          refine bodyPost_ret (results_none rfl _ _ _) rfl ?_
          exact ⟨⟨_, rfl⟩, .inr ⟨_, by rw [← take_fin (m := n - 1) (k := k) (by omega)]; exact List.take_prefix _ _, hJx3⟩⟩
      refine readIn 8 _ _ (.slice (some ⟨b, o, none⟩) n cap) rfl rfl (by rfl) (run_load_cell _ _ ⟨Bs, 0, none⟩ _ rfl (run_loadVar_one Try.underlying78 rfl hbx.out)) rfl rfl rfl ?_ AllReadyIn.nil
      simp only [Act.put, List.setIfInBounds_toArray, List.set_cons_zero, List.set_cons_succ]
      refine takeIn 10 _ _ (.pointer (some ⟨b, o + (k + 1) * 3, none⟩)) rfl rfl (by rfl) (by kernel_rfl) (by kernel_rfl) (by kernel_rfl) (fun w => run_index_op _ _ rfl rfl (run_indexAt Try.underlying78 info_lev (by have := HL.out; omega) w)) (fun _ => rfl) rfl rfl ?_
      simp only [Act.put, List.setIfInBounds_toArray, List.set_cons_zero, List.set_cons_succ]
      refine wpAnyIn_ready (rs := [3, 11]) (by kernel_rfl) (by simp) ?_
      refine readIn 3 _ _ (.slice (some ⟨b, o, none⟩) n cap) rfl rfl (by rfl) (run_load_cell _ _ ⟨Bs, 0, none⟩ _ rfl (run_loadVar_one Try.underlying78 rfl hbx.out)) rfl rfl rfl ?_ ?_
      · simp only [Act.put, List.setIfInBounds_toArray, List.set_cons_zero, List.set_cons_succ]
        refine takeIn 6 _ _ (.pointer (some ⟨b, o + k * 3, none⟩)) rfl rfl (by rfl) (by kernel_rfl) (by kernel_rfl) (by kernel_rfl) (fun w => run_index_op _ _ rfl rfl (run_indexAt Try.underlying78 info_lev (by have := HL.out; omega) w)) (fun _ => rfl) rfl rfl ?_
        simp only [Act.put, List.setIfInBounds_toArray, List.set_cons_zero, List.set_cons_succ]
        refine wpAnyIn_ready (rs := [7, 11]) (by kernel_rfl) (by simp) ?_
        refine readIn 7 _ _ (.agg #[.float .f32 (x (k * 3)), .float .f32 (x (k * 3 + 1)), .float .f32 (x (k * 3 + 2))]) rfl rfl (by rfl) (run_load_mid 153 _ b (o + k * 3) [.float .f32 (x (k * 3)), .float .f32 (x (k * 3 + 1)), .float .f32 (x (k * 3 + 2))] rfl (R0.out) _ Try.underlying153 rfl info_lev) rfl rfl rfl ?_ ?_
        · simp only [Act.put, List.setIfInBounds_toArray, List.set_cons_zero, List.set_cons_succ]
          refine wpAnyIn_ready (rs := [11]) (by kernel_rfl) (by simp) ?_
          refine readIn 11 _ _ (.agg #[.float .f32 (x ((k + 1) * 3)), .float .f32 (x ((k + 1) * 3 + 1)), .float .f32 (x ((k + 1) * 3 + 2))]) rfl rfl (by rfl) (run_load_mid 153 _ b (o + (k + 1) * 3) [.float .f32 (x ((k + 1) * 3)), .float .f32 (x ((k + 1) * 3 + 1)), .float .f32 (x ((k + 1) * 3 + 2))] rfl (R1.out) _ Try.underlying153 rfl info_lev) rfl rfl rfl ?_ AllReadyIn.nil
          simp only [Act.put, List.setIfInBounds_toArray, List.set_cons_zero, List.set_cons_succ]
          refine takeIn 12 _ _ (.agg #[.float .f32 (x (k * 3)), .float .f32 (x (k * 3 + 1)), .float .f32 (x (k * 3 + 2)), .float .f32 (x ((k + 1) * 3)), .float .f32 (x ((k + 1) * 3 + 1)), .float .f32 (x ((k + 1) * 3 + 2))]) rfl rfl (by rfl) (by kernel_rfl) (by kernel_rfl) (by kernel_rfl) (fun w => by unfold execOp; go_simp) (fun _ => rfl) rfl rfl ?_
          simp only [Act.put, List.setIfInBounds_toArray, List.set_cons_zero, List.set_cons_succ]
          refine wpAnyIn_ready (rs := [13]) (by kernel_rfl) (by simp) ?_
          refine yieldIn (F := Fence.wide) (l := l) (fn := fn) (tmps := tmps) (assign := assign) (body := body) 13 rfl rfl (by rfl) (by have hy2 := hy.out; unfold execOp; go_simp) (fun _ _ => True.intro) (fun h => by cases h) hR.out (fun e W3 hr => ?_) AllReadyIn.nil
          rcases hr with ⟨rfl, hJ3, hk3⟩ | ⟨rfl, hJx3⟩
          · refine ⟨.bool true, rfl, ?_⟩
            simp only [Act.put, List.setIfInBounds_toArray, List.set_cons_zero, List.set_cons_succ]
            refine takeIn 14 _ _ (.bool false) rfl rfl (by rfl) (by kernel_rfl) (by kernel_rfl) (by kernel_rfl) (fun w => by unfold execOp; go_simp) (fun _ => rfl) rfl rfl ?_
            simp only [Act.put, List.setIfInBounds_toArray, List.set_cons_zero, List.set_cons_succ]
            refine wpAnyIn_done (by kernel_rfl) (NoPanic.normal ?_) _
            gi_wp2
            go_roundw
            case rel => exact ⟨k + 1, by omega, by go_num, by rw [take_fin (m := n - 1) (k := k) (by omega)]; exact hJ3, hid (hnx.out.drew.trans hk3)⟩
            case measure => simp [intOf]; omega
          · refine ⟨.bool false, rfl, ?_⟩
            simp only [Act.put, List.setIfInBounds_toArray, List.set_cons_zero, List.set_cons_succ]
            refine takeIn 14 _ _ (.bool true) rfl rfl (by rfl) (by kernel_rfl) (by kernel_rfl) (by kernel_rfl) (fun w => by unfold execOp; go_simp) (fun _ => rfl) rfl rfl ?_
            simp only [Act.put, List.setIfInBounds_toArray, List.set_cons_zero, List.set_cons_succ]
            refine wpAnyIn_done (by kernel_rfl) (NoPanic.normal ?_) _
            gi_wp2
            refine bodyPost_ret (results_none rfl _ _ _) rfl ?_
            exact ⟨⟨_, rfl⟩, .inr ⟨_, by rw [← take_fin (m := n - 1) (k := k) (by omega)]; exact List.take_prefix _ _, hJx3⟩⟩
        refine readIn 11 _ _ (.agg #[.float .f32 (x ((k + 1) * 3)), .float .f32 (x ((k + 1) * 3 + 1)), .float .f32 (x ((k + 1) * 3 + 2))]) rfl rfl (by rfl) (run_load_mid 153 _ b (o + (k + 1) * 3) [.float .f32 (x ((k + 1) * 3)), .float .f32 (x ((k + 1) * 3 + 1)), .float .f32 (x ((k + 1) * 3 + 2))] rfl (R1.out) _ Try.underlying153 rfl info_lev) rfl rfl rfl ?_ AllReadyIn.nil
        simp only [Act.put, List.setIfInBounds_toArray, List.set_cons_zero, List.set_cons_succ]
        refine wpAnyIn_ready (rs := [7]) (by kernel_rfl) (by simp) ?_
        refine readIn 7 _ _ (.agg #[.float .f32 (x (k * 3)), .float .f32 (x (k * 3 + 1)), .float .f32 (x (k * 3 + 2))]) rfl rfl (by rfl) (run_load_mid 153 _ b (o + k * 3) [.float .f32 (x (k * 3)), .float .f32 (x (k * 3 + 1)), .float .f32 (x (k * 3 + 2))] rfl (R0.out) _ Try.underlying153 rfl info_lev) rfl rfl rfl ?_ AllReadyIn.nil
        simp only [Act.put, List.setIfInBounds_toArray, List.set_cons_zero, List.set_cons_succ]
        refine takeIn 12 _ _ (.agg #[.float .f32 (x (k * 3)), .float .f32 (x (k * 3 + 1)), .float .f32 (x (k * 3 + 2)), .float .f32 (x ((k + 1) * 3)), .float .f32 (x ((k + 1) * 3 + 1)), .float .f32 (x ((k + 1) * 3 + 2))]) rfl rfl (by rfl) (by kernel_rfl) (by kernel_rfl) (by kernel_rfl) (fun w => by unfold execOp; go_simp) (fun _ => rfl) rfl rfl ?_
        simp only [Act.put, List.setIfInBounds_toArray, List.set_cons_zero, List.set_cons_succ]
        refine wpAnyIn_ready (rs := [13]) (by kernel_rfl) (by simp) ?_
        refine yieldIn (F := Fence.wide) (l := l) (fn := fn) (tmps := tmps) (assign := assign) (body := body) 13 rfl rfl (by rfl) (by have hy2 := hy.out; unfold execOp; go_simp) (fun _ _ => True.intro) (fun h => by cases h) hR.out (fun e W3 hr => ?_) AllReadyIn.nil
        rcases hr with ⟨rfl, hJ3, hk3⟩ | ⟨rfl, hJx3⟩
        · refine ⟨.bool true, rfl, ?_⟩
          simp only [Act.put, List.setIfInBounds_toArray, List.set_cons_zero, List.set_cons_succ]
          refine takeIn 14 _ _ (.bool false) rfl rfl (by rfl) (by kernel_rfl) (by kernel_rfl) (by kernel_rfl) (fun w => by unfold execOp; go_simp) (fun _ => rfl) rfl rfl ?_
          simp only [Act.put, List.setIfInBounds_toArray, List.set_cons_zero, List.set_cons_succ]
          refine wpAnyIn_done (by kernel_rfl) (NoPanic.normal ?_) _
          gi_wp2
          go_roundw
          case rel => exact ⟨k + 1, by omega, by go_num, by rw [take_fin (m := n - 1) (k := k) (by omega)]; exact hJ3, hid (hnx.out.drew.trans hk3)⟩
          case measure => simp [intOf]; omega
        · refine ⟨.bool false, rfl, ?_⟩
          simp only [Act.put, List.setIfInBounds_toArray, List.set_cons_zero, List.set_cons_succ]
          refine takeIn 14 _ _ (.bool true) rfl rfl (by rfl) (by kernel_rfl) (by kernel_rfl) (by kernel_rfl) (fun w => by unfold execOp; go_simp) (fun _ => rfl) rfl rfl ?_
          simp only [Act.put, List.setIfInBounds_toArray, List.set_cons_zero, List.set_cons_succ]
          refine wpAnyIn_done (by kernel_rfl) (NoPanic.normal ?_) _
          gi_wp2
          refine bodyPost_ret (results_none rfl _ _ _) rfl ?_
          exact ⟨⟨_, rfl⟩, .inr ⟨_, by rw [← take_fin (m := n - 1) (k := k) (by omega)]; exact List.take_prefix _ _, hJx3⟩⟩
      refine readIn 11 _ _ (.agg #[.float .f32 (x ((k + 1) * 3)), .float .f32 (x ((k + 1) * 3 + 1)), .float .f32 (x ((k + 1) * 3 + 2))]) rfl rfl (by rfl) (run_load_mid 153 _ b (o + (k + 1) * 3) [.float .f32 (x ((k + 1) * 3)), .float .f32 (x ((k + 1) * 3 + 1)), .float .f32 (x ((k + 1) * 3 + 2))] rfl (R1.out) _ Try.underlying153 rfl info_lev) rfl rfl rfl ?_ AllReadyIn.nil
      simp only [Act.put, List.setIfInBounds_toArray, List.set_cons_zero, List.set_cons_succ]
      refine wpAnyIn_ready (rs := [3]) (by kernel_rfl) (by simp) ?_
      refine readIn 3 _ _ (.slice (some ⟨b, o, none⟩) n cap) rfl rfl (by rfl) (run_load_cell _ _ ⟨Bs, 0, none⟩ _ rfl (run_loadVar_one Try.underlying78 rfl hbx.out)) rfl rfl rfl ?_ AllReadyIn.nil
      simp only [Act.put, List.setIfInBounds_toArray, List.set_cons_zero, List.set_cons_succ]
      refine takeIn 6 _ _ (.pointer (some ⟨b, o + k * 3, none⟩)) rfl rfl (by rfl) (by kernel_rfl) (by kernel_rfl) (by kernel_rfl) (fun w => run_index_op _ _ rfl rfl (run_indexAt Try.underlying78 info_lev (by have := HL.out; omega) w)) (fun _ => rfl) rfl rfl ?_
      simp only [Act.put, List.setIfInBounds_toArray, List.set_cons_zero, List.set_cons_succ]
      refine wpAnyIn_ready (rs := [7]) (by kernel_rfl) (by simp) ?_
      refine readIn 7 _ _ (.agg #[.float .f32 (x (k * 3)), .float .f32 (x (k * 3 + 1)), .float .f32 (x (k * 3 + 2))]) rfl rfl (by rfl) (run_load_mid 153 _ b (o + k * 3) [.float .f32 (x (k * 3)), .float .f32 (x (k * 3 + 1)), .float .f32 (x (k * 3 + 2))] rfl (R0.out) _ Try.underlying153 rfl info_lev) rfl rfl rfl ?_ AllReadyIn.nil
      simp only [Act.put, List.setIfInBounds_toArray, List.set_cons_zero, List.set_cons_succ]
      refine takeIn 12 _ _ (.agg #[.float .f32 (x (k * 3)), .float .f32 (x (k * 3 + 1)), .float .f32 (x (k * 3 + 2)), .float .f32 (x ((k + 1) * 3)), .float .f32 (x ((k + 1) * 3 + 1)), .float .f32 (x ((k + 1) * 3 + 2))]) rfl rfl (by rfl) (by kernel_rfl) (by kernel_rfl) (by kernel_rfl) (fun w => by unfold execOp; go_simp) (fun _ => rfl) rfl rfl ?_
      simp only [Act.put, List.setIfInBounds_toArray, List.set_cons_zero, List.set_cons_succ]
      refine wpAnyIn_ready (rs := [13]) (by kernel_rfl) (by simp) ?_
      refine yieldIn (F := Fence.wide) (l := l) (fn := fn) (tmps := tmps) (assign := assign) (body := body) 13 rfl rfl (by rfl) (by have hy2 := hy.out; unfold execOp; go_simp) (fun _ _ => True.intro) (fun h => by cases h) hR.out (fun e W3 hr => ?_) AllReadyIn.nil
      rcases hr with ⟨rfl, hJ3, hk3⟩ | ⟨rfl, hJx3⟩
      · refine ⟨.bool true, rfl, ?_⟩
        simp only [Act.put, List.setIfInBounds_toArray, List.set_cons_zero, List.set_cons_succ]
        refine takeIn 14 _ _ (.bool false) rfl rfl (by rfl) (by kernel_rfl) (by kernel_rfl) (by kernel_rfl) (fun w => by unfold execOp; go_simp) (fun _ => rfl) rfl rfl ?_
        simp only [Act.put, List.setIfInBounds_toArray, List.set_cons_zero, List.set_cons_succ]
        refine wpAnyIn_done (by kernel_rfl) (NoPanic.normal ?_) _
        gi_wp2
        go_roundw
        case rel => exact ⟨k + 1, by omega, by go_num, by rw [take_fin (m := n - 1) (k := k) (by omega)]; exact hJ3, hid (hnx.out.drew.trans hk3)⟩
        case measure => simp [intOf]; omega
      · refine ⟨.bool false, rfl, ?_⟩
        simp only [Act.put, List.setIfInBounds_toArray, List.set_cons_zero, List.set_cons_succ]
        refine takeIn 14 _ _ (.bool true) rfl rfl (by rfl) (by kernel_rfl) (by kernel_rfl) (by kernel_rfl) (fun w => by unfold execOp; go_simp) (fun _ => rfl) rfl rfl ?_
        simp only [Act.put, List.setIfInBounds_toArray, List.set_cons_zero, List.set_cons_succ]
        refine wpAnyIn_done (by kernel_rfl) (NoPanic.normal ?_) _
        gi_wp2
        refine bodyPost_ret (results_none rfl _ _ _) rfl ?_
        exact ⟨⟨_, rfl⟩, .inr ⟨_, by rw [← take_fin (m := n - 1) (k := k) (by omega)]; exact List.take_prefix _ _, hJx3⟩⟩
    · have hk3 : ¬ (k : Int) + 1 < (n : Int) := by omega
      gi_wp2
      go_end0
      refine ⟨⟨_, rfl⟩, .inl ?_⟩
      have e : (List.finRange (n - 1)).take k = List.finRange (n - 1) := List.take_of_length_le (by simp; omega)
      rw [e] at hJs
      exact hJs

theorem neighbours_stops (m : Nat) (Bs n0 : Nat) (p : Option Addr) (n cap : Nat) (x : Nat → Nat) (hn : n ≤ 1048576) (w : World) (hB : Bs < n0) (hn0 : n0 ≤ w.heap.size)
    (hBs : w.cell? ⟨Bs, 0, none⟩ = some (.slice p n cap)) (hc : 0 < n → ∃ b o, p = some ⟨b, o, none⟩ ∧ b < n0 ∧ ∀ k, k < 3 * n → w.cell? ⟨b, o + k, none⟩ = some (.float .f32 (x k))) :
    SeqStopsK Fence.wide m Try.prog 170 #[.pointer (some ⟨Bs, 0, none⟩)] (fun k : Fin (n - 1) => encL x k.1) (Below n0) (fun ys => ys = List.finRange (n - 1)) (fun pre => pre <+: List.finRange (n - 1)) (n - 1) w := fun l J Jx W hW hA _ hY h0 =>
  neighbours1_in m l Bs n0 p n cap x hn J Jx (fun pre W1 hj => hA pre W1 W1.drew none hj ⟨rfl, rfl, rfl, Nat.le_refl _, fun _ _ _ => rfl⟩ (fun r e => by cases e)) hY W hB ((hW.cell (p := ⟨Bs, 0, none⟩) (show Bs < _ by omega)).trans hBs) (fun hp => by
    obtain ⟨b, o, e, hb, hk⟩ := hc hp
    exact ⟨b, o, e, hb, fun j hj => (hW.cell (p := ⟨b, o + j, none⟩) (show b < _ by omega)).trans (hk j hj)⟩) h0

theorem info_lay : (Try.prog.info? 214).map (·.size) = some 6 := by kernel_rfl

theorem iDepth (x : Nat → Nat) (k : Nat) (h : Ieee.Format.sub S (x ((k + 1) * 3)) (x (k * 3)) = some (fsub (x ((k + 1) * 3)) (x (k * 3)))) (w : World) :
    Calls Try.prog 172 #[.agg #[.float .f32 (x (k * 3)), .float .f32 (x (k * 3 + 1)), .float .f32 (x (k * 3 + 2)), .float .f32 (x ((k + 1) * 3)), .float .f32 (x ((k + 1) * 3 + 1)), .float .f32 (x ((k + 1) * 3 + 2))]] w fun e w' => e = .returned (.float .f32 (fsub (x ((k + 1) * 3)) (x (k * 3)))) ∧ Below w.heap.size w w' := by
  have hr := fun w => run_float_arith (P := Try.prog) w .sub 22 .f32 _ _ _ h
  have b0 := boxed w (.cells #[.float .f32 (x (k * 3)), .float .f32 (x (k * 3 + 1)), .float .f32 (x (k * 3 + 2)), .float .f32 (x ((k + 1) * 3)), .float .f32 (x ((k + 1) * 3 + 1)), .float .f32 (x ((k + 1) * 3 + 2))] 214)
  clear h
  go_enter Try.func172, Try.ntmps172
  go_wp2
  go_ret
  exact ⟨rfl, b0⟩

def Cnt (n : Int) : Prop := 0 ≤ n ∧ n ≤ 1000000000

def Bx (b : Nat → Int) : Prop := ∀ i, i < 21 → Cnt (b i)

def mm (i j : Nat) : Nat := fadd (mass i) (mass j)

theorem sFinite_fq (x : Nat) (hx : x < 4294967296) (h : finB x = false) (w : World) :
    Calls Try.prog 100 #[.float .f32 x] w fun e w' => e = .returned (.bool false) ∧ ∃ m, w' = w.drewN m := by
  obtain ⟨z, hr, h1, _⟩ := run_arith_nan (P := Try.prog) w .sub (by simp) 22 x x (sub_self_none hx h)
  have Hn := hid (show (FloatKind.f32.format.order z 0 == some .eq) = false by
    show (S.order z 0 == some .eq) = false
    rw [order_nan32 h1]; rfl)
  clear h hx h1
  go_enter Try.func100, Try.ntmps100
  go_wp2
  go_ret
  exact ⟨by simp [Hn.out], 1, rfl⟩

theorem sAmount_fq (x : Nat) (hx : x < 4294967296) (h : amtB x = false) (w : World) :
    Calls Try.prog 66 #[.float .f32 x] w fun e w' => e = .returned (.bool false) ∧ ∃ m, w' = w.drewN m := by
  rcases hf : finB x with _ | _
  · have Hx := hid hx
    have Hf := hid hf
    clear h hf hx
    go_enter Try.func66, Try.ntmps66
    go_wp2_with (go_at_call 100; refine (sFinite_fq x Hx.out Hf.out _).mono ?_; rintro e w' ⟨rfl, hb⟩)
    go_ret
    exact ⟨rfl, hb⟩
  · have hs : 2147483648 ≤ x := by
      rw [amtB_iff', INF_val] at h
      have := finB_iff.1 hf
      rw [INF_val] at this
      unfold mg at this
      omega
    have hg : (FloatKind.f32.format.order x 0 == some .gt) = false := order_neg_zero hx hf hs
    have hb : ((x : Int) == 0) = false := by simp; omega
    have Hx := hid hx
    have Hf := hid hf
    clear h hf hx hs
    go_enter Try.func66, Try.ntmps66
    go_wp2_with (go_at_call 100; refine (sFinite_t x Hx.out Hf.out _).mono ?_; rintro e w' ⟨rfl, rfl⟩)
    go_ret
    exact ⟨rfl, 0, rfl⟩

theorem sHgtQ (x : Nat) (hx : x < 4294967296) (q : Bool) (hq : hgtB x = q) (w : World) :
    Calls Try.prog 139 #[.float .f32 x] w fun e w' => e = .returned (.bool q) ∧ ∃ m, w' = w.drewN m := by
  have e1 : hgtB x = (amtB x && (FloatKind.f32.format.order x 1106247680 == some .lt || FloatKind.f32.format.order x 1106247680 == some .eq)) := rfl
  rw [e1] at hq
  have Hx := hid hx
  clear e1 hx
  rcases a : amtB x with _ | _
  · have Ha := hid a
    rw [a] at hq
    simp only [Bool.false_and] at hq
    subst hq
    clear a
    go_enter Try.func139, Try.ntmps139
    go_wp2_with fail
    refine (sAmount_fq x Hx.out Ha.out _).mono ?_
    rintro e w1 ⟨rfl, m, rfl⟩
    go_wp2
    go_ret
    exact ⟨rfl, m, rfl⟩
  · have Ha := hid a
    rw [a] at hq
    simp only [Bool.true_and] at hq
    clear a
    cases q
    all_goals
      go_enter Try.func139, Try.ntmps139
      go_wp2_with fail
      refine (sAmount_t x Ha.out _).mono ?_
      rintro e w1 ⟨rfl, rfl⟩
      go_wp2
      go_ret
      exact ⟨rfl, 0, rfl⟩

set_option maxRecDepth 100000 in
theorem sAirAtQ (h v : Nat) (hv : v < 4294967296) (q : Bool) (hq : airB h v = q) (w : World) (g o : Nat) (c0 : w.cell? ⟨g, o, none⟩ = some (.float .f32 h)) (c1 : w.cell? ⟨g, o + 1, none⟩ = some (.float .f32 v)) :
    Calls Try.prog 65 #[.pointer (some ⟨g, o, none⟩)] w fun e w' => e = .returned (.bool q) ∧ ∃ m, w' = w.drewN m := by
  cases q
  · have Hv := hid hv
    have e1 : airB h v = (heatB h && amtB v && vapB v) := rfl
    rw [e1] at hq
    clear hv e1
    rcases a : heatB h with _ | _
    · have Ha := hid a
      clear a hq
      go_enter Try.func65, Try.ntmps65
      go_wp2_with fail
      refine (sHeat h false Ha.out _).mono ?_
      rintro e w1 ⟨rfl, rfl⟩
      go_wp2
      go_ret
      exact ⟨rfl, 0, rfl⟩
    · have Ha := hid a
      rw [a] at hq
      clear a
      rcases b : amtB v with _ | _
      · have Hb := hid b
        clear b hq
        go_enter Try.func65, Try.ntmps65
        go_wp2_with fail
        refine (sHeat h true Ha.out _).mono ?_
        rintro e w1 ⟨rfl, rfl⟩
        go_wp2_with fail
        refine (sAmount_fq v Hv.out Hb.out _).mono ?_
        rintro e w1 ⟨rfl, m, rfl⟩
        go_wp2
        go_ret
        exact ⟨rfl, m, rfl⟩
      · have Hb := hid b
        rw [b] at hq
        simp only [Bool.true_and] at hq
        have hc : (FloatKind.f32.format.order v 1148846080 == some .lt || FloatKind.f32.format.order v 1148846080 == some .eq) = false := hq
        clear b hq
        go_enter Try.func65, Try.ntmps65
        go_wp2_with fail
        refine (sHeat h true Ha.out _).mono ?_
        rintro e w1 ⟨rfl, rfl⟩
        go_wp2_with fail
        refine (sAmount_t v Hb.out _).mono ?_
        rintro e w1 ⟨rfl, rfl⟩
        go_wp2
        go_ret
        exact ⟨rfl, 0, rfl⟩
  · exact (sAirAt_t h v hq w g o c0 c1).mono fun e w' ⟨a, b⟩ => ⟨a, 0, b ▸ rfl⟩

set_option maxRecDepth 100000 in
set_option maxHeartbeats 4000000 in
theorem sSounding (s : Value) (n : Nat) (x : Nat → Nat) (hn : n ≤ 1048576) (hx : W32 x) (w : World) (hs : Rd w s n x) (q : Bool) (hq : souB n x = q) :
    Calls Try.prog 90 #[s] w fun e w' => e = .returned (.bool q) ∧ Below w.heap.size w w' := by
  obtain ⟨p, cap, rfl, hc⟩ := hs
  have HC := hid hc
  have HW := hid hx
  have HQ := hid hq
  have HN := hid hn
  clear hc hx hq hn
  go_enter Try.func90, Try.ntmps90
  go_wp2_with fail
  go_loopw [3] (fun i wr => ∃ k : Nat, k ≤ n ∧ i = .int .i64 k ∧ Hid (∀ i, i < k → lvB x i = true) ∧ Hid (∀ i, i + 1 < k → upB x i = true) ∧ Hid (Below w.heap.size w wr)) (fun i _ => n - (intOf i).toNat)
  case atStart => exact ⟨0, by omega, rfl, hid (fun i h => by omega), hid (fun i h => by omega), hid (Below.refl _ _)⟩
  case round =>
    obtain ⟨k, hk, rfl, hF, hU, hb⟩ := hrel
    by_cases hlt : k < n
    · have HL := hid hlt
      have hk3 : (k : Int) < (n : Int) := by omega
      obtain ⟨b, o, rfl, hcell⟩ := HC.out (by omega)
      have hcw : ∀ j, j < 3 * n → wr.cell? ⟨b, o + j, none⟩ = some (.float .f32 (x j)) := fun j hj => by have h1 := hcell j hj; rw [hb.out.cell (block_lt_of_cell h1)]; exact h1
      have c0 := cell0 hcw (i := k) hlt
      have c1 := cell1 hcw (i := k) hlt
      have c2 := cell2 hcw (i := k) hlt
      have i1 := fun w => run_indexAt (P := Try.prog) (t := 78) (e := 153) Try.underlying78 info_lev (b := b) (o := o) (n := n) (cap := cap) (k := k) hlt w
      rcases h1 : hgtB (x (k * 3)) with _ | _
      · have H1 := hid h1
        have hfin : q = false := by
          rw [← HQ.out]
          unfold souB lvs
          rw [all_range_f (k := k) HL.out (by unfold lvB parB; rw [h1]; rfl)]; simp
        have H2 := hid (rfl : airB (x (k * 3 + 1)) (x (k * 3 + 2)) = airB (x (k * 3 + 1)) (x (k * 3 + 2)))
        clear h1 hcell hcw
        subst hfin
        go_wp2
        go_quiet ((first | (go_at_call 139; exact Calls.quiet_of (sHgtQ _ (HW.out _) _ H1.out _)) | (go_at_call 65; exact Calls.quiet_of (sAirAtQ _ _ (HW.out _) _ H2.out _ _ _ c1 c2))))
        clear c0 c1 c2 i1
        go_wp2
        go_ret
        exact ⟨rfl, below_drewN hb.out _⟩
      · have H1 := hid h1
        rcases h2 : airB (x (k * 3 + 1)) (x (k * 3 + 2)) with _ | _
        · have H2 := hid h2
          have hfin : q = false := by
            rw [← HQ.out]
            unfold souB lvs
            rw [all_range_f (k := k) HL.out (by unfold lvB parB; rw [h1, h2]; rfl)]; simp
          clear h1 h2 hcell hcw
          subst hfin
          go_wp2
          go_quiet ((first | (go_at_call 139; exact Calls.quiet_of (sHgtQ _ (HW.out _) _ H1.out _)) | (go_at_call 65; exact Calls.quiet_of (sAirAtQ _ _ (HW.out _) _ H2.out _ _ _ c1 c2))))
          clear c0 c1 c2 i1
          go_wp2
          go_ret
          exact ⟨rfl, below_drewN hb.out _⟩
        · have H2 := hid h2
          have HF := hid (fun i (hi : i < k + 1) => by
            rcases Nat.lt_or_ge i k with h | h
            · exact hF.out i h
            · rw [show i = k by omega]; exact parB_iff.2 ⟨h1, h2⟩ : ∀ i, i < k + 1 → lvB x i = true)
          clear h1 h2
          rcases Nat.eq_zero_or_pos k with hk0 | hk0
          · subst hk0
            simp only [Nat.zero_mul, Nat.add_zero, Nat.zero_add] at c0 c1 c2 i1 H1 H2
            have i1' : ∀ w, (Instr.indexAt 78 (.slice (some ⟨b, o, none⟩) n cap) (.int .i64 0)).run Try.prog w = .ok (.pointer (some ⟨b, o, none⟩)) w := by
              intro w
              have h9 := run_indexAt (P := Try.prog) (t := 78) (e := 153) Try.underlying78 info_lev (b := b) (o := o) (n := n) (cap := cap) (k := 0) hlt w
              simpa using h9
            clear hcell hcw i1
            go_wp2
            go_quiet ((first | (go_at_call 139; exact Calls.quiet_of (sHgtQ _ (HW.out _) _ H1.out _)) | (go_at_call 65; exact Calls.quiet_of (sAirAtQ _ _ (HW.out _) _ H2.out _ _ _ c1 c2))))
            clear c0 c1 c2
            go_wp2
            go_roundw
            case rel => exact ⟨1, by omega, by go_num, HF, hid (fun i h => by omega), hid (below_drewN hb.out _)⟩
            case measure => simp [intOf]; omega
          · obtain ⟨j, hj⟩ : ∃ j, k = j + 1 := ⟨k - 1, by omega⟩
            have d0 := cell0 hcw (i := j) (by omega)
            have hpos : (0 : Int) < (k : Int) := by omega
            have hn' := HN.out
            have hwr : IntKind.i64.wrap ((k : Int) - 1) = (k : Int) - 1 := by rw [IntKind.wrap_i64]; omega
            have i0 : ∀ w, (Instr.indexAt 78 (.slice (some ⟨b, o, none⟩) n cap) (.int .i64 ((k : Int) - 1))).run Try.prog w = .ok (.pointer (some ⟨b, o + j * 3, none⟩)) w := by
              intro w
              rw [show (k : Int) - 1 = (j : Int) by omega]
              exact run_indexAt (P := Try.prog) (t := 78) (e := 153) Try.underlying78 info_lev (b := b) (o := o) (n := n) (cap := cap) (k := j) (by omega) w
            clear hcell hcw
            rcases hu : upB x j with _ | _
            · have ho : (FloatKind.f32.format.order (x (j * 3)) (x (k * 3)) == some .lt) = false := by rw [hj]; exact hu
              have hfin : q = false := by
                rw [← HQ.out]
                unfold souB ups
                rw [all_range_f (k := j) (by have := HL.out; omega) hu]; simp
              clear hu
              replace hj := hid hj
              subst hfin
              go_wp2
              go_quiet ((first | (go_at_call 139; exact Calls.quiet_of (sHgtQ _ (HW.out _) _ H1.out _)) | (go_at_call 65; exact Calls.quiet_of (sAirAtQ _ _ (HW.out _) _ H2.out _ _ _ c1 c2))))
              clear c0 c1 c2 i1 i0 d0 ho
              go_wp2
              go_ret
              exact ⟨rfl, below_drewN hb.out _⟩
            · have ho : (FloatKind.f32.format.order (x (j * 3)) (x (k * 3)) == some .lt) = true := by rw [hj]; exact hu
              have HU := hid (fun i (hi : i + 1 < k + 1) => by
                rcases Nat.lt_or_ge i j with h | h
                · exact hU.out i (by omega)
                · rw [show i = j by omega]; exact hu : ∀ i, i + 1 < k + 1 → upB x i = true)
              clear hu
              replace hj := hid hj
              go_wp2
              go_quiet ((first | (go_at_call 139; exact Calls.quiet_of (sHgtQ _ (HW.out _) _ H1.out _)) | (go_at_call 65; exact Calls.quiet_of (sAirAtQ _ _ (HW.out _) _ H2.out _ _ _ c1 c2))))
              clear c0 c1 c2 i1 i0 d0 ho
              go_wp2
              go_roundw
              case rel => exact ⟨k + 1, by omega, by go_num, HF, HU, hid (below_drewN hb.out _)⟩
              case measure => simp [intOf]; omega
    · obtain rfl : k = n := by omega
      by_cases hd : 2 ≤ k ∧ k ≤ 32
      · have hfin : q = true := by
          rw [← HQ.out, souB_iff]
          exact ⟨hd.1, hd.2, hF.out, hU.out⟩
        subst hfin
        go_wp2_with fail
        refine (l00In_t k 2 32 (by omega) (by omega) _).mono ?_
        rintro e w1 ⟨rfl, rfl⟩
        go_wp2
        go_ret
        exact ⟨rfl, hb.out⟩
      · have hfin : q = false := by
          rw [← HQ.out]
          unfold souB
          rcases h : (decide (2 ≤ k) && decide (k ≤ 32)) with _ | _
          · simp
          · rw [Bool.and_eq_true, decide_eq_true_eq, decide_eq_true_eq] at h
            exact absurd h hd
        subst hfin
        go_wp2_with fail
        refine (l00In_f k 2 32 (by omega) _).mono ?_
        rintro e w1 ⟨rfl, rfl⟩
        go_wp2
        go_ret
        exact ⟨rfl, hb.out⟩

set_option maxRecDepth 100000 in
set_option maxHeartbeats 4000000 in
theorem iValidSounding (s : Value) (n : Nat) (x : Nat → Nat) (hn : n ≤ 1048576) (hx : W32 x) (w : World) (hs : Rd w s n x) (q : Bool) (hq : souB n x = q) :
    Calls Try.prog 93 #[s] w fun e w' => e = .returned (.bool q) ∧ Below w.heap.size w w' := by
  obtain ⟨p, cap, rfl, hc⟩ := hs
  have HC := hid hc
  have HX := hid hx
  have HQ := hid hq
  have HN := hid hn
  clear hc hx hq
  have bA := Boxed.new w 4 (.bool false)
  have hBA : Below w.heap.size w (w.alloc (.cells #[.bool false] 4)) := (Below.refl _ w).alloc (Nat.le_refl _) _
  refine (callsIn_wide (n := 9)).1 ?_
  refine callsIn_of_wp_marks Try.func93 rfl trivial ?_ rfl
  simp only [Try.ntmps93, List.size_toArray, List.length_cons, List.length_nil, Nat.reduceAdd, Nat.reduceSub, Array.replicate_succ, Array.replicate_zero, List.push_toArray, List.append_toArray, List.nil_append, List.cons_append]
  by_cases h2 : n < 2
  · have hfin : q = false := by
      rw [← HQ.out]; unfold souB
      rw [decide_eq_false (by omega)]; simp
    subst hfin
    have h2' : (n : Int) < 2 := by omega
    gi_wp2
    exact ⟨_, results_cell1 rfl _ _ ⟨w.heap.size, 0, none⟩ _ rfl (run_loadVar_one Try.underlying4 rfl bA.cell), rfl, hBA⟩
  by_cases h3 : 32 < n
  · have hfin : q = false := by
      rw [← HQ.out]; unfold souB
      rw [decide_eq_false (show ¬ n ≤ 32 by omega)]; simp
    subst hfin
    have h2' : ¬ (n : Int) < 2 := by omega
    have h3' : (n : Int) > 32 := by omega
    gi_wp2
    exact ⟨_, results_cell1 rfl _ _ ⟨w.heap.size, 0, none⟩ _ rfl (run_loadVar_one Try.underlying4 rfl bA.cell), rfl, hBA⟩
  have h2' : ¬ (n : Int) < 2 := by omega
  have h3' : ¬ (n : Int) > 32 := by omega
  gi_wp2
  gi_loopw [17] (fun i wr => ∃ k : Nat, k ≤ n ∧ i = .int .i64 k ∧ Hid (∀ i, i < k → lvB x i = true) ∧ Hid (Boxed wr w.heap.size 4 (.bool false)) ∧ Hid (Below w.heap.size w wr)) (fun i _ => n - (intOf i).toNat)
  case atStart => exact ⟨0, by omega, rfl, hid (fun i h => by omega), hid bA, hid hBA⟩
  case round =>
    obtain ⟨k, hk, rfl, hF, hbx, hb⟩ := hrel
    by_cases hlt : k < n
    · have HL := hid hlt
      have hk3 : (k : Int) < (n : Int) := by omega
      obtain ⟨b, o, rfl, hcell⟩ := HC.out (by omega)
      have hcw : ∀ j, j < 3 * n → wr.cell? ⟨b, o + j, none⟩ = some (.float .f32 (x j)) := fun j hj => by have h1 := hcell j hj; rw [hb.out.cell (block_lt_of_cell h1)]; exact h1
      have c0 := cell0 hcw (i := k) hlt
      have c1 := cell1 hcw (i := k) hlt
      have c2 := cell2 hcw (i := k) hlt
      have i1 := fun w => run_indexAt (P := Try.prog) (t := 78) (e := 153) Try.underlying78 info_lev (b := b) (o := o) (n := n) (cap := cap) (k := k) hlt w
      have l1 := run_loadAt_mid (P := Try.prog) wr b (o + k * 3) 153 _ _ (row3 hcw hlt) Try.underlying153 rfl info_lev
      have HV := fun w => iValidParcel (x (k * 3)) (x (k * 3 + 1)) (x (k * 3 + 2)) (HX.out _) (HX.out _) (lvB x k) rfl w
      clear hcell hcw
      rcases hl : lvB x k with _ | _
      · rw [hl] at HV
        have hfin : q = false := by
          rw [← HQ.out]; unfold souB lvs
          rw [all_range_f (k := k) HL.out hl]; simp
        subst hfin
        gi_wp2_with (refine ⟨trivial, ?_⟩; gi_at_call 104; refine (callsIn_wide.2 (HV _)).mono ?_; rintro e w' ⟨rfl, hb9⟩; have d1 : Boxed w' w.heap.size 4 (.bool false) := (hb9.block _ (hbx.out.alloc _).lt).trans (hbx.out.alloc _); have e1 := d1.cell; have e3 := d1.frozen)
        have b1 := d1.set (.bool false)
        exact ⟨_, results_cell1 rfl _ _ ⟨w.heap.size, 0, none⟩ _ rfl (run_loadVar_one Try.underlying4 rfl b1.cell), rfl, ((hb.out.alloc hb.out.size _).trans (hb9.mono (by have := hb.out.size; simp; omega))).setCell (p := ⟨w.heap.size, 0, none⟩) (Nat.le_refl _) _⟩
      · rw [hl] at HV
        have HF := hid (fun i (hi : i < k + 1) => by
          rcases Nat.lt_or_ge i k with h | h
          · exact hF.out i h
          · rw [show i = k by omega]; exact hl : ∀ i, i < k + 1 → lvB x i = true)
        clear hl
        gi_wp2_with (refine ⟨trivial, ?_⟩; gi_at_call 104; refine (callsIn_wide.2 (HV _)).mono ?_; rintro e w' ⟨rfl, hb9⟩; have d1 : Boxed w' w.heap.size 4 (.bool false) := (hb9.block _ (hbx.out.alloc _).lt).trans (hbx.out.alloc _))
        go_roundw
        case rel => exact ⟨k + 1, by omega, by go_num, HF, hid d1, hid ((hb.out.alloc hb.out.size _).trans (hb9.mono (by have := hb.out.size; simp; omega)))⟩
        case measure => simp [intOf]; omega
    · obtain rfl : k = n := by omega
      have hk3 : ¬ (k : Int) < (k : Int) := by omega
      gi_wp2_with (refine ⟨trivial, ?_⟩; gi_at_call 140; refine (callsIn_wide.2 (iNeighbours _ _ _ _)).mono ?_; rintro e w' ⟨rfl, rfl⟩)
      have bA := hbx.out.alloc (.cells #[.slice p k cap] 78)
      have bC := Boxed.new wr 78 (.slice p k cap)
      have hB0 : Below w.heap.size w (wr.alloc (.cells #[.slice p k cap] 78)) := hb.out.alloc hb.out.size _
      have hsz : (wr.alloc (.cells #[.slice p k cap] 78)).heap.size = wr.heap.size + 1 := by simp
      have hwr := hb.out.size
      obtain ⟨W0, hW0⟩ : ∃ W0, wr.alloc (.cells #[.slice p k cap] 78) = W0 := ⟨_, rfl⟩
      rw [hW0] at bA bC hB0 hsz ⊢
      clear hW0
      refine wpIn_rangeFunc_ownH (α := Fin (k - 1)) rfl (by decide) (gf := 170) (lb := #[.pointer (some ⟨wr.heap.size, 0, none⟩)]) rfl trivial (Go.Proofs.enters_of Try.func170 (by kernel_rfl) rfl)
        (neighbours_stops 8 wr.heap.size W0.heap.size p k cap x hn W0 (by omega) (Nat.le_refl _) bC.cell (fun hp => by
          obtain ⟨b, o, e, hk⟩ := HC.out hp
          have hb := block_lt_of_cell (hk 0 (by omega))
          exact ⟨b, o, e, by simp at hb; omega, fun j hj => (hB0.cell (p := ⟨b, o + j, none⟩) hb).trans (hk j hj)⟩)) belowK_t (belowK_b (Nat.le_refl _)) (Below.refl _ _) (fun _ => rfl)
        (fun pre W => (∀ i ∈ pre, upB x i.1 = true) ∧ Below W0.heap.size W0 W)
        (fun c pre W => (∃ z : List (Fin (k - 1)) × Fin (k - 1), (c = .ret ∧ pre = z.1 ++ [z.2] ∧ upB x z.2.1 = false) ∧ Boxed W w.heap.size 4 (.bool false)) ∧ Below w.heap.size w W)
        (OwnFrom.and (ownFrom_pure _ _) (ownFrom_below (Nat.le_refl _) (Nat.le_refl _)))
        (fun c => OwnFrom.and (fun s X Y row hs hg hr => by
          obtain ⟨z, h1, h3⟩ := hs
          exact ⟨z, h1, boxed_own _ _ (fun (_ : Unit) => _) () X Y row h3 hg (fun r e => (hr r e).2)⟩) (ownFrom_below (Nat.le_refl _) (by omega)))
        ⟨by simp, Below.refl _ _⟩
        (fun j a' W => ∃ Bx, W0.heap.size ≤ Bx ∧ W.heap[Bx]? = some (.cells #[.float .f32 (x (j.1 * 3)), .float .f32 (x (j.1 * 3 + 1)), .float .f32 (x (j.1 * 3 + 2)), .float .f32 (x ((j.1 + 1) * 3)), .float .f32 (x ((j.1 + 1) * 3 + 1)), .float .f32 (x ((j.1 + 1) * 3 + 2))] 214 (0, 0)) ∧ a' = { tmps := #[.slice p k cap, undef, .pointer (some ⟨w.heap.size, 0, none⟩), undef, u4, undef, .pointer (some ⟨Bx, 0, none⟩), .slice p k cap, .int .i64 (k : Int), .bool false, .bool false, .slice p k cap, .int .i64 (k : Int), .bool false, .bool false, .slice p k cap, .int .i64 (k : Int), .int .i64 (k : Int), .bool false, u19, u20, u21, u22, u23, u24, .slice p k cap, .func (.func 170) #[] #[.pointer (some ⟨wr.heap.size, 0, none⟩)], .int .i64 (j.1 : Int), .agg #[.float .f32 (x (j.1 * 3)), .float .f32 (x (j.1 * 3 + 1)), .float .f32 (x (j.1 * 3 + 2)), .float .f32 (x ((j.1 + 1) * 3)), .float .f32 (x ((j.1 + 1) * 3 + 1)), .float .f32 (x ((j.1 + 1) * 3 + 2))], undef, undef, undef, undef, undef, undef, undef], defers := [] })
        (fun j a' _ X Y row hs hg hr => by obtain ⟨Bx, e1, e2, e3⟩ := hs; exact ⟨Bx, e1, row_own Bx 214 (fun (_ : Unit) => _) () X Y row e2 hg (fun r e => (hr r e).2), e3⟩)
        ?assign ?body ?done ?stop
      case assign =>
        rintro l pre j W K ⟨hp, hB⟩ hK
        have hS := hB.size
        unfold encL
        gi_wp2
        exact hK _ _ ((KeepsOthers.alloc _ _).from _) ((Below.refl _ W).alloc (by omega) _) ⟨hp, hB.alloc (by omega) _⟩ ⟨W.heap.size, by omega, heap_alloc_new _ _, rfl⟩
      case body =>
        rintro l pre j a' W hl ⟨r', hr⟩ ⟨hp, hB⟩ ⟨Bx, hBx, bX, rfl⟩ hlt
        have hS := hB.size
        have b1 : Boxed W w.heap.size 4 (.bool false) := (hB.block _ bA.lt).trans bA
        have e1 := b1.cell
        have e3 := b1.frozen
        clear hr
        have g0 : W.cell? ⟨Bx, 0, none⟩ = some (.float .f32 (x (j.1 * 3))) := (cell_of_row W Bx 0 _ _ _ bX).trans rfl
        have g3 : W.cell? ⟨Bx, 3, none⟩ = some (.float .f32 (x ((j.1 + 1) * 3))) := (cell_of_row W Bx 3 _ _ _ bX).trans rfl
        have hge := up_ge (hF.out j.1 (by have := j.2; omega)) (hF.out (j.1 + 1) (by have := j.2; omega))
        rcases hu : upB x j.1 with _ | _
        · rw [hu] at hge
          have ho : (FloatKind.f32.format.order (x (j.1 * 3)) (x ((j.1 + 1) * 3)) == some .gt || FloatKind.f32.format.order (x (j.1 * 3)) (x ((j.1 + 1) * 3)) == some .eq) = true := hge
          clear hge
          gi_wp2
          exact ⟨(KeepsOthers.setCell _ _ _).from _, ⟨(pre, j), ⟨rfl, rfl, hu⟩, b1.set _⟩, (hB0.trans (hB.mono (by omega))).setCell (p := ⟨w.heap.size, 0, none⟩) (Nat.le_refl _) _⟩
        · rw [hu] at hge
          have ho : (FloatKind.f32.format.order (x (j.1 * 3)) (x ((j.1 + 1) * 3)) == some .gt || FloatKind.f32.format.order (x (j.1 * 3)) (x ((j.1 + 1) * 3)) == some .eq) = false := hge
          clear hge
          gi_wp2
          exact ⟨KeepsFrom.refl _ _, Below.refl _ _, fun i hi => (List.mem_append.1 hi).elim (hp i) (fun e => by simp at e; rw [e]; exact hu), hB⟩
      case done =>
        rintro D ys W hD rfl ⟨hp, hB⟩ hK
        have hS := hB.size
        have b1 : Boxed W w.heap.size 4 (.bool false) := (hB.block _ bA.lt).trans bA
        have e1 := b1.cell
        have e3 := b1.frozen
        have hfin : q = true := by
          rw [← HQ.out, souB_iff]
          exact ⟨by omega, by omega, hF.out, fun i hi => hp ⟨i, by omega⟩ (List.mem_finRange _)⟩
        subst hfin
        gi_wp2
        have hK' := (KeepsOthers.setCell W ⟨w.heap.size, 0, none⟩ (.bool true)).same D _ hK rfl
        have c1 := (b1.set (.bool true)).kept (grownBy_putObj' _ D (.deferred none)) (by simp; omega)
        refine ⟨by simp, .inl ⟨_, _, rfl, run_takeDeferred hK', ?_⟩⟩
        exact ⟨_, results_cell1 rfl _ _ ⟨w.heap.size, 0, none⟩ _ rfl (run_loadVar_one Try.underlying4 rfl c1.cell), rfl, ((hB0.trans (hB.mono (by omega))).setCell (p := ⟨w.heap.size, 0, none⟩) (Nat.le_refl _) _).trans (belowK_b (w := w) (Nat.le_refl _) _ D _ _ (by omega) hK' rfl rfl)⟩
      case stop =>
        rintro D c pre W hD hpre ⟨⟨⟨ini, last⟩, ⟨rfl, rfl, hl⟩, b1⟩, hB⟩ hK
        have hfin : q = false := by
          rw [← HQ.out]; unfold souB ups
          rw [all_range_f (k := last.1) last.2 hl]; simp
        subst hfin
        gi_wp2
        have c1 := b1.kept (grownBy_putObj' _ D (.deferred none)) (by simp; omega)
        refine ⟨by simp, .inl ⟨_, _, rfl, run_takeDeferred hK, ?_⟩⟩
        exact ⟨_, results_cell1 rfl _ _ ⟨w.heap.size, 0, none⟩ _ rfl (run_loadVar_one Try.underlying4 rfl c1.cell), rfl, hB.trans (belowK_b (w := w) (Nat.le_refl _) _ D _ _ (by omega) hK rfl rfl)⟩

theorem kept_drewK {w0 : World} {l : List (Nat × Array Value × TypeId)} {w : World} (k : Kept w0 l w) (n : Nat) : Kept w0 l (w.drewN n) := ⟨below_drewN k.1 n, fun x hx => k.2 x hx⟩

theorem rd_wf {w w' : World} {s : Value} {n : Nat} {x : Nat → Nat} (h : Rd w s n x) (hw : w' = w ∨ w' = w.drew) : Rd w' s n x := by
  rcases hw with rfl | rfl
  · exact h
  · exact h.drew

set_option maxRecDepth 100000 in
set_option maxHeartbeats 1000000 in
theorem toLevelsK (s : Value) (n : Nat) (x : Nat → Nat) (_hx : ∀ k, x k < 4294967296) (w : World) (hs : Rd w s n x) (hn : n ≤ 1048576) :
    Calls Try.prog 41 #[s] w fun e w' => e = .returned (.slice (some ⟨w.heap.size, 0, none⟩) n n) ∧ ∃ cs, LvW cs (3 * n) x ∧ Kept w [(w.heap.size, cs, 153)] w' := by
  obtain ⟨p, cap, rfl, hc⟩ := hs
  have HC := hid hc
  have hmk := fun w => run_make3 (P := Try.prog) (t := 78) (e := 153) Try.underlying78 infoz_lev hn w
  have k0 : Hid (Kept w [(w.heap.size, vls (3 * n) (flw (part3 x 0)), 153)] (w.alloc (.cells (vls (3 * n) (flw fun _ => 0)) 153))) := hid (by rw [part3_zero]; exact (Kept.nil w).push _ _)
  clear hc
  go_enter Try.func41, Try.ntmps41
  go_wp2_with fail
  go_loopw [4] (fun i wr => ∃ k : Nat, k ≤ n ∧ i = .int .i64 k ∧ Hid (Kept w [(w.heap.size, vls (3 * n) (flw (part3 x k)), 153)] wr)) (fun i _ => n - (intOf i).toNat)
  case atStart => exact ⟨0, by omega, rfl, k0⟩
  case round =>
    obtain ⟨k, hk, rfl, h0⟩ := hrel
    clear k0 hmk
    by_cases hlt : k < n
    · have HK := hid hlt
      have hk3 : (k : Int) < (n : Int) := by omega
      obtain ⟨b, o, rfl, hcell⟩ := HC.out (by omega)
      have R1 := hid (fun wq (hb : Below w.heap.size w wq) => row3 (w := wq) (n := n) (x := x) (b := b) (o := o) (fun j hj => by have h1 := hcell j hj; rw [hb.cell (block_lt_of_cell h1)]; exact h1) HK.out)
      clear hcell
      have i1 := fun w => run_indexAt (P := Try.prog) (t := 76) (e := 155) Try.underlying76 info_llev (b := b) (o := o) (n := n) (cap := cap) (k := k) hlt w
      have i2 := fun w9 => run_indexAt (P := Try.prog) (t := 78) (e := 153) Try.underlying78 info_lev (b := w.heap.size) (o := 0) (n := n) (cap := n) (k := k) hlt w9
      simp only [Nat.zero_add] at i2
      go_wp2_with (refine wpList_load_mid rfl 155 _ rfl b (o + k * 3) rfl _ _ (R1.out _ h0.out.1) Try.underlying155 rfl info_llev ?_)
      refine (toLevel _ _ _ _).mono ?_
      rintro e w1 ⟨rfl, hb1⟩
      have h1 := hid (h0.out.stay hb1)
      have V1 : Hid (vAt w1 w.heap.size (3 * n) (flw (part3 x k)) 153) := hid (h1.out.at (x := (w.heap.size, vls (3 * n) (flw (part3 x k)), 153)) (by simp))
      clear i1
      go_wp2_with (refine wpList_store_mid rfl 153 _ _ rfl w.heap.size (k * 3) #[.float .f32 (x (k * 3)), .float .f32 (x (k * 3 + 1)), .float .f32 (x (k * 3 + 2))] rfl rfl (V1.out.there (k * 3) 3 (by have := HK.out; omega)) info_lev (by simp [Value.oneCell']) ?_)
      clear i2
      go_wp2
      go_roundw
      case rel => exact ⟨k + 1, by omega, by go_num, hid (by have h2 := h1.out.three (Nat.le_refl _) (by simp) (k * 3) (x (k * 3)) (x (k * 3 + 1)) (x (k * 3 + 2)); rw [part3_step] at h2; exact h2)⟩
      case measure => simp [intOf]; omega
    · obtain rfl : k = n := by omega
      go_wp2
      go_ret
      exact ⟨rfl, _, (LvW.vls (3 * k) (part3 x k)).ext (fun j hj => if_pos (by omega)), h0.out⟩
end Go.Proofs.Ythpimindkmmkjaa
