import Derived.Test.YtdmnlbfmcibohaaCRaiseMoist
import Derived.Test.YtdmnlbfmcibohaaChecked
import Derived.Test.YtdmnlbfmcibohaaRows
import Derived.Laws.FloatArith
import Derived.ProofKit
import Derived.WalkKit
import Derived.WalkLawsBesides
import Derived.WalkSpells
import Derived.Deep.QuietTactic
import Derived.BigQuiet
import Derived.Deep.RegionHeld3
import Derived.ChangeKeysEq
import Derived.Laws.BitsAllLaws
import Derived.Deep.MidRow
import Derived.Deep.WholeRow
import Derived.StillTailTactics
import Derived.Deep.Slices
import Derived.ChangeSame
import Derived.OrdersIn
import Derived.ControlIn
import Derived.RangeFuncSeq
import Derived.RangeFuncNested
import Derived.RangeFuncLeaves
import Derived.RangeFuncBox
import Derived.OwnWalkIn
import Derived.TacticsInMore
import Derived.LoopNIn
import Derived.LoopIn
import Derived.Shelf.Abstract
import Derived.ArgAppend
import Derived.Lib.SliceRun
import Derived.OpenShut
/- The law FnExactRaiseMoist of chapter 1: at every argument the call returns true, and what was there before it is as it was. -/
namespace Go.Proofs.Ytdmnlbfmcibohaa
open Go.RowKit Go.Fl

@[go_sem] theorem ext_f64bits (y : Nat) (w : World) : (callFunc 170 #[.float .f64 y]).run Try.prog w = .ok (.value (.int .u64 y)) w := by
  rw [run_callFunc_extern Try.func170 (by kernel_rfl) (by kernel_rfl) (by kernel_rfl) (e := Extern.MathFloatBits.float64bits) (by kernel_rfl)]
  rfl

@[go_sem] theorem ext_f64from (n : Int) (w : World) : (callFunc 172 #[.int .u64 n]).run Try.prog w = .ok (.value (.float .f64 n.toNat)) w := by
  rw [run_callFunc_extern Try.func172 (by kernel_rfl) (by kernel_rfl) (by kernel_rfl) (e := Extern.MathFloatBits.float64frombits) (by kernel_rfl)]
  rfl

theorem hid {p : Prop} (h : p) : Hid p := h

theorem clear_sign (y : Nat) (h : y < 18446744073709551616) : (bits BinOp.andNot IntKind.u64 (y : Int) 9223372036854775808).toNat = y % 9223372036854775808 := by
  rw [u64_andNot _ _ (by omega) (by omega) (by omega) (by omega)]
  rw [Int.toNat_natCast, Int.toNat_natCast]
  exact Nat.and_two_pow_sub_one_eq_mod y 63

theorem abs_f64 (y : Nat) (h : y < 18446744073709551616) (w : World) :
    Calls Try.prog 157 #[.float .f64 y] w fun e w' => e = .returned (.float .f64 (y % 9223372036854775808)) ∧ w = w' := by
  have hc := hid (clear_sign y h)
  clear h
  go_enter Try.func157, Try.ntmps157
  go_wp2
  go_ret
  exact ⟨by simp [hc.out], rfl⟩

theorem isNaN_f64 (y : Nat) (w : World) :
    Calls Try.prog 125 #[.float .f64 y] w fun e w' => e = .returned (.bool (FloatKind.f64.format.order y y != some .eq)) ∧ w = w' := by
  go_enter Try.func125, Try.ntmps125
  go_wp2
  go_ret
  exact ⟨rfl, rfl⟩

theorem isInf_f64 (y : Nat) (h : y < 18446744073709551616) (w : World) :
    Calls Try.prog 126 #[.float .f64 y, .int .i64 0] w fun e w' => e = .returned (.bool (FloatKind.f64.format.order (y % 9223372036854775808) 9218868437227405311 == some .gt)) ∧ w = w' := by
  have hc := hid h
  clear h
  go_enter Try.func126, Try.ntmps126
  go_wp2_with (go_at_call 157; refine (abs_f64 y hc.out _).mono ?_; rintro e w' ⟨rfl, rfl⟩)
  go_ret
  exact ⟨rfl, rfl⟩

theorem isFinite_t (x : Nat) (hx : x < 4294967296) (h : finB x = true) (w : World) :
    Calls Try.prog 78 #[.float .f32 x] w fun e w' => e = .returned (.bool true) ∧ w = w' := by
  rw [finB_iff] at h
  have hc := fun w => run_conv_wid (P := Try.prog) w 22 29 x hx Try.underlying22 Try.underlying29 h
  obtain ⟨a, b, m, e, hr⟩ := read_wid_fin hx h
  have hn : (FloatKind.f64.format.order (wid x) (wid x) != some .eq) = false := by
    show (D.order (wid x) (wid x) != some .eq) = false
    rw [order_self hr]; rfl
  have hi : (FloatKind.f64.format.order (wid x % 9223372036854775808) 9218868437227405311 == some .gt) = false := by
    show (D.order (wid x % 9223372036854775808) 9218868437227405311 == some .gt) = false
    rw [b, order_ltD a (by decide)]
    rw [DINF_val] at a
    have hle : wid (mg x) ≤ 9218868437227405311 := by omega
    rcases Nat.lt_or_eq_of_le hle with h' | h'
    · rw [Nat.compare_eq_lt.2 h']; rfl
    · rw [Nat.compare_eq_eq.2 h']; rfl
  have hw : wid x < 18446744073709551616 := D.write_lt _
  have Hn := hid hn
  have Hi := hid hi
  have Hw := hid hw
  clear hn hi hw hr a b h hx
  go_enter Try.func78, Try.ntmps78
  go_wp2_with (first | (go_at_call 125; refine (isNaN_f64 (wid x) _).mono ?_; rintro e w' ⟨rfl, rfl⟩; rw [Hn.out]) | (go_at_call 126; refine (isInf_f64 (wid x) Hw.out _).mono ?_; rintro e w' ⟨rfl, rfl⟩; rw [Hi.out]))
  go_ret
  exact ⟨rfl, rfl⟩

theorem isFinite_f (x : Nat) (hx : x < 4294967296) (h : finB x = false) (w : World) :
    Calls Try.prog 78 #[.float .f32 x] w fun e w' => e = .returned (.bool false) ∧ Below w.heap.size w w' := by
  rw [finB_iff'] at h
  rcases Nat.lt_or_eq_of_le h with h | h
  · obtain ⟨z, hc, h1, _⟩ := run_conv_nan (P := Try.prog) w 22 29 x Try.underlying22 Try.underlying29 h
    obtain ⟨s, t, hr⟩ := read_nanD h1
    have Hn := hid (show (FloatKind.f64.format.order z z != some .eq) = true by
      show (D.order z z != some .eq) = true
      rw [order_nan hr]; rfl)
    clear h h1 hr hx
    go_enter Try.func78, Try.ntmps78
    go_wp2_with (go_at_call 125; refine (isNaN_f64 z _).mono ?_; rintro e w' ⟨rfl, rfl⟩; rw [Hn.out])
    go_ret
    exact ⟨rfl, (Below.refl _ _).drew⟩
  · obtain ⟨z, hc, h1, h2⟩ := run_conv_inf (P := Try.prog) w 22 29 x hx Try.underlying22 Try.underlying29 h.symm
    have hr : D.read z = .infinity (decide (9223372036854775808 ≤ z)) := by rw [read_signD h2, h1, read_DINF]
    have Hn := hid (show (FloatKind.f64.format.order z z != some .eq) = false by
      show (D.order z z != some .eq) = false
      rw [order_inf hr]; rfl)
    have Hi := hid (show (FloatKind.f64.format.order (z % 9223372036854775808) 9218868437227405311 == some .gt) = true by
      rw [h1]; decide)
    have H2 := hid h2
    clear h h1 hr hx h2
    go_enter Try.func78, Try.ntmps78
    go_wp2_with (first | (go_at_call 125; refine (isNaN_f64 z _).mono ?_; rintro e w' ⟨rfl, rfl⟩; rw [Hn.out]) | (go_at_call 126; refine (isInf_f64 z H2.out _).mono ?_; rintro e w' ⟨rfl, rfl⟩; rw [Hi.out]))
    go_ret
    exact ⟨rfl, Below.refl _ _⟩

theorem signbit_f64 (y : Nat) (w : World) :
    Calls Try.prog 152 #[.float .f64 y] w fun e w' => e = .returned (.bool (decide (wrap64 (y : Int) < 0))) ∧ w = w' := by
  go_enter Try.func152, Try.ntmps152
  go_wp2
  go_ret
  exact ⟨rfl, rfl⟩

theorem and_sign (y : Nat) (h : y < 18446744073709551616) : (decide (wrap64 (y : Int) < 0)) = decide (9223372036854775808 ≤ y) := by
  unfold wrap64
  by_cases h' : 9223372036854775808 ≤ y
  · rw [decide_eq_true h']; simp; omega
  · rw [decide_eq_false h']; simp; omega

theorem isAmount_t (x : Nat) (h : amtB x = true) (w : World) :
    Calls Try.prog 115 #[.float .f32 x] w fun e w' => e = .returned (.bool true) ∧ w = w' := by
  have hf := amt_fin h
  rw [amtB_iff, INF_val] at h
  have hx : x < 4294967296 := by omega
  have hc := fun w => run_conv_wid (P := Try.prog) w 22 29 x hx Try.underlying22 Try.underlying29 (finB_iff.1 hf)
  have hw : wid x < 18446744073709551616 := D.write_lt _
  have Hs := hid (show (decide (wrap64 (wid x : Int) < 0)) = false by
    rw [and_sign _ hw]
    have := (wid_val (x := x) (by rw [INF_val]; omega)).1
    rw [DINF_val] at this
    simp; omega)
  have Hx := hid hx
  have Hf := hid hf
  clear h hf hx hw
  go_enter Try.func115, Try.ntmps115
  go_wp2_with (first | (go_at_call 78; refine (isFinite_t x Hx.out Hf.out _).mono ?_; rintro e w' ⟨rfl, rfl⟩) | (go_at_call 152; refine (signbit_f64 (wid x) _).mono ?_; rintro e w' ⟨rfl, rfl⟩; rw [Hs.out]))
  go_ret
  exact ⟨rfl, rfl⟩

theorem isAmount_f (x : Nat) (hx : x < 4294967296) (h : amtB x = false) (w : World) :
    Calls Try.prog 115 #[.float .f32 x] w fun e w' => e = .returned (.bool false) ∧ Below w.heap.size w w' := by
  rcases hf : finB x with _ | _
  · have Hx := hid hx
    have Hf := hid hf
    clear h hf hx
    go_enter Try.func115, Try.ntmps115
    go_wp2_with (go_at_call 78; refine (isFinite_f x Hx.out Hf.out _).mono ?_; rintro e w' ⟨rfl, hb⟩)
    go_ret
    exact ⟨rfl, hb⟩
  · have hc := fun w => run_conv_wid (P := Try.prog) w 22 29 x hx Try.underlying22 Try.underlying29 (finB_iff.1 hf)
    have hw : wid x < 18446744073709551616 := D.write_lt _
    have Hs := hid (show (decide (wrap64 (wid x : Int) < 0)) = true by
      rw [and_sign _ hw, wid_fin hx (finB_iff.1 hf)]
      rw [amtB_iff', INF_val] at h
      rw [finB_iff, INF_val] at hf
      unfold mg at hf ⊢
      rw [if_pos (by omega)]
      simp)
    have Hx := hid hx
    have Hf := hid hf
    clear h hf hx hw
    go_enter Try.func115, Try.ntmps115
    go_wp2_with (first | (go_at_call 78; refine (isFinite_t x Hx.out Hf.out _).mono ?_; rintro e w' ⟨rfl, rfl⟩) | (go_at_call 152; refine (signbit_f64 (wid x) _).mono ?_; rintro e w' ⟨rfl, rfl⟩; rw [Hs.out]))
    go_ret
    exact ⟨rfl, Below.refl _ _⟩

theorem info_f32 : ∃ i, Try.prog.info? 22 = some i ∧ i.size = 1 := by
  have h : (Try.prog.info? 22).map (·.size) = some 1 := by kernel_rfl
  cases hi : Try.prog.info? 22 with
  | none => rw [hi] at h; cases h
  | some i => rw [hi] at h; exact ⟨i, rfl, Option.some.inj h⟩

theorem ix (T : TypeId) (hT : Try.prog.underlying T = some (.array 20 22)) (c : Nat → Nat) (k : Nat) (hk : k < 20) (w : World) :
    (Instr.index T (.agg (fls c)) (.int .i64 (k : Int))).run Try.prog w = .ok (.float .f32 (c k)) w := by
  obtain ⟨i, h1, h2⟩ := info_f32
  exact run_index_arr hT Try.underlying22 rfl h1 h2 _ _ hk _ (fls_get c hk) w

@[go_sem] theorem ext_f32bits (y : Nat) (w : World) : (callFunc 151 #[.float .f32 y]).run Try.prog w = .ok (.value (.int .u32 y)) w := by
  rw [run_callFunc_extern Try.func151 (by kernel_rfl) (by kernel_rfl) (by kernel_rfl) (e := Extern.MathFloatBits.float32bits) (by kernel_rfl)]
  rfl

theorem sFinite_t (x : Nat) (hx : x < 4294967296) (h : finB x = true) (w : World) :
    Calls Try.prog 75 #[.float .f32 x] w fun e w' => e = .returned (.bool true) ∧ w = w' := by
  have hr := fun w => run_float_arith (P := Try.prog) w .sub 22 .f32 x x 0 (sub_self_fin hx h)
  clear h hx
  go_enter Try.func75, Try.ntmps75
  go_wp2
  go_ret
  exact ⟨rfl, rfl⟩

theorem sFinite_f (x : Nat) (hx : x < 4294967296) (h : finB x = false) (w : World) :
    Calls Try.prog 75 #[.float .f32 x] w fun e w' => e = .returned (.bool false) ∧ Below w.heap.size w w' := by
  obtain ⟨z, hr, h1, _⟩ := run_arith_nan (P := Try.prog) w .sub (by simp) 22 x x (sub_self_none hx h)
  have Hn := hid (show (FloatKind.f32.format.order z 0 == some .eq) = false by
    show (S.order z 0 == some .eq) = false
    rw [order_nan32 h1]; rfl)
  clear h hx h1
  go_enter Try.func75, Try.ntmps75
  go_wp2
  go_ret
  exact ⟨by simp [Hn.out], (Below.refl _ _).drew⟩

theorem sAmount_t (x : Nat) (h : amtB x = true) (w : World) :
    Calls Try.prog 112 #[.float .f32 x] w fun e w' => e = .returned (.bool true) ∧ w = w' := by
  have hf := amt_fin h
  have h' := amtB_iff.1 h
  have hx : x < 4294967296 := by rw [INF_val] at h'; omega
  have Hx := hid hx
  have Hf := hid hf
  by_cases h0 : x = 0
  · subst h0
    clear h hf h' hx
    go_enter Try.func112, Try.ntmps112
    go_wp2_with (go_at_call 75; refine (sFinite_t 0 Hx.out Hf.out _).mono ?_; rintro e w' ⟨rfl, rfl⟩)
    go_ret
    exact ⟨rfl, rfl⟩
  · have hg : (FloatKind.f32.format.order x 0 == some .gt) = true := by
      show (S.order x 0 == some .gt) = true
      rw [order_zero_pos h', Nat.compare_eq_gt.2 (by omega)]; rfl
    clear h hf h' hx h0
    go_enter Try.func112, Try.ntmps112
    go_wp2_with (go_at_call 75; refine (sFinite_t x Hx.out Hf.out _).mono ?_; rintro e w' ⟨rfl, rfl⟩)
    go_ret
    exact ⟨rfl, rfl⟩

theorem sAmount_f (x : Nat) (hx : x < 4294967296) (h : amtB x = false) (w : World) :
    Calls Try.prog 112 #[.float .f32 x] w fun e w' => e = .returned (.bool false) ∧ Below w.heap.size w w' := by
  rcases hf : finB x with _ | _
  · have Hx := hid hx
    have Hf := hid hf
    clear h hf hx
    go_enter Try.func112, Try.ntmps112
    go_wp2_with (go_at_call 75; refine (sFinite_f x Hx.out Hf.out _).mono ?_; rintro e w' ⟨rfl, hb⟩)
    go_ret
    exact ⟨rfl, hb⟩
  · have hs : 2147483648 ≤ x := by
      rw [amtB_iff', INF_val] at h
      have := finB_iff.1 hf
      rw [INF_val] at this
      unfold mg at this
      omega
    have hg : (FloatKind.f32.format.order x 0 == some .gt) = false := order_neg_zero hx hf hs
    have hb : ((x : Int) == 0) = false := by simp; omega
    have Hx := hid hx
    have Hf := hid hf
    clear h hf hx hs
    go_enter Try.func112, Try.ntmps112
    go_wp2_with (go_at_call 75; refine (sFinite_t x Hx.out Hf.out _).mono ?_; rintro e w' ⟨rfl, rfl⟩)
    go_ret
    exact ⟨rfl, Below.refl _ _⟩

theorem div_one_some {y m : Nat} {s : Bool} {e : Int} (h : D.read y = .number s m e) : ∃ q, floatBits .quo .f64 4607182418800017408 y = some q := by
  have h1 : D.read 4607182418800017408 = .number false 4503599627370496 (-52) := by decide
  show ∃ q, D.div 4607182418800017408 y = some q
  unfold Ieee.Format.div
  rw [h, h1]
  simp only [Ieee.Datum.quotient]
  by_cases hm : m = 0
  · rw [if_pos hm]; exact ⟨_, rfl⟩
  · rw [if_neg hm]; exact ⟨_, rfl⟩

set_option maxRecDepth 100000 in
theorem sameFloat (x : Nat) (hx : x < 4294967296) (h : finB x = true) (w : World) :
    Calls Try.prog 17 #[.float .f64 (wid x), .float .f64 (wid x)] w fun e w' => e = .returned (.bool true) ∧ w = w' := by
  obtain ⟨a, b, m, e, hr⟩ := read_wid_fin hx (finB_iff.1 h)
  have hn : (FloatKind.f64.format.order (wid x) (wid x) != some .eq) = false := by
    show (D.order (wid x) (wid x) != some .eq) = false
    rw [order_self hr]; rfl
  have hq : (FloatKind.f64.format.order (wid x) (wid x) == some .eq) = true := by
    show (D.order (wid x) (wid x) == some .eq) = true
    rw [order_self hr]; rfl
  obtain ⟨q, hd⟩ := div_one_some hr
  have hdiv := fun w => run_float_arith (P := Try.prog) w .quo 29 .f64 4607182418800017408 (wid x) q hd
  clear hd hr a b h hx
  rcases hz : (FloatKind.f64.format.order (wid x) 0 == some .eq) with _ | _
  · go_enter Try.func17, Try.ntmps17
    go_wp2
    go_ret
    exact ⟨by simp, rfl⟩
  · go_enter Try.func17, Try.ntmps17
    go_wp2
    go_ret
    exact ⟨by simp, rfl⟩

theorem back {P : Program} {f : FuncId} {args : Array Value} {w : World} {v : Value} (h : Calls P f args w fun e w' => e = .returned v ∧ w = w') : Calls P f args w fun e w' => e = .returned v ∧ w' = w :=
  h.mono fun _ _ ⟨a, b⟩ => ⟨a, b.symm⟩

theorem l00In_t (n a b : Int) (h1 : a ≤ n) (h2 : n ≤ b) (w : World) :
    Calls Try.prog 73 #[.int .i64 n, .int .i64 a, .int .i64 b] w fun e w' => e = .returned (.bool true) ∧ w = w' := by
  go_enter Try.func73, Try.ntmps73
  go_wp2
  go_ret
  exact ⟨by first | rfl | (simp; done) | (simp; omega), rfl⟩

theorem l00In_f (n a b : Int) (hn : ¬ (a ≤ n ∧ n ≤ b)) (w : World) :
    Calls Try.prog 73 #[.int .i64 n, .int .i64 a, .int .i64 b] w fun e w' => e = .returned (.bool false) ∧ w = w' := by
  by_cases h0 : a ≤ n
  · have h3 : b < n := by omega
    clear hn
    go_enter Try.func73, Try.ntmps73
    go_wp2
    go_ret
    exact ⟨by first | rfl | (simp; done) | (simp; omega), rfl⟩
  · have h3 : n < a := by omega
    have h4 : decide (a ≤ n) = false := by simp; omega
    clear hn h0
    go_enter Try.func73, Try.ntmps73
    go_wp2
    go_ret
    exact ⟨by simp, rfl⟩

theorem loose {P : Program} {f : FuncId} {args : Array Value} {w : World} {v : Value} (h : Calls P f args w fun e w' => e = .returned v ∧ w = w') : Calls P f args w fun e w' => e = .returned v ∧ Below w.heap.size w w' :=
  h.mono fun _ _ ⟨a, b⟩ => ⟨a, b ▸ Below.refl _ _⟩

theorem info_air : (Try.prog.info? 47).map (·.size) = some 2 := by kernel_rfl

theorem info_lair : (Try.prog.info? 40).map (·.size) = some 2 := by kernel_rfl

def fltOf : Value → Nat
  | .float _ b => b
  | _ => 0

set_option maxRecDepth 100000 in
theorem toAir (h v : Nat) (w : World) :
    Calls Try.prog 65 #[.agg #[.float .f32 h, .float .f32 v]] w fun e w' => e = .returned (.agg #[.float .f32 h, .float .f32 v]) ∧ Below w.heap.size w w' := by
  have k0 : Hid (Kept w [(w.heap.size + 1, #[.float .f32 h, .float .f32 v], 47)] (((w.alloc (.cells #[.float .f32 h, .float .f32 v] 40)).alloc (.cells #[.float .f32 h, .float .f32 v] 47)).alloc (.cells #[.float .f32 h, .float .f32 v] 47))) := hid (((((Kept.nil w).push _ _).push _ _).push _ _).sub (by simp))
  go_enter Try.func65, Try.ntmps65
  go_wp2
  exact bodyPost_ret (results_cell_row rfl _ _ (w.heap.size + 1) 47 #[.float .f32 h, .float .f32 v] (0, 0) _ rfl (k0.out.at (x := (w.heap.size + 1, #[.float .f32 h, .float .f32 v], 47)) (by simp)) Try.underlying47 rfl info_air) rfl ⟨rfl, k0.out.1⟩

set_option maxRecDepth 100000 in
theorem eqAir (h v : Nat) (hh : h < 4294967296) (hv : v < 4294967296) (fh : finB h = true) (fv : finB v = true) (w : World) :
    Calls Try.prog 82 #[.agg #[.float .f32 h, .float .f32 v], .agg #[.float .f32 h, .float .f32 v]] w fun e w' => e = .returned (.bool true) ∧ Below w.heap.size w w' := by
  have hc0 := fun w => run_conv_wid (P := Try.prog) w 22 29 h hh Try.underlying22 Try.underlying29 (finB_iff.1 fh)
  have hc1 := fun w => run_conv_wid (P := Try.prog) w 22 29 v hv Try.underlying22 Try.underlying29 (finB_iff.1 fv)
  have Hh := hid hh
  have Hv := hid hv
  have Fh := hid fh
  have Fv := hid fv
  have b0 := boxed2 w (.cells #[.float .f32 h, .float .f32 v] 47) (.cells #[.float .f32 h, .float .f32 v] 47)
  clear hh hv fh fv
  go_enter Try.func82, Try.ntmps82
  go_wp2_with fail
  refine (sameFloat h Hh.out Fh.out _).mono ?_
  rintro e w1 ⟨rfl, rfl⟩
  go_wp2_with fail
  refine (sameFloat v Hv.out Fv.out _).mono ?_
  rintro e w1 ⟨rfl, rfl⟩
  go_wp2
  go_ret
  exact ⟨rfl, b0⟩

theorem iHeat (x : Nat) (q : Bool) (hq : heatB x = q) (w : World) :
    Calls Try.prog 155 #[.float .f32 x] w fun e w' => e = .returned (.bool q) ∧ w = w' := by
  have h1 : heatB x = ((FloatKind.f32.format.order x 3262119936 == some .gt || FloatKind.f32.format.order x 3262119936 == some .eq) && (FloatKind.f32.format.order x 1114636288 == some .lt || FloatKind.f32.format.order x 1114636288 == some .eq)) := rfl
  rw [h1] at hq
  clear h1
  rcases a : (FloatKind.f32.format.order x 3262119936 == some .gt || FloatKind.f32.format.order x 3262119936 == some .eq) with _ | _
  · rw [a] at hq
    simp only [Bool.false_and] at hq
    subst hq
    go_enter Try.func155, Try.ntmps155
    go_wp2
    go_ret
    exact ⟨rfl, rfl⟩
  · rw [a] at hq
    simp only [Bool.true_and] at hq
    cases q
    all_goals
      go_enter Try.func155, Try.ntmps155
      go_wp2
      go_ret
      exact ⟨rfl, rfl⟩

theorem sHeat (x : Nat) (q : Bool) (hq : heatB x = q) (w : World) :
    Calls Try.prog 154 #[.float .f32 x] w fun e w' => e = .returned (.bool q) ∧ w = w' := by
  have h1 : heatB x = ((FloatKind.f32.format.order x 3262119936 == some .gt || FloatKind.f32.format.order x 3262119936 == some .eq) && (FloatKind.f32.format.order x 1114636288 == some .lt || FloatKind.f32.format.order x 1114636288 == some .eq)) := rfl
  rw [h1] at hq
  clear h1
  rcases a : (FloatKind.f32.format.order x 3262119936 == some .gt || FloatKind.f32.format.order x 3262119936 == some .eq) with _ | _
  · rw [a] at hq
    simp only [Bool.false_and] at hq
    subst hq
    go_enter Try.func154, Try.ntmps154
    go_wp2
    go_ret
    exact ⟨rfl, rfl⟩
  · rw [a] at hq
    simp only [Bool.true_and] at hq
    cases q
    all_goals
      go_enter Try.func154, Try.ntmps154
      go_wp2
      go_ret
      exact ⟨rfl, rfl⟩

set_option maxRecDepth 100000 in
theorem iValidAir (h v : Nat) (hv : v < 4294967296) (q : Bool) (hq : airB h v = q) (w : World) :
    Calls Try.prog 119 #[.agg #[.float .f32 h, .float .f32 v]] w fun e w' => e = .returned (.bool q) ∧ Below w.heap.size w w' := by
  have b0 := boxed w (.cells #[.float .f32 h, .float .f32 v] 47)
  have Hv := hid hv
  have e1 : airB h v = (heatB h && amtB v && vapB v) := rfl
  rw [e1] at hq
  clear hv e1
  rcases a : heatB h with _ | _
  · have Ha := hid a
    rw [a] at hq
    simp only [Bool.false_and] at hq
    subst hq
    clear a
    go_enter Try.func119, Try.ntmps119
    go_wp2_with fail
    refine (iHeat h false Ha.out _).mono ?_
    rintro e w1 ⟨rfl, rfl⟩
    go_wp2
    go_ret
    exact ⟨rfl, b0⟩
  · have Ha := hid a
    rw [a] at hq
    clear a
    rcases b : amtB v with _ | _
    · have Hb := hid b
      rw [b] at hq
      simp only [Bool.and_false, Bool.false_and] at hq
      subst hq
      clear b
      go_enter Try.func119, Try.ntmps119
      go_wp2_with fail
      refine (iHeat h true Ha.out _).mono ?_
      rintro e w1 ⟨rfl, rfl⟩
      go_wp2_with fail
      refine (isAmount_f v Hv.out Hb.out _).mono ?_
      rintro e w1 ⟨rfl, hb1⟩
      go_wp2
      go_ret
      exact ⟨rfl, stp b0 (Nat.le_refl _) hb1⟩
    · have Hb := hid b
      rw [b] at hq
      simp only [Bool.true_and] at hq
      have hc : (FloatKind.f32.format.order v 1148846080 == some .lt || FloatKind.f32.format.order v 1148846080 == some .eq) = q := hq
      clear b hq
      cases q
      all_goals
        go_enter Try.func119, Try.ntmps119
        go_wp2_with fail
        refine (iHeat h true Ha.out _).mono ?_
        rintro e w1 ⟨rfl, rfl⟩
        go_wp2_with fail
        refine (isAmount_t v Hb.out _).mono ?_
        rintro e w1 ⟨rfl, rfl⟩
        go_wp2
        go_ret
        exact ⟨rfl, b0⟩

set_option maxRecDepth 100000 in
theorem sAirOk_t (h v : Nat) (hq : airB h v = true) (w : World) (g : Nat) (T : TypeId) (hg : airAt w g h v T) :
    Calls Try.prog 118 #[.pointer (some ⟨g, 0, none⟩)] w fun e w' => e = .returned (.bool true) ∧ w = w' := by
  have c0 := hg.c0
  have c1 := hg.c1
  obtain ⟨a, b, c⟩ := airB_iff.1 hq
  have hc : (FloatKind.f32.format.order v 1148846080 == some .lt || FloatKind.f32.format.order v 1148846080 == some .eq) = true := c
  have Ha := hid a
  have Hb := hid b
  clear a b c hq hg
  go_enter Try.func118, Try.ntmps118
  go_wp2_with fail
  refine (sHeat h true Ha.out _).mono ?_
  rintro e w1 ⟨rfl, rfl⟩
  go_wp2_with fail
  refine (sAmount_t v Hb.out _).mono ?_
  rintro e w1 ⟨rfl, rfl⟩
  go_wp2
  go_ret
  exact ⟨rfl, rfl⟩

theorem ext_floor (X K : Nat) (h : D.write ((D.read X).integral .down) = K) (hn : ∃ s m e, D.read X = .number s m e) (w : World) : (callFunc 179 #[.float .f64 X]).run Try.prog w = .ok (.value (.float .f64 K)) w := by
  rw [run_callFunc_extern Try.func179 (by kernel_rfl) (by kernel_rfl) (by kernel_rfl) (e := Extern.MathFloor.toIntegral "math.archFloor" .down) (by kernel_rfl)]
  obtain ⟨s, m, e, hr⟩ := hn
  have hr' : FloatKind.f64.decode X = .number s m e := hr
  rw [hr] at h
  have h' : FloatKind.f64.encode ((Ieee.Datum.number s m e).integral .down) = K := h
  have e2 : (Extern.MathFloor.toIntegral "math.archFloor" .down #[.float .f64 X]).run Try.prog w = .ok (.float .f64 K) w := by
    rw [← h']
    show Sem.run _ (match FloatKind.f64.decode X with | .nan _ _ => _ | d => (pure (Value.float .f64 (FloatKind.f64.encode (d.integral .down))) : Sem Value)) w = _
    rw [hr']
    rfl
  rw [e2]
  rfl

theorem floor_f64 (X K : Nat) (h : D.write ((D.read X).integral .down) = K) (hn : ∃ s m e, D.read X = .number s m e) (w : World) :
    Calls Try.prog 177 #[.float .f64 X] w fun e w' => e = .returned (.float .f64 K) ∧ w = w' := by
  have hx := fun w => ext_floor X K h hn w
  clear h hn
  go_enter Try.func177, Try.ntmps177
  go_wp2
  go_ret
  exact ⟨rfl, rfl⟩

theorem normalize_f64 (y : Nat) (h0 : 4503599627370496 ≤ y) (h1 : y < 9218868437227405312) (w : World) :
    Calls Try.prog 184 #[.float .f64 y] w fun e w' => e = .returned (.tuple #[.float .f64 y, .int .i64 0]) ∧ w = w' := by
  have hl := hid (show y < 18446744073709551616 by omega)
  have hm : y % 9223372036854775808 = y := Nat.mod_eq_of_lt (by omega)
  have hc : (FloatKind.f64.format.order y 4503599627370496 == some .lt) = false := by
    show (D.order y 4503599627370496 == some .lt) = false
    rw [order_ltD (by rw [DINF_val]; omega) (by rw [DINF_val]; decide)]
    rcases Nat.lt_or_eq_of_le h0 with h | h
    · rw [Nat.compare_eq_gt.2 h]; rfl
    · rw [Nat.compare_eq_eq.2 h.symm]; rfl
  have Hm := hid hm
  clear h0 h1 hm
  go_enter Try.func184, Try.ntmps184
  go_wp2_with fail
  refine (abs_f64 y hl.out _).mono ?_
  rintro e w1 ⟨rfl, rfl⟩
  rw [Hm.out]
  go_wp2
  go_ret2
  exact ⟨rfl, rfl⟩

theorem mul_ONE {r : Nat} (h : r < DINF) : D.mul 4607182418800017408 r = some r := by
  obtain ⟨m1, m2⟩ := mul_eqD (x := 4607182418800017408) (y := r) (by decide) (amtB_iffD.2 h)
  rw [m1, fmul_valD (by rw [DINF_val]; decide) h]
  refine congrArg some (Eq.trans (nearest_congrD (m' := valD r) (E := -1074) (E' := 0) 0 VONED (by have := VONED_val; omega) ?_) (nearest_valD h))
  rw [val_ONED, Nat.pow_zero, Nat.mul_one, Nat.mul_comm]

set_option maxRecDepth 100000 in
theorem ldexp_f64 (y : Nat) (n : Int) (h0 : 4607182418800017408 ≤ y) (h1 : y < 4688246992172703744) (t : Int) (R : Nat) (E : Exps y n t R) (hRf : R < DINF) (hn : -100 ≤ n) (hn2 : n ≤ 100) (w : World) :
    Calls Try.prog 182 #[.float .f64 y, .int .i64 n] w fun e w' => e = .returned (.float .f64 R) ∧ w = w' := by
  have hy0 : (FloatKind.f64.format.order y 0 == some .eq) = false := by
    show (D.order y 0 == some .eq) = false
    rw [order_ltD (by rw [DINF_val]; omega) (by rw [DINF_val]; decide), Nat.compare_eq_gt.2 (by omega)]; rfl
  have hl := hid (show y < 18446744073709551616 by omega)
  have hn1 := hid (show 4503599627370496 ≤ y by omega)
  have hn3 := hid (show y < 9218868437227405312 by omega)
  have hi := hid (show (FloatKind.f64.format.order (y % 9223372036854775808) 9218868437227405311 == some .gt) = false by
    rw [Nat.mod_eq_of_lt (by omega)]
    show (D.order y 9218868437227405311 == some .gt) = false
    rw [order_ltD (by rw [DINF_val]; omega) (by rw [DINF_val]; decide), Nat.compare_eq_lt.2 (by omega)]; rfl)
  have hq := hid (show (FloatKind.f64.format.order y y != some .eq) = false by
    show (D.order y y != some .eq) = false
    rw [order_ltD (by rw [DINF_val]; omega) (by rw [DINF_val]; omega), Nat.compare_eq_eq.2 rfl]; rfl)
  have hm := fun w => run_float_arith (P := Try.prog) w .mul 29 .f64 4607182418800017408 R R (mul_ONE hRf)
  obtain ⟨ht, d1, d2, d3, hR⟩ := E
  clear h0 h1 hRf
  go_enter Try.func182, Try.ntmps182
  go_wp2_with fail
  refine (isInf_f64 y hl.out _).mono ?_
  rintro e w1 ⟨rfl, rfl⟩
  rw [hi.out]
  go_wp2_with fail
  refine (isNaN_f64 y _).mono ?_
  rintro e w1 ⟨rfl, rfl⟩
  rw [hq.out]
  go_wp2_with fail
  refine (normalize_f64 y hn1.out hn3.out _).mono ?_
  rintro e w1 ⟨rfl, rfl⟩
  go_wp2
  go_ret
  exact ⟨rfl, rfl⟩

theorem Ldexp_f64 (y : Nat) (n : Int) (h0 : 4607182418800017408 ≤ y) (h1 : y < 4688246992172703744) (t : Int) (R : Nat) (E : Exps y n t R) (hRf : R < DINF) (hn : -100 ≤ n) (hn2 : n ≤ 100) (w : World) :
    Calls Try.prog 178 #[.float .f64 y, .int .i64 n] w fun e w' => e = .returned (.float .f64 R) ∧ w = w' := by
  have H0 := hid h0
  have H1 := hid h1
  have HE := hid E
  have HR := hid hRf
  have HN := hid hn
  have HN2 := hid hn2
  clear h0 h1 E hRf hn hn2
  go_enter Try.func178, Try.ntmps178
  go_wp2_with fail
  refine (ldexp_f64 y n H0.out H1.out t R HE.out HR.out HN.out HN2.out _).mono ?_
  rintro e w1 ⟨rfl, rfl⟩
  go_wp2
  go_ret
  exact ⟨rfl, rfl⟩

set_option maxRecDepth 100000 in
theorem iTwo (x j : Nat) (hx : x < 4294967296) (hf : finB x = true) (T : TwoF x j) (hj : j ≤ 100) (w : World) :
    Calls Try.prog 175 #[.float .f32 x] w fun e w' => e = .returned (.float .f32 (two x)) ∧ w = w' := by
  have hc := fun w => run_conv_wid (P := Try.prog) w 22 29 x hx Try.underlying22 Try.underlying29 (finB_iff.1 hf)
  have hs := fun w => run_float_arith (P := Try.prog) w .sub 29 .f64 _ _ _ T.sub
  have hm := fun w => run_float_arith (P := Try.prog) w .mul 29 .f64 _ _ _ T.mul
  have hi := fun w => run_convert_float_int (P := Try.prog) w 29 3 .f64 .i64 (kF x) (iF x) (by rw [Try.underlying29]; rfl) Try.underlying3 (iF_conv T hj)
  have ho := fun w => run_convert_float_float (P := Try.prog) w 29 22 .f64 .f32 (rF x) (two x) (by rw [Try.underlying29]; rfl) Try.underlying22 (two_bounds T hj).2.2
  have E := exps T.s1 T.s2 (iF_bd T hj).1 (iF_bd T hj).2
  rw [rF_word T hj] at E
  have HE := hid E
  have HT := hid T
  have HJ := hid hj
  clear hx hf T hj E
  go_enter Try.func175, Try.ntmps175
  go_wp2_with fail
  refine (floor_f64 (wid x) (kF x) HT.out.fl HT.out.num _).mono ?_
  rintro e w1 ⟨rfl, rfl⟩
  go_wp2_with fail
  go_loop [5, 6] (fun s i => ∃ m : Nat, m ≤ 14 ∧ i = .int .i64 m ∧ s = .float .f64 (ser (yF x) (14 - m))) (fun _ i => (intOf i).toNat)
  case atStart => exact ⟨14, by omega, rfl, rfl⟩
  case round =>
    obtain ⟨m, hm14, rfl, rfl⟩ := hrel
    by_cases h1 : 1 ≤ m
    · obtain ⟨q, p, s⟩ := term2 HT.out.y h1 hm14
      have q1 := fun w => run_float_arith (P := Try.prog) w .quo 29 .f64 _ _ _ q
      have q2 := fun w => run_float_arith (P := Try.prog) w .mul 29 .f64 _ _ _ p
      have q3 := fun w => run_float_arith (P := Try.prog) w .add 29 .f64 _ _ _ s
      clear q p s
      go_wp2
      go_round
      case rel => exact ⟨m - 1, by omega, by rw [show ((m - 1 : Nat) : Int) = (m : Int) - 1 by omega], rfl⟩
      case measure => simp [intOf]; omega
    · obtain rfl : m = 0 := by omega
      clear hs hm
      have hS : ser (yF x) (14 - 0) = sF x := rfl
      rw [hS]
      clear hS
      go_wp2_with fail
      refine (Ldexp_f64 (sF x) (iF x) HT.out.s1 HT.out.s2 _ (rF x) HE.out (rF_lt HT.out HJ.out) (iF_bd HT.out HJ.out).1 (iF_bd HT.out HJ.out).2 _).mono ?_
      rintro e w1 ⟨rfl, rfl⟩
      go_wp2
      go_ret
      exact ⟨rfl, rfl⟩

theorem s_pos {x j i : Nat} (T : TwoF x j) (hj : j ≤ 100) (hi : i < nF x) : D.mul (sF x + i * 4503599627370496) 4611686018427387904 = some (sF x + (i + 1) * 4503599627370496) := by
  have h := dbl (s := sF x + i * 4503599627370496) (by have := T.s1; omega) (by have := T.s2; have := T.n; rw [DINF_val]; omega)
  rw [h, Nat.add_mul i 1, Nat.one_mul, Nat.add_assoc]

theorem s_neg {x j i : Nat} (T : TwoF x j) (hj : j ≤ 100) (hi : i < nF x) : D.div (sF x - i * 4503599627370496) 4611686018427387904 = some (sF x - (i + 1) * 4503599627370496) := by
  have h := hlv (s := sF x - i * 4503599627370496) (by have := T.s1; have := T.n; omega) (by have := T.s2; rw [DINF_val]; omega)
  rw [h, Nat.add_mul i 1, Nat.one_mul, Nat.sub_sub]

set_option maxRecDepth 100000 in
set_option maxHeartbeats 1000000 in
theorem sTwo (x j : Nat) (hx : x < 4294967296) (hf : finB x = true) (T : TwoF x j) (hj : j ≤ 100) (w : World) :
    Calls Try.prog 176 #[.float .f32 x] w fun e w' => e = .returned (.float .f32 (two x)) ∧ w = w' := by
  have hc := fun w => run_conv_wid (P := Try.prog) w 22 29 x hx Try.underlying22 Try.underlying29 (finB_iff.1 hf)
  have hs := fun w => run_float_arith (P := Try.prog) w .sub 29 .f64 _ _ _ T.sub
  have hm := fun w => run_float_arith (P := Try.prog) w .mul 29 .f64 _ _ _ T.mul
  have ho := fun w => run_convert_float_float (P := Try.prog) w 29 22 .f64 .f32 (rF x) (two x) (by rw [Try.underlying29]; rfl) Try.underlying22 (two_bounds T hj).2.2
  have hn := hid (show nF x ≤ 100 by have := T.n; omega)
  have HT := hid T
  have HJ := hid hj
  have hk : kF x = kW (sgB x) (nF x) := rfl
  have hr : rF x = if sgB x = true then sF x - nF x * 4503599627370496 else sF x + nF x * 4503599627370496 := rfl
  have HK := hid hk
  have HR := hid hr
  clear hx hf T hj hk hr
  go_enter Try.func176, Try.ntmps176
  go_wp2_with fail
  refine (floor_f64 (wid x) (kF x) HT.out.fl HT.out.num _).mono ?_
  rintro e w1 ⟨rfl, rfl⟩
  go_wp2_with fail
  go_loop [5, 6] (fun s i => ∃ m : Nat, m ≤ 14 ∧ i = .int .i64 m ∧ s = .float .f64 (ser (yF x) (14 - m))) (fun _ i => (intOf i).toNat)
  case atStart => exact ⟨14, by omega, rfl, rfl⟩
  case round =>
    obtain ⟨m, hm14, rfl, rfl⟩ := hrel
    by_cases h1 : 1 ≤ m
    · obtain ⟨q, p, s⟩ := term2 HT.out.y h1 hm14
      have q1 := fun w => run_float_arith (P := Try.prog) w .quo 29 .f64 _ _ _ q
      have q2 := fun w => run_float_arith (P := Try.prog) w .mul 29 .f64 _ _ _ p
      have q3 := fun w => run_float_arith (P := Try.prog) w .add 29 .f64 _ _ _ s
      clear q p s
      go_wp2
      go_round
      case rel => exact ⟨m - 1, by omega, by rw [show ((m - 1 : Nat) : Int) = (m : Int) - 1 by omega], rfl⟩
      case measure => simp [intOf]; omega
    · obtain rfl : m = 0 := by omega
      clear hs hm
      have hS : ser (yF x) (14 - 0) = sF x := rfl
      rw [hS]
      clear hS
      rcases hsg : sgB x with _ | _
      · have hk0 : kF x = kW false (nF x - 0) := by rw [HK.out, hsg]; rfl
        have hr0 := HR.out
        rw [hsg, if_neg (by decide)] at hr0
        have HR0 := hid hr0
        rw [hk0]
        clear hr0 hsg hk0
        go_wp2
        go_loop [3, 5] (fun k s => ∃ i : Nat, i ≤ nF x ∧ k = .float .f64 (kW false (nF x - i)) ∧ s = .float .f64 (sF x + i * 4503599627370496)) (fun k _ => fltOf k)
        case atStart => exact ⟨0, by omega, rfl, by simp⟩
        case round =>
          obtain ⟨i, hi, rfl, rfl⟩ := hrel
          by_cases hlt : i < nF x
          · have K := kFacts (N := nF x - i) (by have := hn.out; omega)
            have q0 : (FloatKind.f64.format.order (kW false (nF x - i)) 0 == some .gt) = true := by
              show (D.order (kW false (nF x - i)) 0 == some .gt) = true
              rw [K.ordP, if_neg (by omega : ¬ nF x - i = 0)]; rfl
            have q1 := fun w => run_float_arith (P := Try.prog) w .mul 29 .f64 _ _ _ (s_pos HT.out HJ.out hlt)
            have q2 := fun w => run_float_arith (P := Try.prog) w .sub 29 .f64 _ _ _ (K.sub (by omega))
            have q3 := hid (show kW false (nF x - i - 1) < kW false (nF x - i) by
              have := kW_lt (N := nF x - i - 1) (by have := hn.out; omega)
              rwa [show nF x - i - 1 + 1 = nF x - i by omega] at this)
            clear K
            go_wp2
            go_round
            case rel => exact ⟨i + 1, by omega, by rw [show nF x - (i + 1) = nF x - i - 1 by omega], rfl⟩
            case measure => exact q3.out
          · obtain rfl : i = nF x := by omega
            rw [Nat.sub_self, ← HR0.out]
            have q0 : (FloatKind.f64.format.order (kW false 0) 0 == some .gt) = false := by decide +kernel
            have q1 : (FloatKind.f64.format.order (kW false 0) 0 == some .lt) = false := by decide +kernel
            go_wp2
            go_loop [3, 5] (fun k s => k = .float .f64 (kW false 0) ∧ s = .float .f64 (rF x)) (fun _ _ => 0)
            case atStart => exact ⟨rfl, rfl⟩
            case round =>
              obtain ⟨rfl, rfl⟩ := hrel
              go_wp2
              go_ret
              exact ⟨rfl, rfl⟩
      · have hk0 : kF x = kU (nF x) 0 := by
          rw [HK.out, hsg]
          unfold kU
          by_cases h0 : nF x = 0
          · rw [if_neg (by omega), if_pos h0, h0]
          · rw [if_pos (by omega)]; rfl
        have hr0 := HR.out
        rw [hsg, if_pos rfl] at hr0
        have HR0 := hid hr0
        rw [hk0]
        have q0 : (FloatKind.f64.format.order (kU (nF x) 0) 0 == some .gt) = false := by
          rw [← hk0, HK.out, hsg]
          show (D.order (kW true (nF x)) 0 == some .gt) = false
          rw [(kFacts hn.out).ordN]
          split <;> rfl
        clear hr0 hsg hk0
        go_wp2
        go_loop [3, 5] (fun k s => k = .float .f64 (kU (nF x) 0) ∧ s = .float .f64 (sF x)) (fun _ _ => 0)
        case atStart => exact ⟨rfl, rfl⟩
        case round =>
          obtain ⟨rfl, rfl⟩ := hrel
          go_wp2
          clear q0
          go_loop [3, 5] (fun k s => ∃ i : Nat, i ≤ nF x ∧ k = .float .f64 (kU (nF x) i) ∧ s = .float .f64 (sF x - i * 4503599627370496)) (fun k _ => fltOf k)
          case atStart => exact ⟨0, by omega, rfl, by simp⟩
          case round =>
            obtain ⟨i, hi, rfl, rfl⟩ := hrel
            by_cases hlt : i < nF x
            · obtain ⟨k1, k2, k3⟩ := kU_step hn.out hlt
              have q0 : (FloatKind.f64.format.order (kU (nF x) i) 0 == some .lt) = true := k3
              have q1 := fun w => run_float_arith (P := Try.prog) w .quo 29 .f64 _ _ _ (s_neg HT.out HJ.out hlt)
              have q2 := fun w => run_float_arith (P := Try.prog) w .add 29 .f64 _ _ _ k1
              have q3 := hid k2
              clear k1 k2 k3
              go_wp2
              go_round
              case rel => exact ⟨i + 1, by omega, rfl, rfl⟩
              case measure => exact q3.out
            · obtain rfl : i = nF x := by omega
              rw [← HR0.out]
              have q1 : (FloatKind.f64.format.order (kU (nF x) (nF x)) 0 == some .lt) = false := kU_end
              go_wp2
              go_ret
              exact ⟨rfl, rfl⟩

theorem iSat (h : Nat) (F : SatF h) (w : World) :
    Calls Try.prog 173 #[.float .f32 h] w fun e w' => e = .returned (.float .f32 (satF h)) ∧ w = w' := by
  have hd := fun w => run_float_arith (P := Try.prog) w .quo 22 .f32 _ _ _ F.div
  have hm := fun w => run_float_arith (P := Try.prog) w .mul 22 .f32 _ _ _ F.mul
  have HF := hid F
  clear F
  go_enter Try.func173, Try.ntmps173
  go_wp2_with fail
  refine (iTwo (hqF h) 16 HF.out.qlt HF.out.qfin HF.out.T (by decide) _).mono ?_
  rintro e w1 ⟨rfl, rfl⟩
  go_wp2
  go_ret
  exact ⟨rfl, rfl⟩

theorem sSat (h : Nat) (F : SatF h) (w : World) :
    Calls Try.prog 174 #[.float .f32 h] w fun e w' => e = .returned (.float .f32 (satF h)) ∧ w = w' := by
  have hd := fun w => run_float_arith (P := Try.prog) w .quo 22 .f32 _ _ _ F.div
  have hm := fun w => run_float_arith (P := Try.prog) w .mul 22 .f32 _ _ _ F.mul
  have HF := hid F
  clear F
  go_enter Try.func174, Try.ntmps174
  go_wp2_with fail
  refine (sTwo (hqF h) 16 HF.out.qlt HF.out.qfin HF.out.T (by decide) _).mono ?_
  rintro e w1 ⟨rfl, rfl⟩
  go_wp2
  go_ret
  exact ⟨rfl, rfl⟩

set_option maxRecDepth 100000 in
theorem sExcess (h v : Nat) (hx : h < 4294967296) (hq : airB h v = true) (w : World) (g : Nat) (T : TypeId) (hg : airAt w g h v T) :
    Calls Try.prog 168 #[.pointer (some ⟨g, 0, none⟩)] w fun e w' => e = .returned (.float .f32 (excF h v)) ∧ Below w.heap.size w w' := by
  obtain ⟨hh, hav, hvp⟩ := airB_iff.1 hq
  have F := sat_facts hx hh
  obtain ⟨e1, e2, e3⟩ := exc_facts F hav
  have HF := hid F
  have hs := fun w => run_float_arith (P := Try.prog) w .sub 22 .f32 _ _ _ e1
  have c0 := hg.c0
  have c1 := hg.c1
  clear F hh hav hvp e1 e2 e3 hx hq hg
  go_enter Try.func168, Try.ntmps168
  go_wp2
  go_quiet ((go_at_call 174; exact Calls.quiet_of_same (back (sSat h HF.out _))))
  go_wp2
  go_ret
  exact ⟨rfl, below_drewN (Below.refl _ _) _⟩

theorem info_par : (Try.prog.info? 49).map (·.size) = some 3 := by kernel_rfl

theorem info_lpar : (Try.prog.info? 42).map (·.size) = some 3 := by kernel_rfl

theorem iHgt (x : Nat) (hx : x < 4294967296) (q : Bool) (hq : hgtB x = q) (w : World) :
    Calls Try.prog 101 #[.float .f32 x] w fun e w' => e = .returned (.bool q) ∧ Below w.heap.size w w' := by
  have e1 : hgtB x = (amtB x && (FloatKind.f32.format.order x 1106247680 == some .lt || FloatKind.f32.format.order x 1106247680 == some .eq)) := rfl
  rw [e1] at hq
  have Hx := hid hx
  clear e1 hx
  rcases a : amtB x with _ | _
  · have Ha := hid a
    rw [a] at hq
    simp only [Bool.false_and] at hq
    subst hq
    clear a
    go_enter Try.func101, Try.ntmps101
    go_wp2_with fail
    refine (isAmount_f x Hx.out Ha.out _).mono ?_
    rintro e w1 ⟨rfl, hb1⟩
    go_wp2
    go_ret
    exact ⟨rfl, hb1⟩
  · have Ha := hid a
    rw [a] at hq
    simp only [Bool.true_and] at hq
    clear a
    cases q
    all_goals
      go_enter Try.func101, Try.ntmps101
      go_wp2_with fail
      refine (isAmount_t x Ha.out _).mono ?_
      rintro e w1 ⟨rfl, rfl⟩
      go_wp2
      go_ret
      exact ⟨rfl, Below.refl _ _⟩

theorem sHgt (x : Nat) (hx : x < 4294967296) (q : Bool) (hq : hgtB x = q) (w : World) :
    Calls Try.prog 99 #[.float .f32 x] w fun e w' => e = .returned (.bool q) ∧ Below w.heap.size w w' := by
  have e1 : hgtB x = (amtB x && (FloatKind.f32.format.order x 1106247680 == some .lt || FloatKind.f32.format.order x 1106247680 == some .eq)) := rfl
  rw [e1] at hq
  have Hx := hid hx
  clear e1 hx
  rcases a : amtB x with _ | _
  · have Ha := hid a
    rw [a] at hq
    simp only [Bool.false_and] at hq
    subst hq
    clear a
    go_enter Try.func99, Try.ntmps99
    go_wp2_with fail
    refine (sAmount_f x Hx.out Ha.out _).mono ?_
    rintro e w1 ⟨rfl, hb1⟩
    go_wp2
    go_ret
    exact ⟨rfl, hb1⟩
  · have Ha := hid a
    rw [a] at hq
    simp only [Bool.true_and] at hq
    clear a
    cases q
    all_goals
      go_enter Try.func99, Try.ntmps99
      go_wp2_with fail
      refine (sAmount_t x Ha.out _).mono ?_
      rintro e w1 ⟨rfl, rfl⟩
      go_wp2
      go_ret
      exact ⟨rfl, Below.refl _ _⟩

set_option maxRecDepth 100000 in
theorem sAirAt_f (h v : Nat) (hv : v < 4294967296) (hq : airB h v = false) (w : World) (g o : Nat) (c0 : w.cell? ⟨g, o, none⟩ = some (.float .f32 h)) (c1 : w.cell? ⟨g, o + 1, none⟩ = some (.float .f32 v)) :
    Calls Try.prog 118 #[.pointer (some ⟨g, o, none⟩)] w fun e w' => e = .returned (.bool false) ∧ Below w.heap.size w w' := by
  have Hv := hid hv
  have e1 : airB h v = (heatB h && amtB v && vapB v) := rfl
  rw [e1] at hq
  clear hv e1
  rcases a : heatB h with _ | _
  · have Ha := hid a
    clear a hq
    go_enter Try.func118, Try.ntmps118
    go_wp2_with fail
    refine (sHeat h false Ha.out _).mono ?_
    rintro e w1 ⟨rfl, rfl⟩
    go_wp2
    go_ret
    exact ⟨rfl, Below.refl _ _⟩
  · have Ha := hid a
    rw [a] at hq
    clear a
    rcases b : amtB v with _ | _
    · have Hb := hid b
      clear b hq
      go_enter Try.func118, Try.ntmps118
      go_wp2_with fail
      refine (sHeat h true Ha.out _).mono ?_
      rintro e w1 ⟨rfl, rfl⟩
      go_wp2_with fail
      refine (sAmount_f v Hv.out Hb.out _).mono ?_
      rintro e w1 ⟨rfl, hb1⟩
      go_wp2
      go_ret
      exact ⟨rfl, hb1⟩
    · have Hb := hid b
      rw [b] at hq
      simp only [Bool.true_and] at hq
      have hc : (FloatKind.f32.format.order v 1148846080 == some .lt || FloatKind.f32.format.order v 1148846080 == some .eq) = false := hq
      clear b hq
      go_enter Try.func118, Try.ntmps118
      go_wp2_with fail
      refine (sHeat h true Ha.out _).mono ?_
      rintro e w1 ⟨rfl, rfl⟩
      go_wp2_with fail
      refine (sAmount_t v Hb.out _).mono ?_
      rintro e w1 ⟨rfl, rfl⟩
      go_wp2
      go_ret
      exact ⟨rfl, Below.refl _ _⟩

set_option maxRecDepth 100000 in
theorem sAirAt_t (h v : Nat) (hq : airB h v = true) (w : World) (g o : Nat) (c0 : w.cell? ⟨g, o, none⟩ = some (.float .f32 h)) (c1 : w.cell? ⟨g, o + 1, none⟩ = some (.float .f32 v)) :
    Calls Try.prog 118 #[.pointer (some ⟨g, o, none⟩)] w fun e w' => e = .returned (.bool true) ∧ w = w' := by
  obtain ⟨a, b, c⟩ := airB_iff.1 hq
  have hc : (FloatKind.f32.format.order v 1148846080 == some .lt || FloatKind.f32.format.order v 1148846080 == some .eq) = true := c
  have Ha := hid a
  have Hb := hid b
  clear a b c hq
  go_enter Try.func118, Try.ntmps118
  go_wp2_with fail
  refine (sHeat h true Ha.out _).mono ?_
  rintro e w1 ⟨rfl, rfl⟩
  go_wp2_with fail
  refine (sAmount_t v Hb.out _).mono ?_
  rintro e w1 ⟨rfl, rfl⟩
  go_wp2
  go_ret
  exact ⟨rfl, rfl⟩

theorem sAirAt (h v : Nat) (hv : v < 4294967296) (q : Bool) (hq : airB h v = q) (w : World) (g o : Nat) (c0 : w.cell? ⟨g, o, none⟩ = some (.float .f32 h)) (c1 : w.cell? ⟨g, o + 1, none⟩ = some (.float .f32 v)) :
    Calls Try.prog 118 #[.pointer (some ⟨g, o, none⟩)] w fun e w' => e = .returned (.bool q) ∧ Below w.heap.size w w' := by
  cases q
  · exact sAirAt_f h v hv hq w g o c0 c1
  · exact loose (sAirAt_t h v hq w g o c0 c1)

set_option maxRecDepth 100000 in
theorem sParOk (a h v : Nat) (ha : a < 4294967296) (hv : v < 4294967296) (q : Bool) (hq : parB a h v = q) (w : World) (g : Nat) (T : TypeId) (hg : parAt w g a h v T) :
    Calls Try.prog 62 #[.pointer (some ⟨g, 0, none⟩)] w fun e w' => e = .returned (.bool q) ∧ Below w.heap.size w w' := by
  have c0 := hg.c0
  have G := hid hg
  have Ha := hid ha
  have Hv := hid hv
  have e1 : parB a h v = (hgtB a && airB h v) := rfl
  rw [e1] at hq
  clear ha hv e1 hg
  rcases x : hgtB a with _ | _
  · have Hx := hid x
    rw [x] at hq
    simp only [Bool.false_and] at hq
    subst hq
    clear x
    go_enter Try.func62, Try.ntmps62
    go_wp2_with fail
    refine (sHgt a Ha.out false Hx.out _).mono ?_
    rintro e w1 ⟨rfl, hb1⟩
    go_wp2
    go_ret
    exact ⟨rfl, hb1⟩
  · have Hx := hid x
    rw [x] at hq
    simp only [Bool.true_and] at hq
    have Hq := hid hq
    clear x hq
    go_enter Try.func62, Try.ntmps62
    go_wp2_with fail
    refine (sHgt a Ha.out true Hx.out _).mono ?_
    rintro e w1 ⟨rfl, hb1⟩
    have G1 := hid (G.out.stay hb1)
    go_wp2_with fail
    refine (sAirAt h v Hv.out q Hq.out _ g 1 G1.out.c1 G1.out.c2).mono ?_
    rintro e w2 ⟨rfl, hb2⟩
    cases q
    all_goals
      go_wp2
      go_ret
      exact ⟨rfl, stp hb1 (Nat.le_refl _) hb2⟩

set_option maxRecDepth 100000 in
theorem iValidParcel (a h v : Nat) (ha : a < 4294967296) (hv : v < 4294967296) (q : Bool) (hq : parB a h v = q) (w : World) :
    Calls Try.prog 67 #[.agg #[.float .f32 a, .float .f32 h, .float .f32 v]] w fun e w' => e = .returned (.bool q) ∧ Below w.heap.size w w' := by
  have b0 := boxed w (.cells #[.float .f32 a, .float .f32 h, .float .f32 v] 49)
  have A0 := hid (parAt.new w a h v 49)
  have Ha := hid ha
  have Hv := hid hv
  have e1 : parB a h v = (hgtB a && airB h v) := rfl
  rw [e1] at hq
  clear ha hv e1
  rcases x : hgtB a with _ | _
  · have Hx := hid x
    rw [x] at hq
    simp only [Bool.false_and] at hq
    subst hq
    clear x
    go_enter Try.func67, Try.ntmps67
    go_wp2_with fail
    refine (iHgt a Ha.out false Hx.out _).mono ?_
    rintro e w1 ⟨rfl, hb1⟩
    go_wp2
    go_ret
    exact ⟨rfl, stp b0 (Nat.le_refl _) hb1⟩
  · have Hx := hid x
    rw [x] at hq
    simp only [Bool.true_and] at hq
    have Hq := hid hq
    clear x hq
    go_enter Try.func67, Try.ntmps67
    go_wp2_with fail
    refine (iHgt a Ha.out true Hx.out _).mono ?_
    rintro e w1 ⟨rfl, hb1⟩
    have A1 := hid (A0.out.stay hb1)
    have b1 := stp b0 (Nat.le_refl _) hb1
    go_wp2_with (refine wpList_load_air (by rfl) 47 _ rfl w.heap.size rfl a h v 49 A1.out _ Try.underlying47 rfl info_air ?_)
    refine (iValidAir h v Hv.out q Hq.out _).mono ?_
    rintro e w2 ⟨rfl, hb2⟩
    cases q
    all_goals
      go_wp2
      go_ret
      exact ⟨rfl, stp b1 (Nat.le_refl _) hb2⟩

set_option maxRecDepth 100000 in
theorem toParcel (a h v : Nat) (w : World) :
    Calls Try.prog 26 #[.agg #[.float .f32 a, .float .f32 h, .float .f32 v]] w fun e w' => e = .returned (.agg #[.float .f32 a, .float .f32 h, .float .f32 v]) ∧ Below w.heap.size w w' := by
  have k0 : Hid (Kept w [(w.heap.size + 1 + 1, #[.float .f32 a, .float .f32 0, .float .f32 0], 49), (w.heap.size + 1, #[.float .f32 0, .float .f32 0, .float .f32 0], 49)] (((w.alloc (.cells #[.float .f32 a, .float .f32 h, .float .f32 v] 42)).alloc (.cells #[.float .f32 0, .float .f32 0, .float .f32 0] 49)).alloc (.cells #[.float .f32 a, .float .f32 0, .float .f32 0] 49))) := hid (((((Kept.nil w).push _ _).push _ _).push _ _).sub (by simp))
  have A0 : Hid (parAt (((w.alloc (.cells #[.float .f32 a, .float .f32 h, .float .f32 v] 42)).alloc (.cells #[.float .f32 0, .float .f32 0, .float .f32 0] 49)).alloc (.cells #[.float .f32 a, .float .f32 0, .float .f32 0] 49)) w.heap.size a h v 42) := hid (((((Kept.nil w).push _ _).push _ _).push _ _).at (x := (w.heap.size, #[.float .f32 a, .float .f32 h, .float .f32 v], 42)) (by simp))
  go_enter Try.func26, Try.ntmps26
  go_wp2_with (refine wpList_load_air (by rfl) 40 _ rfl w.heap.size rfl a h v 42 A0.out _ Try.underlying40 rfl info_lair ?_)
  refine (toAir h v _).mono ?_
  rintro e w1 ⟨rfl, hb1⟩
  have k1 := hid (k0.out.stay hb1)
  clear k0 A0 hb1
  have tok1 : True := trivial
  go_wp2_with (first | (have _t := tok1; refine store_air (w0 := w) (l := [(w.heap.size + 1, #[.float .f32 0, .float .f32 0, .float .f32 0], 49)]) rfl 47 _ _ rfl (w.heap.size + 1 + 1) rfl h v rfl a 0 0 49 k1.out (by omega) (by simp) info_air ?_; intro w2 k2; have k2 := hid k2; clear tok1) | (have _t := k2; refine wpList_load_row rfl 49 _ rfl (w.heap.size + 1 + 1) rfl 49 (#[.float .f32 a, .float .f32 h, .float .f32 v]) (0, 0) _ (k2.out.at (x := (w.heap.size + 1 + 1, #[.float .f32 a, .float .f32 h, .float .f32 v], 49)) (by simp)) Try.underlying49 rfl (info_par) ?_) | (have _t := k2; refine store_kept (w0 := w) (l := []) rfl 49 _ _ rfl (w.heap.size + 1) (#[.float .f32 a, .float .f32 h, .float .f32 v]) rfl rfl 49 (#[.float .f32 0, .float .f32 0, .float .f32 0]) (k2.out.sub (by simp)) (by omega) (by simp) (info_par) (by simp) (by simp [Value.oneCell']) ?_; intro w3 k3; have k3 := hid k3))
  exact bodyPost_ret (results_cell_row rfl _ _ (w.heap.size + 1) 49 #[.float .f32 a, .float .f32 h, .float .f32 v] (0, 0) _ rfl (k3.out.at (x := (w.heap.size + 1, #[.float .f32 a, .float .f32 h, .float .f32 v], 49)) (by simp)) Try.underlying49 rfl info_par) rfl ⟨rfl, k3.out.1⟩

set_option maxRecDepth 100000 in
theorem eqParcel (a h v : Nat) (ha : a < 4294967296) (hh : h < 4294967296) (hv : v < 4294967296) (fa : finB a = true) (fh : finB h = true) (fv : finB v = true) (w : World) :
    Calls Try.prog 37 #[.agg #[.float .f32 a, .float .f32 h, .float .f32 v], .agg #[.float .f32 a, .float .f32 h, .float .f32 v]] w fun e w' => e = .returned (.bool true) ∧ Below w.heap.size w w' := by
  have hc0 := fun w => run_conv_wid (P := Try.prog) w 22 29 a ha Try.underlying22 Try.underlying29 (finB_iff.1 fa)
  have Ha := hid ha
  have Hh := hid hh
  have Hv := hid hv
  have Fa := hid fa
  have Fh := hid fh
  have Fv := hid fv
  have k0 : Hid (Kept w [(w.heap.size, #[.float .f32 a, .float .f32 h, .float .f32 v], 49), (w.heap.size + 1, #[.float .f32 a, .float .f32 h, .float .f32 v], 49)] ((w.alloc (.cells #[.float .f32 a, .float .f32 h, .float .f32 v] 49)).alloc (.cells #[.float .f32 a, .float .f32 h, .float .f32 v] 49))) := hid ((((Kept.nil w).push _ _).push _ _).sub (by simp))
  have A0 : Hid (parAt ((w.alloc (.cells #[.float .f32 a, .float .f32 h, .float .f32 v] 49)).alloc (.cells #[.float .f32 a, .float .f32 h, .float .f32 v] 49)) w.heap.size a h v 49) := hid (k0.out.at (x := (w.heap.size, _, _)) (by simp))
  have A1 : Hid (parAt ((w.alloc (.cells #[.float .f32 a, .float .f32 h, .float .f32 v] 49)).alloc (.cells #[.float .f32 a, .float .f32 h, .float .f32 v] 49)) (w.heap.size + 1) a h v 49) := hid (k0.out.at (x := (w.heap.size + 1, _, _)) (by simp))
  clear ha hh hv fa fh fv
  go_enter Try.func37, Try.ntmps37
  go_wp2_with fail
  refine (sameFloat a Ha.out Fa.out _).mono ?_
  rintro e w1 ⟨rfl, rfl⟩
  go_wp2_with (first | (refine wpList_load_air (by rfl) 47 _ rfl w.heap.size rfl a h v 49 A0.out _ Try.underlying47 rfl info_air ?_) | (refine wpList_load_air (by rfl) 47 _ rfl (w.heap.size + 1) rfl a h v 49 A1.out _ Try.underlying47 rfl info_air ?_))
  refine (eqAir h v Hh.out Hv.out Fh.out Fv.out _).mono ?_
  rintro e w2 ⟨rfl, hb2⟩
  go_wp2
  go_ret
  exact ⟨rfl, (k0.out.stay hb2).1⟩

set_option maxHeartbeats 2000000 in
set_option maxRecDepth 100000 in
theorem iSettle_ok (h v : Nat) (hx : h < 4294967296) (hq : airB h v = true) (H V G : Nat) (hs : sett 30 h v 0 = (H, V, G)) (w : World) :
    Calls Try.prog 166 #[.agg #[.float .f32 h, .float .f32 v]] w fun e w' => e = .returned (.tuple #[.agg #[.float .f32 H, .float .f32 V], .float .f32 G, .int .i64 0]) ∧ Below w.heap.size w w' := by
  have k0 : Hid (Kept w [(w.heap.size + 1, #[.float .f32 0, .float .f32 0], 47), (w.heap.size, #[.float .f32 h, .float .f32 v], 47)] ((w.alloc (.cells #[.float .f32 h, .float .f32 v] 47)).alloc (.cells #[.float .f32 0, .float .f32 0] 47))) := hid ((((Kept.nil w).push _ _).push _ _).sub (by simp))
  have HX := hid hx
  have HQ := hid hq
  have HS := hid hs
  have hv : v < 4294967296 := amt_lt (airB_iff.1 hq).2.1
  have HV := hid hv
  have S0 := hid (Settled.first hx hq)
  clear hx hq hs hv
  go_enter Try.func166, Try.ntmps166
  go_wp2_with (refine wpList_load_row rfl 47 _ rfl (w.heap.size) rfl 47 (#[.float .f32 h, .float .f32 v]) (0, 0) _ (k0.out.at (x := (w.heap.size, #[.float .f32 h, .float .f32 v], 47)) (by simp)) Try.underlying47 rfl (info_air) ?_)
  refine (iValidAir h v HV.out true HQ.out _).mono ?_
  rintro e w1 ⟨rfl, hb1⟩
  have k1 := hid (k0.out.stay hb1)
  have hlt : w.heap.size + 1 < w1.heap.size := k1.out.lt (x := (w.heap.size + 1, #[.float .f32 0, .float .f32 0], 47)) (by simp)
  have HL := hid hlt
  have k2 := hid ((k1.out.push #[.float .f32 h, .float .f32 v] 47).sub (l' := [(w1.heap.size, #[.float .f32 h, .float .f32 v], 47), (w.heap.size + 1, #[.float .f32 0, .float .f32 0], 47)]) (by intro x hx; simp only [List.mem_cons, List.not_mem_nil, or_false] at hx; rcases hx with rfl | rfl <;> simp))
  clear k0 hb1 hlt
  go_wp2_with (refine wpList_load_row rfl 47 _ rfl (w.heap.size) rfl 47 (#[.float .f32 h, .float .f32 v]) (0, 0) _ (k1.out.at (x := (w.heap.size, #[.float .f32 h, .float .f32 v], 47)) (by simp)) Try.underlying47 rfl (info_air) ?_)
  clear k1
  go_loopw [14, 6] (fun i gs wr => ∃ k h1 v1 g1 : Nat, k ≤ 30 ∧ i = .int .i64 k ∧ gs = .float .f32 g1 ∧ Hid (Settled k h1 v1 g1) ∧ Hid (sett (30 - k) h1 v1 g1 = (H, V, G)) ∧ Hid (Kept w [(w1.heap.size, #[.float .f32 h1, .float .f32 v1], 47), (w.heap.size + 1, #[.float .f32 0, .float .f32 0], 47)] wr)) (fun i _ _ => 30 - (intOf i).toNat)
  case atStart => exact ⟨0, h, v, 0, by omega, rfl, rfl, S0, HS, k2⟩
  case round =>
    obtain ⟨k, h1, v1, g1, hk, rfl, rfl, hS, hg, hK⟩ := hrel
    clear k2 S0 HS HQ HX HV
    by_cases hlt : k < 30
    · have hk3 : (k : Int) < 30 := by omega
      have HF := hid (sat_facts hS.out.hw hS.out.heat)
      have Hk := hid hlt
      have e0 := exc_facts HF.out hS.out.amt
      have hs := hid (fun w => run_float_arith (P := Try.prog) w .sub 22 .f32 _ _ _ e0.1)
      clear e0
      go_wp2_with fail
      refine region_kept (w0 := w) (l := [(w1.heap.size, #[.float .f32 h1, .float .f32 v1], 47), (w.heap.size + 1, #[.float .f32 0, .float .f32 0], 47)]) 7 #[false, false, false, false, false, false, false] (by kernel_rfl) rfl rfl ?_
      have kd := hK.out.drew
      clear hK
      generalize wr.drew = wd at kd ⊢
      refine take_val 0 _ _ (.pointer (some ⟨w1.heap.size, 1, none⟩)) rfl (by rfl) (by kernel_rfl) (by kernel_rfl) (by kernel_rfl) (fun w => by unfold execOp; go_simp) rfl rfl kd ?_
      refine take_val 2 _ _ (.pointer (some ⟨w1.heap.size, 0, none⟩)) rfl (by rfl) (by kernel_rfl) (by kernel_rfl) (by kernel_rfl) (fun w => by unfold execOp; go_simp) rfl rfl kd ?_
      simp only [Act.put, List.setIfInBounds_toArray, List.set_cons_zero, List.set_cons_succ]
      refine take_cell 1 _ _ (.float .f32 v1) rfl (by rfl) (by kernel_rfl) (by kernel_rfl) (by kernel_rfl) (fun wq hS => by have hcell := (show airAt wq (w1.heap.size) h1 v1 47 from hS.at (x := (w1.heap.size, _, _)) (by simp)).c1; clear hS; unfold execOp; go_simp) rfl rfl kd ?_
      refine take_cell 3 _ _ (.float .f32 h1) rfl (by rfl) (by kernel_rfl) (by kernel_rfl) (by kernel_rfl) (fun wq hS => by have hcell := (show airAt wq (w1.heap.size) h1 v1 47 from hS.at (x := (w1.heap.size, _, _)) (by simp)).c0; clear hS; unfold execOp; go_simp) rfl rfl kd ?_
      simp only [Act.put, List.setIfInBounds_toArray, List.set_cons_zero, List.set_cons_succ]
      refine wpAnyH_ready (rs := [4]) (by kernel_rfl) (by simp) ?_
      refine callK 4 _ _ (.float .f32 (satF h1)) kd rfl (by rfl) 173 #[.float .f32 h1] (fun w => by unfold execOp; go_simp) rfl rfl ?hc (fun wc kd => ?_) AllReadyH.nil
      case hc => exact loose (iSat h1 HF.out _)
      refine ⟨kd, ?_⟩
      simp only [Act.put, List.setIfInBounds_toArray, List.set_cons_zero, List.set_cons_succ]
      refine take_val 5 _ _ (.float .f32 (excF h1 v1)) rfl (by rfl) (by kernel_rfl) (by kernel_rfl) (by kernel_rfl) (fun w => run_binop_val _ _ _ _ (by rfl) (by rfl) (by simp [eqGuard]) (hs.out w)) rfl rfl kd ?_
      simp only [Act.put, List.setIfInBounds_toArray, List.set_cons_zero, List.set_cons_succ]
      refine take_val 6 _ _ (.float .f32 (excF h1 v1)) rfl (by rfl) (by kernel_rfl) (by kernel_rfl) (by kernel_rfl) (fun w => by rfl) rfl rfl kd ?_
      refine wpAnyH_done (by kernel_rfl) (NoPanic.normal ?_) _
      simp only [Act.put, List.setIfInBounds_toArray, List.set_cons_zero, List.set_cons_succ]
      have K1 := hid kd
      clear kd hs
      have EX := hid (exc_facts HF.out hS.out.amt)
      rcases exc_two EX.out.2.1 EX.out.2.2 with hp | hp
      · have SS := hid (settle_step hS.out Hk.out hp.2.2.1)
        have hle : (FloatKind.f32.format.order (excF h1 v1) 0 == some .lt || FloatKind.f32.format.order (excF h1 v1) 0 == some .eq) = false := hp.2.2.2
        have E2 := hid (sett_go (g := g1) Hk.out hp.2.2.1)
        have r1 := fun w => run_float_arith (P := Try.prog) w .mul 22 .f32 _ _ _ SS.out.1.pq
        have r2 := fun w => run_float_arith (P := Try.prog) w .sub 22 .f32 _ _ _ SS.out.1.pv
        have r3 := fun w => run_float_arith (P := Try.prog) w .mul 22 .f32 _ _ _ SS.out.1.pd
        have r4 := fun w => run_float_arith (P := Try.prog) w .add 22 .f32 _ _ _ SS.out.1.pt
        have r5 := fun w => run_float_arith (P := Try.prog) w .add 22 .f32 _ _ _ SS.out.1.pg
        have r6 := fun ts t w => run_min_sv (P := Try.prog) ts t SS.out.1.pw fw_60 (by decide +kernel) w
        have a0 := (show airAt wc w1.heap.size h1 v1 47 from K1.out.at (x := (w1.heap.size, _, _)) (by simp))
        have c0 := a0.c0
        have c1 := a0.c1
        have f0 : wc.frozen? ⟨w1.heap.size, 0, none⟩ = false := frozen_of_row wc w1.heap.size 0 _ _ a0
        have f1 : wc.frozen? ⟨w1.heap.size, 1, none⟩ = false := frozen_of_row wc w1.heap.size 1 _ _ a0
        have K3 : Hid (Kept w [(w1.heap.size, #[.float .f32 (stH h1 v1), .float .f32 (stV h1 v1)], 47), (w.heap.size + 1, #[.float .f32 0, .float .f32 0], 47)] ((wc.setCell ⟨w1.heap.size, 1, none⟩ (.float .f32 (stV h1 v1))).setCell ⟨w1.heap.size, 0, none⟩ (.float .f32 (stH h1 v1)))) := hid ((K1.out.lcell (by have := HL.out; omega) (by have := HL.out; simp; omega) 1 _).lcell (by have := HL.out; omega) (by have := HL.out; simp; omega) 0 _)
        clear a0 hp
        go_wp2_with fail
        go_roundw
        case rel => exact ⟨k + 1, stH h1 v1, stV h1 v1, stG h1 v1 g1, by omega, by go_num, rfl, hid SS.out.2, hid (by rw [← E2.out]; exact hg.out), K3⟩
        case measure => simp [intOf]; omega
      · have hle : (FloatKind.f32.format.order (excF h1 v1) 0 == some .lt || FloatKind.f32.format.order (excF h1 v1) 0 == some .eq) = true := hp.2
        have E := hg.out
        rw [sett_stop hp.1] at E
        obtain ⟨rfl, rfl, rfl⟩ : h1 = H ∧ v1 = V ∧ g1 = G := by simpa using E
        go_wp2_with (first | (refine wpList_load_row rfl 47 _ rfl (w1.heap.size) rfl 47 (#[.float .f32 h1, .float .f32 v1]) (0, 0) _ (K1.out.at (x := (w1.heap.size, #[.float .f32 h1, .float .f32 v1], 47)) (by simp)) Try.underlying47 rfl (info_air) ?_) | (have _t := K1; refine store_kept (w0 := w) (l := [(w1.heap.size, #[.float .f32 h1, .float .f32 v1], 47)]) rfl 47 _ _ rfl (w.heap.size + 1) (#[.float .f32 h1, .float .f32 v1]) rfl rfl 47 (#[.float .f32 0, .float .f32 0]) (K1.out.sub (by intro x hx; simp only [List.mem_cons, List.not_mem_nil, or_false] at hx; rcases hx with rfl | rfl <;> simp)) (by omega) (by have := HL.out; simp; omega) (info_air) (by simp) (by simp [Value.oneCell']) ?_; intro wkz kz; have kz := hid kz))
        exact bodyPost_ret (results_row_tmp2 rfl _ _ (w.heap.size + 1) 47 (#[.float .f32 h1, .float .f32 v1]) (0, 0) _ rfl (kz.out.at (x := (w.heap.size + 1, #[.float .f32 h1, .float .f32 v1], 47)) (by simp)) Try.underlying47 rfl info_air) rfl ⟨rfl, kz.out.1⟩
    · obtain rfl : k = 30 := by omega
      have E := hg.out
      rw [show sett (30 - 30) h1 v1 g1 = (h1, v1, g1) from rfl] at E
      obtain ⟨rfl, rfl, rfl⟩ : h1 = H ∧ v1 = V ∧ g1 = G := by simpa using E
      go_wp2_with (first | (refine wpList_load_row rfl 47 _ rfl (w1.heap.size) rfl 47 (#[.float .f32 h1, .float .f32 v1]) (0, 0) _ (hK.out.at (x := (w1.heap.size, #[.float .f32 h1, .float .f32 v1], 47)) (by simp)) Try.underlying47 rfl (info_air) ?_) | (have _t := hK; refine store_kept (w0 := w) (l := [(w1.heap.size, #[.float .f32 h1, .float .f32 v1], 47)]) rfl 47 _ _ rfl (w.heap.size + 1) (#[.float .f32 h1, .float .f32 v1]) rfl rfl 47 (#[.float .f32 0, .float .f32 0]) (hK.out.sub (by intro x hx; simp only [List.mem_cons, List.not_mem_nil, or_false] at hx; rcases hx with rfl | rfl <;> simp)) (by omega) (by have := HL.out; simp; omega) (info_air) (by simp) (by simp [Value.oneCell']) ?_; intro wkz kz; have kz := hid kz))
      exact bodyPost_ret (results_row_tmp2 rfl _ _ (w.heap.size + 1) 47 (#[.float .f32 h1, .float .f32 v1]) (0, 0) _ rfl (kz.out.at (x := (w.heap.size + 1, #[.float .f32 h1, .float .f32 v1], 47)) (by simp)) Try.underlying47 rfl info_air) rfl ⟨rfl, kz.out.1⟩

set_option maxHeartbeats 2000000 in
set_option maxRecDepth 100000 in
theorem sSettle (h v : Nat) (hx : h < 4294967296) (hq : airB h v = true) (H V G : Nat) (hs : sett 30 h v 0 = (H, V, G)) (w : World) :
    Calls Try.prog 146 #[.agg #[.float .f32 h, .float .f32 v]] w fun e w' => e = .returned (.tuple #[.agg #[.float .f32 H, .float .f32 V], .float .f32 G]) ∧ Below w.heap.size w w' := by
  have k0 : Hid (Kept w [(w.heap.size, #[.float .f32 h, .float .f32 v], 47), (w.heap.size + 1, #[.float .f32 0, .float .f32 0], 47)] ((w.alloc (.cells #[.float .f32 h, .float .f32 v] 47)).alloc (.cells #[.float .f32 0, .float .f32 0] 47))) := hid ((((Kept.nil w).push _ _).push _ _).sub (by simp))
  have HS := hid hs
  have S0 := hid (Settled.first hx hq)
  clear hx hq hs
  go_enter Try.func146, Try.ntmps146
  go_wp2_with fail
  go_loopw [5, 4] (fun i gs wr => ∃ k h1 v1 g1 : Nat, k ≤ 30 ∧ i = .int .i64 k ∧ gs = .float .f32 g1 ∧ Hid (Settled k h1 v1 g1) ∧ Hid (sett (30 - k) h1 v1 g1 = (H, V, G)) ∧ Hid (Kept w [(w.heap.size, #[.float .f32 h1, .float .f32 v1], 47), (w.heap.size + 1, #[.float .f32 0, .float .f32 0], 47)] wr)) (fun i _ _ => 30 - (intOf i).toNat)
  case atStart => exact ⟨0, h, v, 0, by omega, rfl, rfl, S0, HS, k0⟩
  case round =>
    obtain ⟨k, h1, v1, g1, hk, rfl, rfl, hS, hg, hK⟩ := hrel
    clear k0 S0 HS
    by_cases hlt : k < 30
    · have hk3 : (k : Int) < 30 := by omega
      have HF := hid (sat_facts hS.out.hw hS.out.heat)
      have Hk := hid hlt
      go_wp2_with fail
      refine (sExcess h1 v1 hS.out.hw hS.out.air _ w.heap.size 47 (hK.out.at (x := (w.heap.size, _, _)) (by simp))).mono ?_
      rintro e w2 ⟨rfl, hb2⟩
      have K1 := hid (hK.out.stay hb2)
      clear hK hb2
      have EX := hid (exc_facts HF.out hS.out.amt)
      rcases exc_two EX.out.2.1 EX.out.2.2 with hp | hp
      · have SS := hid (settle_step hS.out Hk.out hp.2.2.1)
        have hgt : (FloatKind.f32.format.order (excF h1 v1) 0 == some .gt) = true := hp.2.2.1
        have E2 := hid (sett_go (g := g1) Hk.out hp.2.2.1)
        have r1 := fun w => run_float_arith (P := Try.prog) w .mul 22 .f32 _ _ _ SS.out.1.pq
        have r2 := fun w => run_float_arith (P := Try.prog) w .sub 22 .f32 _ _ _ SS.out.1.pv
        have r3 := fun w => run_float_arith (P := Try.prog) w .mul 22 .f32 _ _ _ SS.out.1.pd
        have r4 := fun w => run_float_arith (P := Try.prog) w .add 22 .f32 _ _ _ SS.out.1.pt
        have r5 := fun w => run_float_arith (P := Try.prog) w .add 22 .f32 _ _ _ SS.out.1.pg
        have a0 := (show airAt w2 w.heap.size h1 v1 47 from K1.out.at (x := (w.heap.size, _, _)) (by simp))
        have c0 := a0.c0
        have c1 := a0.c1
        have f0 : w2.frozen? ⟨w.heap.size, 0, none⟩ = false := frozen_of_row w2 w.heap.size 0 _ _ a0
        have f1 : w2.frozen? ⟨w.heap.size, 1, none⟩ = false := frozen_of_row w2 w.heap.size 1 _ _ a0
        have K3 := (K1.out.lcell (Nat.le_refl _) (by simp) 1 (.float .f32 (stV h1 v1))).lcell (Nat.le_refl _) (by simp) 0 (.float .f32 (stT h1 v1))
        clear a0 hp
        rcases hc : FloatKind.f32.format.order (stT h1 v1) 1114636288 == some .gt with _ | _
        · have eH : stH h1 v1 = stT h1 v1 := if_pos (Int.not_lt.1 fun hh => by have h9 := (gt_sv SS.out.1.pw fw_60).2 hh; exact absurd (h9.symm.trans hc) (by decide))
          have K4 := hid K3
          clear K3
          go_wp2_with fail
          go_roundw
          case rel => exact ⟨k + 1, stH h1 v1, stV h1 v1, stG h1 v1 g1, by omega, by go_num, rfl, hid SS.out.2, hid (by rw [← E2.out]; exact hg.out), hid (by rw [eH]; exact K4.out)⟩
          case measure => simp [intOf]; omega
        · have eH : stH h1 v1 = 1114636288 := if_neg (Int.not_le.2 ((gt_sv SS.out.1.pw fw_60).1 hc))
          have K4 := hid (K3.lcell (Nat.le_refl _) (by simp) 0 (.float .f32 1114636288))
          clear K3
          go_wp2_with fail
          go_roundw
          case rel => exact ⟨k + 1, stH h1 v1, stV h1 v1, stG h1 v1 g1, by omega, by go_num, rfl, hid SS.out.2, hid (by rw [← E2.out]; exact hg.out), hid (by rw [eH]; exact K4.out)⟩
          case measure => simp [intOf]; omega
      · have hgt : (FloatKind.f32.format.order (excF h1 v1) 0 == some .gt) = false := hp.1
        have E := hg.out
        rw [sett_stop hp.1] at E
        obtain ⟨rfl, rfl, rfl⟩ : h1 = H ∧ v1 = V ∧ g1 = G := by simpa using E
        go_wp2_with (first | (refine wpList_load_row rfl 47 _ rfl (w.heap.size) rfl 47 (#[.float .f32 h1, .float .f32 v1]) (0, 0) _ (K1.out.at (x := (w.heap.size, #[.float .f32 h1, .float .f32 v1], 47)) (by simp)) Try.underlying47 rfl (info_air) ?_) | (have _t := K1; refine store_kept (w0 := w) (l := [(w.heap.size, #[.float .f32 h1, .float .f32 v1], 47)]) rfl 47 _ _ rfl (w.heap.size + 1) (#[.float .f32 h1, .float .f32 v1]) rfl rfl 47 (#[.float .f32 0, .float .f32 0]) (K1.out.sub (by intro x hx; simp only [List.mem_cons, List.not_mem_nil, or_false] at hx; rcases hx with rfl | rfl <;> simp)) (by omega) (by simp) (info_air) (by simp) (by simp [Value.oneCell']) ?_; intro wkz kz; have kz := hid kz))
        exact bodyPost_ret (results_row_tmp rfl _ _ (w.heap.size + 1) 47 (#[.float .f32 h1, .float .f32 v1]) (0, 0) _ rfl (kz.out.at (x := (w.heap.size + 1, #[.float .f32 h1, .float .f32 v1], 47)) (by simp)) Try.underlying47 rfl info_air) rfl ⟨rfl, kz.out.1⟩
    · obtain rfl : k = 30 := by omega
      have E := hg.out
      rw [show sett (30 - 30) h1 v1 g1 = (h1, v1, g1) from rfl] at E
      obtain ⟨rfl, rfl, rfl⟩ : h1 = H ∧ v1 = V ∧ g1 = G := by simpa using E
      go_wp2_with (first | (refine wpList_load_row rfl 47 _ rfl (w.heap.size) rfl 47 (#[.float .f32 h1, .float .f32 v1]) (0, 0) _ (hK.out.at (x := (w.heap.size, #[.float .f32 h1, .float .f32 v1], 47)) (by simp)) Try.underlying47 rfl (info_air) ?_) | (have _t := hK; refine store_kept (w0 := w) (l := [(w.heap.size, #[.float .f32 h1, .float .f32 v1], 47)]) rfl 47 _ _ rfl (w.heap.size + 1) (#[.float .f32 h1, .float .f32 v1]) rfl rfl 47 (#[.float .f32 0, .float .f32 0]) (hK.out.sub (by intro x hx; simp only [List.mem_cons, List.not_mem_nil, or_false] at hx; rcases hx with rfl | rfl <;> simp)) (by omega) (by simp) (info_air) (by simp) (by simp [Value.oneCell']) ?_; intro wkz kz; have kz := hid kz))
      exact bodyPost_ret (results_row_tmp rfl _ _ (w.heap.size + 1) 47 (#[.float .f32 h1, .float .f32 v1]) (0, 0) _ rfl (kz.out.at (x := (w.heap.size + 1, #[.float .f32 h1, .float .f32 v1], 47)) (by simp)) Try.underlying47 rfl info_air) rfl ⟨rfl, kz.out.1⟩

theorem sameFloat2 (a b : Nat) (h : Same2 a b) (w : World) :
    Calls Try.prog 17 #[.float .f64 a, .float .f64 b] w fun e w' => e = .returned (.bool true) ∧ w = w' := by
  obtain ⟨h1, h2⟩ := h
  rcases h1 with ⟨h1, rfl⟩ | ⟨h1, h3, h4, h5⟩
  · have hn : (FloatKind.f64.format.order a a != some .eq) = false := by
      show (Ieee.Format.order D a a != some .eq) = false
      rw [h1]; rfl
    have hq : (FloatKind.f64.format.order a a == some .eq) = true := by
      show (Ieee.Format.order D a a == some .eq) = true
      rw [h1]; rfl
    rcases hz : (FloatKind.f64.format.order a 0 == some .eq) with _ | _
    · clear h1 h2
      go_enter Try.func17, Try.ntmps17
      go_wp2
      go_ret
      exact ⟨by simp, rfl⟩
    · obtain ⟨q, hd⟩ := h2 h1 (beq_iff_eq.1 hz)
      have hdiv := fun w => run_float_arith (P := Try.prog) w .quo 29 .f64 4607182418800017408 a q hd
      clear h1 h2 hd
      go_enter Try.func17, Try.ntmps17
      go_wp2
      go_ret
      exact ⟨by simp, rfl⟩
  · have hn : (FloatKind.f64.format.order a a != some .eq) = true := by
      show (Ieee.Format.order D a a != some .eq) = true
      rw [h1]; rfl
    have hm : (FloatKind.f64.format.order b b != some .eq) = true := by
      show (Ieee.Format.order D b b != some .eq) = true
      rw [h3]; rfl
    clear h1 h2 h3 h4 h5
    go_enter Try.func17, Try.ntmps17
    go_wp2
    go_ret
    exact ⟨by simp, rfl⟩

@[go_sem] theorem semAtSome (l : Nat) (ρ : Operand → Value) (o : Oper) (h : ∀ c, o.op ≠ .defer c) : Oper.semAt (some l) ρ o = execOp ρ o := Oper.semAt_some l ρ o h

@[go_sem] theorem zero_kern : Try.zeroCells64 = vls 400 (flw fun _ => 0) := by kernel_rfl

theorem words_cons : ∀ (v : List Char) (r : List Char), (∀ c ∈ v, c ≠ Char.ofNat 32) → wordsSigns (v ++ Char.ofNat 32 :: r) = v :: wordsSigns r
  | [], r, _ => rfl
  | c :: v, r, h => by
    have ih := words_cons v r (fun x hx => h x (by simp [hx]))
    have hc : c ≠ Char.ofNat 32 := h c (by simp)
    show wordsSigns (c :: (v ++ Char.ofNat 32 :: r)) = _
    rw [wordsSigns.eq_3 _ _ (fun e => hc e), ih]

def w0 : List Nat := [104, 97, 114, 110, 101, 115, 115]

def w1 : List Nat := [50, 100, 48, 57, 50, 102, 99, 102, 97, 99, 97, 99, 50, 101, 100, 100, 53, 52, 97, 48, 102, 48, 57, 48, 49, 57, 102, 53, 102, 102, 50, 50, 51, 101, 101, 48, 55, 99, 48, 53, 53, 57, 48, 53, 54, 97, 98, 51, 52, 54, 98, 102, 54, 98, 53, 57, 51, 98, 48, 54, 49, 48, 102, 52]

def w2 : List Nat := [99, 117, 116]

def w3 : List Nat := [97, 116, 32, 108, 111, 111, 112, 46, 101, 120, 97, 109, 112, 108, 101, 47, 103, 48, 49, 50, 50, 52, 47, 108, 97, 119, 115, 46, 70, 110, 69, 120, 97, 99, 116, 69, 99, 104, 111, 79, 102, 32, 108, 111, 111, 112, 46, 101, 120, 97, 109, 112, 108, 101, 47, 103, 48, 49, 50, 50, 52, 47, 108, 97, 119, 115, 46, 70, 110, 69, 120, 97, 99, 116, 86, 97, 108, 105, 100, 69, 99, 104, 111, 77, 97, 112, 32, 108, 111, 111, 112, 46, 101, 120, 97, 109, 112, 108, 101, 47, 103, 48, 49, 50, 50, 52, 47, 108, 97, 119, 115, 46, 70, 110, 69, 120, 97, 99, 116, 76, 105, 102, 116, 79, 102, 32, 108, 111, 111, 112, 46, 101, 120, 97, 109, 112, 108, 101, 47, 103, 48, 49, 50, 50, 52, 47, 108, 97, 119, 115, 46, 70, 110, 69, 120, 97, 99, 116, 86, 97, 112, 111, 117, 114, 65, 98, 111, 118, 101, 32, 108, 111, 111, 112, 46, 101, 120, 97, 109, 112, 108, 101, 47, 103, 48, 49, 50, 50, 52, 47, 108, 97, 119, 115, 46, 70, 110, 69, 120, 97, 99, 116, 69, 118, 101, 110, 83, 111, 117, 110, 100, 105, 110, 103, 32, 108, 111, 111, 112, 46, 101, 120, 97, 109, 112, 108, 101, 47, 103, 48, 49, 50, 50, 52, 47, 108, 97, 119, 115, 46, 70, 110, 69, 120, 97, 99, 116, 82, 105, 115, 101, 73, 110, 32, 108, 111, 111, 112, 46, 101, 120, 97, 109, 112, 108, 101, 47, 103, 48, 49, 50, 50, 52, 47, 108, 97, 119, 115, 46, 70, 110, 69, 120, 97, 99, 116, 69, 118, 101, 110, 116, 115, 79, 102, 32, 108, 111, 111, 112, 46, 101, 120, 97, 109, 112, 108, 101, 47, 103, 48, 49, 50, 50, 52, 47, 108, 97, 119, 115, 46, 70, 110, 69, 120, 97, 99, 116, 76, 111, 115, 115, 101, 115, 79, 102, 32, 108, 111, 111, 112, 46, 101, 120, 97, 109, 112, 108, 101, 47, 103, 48, 49, 50, 50, 52, 47, 108, 97, 119, 115, 46, 70, 110, 69, 120, 97, 99, 116, 83, 104, 105, 102, 116, 77, 97, 115, 115, 101, 115, 32, 108, 111, 111, 112, 46, 101, 120, 97, 109, 112, 108, 101, 47, 103, 48, 49, 50, 50, 52, 47, 108, 97, 119, 115, 46, 70, 110, 69, 120, 97, 99, 116, 82, 97, 105, 115, 101, 68, 114, 121, 32, 108, 111, 111, 112, 46, 101, 120, 97, 109, 112, 108, 101, 47, 103, 48, 49, 50, 50, 52, 47, 108, 97, 119, 115, 46, 70, 110, 69, 120, 97, 99, 116, 82, 97, 105, 115, 101, 77, 111, 105, 115, 116]

def letters (l : List Nat) : List Char := l.map Char.ofNat

theorem head_reads : Try.prog.initOrder = String.ofList (letters w0 ++ Char.ofNat 32 :: (letters w1 ++ Char.ofNat 32 :: (letters w2 ++ Char.ofNat 32 :: letters w3))) := by kernel_rfl

theorem no_blank {l : List Nat} (h : l.all (fun n => Char.ofNat n != Char.ofNat 32) = true) : ∀ c ∈ letters l, c ≠ Char.ofNat 32 := by
  intro c hc
  obtain ⟨n, hn, rfl⟩ := List.mem_map.1 hc
  have := List.all_eq_true.1 h n hn
  simpa using this

theorem h0 : letters w0 = "harness".toList := by kernel_rfl

theorem h2 : letters w2 = "cut".toList := by kernel_rfl

theorem sums : isSumSigns (letters w1) = true := by kernel_rfl

theorem words : wordsSigns Try.prog.initOrder.toList = "harness".toList :: letters w1 :: "cut".toList :: wordsSigns (letters w3) := by
  rw [head_reads, String.toList_ofList, words_cons _ _ (no_blank (by decide +kernel)), words_cons _ _ (no_blank (by decide +kernel)), words_cons _ _ (no_blank (by decide +kernel)), h0, h2]

theorem behind : ∃ r, behindMainWord (wordsSigns Try.prog.initOrder.toList) = "cut".toList :: r := by
  refine ⟨wordsSigns (letters w3), ?_⟩
  rw [words]
  generalize wordsSigns (letters w3) = r
  have hs := sums
  generalize letters w1 = v at hs
  unfold behindMainWord
  simp [hs]

theorem not_later : Try.prog.laysLater = false := by kernel_rfl

theorem no_reflect : Try.prog.bearsReflect = false := by kernel_rfl

theorem no_doors : Try.prog.doorFits [] = true := by kernel_rfl

theorem strips (r : List (List Char)) : stripLifts liftWords ("cut".toList :: r) = ([], "cut".toList :: r) := by kernel_rfl

theorem may_enter_of (P : Program) (r : List (List Char)) (h : behindMainWord (wordsSigns P.initOrder.toList) = "cut".toList :: r) (h1 : P.laysLater = false) (h2 : P.bearsReflect = false) (h3 : P.doorFits [] = true) : P.mayEnter = true := by
  unfold Program.mayEnter
  rw [h]
  dsimp only
  rw [strips, h1, h2, h3]
  kernel_rfl

theorem lifts_final_of (P : Program) (r : List (List Char)) (h : behindMainWord (wordsSigns P.initOrder.toList) = "cut".toList :: r) : P.liftsFinal = false := by
  unfold Program.liftsFinal Program.headLifts
  rw [h]
  dsimp only
  rw [strips]
  kernel_rfl

theorem made_of (P : Program) (r : List (List Char)) (h : behindMainWord (wordsSigns P.initOrder.toList) = "cut".toList :: r) : P.make = some .cut := by
  unfold Program.make
  rw [h]
  kernel_rfl

theorem may_enter : Try.prog.mayEnter = true := let ⟨r, h⟩ := behind; may_enter_of _ r h not_later no_reflect no_doors

theorem lifts_final : Try.prog.liftsFinal = false := let ⟨r, h⟩ := behind; lifts_final_of _ r h

theorem made : Try.prog.make = some .cut := let ⟨r, h⟩ := behind; made_of _ r h

theorem laid : laidOutB Try.prog = true := by kernel_rfl

theorem rowed : mapsRowed Try.prog = true := by kernel_rfl

theorem no_stops : Try.prog.stops = [] := by kernel_rfl

theorem no_knobs : Try.prog.stopKnobs = [] := by kernel_rfl

theorem plain_keys : Try.prog.plainKeys = true := by kernel_rfl

theorem stops_heard : Try.prog.stopsHeard = true := by kernel_rfl

theorem arr3 {α : Type} {cs : Array α} (h : cs.size = 3) : ∃ c0 c1 c2, cs = #[c0, c1, c2] := by
  obtain ⟨l⟩ := cs
  match l, h with
  | [a, b, c], _ => exact ⟨a, b, c, rfl⟩

theorem own : ownKnob Try.prog.godebug = none := by kernel_rfl

theorem rdf : Try.prog.readableRec 22 = true ∧ 22 < Try.prog.types.size := ⟨by kernel_rfl, of_decide_eq_true (by kernel_rfl)⟩

theorem rdi : Try.prog.readableRec 2 = true ∧ 2 < Try.prog.types.size := ⟨by kernel_rfl, of_decide_eq_true (by kernel_rfl)⟩

theorem vls3 (c : Nat → Nat) : vls 3 (flw c) = #[.float .f32 (c 0), .float .f32 (c 1), .float .f32 (c 2)] := rfl

theorem cells3 : Try.prog.cellsOf 42 = 3 := by kernel_rfl

theorem types3 : Try.prog.cellTypes Try.prog.depth 42 = some (List.replicate 3 22) := by kernel_rfl

theorem rdq : Try.prog.readableRec 42 = true ∧ 42 < Try.prog.types.size := ⟨by kernel_rfl, of_decide_eq_true (by kernel_rfl)⟩

theorem info_ris : (Try.prog.info? 144).map (·.size) = some 4 := by kernel_rfl

/-- What a raised parcel's heat would be. -/
def rdW (a h y : Nat) : Nat := fsb h (fmul 1092616192 (fsb y a))

structure RdF (a h y : Nat) : Prop where
  s1 : S.sub y a = some (fsb y a)
  s2 : S.mul 1092616192 (fsb y a) = some (fmul 1092616192 (fsb y a))
  s3 : S.sub h (fmul 1092616192 (fsb y a)) = some (rdW a h y)
  lt : rdW a h y < 4294967296

theorem rd_facts {a h y : Nat} (fa : FW a) (fh : FW h) (fy : FW y) : RdF a h y := by
  have d := sub_nw fy fa
  have m := mul_nw (x := 1092616192) (by exact ⟨by decide, by decide⟩) (by decide +kernel) d.2
  have s := sub_nw2 fh m.2
  exact ⟨d.1, m.1, s.1, s.2.1⟩

set_option maxRecDepth 100000 in
set_option maxHeartbeats 1000000 in
theorem iFitAir_t (h v : Nat) (hv : v < 4294967296) (hq : airB h v = true) (w : World) :
    Calls Try.prog 165 #[.agg #[.float .f32 h, .float .f32 v]] w fun e w' => e = .returned (.agg #[.float .f32 h, .float .f32 v]) ∧ Below w.heap.size w w' := by
  have k0 : Hid (Kept w [(w.heap.size, #[.float .f32 h, .float .f32 v], 47), (w.heap.size + 1, #[.float .f32 0, .float .f32 0], 47)] ((w.alloc (.cells #[.float .f32 h, .float .f32 v] 47)).alloc (.cells #[.float .f32 0, .float .f32 0] 47))) := hid ((((Kept.nil w).push _ _).push _ _).sub (by simp))
  have HV := hid (fun u => iValidAir h v hv true hq u)
  clear hv hq
  go_enter Try.func165, Try.ntmps165
  go_wp2_with fail
  refine (HV.out _).mono ?_
  rintro e w1 ⟨rfl, hb1⟩
  have k1 := hid (k0.out.stay hb1)
  have tok1 : True := trivial
  go_wp2_with (first | (refine wpList_load_row rfl 47 _ rfl (w.heap.size) rfl 47 (#[.float .f32 h, .float .f32 v]) (0, 0) _ (k1.out.at (x := (w.heap.size, #[.float .f32 h, .float .f32 v], 47)) (by simp)) Try.underlying47 rfl info_air ?_) | (have _t := tok1; (refine store_kept (w0 := w) (l := [(w.heap.size, #[.float .f32 h, .float .f32 v], 47)]) rfl 47 _ _ rfl (w.heap.size + 1) (#[.float .f32 h, .float .f32 v]) rfl rfl 47 (#[.float .f32 0, .float .f32 0]) (k1.out.swap) (by omega) (by first | (simp; done) | (simp; omega)) info_air rfl (by simp [Value.oneCell']) (fun w7 k7 => ?_); replace k7 := hid k7); clear tok1))
  exact bodyPost_ret (results_cell_row rfl _ _ (w.heap.size + 1) 47 (#[.float .f32 h, .float .f32 v]) (0, 0) _ rfl (k7.out.at (x := (w.heap.size + 1, #[.float .f32 h, .float .f32 v], 47)) (by simp)) Try.underlying47 rfl info_air) rfl ⟨rfl, k7.out.1⟩

set_option maxRecDepth 100000 in
set_option maxHeartbeats 1000000 in
theorem iFitAir_f (h v : Nat) (hv : v < 4294967296) (hq : airB h v = false) (w : World) :
    Calls Try.prog 165 #[.agg #[.float .f32 h, .float .f32 v]] w fun e w' => e = .panicked [{ v := .iface 214 (.agg #[.float .f32 h, .float .f32 v]), recovered := false }] ∧ Below w.heap.size w w' := by
  have k0 : Hid (Kept w [(w.heap.size, #[.float .f32 h, .float .f32 v], 47), (w.heap.size + 1, #[.float .f32 0, .float .f32 0], 47)] ((w.alloc (.cells #[.float .f32 h, .float .f32 v] 47)).alloc (.cells #[.float .f32 0, .float .f32 0] 47))) := hid ((((Kept.nil w).push _ _).push _ _).sub (by simp))
  have HV := hid (fun u => iValidAir h v hv false hq u)
  clear hv hq
  have hcon : Try.prog.concrete 214 = true := by kernel_rfl
  go_enter Try.func165, Try.ntmps165
  go_wp2_with fail
  refine (HV.out _).mono ?_
  rintro e w1 ⟨rfl, hb1⟩
  have k1 := hid (k0.out.stay hb1)
  go_wp2_with (refine wpList_load_row rfl 47 _ rfl (w.heap.size) rfl 47 (#[.float .f32 h, .float .f32 v]) (0, 0) _ (k1.out.at (x := (w.heap.size, #[.float .f32 h, .float .f32 v], 47)) (by simp)) Try.underlying47 rfl info_air ?_)
  exact ⟨rfl, rfl, k1.out.1⟩

set_option maxRecDepth 100000 in
set_option maxHeartbeats 1000000 in
theorem iDry_f (a h v f y : Nat) (D : RdF a h y) (hv : v < 4294967296) (hq : airB (rdW a h y) v = false) (w : World) :
    Calls Try.prog 142 #[.agg #[.float .f32 a, .float .f32 h, .float .f32 v, .float .f32 f], .float .f32 y] w fun e w' => e = .panicked [{ v := .iface 214 (.agg #[.float .f32 (rdW a h y), .float .f32 v]), recovered := false }] ∧ Below w.heap.size w w' := by
  have k0 : Hid (Kept w [(w.heap.size, #[.float .f32 a, .float .f32 h, .float .f32 v, .float .f32 f], 144), (w.heap.size + 1, #[.float .f32 0, .float .f32 0, .float .f32 0, .float .f32 0], 144), (w.heap.size + 1 + 1, #[.float .f32 (rdW a h y), .float .f32 v], 47)] (((w.alloc (.cells #[.float .f32 a, .float .f32 h, .float .f32 v, .float .f32 f] 144)).alloc (.cells #[.float .f32 0, .float .f32 0, .float .f32 0, .float .f32 0] 144)).alloc (.cells #[.float .f32 (rdW a h y), .float .f32 v] 47))) := hid (((((Kept.nil w).push _ _).push _ _).push _ _).sub (by simp))
  have HF := hid (fun u => iFitAir_f (rdW a h y) v hv hq u)
  have r1 := fun w => run_float_arith (P := Try.prog) w .sub 22 .f32 _ _ _ D.s1
  have r2 := fun w => run_float_arith (P := Try.prog) w .mul 22 .f32 _ _ _ D.s2
  have r3 := fun w => run_float_arith (P := Try.prog) w .sub 22 .f32 _ _ _ D.s3
  clear D hv hq
  go_enter Try.func142, Try.ntmps142
  go_wp2_with fail
  refine (HF.out _).mono ?_
  rintro e w1 ⟨rfl, hb1⟩
  have k1 := hid (k0.out.stay hb1)
  exact ⟨rfl, rfl, k1.out.1⟩

set_option maxRecDepth 100000 in
set_option maxHeartbeats 1000000 in
theorem iDry_t (a h v f y : Nat) (D : RdF a h y) (hv : v < 4294967296) (hq : airB (rdW a h y) v = true) (w : World) :
    Calls Try.prog 142 #[.agg #[.float .f32 a, .float .f32 h, .float .f32 v, .float .f32 f], .float .f32 y] w fun e w' => e = .returned (.agg #[.float .f32 y, .float .f32 (rdW a h y), .float .f32 v, .float .f32 f]) ∧ Below w.heap.size w w' := by
  have k0 : Hid (Kept w [(w.heap.size, #[.float .f32 a, .float .f32 h, .float .f32 v, .float .f32 f], 144), (w.heap.size + 1, #[.float .f32 0, .float .f32 0, .float .f32 0, .float .f32 0], 144), (w.heap.size + 1 + 1, #[.float .f32 (rdW a h y), .float .f32 v], 47)] (((w.alloc (.cells #[.float .f32 a, .float .f32 h, .float .f32 v, .float .f32 f] 144)).alloc (.cells #[.float .f32 0, .float .f32 0, .float .f32 0, .float .f32 0] 144)).alloc (.cells #[.float .f32 (rdW a h y), .float .f32 v] 47))) := hid (((((Kept.nil w).push _ _).push _ _).push _ _).sub (by simp))
  have HF := hid (fun u => iFitAir_t (rdW a h y) v hv hq u)
  have r1 := fun w => run_float_arith (P := Try.prog) w .sub 22 .f32 _ _ _ D.s1
  have r2 := fun w => run_float_arith (P := Try.prog) w .mul 22 .f32 _ _ _ D.s2
  have r3 := fun w => run_float_arith (P := Try.prog) w .sub 22 .f32 _ _ _ D.s3
  clear D hv hq
  go_enter Try.func142, Try.ntmps142
  go_wp2_with fail
  refine (HF.out _).mono ?_
  rintro e w1 ⟨rfl, hb1⟩
  have k1 := hid (k0.out.stay hb1)
  have tok1 : True := trivial
  go_wp2_with (first | (have _t := tok1; refine store_part (w0 := w) (l := [(w.heap.size + 1, #[.float .f32 0, .float .f32 0, .float .f32 0, .float .f32 0], 144), (w.heap.size + 1 + 1, #[.float .f32 (rdW a h y), .float .f32 v], 47)]) rfl 49 _ _ rfl (w.heap.size) 0 rfl #[.float .f32 y, .float .f32 (rdW a h y), .float .f32 v] rfl #[.float .f32 a, .float .f32 h, .float .f32 v, .float .f32 f] #[.float .f32 y, .float .f32 (rdW a h y), .float .f32 v, .float .f32 f] 144 k1.out (Nat.le_refl _) (by first | (simp; done) | (simp; omega)) (by simp) info_par (by simp [Value.oneCell']) rfl (fun w6 k6 => ?_); replace k6 := hid k6; clear tok1) | (have _t := k6; (refine store_kept (w0 := w) (l := [(w.heap.size, #[.float .f32 y, .float .f32 (rdW a h y), .float .f32 v, .float .f32 f], 144)]) rfl 144 _ _ rfl (w.heap.size + 1) (#[.float .f32 y, .float .f32 (rdW a h y), .float .f32 v, .float .f32 f]) rfl rfl 144 (#[.float .f32 0, .float .f32 0, .float .f32 0, .float .f32 0]) ((k6.out.sub (l' := [(w.heap.size + 1, #[.float .f32 0, .float .f32 0, .float .f32 0, .float .f32 0], 144), (w.heap.size, #[.float .f32 y, .float .f32 (rdW a h y), .float .f32 v, .float .f32 f], 144)]) (by simp))) (by omega) (by first | (simp; done) | (simp; omega)) info_ris rfl (by simp [Value.oneCell']) (fun w7 k7 => ?_); replace k7 := hid k7)) | (have _t := k6; (refine wpList_load_row rfl 144 _ rfl (w.heap.size) rfl 144 (#[.float .f32 y, .float .f32 (rdW a h y), .float .f32 v, .float .f32 f]) (0, 0) _ (k6.out.at (x := (w.heap.size, #[.float .f32 y, .float .f32 (rdW a h y), .float .f32 v, .float .f32 f], 144)) (by simp)) Try.underlying144 rfl info_ris ?_)))
  exact bodyPost_ret (results_cell_row rfl _ _ (w.heap.size + 1) 144 (#[.float .f32 y, .float .f32 (rdW a h y), .float .f32 v, .float .f32 f]) (0, 0) _ rfl (k7.out.at (x := (w.heap.size + 1, #[.float .f32 y, .float .f32 (rdW a h y), .float .f32 v, .float .f32 f], 144)) (by simp)) Try.underlying144 rfl info_ris) rfl ⟨rfl, k7.out.1⟩

theorem iFault (h v : Nat) (w : World) : Calls Try.prog 206 #[.agg #[.float .f32 h, .float .f32 v]] w fun e w' => e = .returned (.int .i64 4) ∧ Below w.heap.size w w' := by
  have b0 := boxed w (.cells #[.float .f32 h, .float .f32 v] 214)
  go_enter Try.func206, Try.ntmps206
  go_wp2
  go_ret
  exact ⟨rfl, b0⟩

@[go_sem] theorem as_unfit (v : Value) (w : World) : (Instr.typeAssert (.iface 214 v) 20 193 true).run Try.prog w = .ok (.tuple #[.iface 214 v, .bool true]) w := by kernel_rfl

theorem cm_unfit (v : Value) (w : World) : (callMethod (.iface 214 v) "loop.example/g01224/impl.fault" #[]).run Try.prog w = .ok (.enter 206 #[v]) w := by kernel_rfl

set_option maxRecDepth 100000 in
theorem iCodeOf (h v : Nat) (w : World) : Calls Try.prog 128 #[.iface 214 (.agg #[.float .f32 h, .float .f32 v])] w fun e w' => e = .returned (.int .i64 4) ∧ Below w.heap.size w w' := by
  have hm := cm_unfit
  go_enter Try.func128, Try.ntmps128
  go_wp2_with fail
  refine (iFault h v _).mono ?_
  rintro e w1 ⟨rfl, hb1⟩
  go_wp2
  go_ret
  exact ⟨rfl, hb1⟩

set_option maxRecDepth 100000 in
theorem iCatch_panic (h v gc : Nat) (x : Value) (w : World) (hc : w.cell? ⟨gc, 0, none⟩ = some x) (hz : w.frozen? ⟨gc, 0, none⟩ = false) :
    CallsD Try.prog 167 #[.pointer (some ⟨gc, 0, none⟩)] (.panicking [{ v := .iface 214 (.agg #[.float .f32 h, .float .f32 v]), recovered := false }]) w fun e u' w' =>
      e = .returned (.tuple #[]) ∧ u' = .panicking [{ v := .iface 214 (.agg #[.float .f32 h, .float .f32 v]), recovered := true }] ∧ ∃ w1, Below w.heap.size w w1 ∧ w' = w1.setCell ⟨gc, 0, none⟩ (.int .i64 4) := by
  have hne : ∀ w : World, (binOp .neq 20 (.iface 214 (.agg #[.float .f32 h, .float .f32 v])) .nilIface).run Try.prog w = .ok (.bool true) w := fun _ => by kernel_rfl
  refine callsD_of_wpS Try.func167 rfl fun c₀ cs hu => ?_
  apply wpS_seq
  apply wpS_region
  simp [wpOpsS, go_sem, recoverD, hu, Try.ntmps167, Exit.thenS]
  refine wpS_of_wp ?_
  simp only [Array.replicate, List.setIfInBounds_toArray, List.replicate, List.set_cons_zero, List.set_cons_succ, List.append_toArray, List.cons_append, List.nil_append]
  go_wp2_with fail
  refine (iCodeOf h v _).mono ?_
  rintro e w1 ⟨rfl, hb1⟩
  have hc1 := (hb1.cell (block_lt_of_cell hc)).trans hc
  have hz1 : w1.frozen? ⟨gc, 0, none⟩ = false := (hb1.frozen (block_lt_of_cell hc)).trans hz
  clear hc hz
  go_wp2
  exact ⟨rfl, _, rfl, .tuple #[], by simp [results, Try.results167], rfl, rfl, w1, hb1, rfl⟩

theorem iCatch_idle (gc : Nat) (w : World) :
    CallsD Try.prog 167 #[.pointer (some ⟨gc, 0, none⟩)] .returning w fun e u' w' => e = .returned (.tuple #[]) ∧ u' = .returning ∧ w' = w := by
  have hne : ∀ w : World, (binOp .neq 20 .nilIface .nilIface).run Try.prog w = .ok (.bool false) w := fun _ => by kernel_rfl
  refine callsD_of_wpS Try.func167 rfl fun c₀ cs hu => ?_
  apply wpS_seq
  apply wpS_region
  simp [wpOpsS, go_sem, recoverD, hu, Try.ntmps167, Exit.thenS]
  refine wpS_of_wp ?_
  simp only [Array.replicate, List.setIfInBounds_toArray, List.replicate, List.set_cons_zero, List.set_cons_succ, List.append_toArray, List.cons_append, List.nil_append]
  go_wp2
  exact ⟨rfl, .returning, by cases c₀; simp_all, .tuple #[], by simp [results, Try.results167], rfl, rfl, rfl⟩

/-- What the closure of raise has at hand. -/
structure Way (w : World) (gp gh gw gi gs n cap : Nat) (a h v : Nat) (ys : Nat → Nat) (way : Int) (TW : TypeId) : Prop where
  par : parAt w gp a h v 49
  hts : w.cell? ⟨gh, 0, none⟩ = some (.slice (some ⟨gs, 0, none⟩) n cap)
  one : ∀ k, k < n → w.cell? ⟨gs, k, none⟩ = some (.float .f32 (ys k))
  fns : w.heap[gw]? = some (.cells #[.func (.func 142) #[] #[], .func (.func 143) #[] #[]] TW (0, 0))
  way : w.cell? ⟨gi, 0, none⟩ = some (.int .i64 way)

theorem Way.stay {w w' : World} {gp gh gw gi gs n cap a h v : Nat} {ys : Nat → Nat} {way : Int} {TW : TypeId} (k : Way w gp gh gw gi gs n cap a h v ys way TW) (hb : Below w.heap.size w w') : Way w' gp gh gw gi gs n cap a h v ys way TW := by
  refine ⟨k.par.stay hb, (hb.cell (block_lt_of_cell k.hts)).trans k.hts, fun i hi => (hb.cell (block_lt_of_cell (k.one i hi))).trans (k.one i hi), ?_, (hb.cell (block_lt_of_cell k.way)).trans k.way⟩
  rw [hb.block gw (lt_of_block k.fns)]; exact k.fns

set_option maxRecDepth 100000 in
set_option maxHeartbeats 2000000 in
theorem iWay1_ok (n : Nat) (hn : n ≤ 1048576) (cap : Nat) (ys sa sh sv sf : Nat → Nat) (hf0 : sf 0 = 0)
    (hcall : ∀ k, k < n → ∀ u, Calls Try.prog 143 #[.agg #[.float .f32 (sa k), .float .f32 (sh k), .float .f32 (sv k), .float .f32 (sf k)], .float .f32 (ys k)] u fun e u' => e = .returned (.agg #[.float .f32 (sa (k + 1)), .float .f32 (sh (k + 1)), .float .f32 (sv (k + 1)), .float .f32 (sf (k + 1))]) ∧ Below u.heap.size u u')
    (w : World) (gp gh gw gi gs : Nat) (TW : TypeId) (hW : Way w gp gh gw gi gs n cap (sa 0) (sh 0) (sv 0) ys 1 TW) :
    Calls Try.prog 145 #[.pointer (some ⟨gp, 0, none⟩), .pointer (some ⟨gh, 0, none⟩), .pointer (some ⟨gw, 0, none⟩), .pointer (some ⟨gi, 0, none⟩)] w fun e w' => e = .returned (.agg #[.float .f32 (sa n), .float .f32 (sh n), .float .f32 (sv n), .float .f32 (sf n)]) ∧ Below w.heap.size w w' := by
  have HW := hid hW
  have HC := hid hcall
  have HF0 := hid hf0
  have G1 := hid (hW.par.stay ((Below.refl w.heap.size w).alloc (Nat.le_refl _) (.cells #[.float .f32 0, .float .f32 0, .float .f32 0, .float .f32 0] 144)))
  have c1 := (hW.stay ((Below.refl w.heap.size w).alloc (Nat.le_refl _) (.cells #[.float .f32 0, .float .f32 0, .float .f32 0, .float .f32 0] 144))).hts
  have k0 : Hid (Kept w [(w.heap.size + 1, #[.float .f32 (sa 0), .float .f32 (sh 0), .float .f32 (sv 0), .float .f32 0], 144), (w.heap.size, #[.float .f32 0, .float .f32 0, .float .f32 0, .float .f32 0], 144)] ((w.alloc (.cells #[.float .f32 0, .float .f32 0, .float .f32 0, .float .f32 0] 144)).alloc (.cells #[.float .f32 (sa 0), .float .f32 (sh 0), .float .f32 (sv 0), .float .f32 0] 144))) := hid ((((Kept.nil w).push _ _).push _ _).sub (by simp))
  have c2 : World.cell? ((w.alloc (.cells #[.float .f32 0, .float .f32 0, .float .f32 0, .float .f32 0] 144)).alloc (.cells #[.float .f32 (sa 0), .float .f32 (sh 0), .float .f32 (sv 0), .float .f32 0] 144)) ⟨gh, 0, none⟩ = some (.slice (some ⟨gs, 0, none⟩) n cap) := (hW.stay k0.out.1).hts
  clear hW hcall hf0
  have hneg : ¬ ((n : Int) < 0) := by omega
  have HN := hid hn
  clear hn
  go_enter Try.func145, Try.ntmps145
  go_wp2_with (refine wpList_load_row rfl 49 _ rfl gp rfl 49 #[.float .f32 (sa 0), .float .f32 (sh 0), .float .f32 (sv 0)] (0, 0) _ G1.out Try.underlying49 rfl info_par ?_)
  clear c1 c2 G1
  go_loopw [12] (fun i wr => ∃ k : Nat, k ≤ n ∧ i = .int .i64 k ∧ Hid (Kept w [(w.heap.size + 1, #[.float .f32 (sa k), .float .f32 (sh k), .float .f32 (sv k), .float .f32 (sf k)], 144), (w.heap.size, #[.float .f32 0, .float .f32 0, .float .f32 0, .float .f32 0], 144)] wr)) (fun i _ => n - (intOf i).toNat)
  case atStart => exact ⟨0, by omega, rfl, by rw [HF0.out]; exact k0⟩
  case round =>
    obtain ⟨k, hk, rfl, hK⟩ := hrel
    clear k0
    by_cases hlt : k < n
    · have hkn : k < n := hlt
      have hk3 : (k : Int) < (n : Int) := by omega
      have Hk := hid hlt
      have y1 := (HW.out.stay hK.out.1).one k hkn
      have ix : ∀ w, (Instr.indexAt 147 (.slice (some ⟨gs, 0, none⟩) n cap) (.int .i64 (k : Int))).run Try.prog w = .ok (.pointer (some ⟨gs, k, none⟩)) w := fun w => by
        have := run_indexAt (P := Try.prog) (t := 147) (e := 22) (m := 1) Try.underlying147 (by kernel_rfl) (b := gs) (o := 0) (n := n) (cap := cap) (k := k) hkn w
        simpa using this
      clear hlt hk hkn
      go_wp2_with fail
      refine region_kept (w0 := w) (l := [(w.heap.size, #[.float .f32 0, .float .f32 0, .float .f32 0, .float .f32 0], 144)]) 7 #[false, false, false, false, false, false, false] (by kernel_rfl) rfl rfl ?_
      have kd := hK.out.drew
      clear hK
      generalize wr.drew = wd at kd ⊢
      refine take_cell 0 _ _ (.int .i64 1) rfl (by rfl) (by kernel_rfl) (by kernel_rfl) (by kernel_rfl) (fun wq hS => by have hcell : wq.cell? ⟨gi, 0, none⟩ = some (.int .i64 1) := (HW.out.stay hS.1).way; clear hS; unfold execOp; go_simp) rfl rfl kd.tail ?_
      simp only [Act.put, List.setIfInBounds_toArray, List.set_cons_zero, List.set_cons_succ]
      refine take_val 1 _ _ (.pointer (some ⟨gw, 1, none⟩)) rfl (by rfl) (by kernel_rfl) (by kernel_rfl) (by kernel_rfl) (fun w => by unfold execOp; go_simp) rfl rfl kd.tail ?_
      simp only [Act.put, List.setIfInBounds_toArray, List.set_cons_zero, List.set_cons_succ]
      refine take_cell 2 _ _ (.func (.func 143) #[] #[]) rfl (by rfl) (by kernel_rfl) (by kernel_rfl) (by kernel_rfl) (fun wq hS => by have hcell : wq.cell? ⟨gw, 1, none⟩ = some (.func (.func 143) #[] #[]) := (cell_of_row wq gw 1 _ _ _ (HW.out.stay hS.1).fns).trans rfl; clear hS; unfold execOp; go_simp) rfl rfl kd.tail ?_
      simp only [Act.put, List.setIfInBounds_toArray, List.set_cons_zero, List.set_cons_succ]
      refine take_val 4 _ _ (.float .f32 (ys k)) rfl (by rfl) (by kernel_rfl) (by kernel_rfl) (by kernel_rfl) (fun w => by rfl) rfl rfl kd.tail ?_
      simp only [Act.put, List.setIfInBounds_toArray, List.set_cons_zero, List.set_cons_succ]
      refine wpAnyH_ready (rs := [3]) (by kernel_rfl) (by simp) ?_
      refine loadR 3 kd.tail rfl (by rfl) 144 _ rfl (w.heap.size + 1) (#[.float .f32 (sa k), .float .f32 (sh k), .float .f32 (sv k), .float .f32 (sf k)]) 144 rfl (kd.at (x := (w.heap.size + 1, #[.float .f32 (sa k), .float .f32 (sh k), .float .f32 (sv k), .float .f32 (sf k)], 144)) (by simp)) _ Try.underlying144 rfl (info_ris) ?_ AllReadyH.nil
      simp only [Act.put, List.setIfInBounds_toArray, List.set_cons_zero, List.set_cons_succ]
      refine wpAnyH_ready (rs := [5]) (by kernel_rfl) (by simp) ?_
      refine callK 5 _ _ (.agg #[.float .f32 (sa (k + 1)), .float .f32 (sh (k + 1)), .float .f32 (sv (k + 1)), .float .f32 (sf (k + 1))]) kd rfl (by rfl) 143 #[.agg #[.float .f32 (sa k), .float .f32 (sh k), .float .f32 (sv k), .float .f32 (sf k)], .float .f32 (ys k)] (fun w => by unfold execOp; go_simp) rfl rfl ?hc5 (fun w5 k5 => ?_) AllReadyH.nil
      case hc5 => exact HC.out k Hk.out _
      refine ⟨k5.tail, ?_⟩
      simp only [Act.put, List.setIfInBounds_toArray, List.set_cons_zero, List.set_cons_succ]
      refine wpAnyH_ready (rs := [6]) (by kernel_rfl) (by simp) ?_
      refine storeK 6 _ _ k5 (by omega) (by simp) rfl (by rfl) 144 _ _ rfl (#[.float .f32 (sa (k + 1)), .float .f32 (sh (k + 1)), .float .f32 (sv (k + 1)), .float .f32 (sf (k + 1))]) rfl rfl (info_ris) (by simp) (by simp [Value.oneCell']) rfl rfl (fun w6 k6 => ?_) AllReadyH.nil
      refine ⟨k6.tail, ?_⟩
      simp only [Act.put, List.setIfInBounds_toArray, List.set_cons_zero, List.set_cons_succ]
      refine wpAnyH_done (by kernel_rfl) (NoPanic.normal ?_) _
      have K1 := hid k6
      clear kd k5 k6
      have hn9 := HN.out
      have hk9 := Hk.out
      clear ix y1
      go_wp2_with fail
      go_roundw
      case rel => exact ⟨k + 1, by omega, by go_num, K1⟩
      case measure => simp [intOf]; omega
    · obtain rfl : k = n := by omega
      have hlt3 : ¬ ((k : Int) < (k : Int)) := by omega
      clear hlt
      go_wp2_with (first | (refine wpList_load_row rfl 144 _ rfl (w.heap.size + 1) rfl 144 (#[.float .f32 (sa k), .float .f32 (sh k), .float .f32 (sv k), .float .f32 (sf k)]) (0, 0) _ (hK.out.at (x := (w.heap.size + 1, #[.float .f32 (sa k), .float .f32 (sh k), .float .f32 (sv k), .float .f32 (sf k)], 144)) (by simp)) Try.underlying144 rfl info_ris ?_) | (refine store_kept (w0 := w) (l := [(w.heap.size + 1, #[.float .f32 (sa k), .float .f32 (sh k), .float .f32 (sv k), .float .f32 (sf k)], 144)]) rfl 144 _ _ rfl (w.heap.size) (#[.float .f32 (sa k), .float .f32 (sh k), .float .f32 (sv k), .float .f32 (sf k)]) rfl rfl 144 (#[.float .f32 0, .float .f32 0, .float .f32 0, .float .f32 0]) (hK.out.swap) (Nat.le_refl _) (by simp) info_ris rfl (by simp [Value.oneCell']) (fun w7 k7 => ?_); replace k7 := hid k7))
      exact bodyPost_ret (results_cell_row rfl _ _ (w.heap.size) 144 (#[.float .f32 (sa k), .float .f32 (sh k), .float .f32 (sv k), .float .f32 (sf k)]) (0, 0) _ rfl (k7.out.at (x := (w.heap.size, #[.float .f32 (sa k), .float .f32 (sh k), .float .f32 (sv k), .float .f32 (sf k)], 144)) (by simp)) Try.underlying144 rfl info_ris) rfl ⟨rfl, k7.out.1⟩

set_option maxRecDepth 100000 in
set_option maxHeartbeats 2000000 in
theorem iWay1_f (n : Nat) (hn : n ≤ 1048576) (cap : Nat) (ys sa sh sv sf : Nat → Nat) (hf0 : sf 0 = 0) (m : Nat) (hm : m < n) (chain : List PanicEntry) (hpan : ∀ u, Calls Try.prog 143 #[.agg #[.float .f32 (sa m), .float .f32 (sh m), .float .f32 (sv m), .float .f32 (sf m)], .float .f32 (ys m)] u fun e u' => e = .panicked chain ∧ Below u.heap.size u u')
    (hcall : ∀ k, k < m → ∀ u, Calls Try.prog 143 #[.agg #[.float .f32 (sa k), .float .f32 (sh k), .float .f32 (sv k), .float .f32 (sf k)], .float .f32 (ys k)] u fun e u' => e = .returned (.agg #[.float .f32 (sa (k + 1)), .float .f32 (sh (k + 1)), .float .f32 (sv (k + 1)), .float .f32 (sf (k + 1))]) ∧ Below u.heap.size u u')
    (w : World) (gp gh gw gi gs : Nat) (TW : TypeId) (hW : Way w gp gh gw gi gs n cap (sa 0) (sh 0) (sv 0) ys 1 TW) :
    Calls Try.prog 145 #[.pointer (some ⟨gp, 0, none⟩), .pointer (some ⟨gh, 0, none⟩), .pointer (some ⟨gw, 0, none⟩), .pointer (some ⟨gi, 0, none⟩)] w fun e w' => e = .panicked chain ∧ Below w.heap.size w w' := by
  have HW := hid hW
  have HC := hid hcall
  have HF0 := hid hf0
  have G1 := hid (hW.par.stay ((Below.refl w.heap.size w).alloc (Nat.le_refl _) (.cells #[.float .f32 0, .float .f32 0, .float .f32 0, .float .f32 0] 144)))
  have c1 := (hW.stay ((Below.refl w.heap.size w).alloc (Nat.le_refl _) (.cells #[.float .f32 0, .float .f32 0, .float .f32 0, .float .f32 0] 144))).hts
  have k0 : Hid (Kept w [(w.heap.size + 1, #[.float .f32 (sa 0), .float .f32 (sh 0), .float .f32 (sv 0), .float .f32 0], 144), (w.heap.size, #[.float .f32 0, .float .f32 0, .float .f32 0, .float .f32 0], 144)] ((w.alloc (.cells #[.float .f32 0, .float .f32 0, .float .f32 0, .float .f32 0] 144)).alloc (.cells #[.float .f32 (sa 0), .float .f32 (sh 0), .float .f32 (sv 0), .float .f32 0] 144))) := hid ((((Kept.nil w).push _ _).push _ _).sub (by simp))
  have c2 : World.cell? ((w.alloc (.cells #[.float .f32 0, .float .f32 0, .float .f32 0, .float .f32 0] 144)).alloc (.cells #[.float .f32 (sa 0), .float .f32 (sh 0), .float .f32 (sv 0), .float .f32 0] 144)) ⟨gh, 0, none⟩ = some (.slice (some ⟨gs, 0, none⟩) n cap) := (hW.stay k0.out.1).hts
  have HP := hid hpan
  have HM := hid hm
  clear hpan hm
  clear hW hcall hf0
  have hneg : ¬ ((n : Int) < 0) := by omega
  have HN := hid hn
  clear hn
  go_enter Try.func145, Try.ntmps145
  go_wp2_with (refine wpList_load_row rfl 49 _ rfl gp rfl 49 #[.float .f32 (sa 0), .float .f32 (sh 0), .float .f32 (sv 0)] (0, 0) _ G1.out Try.underlying49 rfl info_par ?_)
  clear c1 c2 G1
  go_loopw [12] (fun i wr => ∃ k : Nat, k ≤ m ∧ i = .int .i64 k ∧ Hid (Kept w [(w.heap.size + 1, #[.float .f32 (sa k), .float .f32 (sh k), .float .f32 (sv k), .float .f32 (sf k)], 144), (w.heap.size, #[.float .f32 0, .float .f32 0, .float .f32 0, .float .f32 0], 144)] wr)) (fun i _ => n - (intOf i).toNat)
  case atStart => exact ⟨0, by omega, rfl, by rw [HF0.out]; exact k0⟩
  case round =>
    obtain ⟨k, hk, rfl, hK⟩ := hrel
    clear k0
    by_cases hlt : k < m
    · have hkn : k < n := (by have := HM.out; omega)
      have hk3 : (k : Int) < (n : Int) := by omega
      have Hk := hid hlt
      have y1 := (HW.out.stay hK.out.1).one k hkn
      have ix : ∀ w, (Instr.indexAt 147 (.slice (some ⟨gs, 0, none⟩) n cap) (.int .i64 (k : Int))).run Try.prog w = .ok (.pointer (some ⟨gs, k, none⟩)) w := fun w => by
        have := run_indexAt (P := Try.prog) (t := 147) (e := 22) (m := 1) Try.underlying147 (by kernel_rfl) (b := gs) (o := 0) (n := n) (cap := cap) (k := k) hkn w
        simpa using this
      clear hlt hk hkn
      go_wp2_with fail
      refine region_kept (w0 := w) (l := [(w.heap.size, #[.float .f32 0, .float .f32 0, .float .f32 0, .float .f32 0], 144)]) 7 #[false, false, false, false, false, false, false] (by kernel_rfl) rfl rfl ?_
      have kd := hK.out.drew
      clear hK
      generalize wr.drew = wd at kd ⊢
      refine take_cell 0 _ _ (.int .i64 1) rfl (by rfl) (by kernel_rfl) (by kernel_rfl) (by kernel_rfl) (fun wq hS => by have hcell : wq.cell? ⟨gi, 0, none⟩ = some (.int .i64 1) := (HW.out.stay hS.1).way; clear hS; unfold execOp; go_simp) rfl rfl kd.tail ?_
      simp only [Act.put, List.setIfInBounds_toArray, List.set_cons_zero, List.set_cons_succ]
      refine take_val 1 _ _ (.pointer (some ⟨gw, 1, none⟩)) rfl (by rfl) (by kernel_rfl) (by kernel_rfl) (by kernel_rfl) (fun w => by unfold execOp; go_simp) rfl rfl kd.tail ?_
      simp only [Act.put, List.setIfInBounds_toArray, List.set_cons_zero, List.set_cons_succ]
      refine take_cell 2 _ _ (.func (.func 143) #[] #[]) rfl (by rfl) (by kernel_rfl) (by kernel_rfl) (by kernel_rfl) (fun wq hS => by have hcell : wq.cell? ⟨gw, 1, none⟩ = some (.func (.func 143) #[] #[]) := (cell_of_row wq gw 1 _ _ _ (HW.out.stay hS.1).fns).trans rfl; clear hS; unfold execOp; go_simp) rfl rfl kd.tail ?_
      simp only [Act.put, List.setIfInBounds_toArray, List.set_cons_zero, List.set_cons_succ]
      refine take_val 4 _ _ (.float .f32 (ys k)) rfl (by rfl) (by kernel_rfl) (by kernel_rfl) (by kernel_rfl) (fun w => by rfl) rfl rfl kd.tail ?_
      simp only [Act.put, List.setIfInBounds_toArray, List.set_cons_zero, List.set_cons_succ]
      refine wpAnyH_ready (rs := [3]) (by kernel_rfl) (by simp) ?_
      refine loadR 3 kd.tail rfl (by rfl) 144 _ rfl (w.heap.size + 1) (#[.float .f32 (sa k), .float .f32 (sh k), .float .f32 (sv k), .float .f32 (sf k)]) 144 rfl (kd.at (x := (w.heap.size + 1, #[.float .f32 (sa k), .float .f32 (sh k), .float .f32 (sv k), .float .f32 (sf k)], 144)) (by simp)) _ Try.underlying144 rfl (info_ris) ?_ AllReadyH.nil
      simp only [Act.put, List.setIfInBounds_toArray, List.set_cons_zero, List.set_cons_succ]
      refine wpAnyH_ready (rs := [5]) (by kernel_rfl) (by simp) ?_
      refine callK 5 _ _ (.agg #[.float .f32 (sa (k + 1)), .float .f32 (sh (k + 1)), .float .f32 (sv (k + 1)), .float .f32 (sf (k + 1))]) kd rfl (by rfl) 143 #[.agg #[.float .f32 (sa k), .float .f32 (sh k), .float .f32 (sv k), .float .f32 (sf k)], .float .f32 (ys k)] (fun w => by unfold execOp; go_simp) rfl rfl ?hc5 (fun w5 k5 => ?_) AllReadyH.nil
      case hc5 => exact HC.out k Hk.out _
      refine ⟨k5.tail, ?_⟩
      simp only [Act.put, List.setIfInBounds_toArray, List.set_cons_zero, List.set_cons_succ]
      refine wpAnyH_ready (rs := [6]) (by kernel_rfl) (by simp) ?_
      refine storeK 6 _ _ k5 (by omega) (by simp) rfl (by rfl) 144 _ _ rfl (#[.float .f32 (sa (k + 1)), .float .f32 (sh (k + 1)), .float .f32 (sv (k + 1)), .float .f32 (sf (k + 1))]) rfl rfl (info_ris) (by simp) (by simp [Value.oneCell']) rfl rfl (fun w6 k6 => ?_) AllReadyH.nil
      refine ⟨k6.tail, ?_⟩
      simp only [Act.put, List.setIfInBounds_toArray, List.set_cons_zero, List.set_cons_succ]
      refine wpAnyH_done (by kernel_rfl) (NoPanic.normal ?_) _
      have K1 := hid k6
      clear kd k5 k6
      have hn9 := HN.out
      have hk9 := Hk.out
      have hm9 := HM.out
      clear ix y1
      go_wp2_with fail
      go_roundw
      case rel => exact ⟨k + 1, by omega, by go_num, K1⟩
      case measure => simp [intOf]; omega
    · obtain rfl : k = m := by omega
      have hk3 : (k : Int) < (n : Int) := by have := HM.out; omega
      have y1 := (HW.out.stay hK.out.1).one k HM.out
      have ix : ∀ w, (Instr.indexAt 147 (.slice (some ⟨gs, 0, none⟩) n cap) (.int .i64 (k : Int))).run Try.prog w = .ok (.pointer (some ⟨gs, k, none⟩)) w := fun w => by
        have := run_indexAt (P := Try.prog) (t := 147) (e := 22) (m := 1) Try.underlying147 (by kernel_rfl) (b := gs) (o := 0) (n := n) (cap := cap) (k := k) HM.out w
        simpa using this
      clear hlt hk
      go_wp2_with fail
      refine wp_region_held (S := Kept w [(w.heap.size, #[.float .f32 0, .float .f32 0, .float .f32 0, .float .f32 0], 144)]) (by kernel_rfl) ?_
      have kd := hK.out.drew
      clear hK
      change wpAnyH _ _ _ _ _ 7 #[false, false, false, false, false, false, false] _ wr.drew
      generalize wr.drew = wd at kd ⊢
      refine takeP_cell (by intro c a d v w h; cases d <;> exact h) 0 (.int .i64 1) rfl (by rfl) (by kernel_rfl) (by kernel_rfl) (by kernel_rfl) (fun wq hS => by have hcell : wq.cell? ⟨gi, 0, none⟩ = some (.int .i64 1) := (HW.out.stay hS.1).way; clear hS; unfold execOp; go_simp) kd.tail ?_
      simp only [Act.put, List.setIfInBounds_toArray, List.set_cons_zero, List.set_cons_succ]
      refine takeP_val (by intro c a d v w h; cases d <;> exact h) 1 (.pointer (some ⟨gw, 1, none⟩)) rfl (by rfl) (by kernel_rfl) (by kernel_rfl) (by kernel_rfl) (fun w => by unfold execOp; go_simp) kd.tail ?_
      simp only [Act.put, List.setIfInBounds_toArray, List.set_cons_zero, List.set_cons_succ]
      refine takeP_cell (by intro c a d v w h; cases d <;> exact h) 2 (.func (.func 143) #[] #[]) rfl (by rfl) (by kernel_rfl) (by kernel_rfl) (by kernel_rfl) (fun wq hS => by have hcell : wq.cell? ⟨gw, 1, none⟩ = some (.func (.func 143) #[] #[]) := (cell_of_row wq gw 1 _ _ _ (HW.out.stay hS.1).fns).trans rfl; clear hS; unfold execOp; go_simp) kd.tail ?_
      simp only [Act.put, List.setIfInBounds_toArray, List.set_cons_zero, List.set_cons_succ]
      refine takeP_val (by intro c a d v w h; cases d <;> exact h) 4 (.float .f32 (ys k)) rfl (by rfl) (by kernel_rfl) (by kernel_rfl) (by kernel_rfl) (fun w => by rfl) kd.tail ?_
      simp only [Act.put, List.setIfInBounds_toArray, List.set_cons_zero, List.set_cons_succ]
      refine wpAnyH_ready (rs := [3]) (by kernel_rfl) (by simp) ?_
      refine loadR 3 kd.tail rfl (by rfl) 144 _ rfl (w.heap.size + 1) (#[.float .f32 (sa k), .float .f32 (sh k), .float .f32 (sv k), .float .f32 (sf k)]) 144 rfl (kd.at (x := (w.heap.size + 1, #[.float .f32 (sa k), .float .f32 (sh k), .float .f32 (sv k), .float .f32 (sf k)], 144)) (by simp)) _ Try.underlying144 rfl (info_ris) ?_ AllReadyH.nil
      simp only [Act.put, List.setIfInBounds_toArray, List.set_cons_zero, List.set_cons_succ]
      refine wpAnyH_ready (rs := [5]) (by kernel_rfl) (by simp) ?_
      refine callP 5 chain kd rfl (by rfl) 143 #[.agg #[.float .f32 (sa k), .float .f32 (sh k), .float .f32 (sv k), .float .f32 (sf k)], .float .f32 (ys k)] (fun w => by unfold execOp; go_simp) (HP.out _) (fun w5 k5 => ?_) AllReadyH.nil
      exact ⟨rfl, rfl, k5.1⟩

set_option maxRecDepth 100000 in
set_option maxHeartbeats 1000000 in
theorem iAttempt_ok (cl : FuncId) (caps : Array Value) (a h v f : Nat) (w : World)
    (hcl : ∀ u, Below w.heap.size w u → Calls Try.prog cl caps u fun e u' => e = .returned (.agg #[.float .f32 a, .float .f32 h, .float .f32 v, .float .f32 f]) ∧ Below u.heap.size u u') (hce : ∀ w : World, (callFunc cl caps).run Try.prog w = .ok (.enter cl caps) w) :
    Calls Try.prog 144 #[.func (.func cl) #[] caps] w fun e w' => e = .returned (.tuple #[.agg #[.float .f32 a, .float .f32 h, .float .f32 v, .float .f32 f], .int .i64 0]) ∧ Below w.heap.size w w' := by
  have hmf : ∀ (fn : Fn) (first cap : Array Value) (w : World), (Instr.makeFunc fn first cap).run Try.prog w = .ok (.func fn first cap) w := fun _ _ _ _ => rfl
  have k0 : Hid (Kept w [(w.heap.size, #[.float .f32 0, .float .f32 0, .float .f32 0, .float .f32 0], 144), (w.heap.size + 1, #[.int .i64 0], 2)] ((w.alloc (.cells #[.float .f32 0, .float .f32 0, .float .f32 0, .float .f32 0] 144)).alloc (.cells #[.int .i64 0] 2))) := hid ((((Kept.nil w).push _ _).push _ _).sub (by simp))
  have HC := hid hcl
  clear hcl
  go_enter_defers Try.func144, Try.ntmps144
  go_wp2_with fail
  refine (HC.out _ k0.out.1).mono ?_
  rintro e w1 ⟨rfl, hb1⟩
  have k1 := hid (k0.out.stay hb1)
  go_wp2_with (refine store_kept (w0 := w) (l := [(w.heap.size + 1, #[.int .i64 0], 2)]) rfl 144 _ _ rfl (w.heap.size) (#[.float .f32 a, .float .f32 h, .float .f32 v, .float .f32 f]) rfl rfl 144 (#[.float .f32 0, .float .f32 0, .float .f32 0, .float .f32 0]) (k1.out) (Nat.le_refl _) (by simp) info_ris rfl (by simp [Value.oneCell']) (fun w6 k6 => ?_); replace k6 := hid k6; have c6 : World.cell? w6 ⟨w.heap.size + 1, 0, none⟩ = some (.int .i64 0) := (cell_of_row w6 (w.heap.size + 1) 0 _ _ _ (k6.out.at (x := (w.heap.size + 1, #[.int .i64 0], 2)) (by simp))).trans rfl; have z6 : World.frozen? w6 ⟨w.heap.size + 1, 0, none⟩ = false := frozen_of_row w6 (w.heap.size + 1) 0 _ _ (k6.out.at (x := (w.heap.size + 1, #[.int .i64 0], 2)) (by simp)))
  refine leaves_cons (f := 167) (args := #[.pointer (some ⟨w.heap.size + 1, 0, none⟩)]) (by simp) (by simp [go_sem]) ?_
  refine (iCatch_idle (w.heap.size + 1) _).mono ?_
  rintro e u' w'' ⟨rfl, rfl, rfl⟩
  have k7 := hid ((k6.out.swap.lcell (by omega) (by simp) 0 (.int .i64 0)).swap)
  clear c6 z6 k6 k1 k0 hb1
  generalize World.setCell w6 _ _ = w7 at k7 ⊢
  have e1 : (loadVar 144 ⟨w.heap.size, 0, none⟩).run Try.prog w7 = .ok (.agg #[.float .f32 a, .float .f32 h, .float .f32 v, .float .f32 f]) w7 := run_loadVar_row _ w.heap.size 144 144 #[.float .f32 a, .float .f32 h, .float .f32 v, .float .f32 f] (0, 0) _ (k7.out.at (x := (w.heap.size, #[.float .f32 a, .float .f32 h, .float .f32 v, .float .f32 f], 144)) (by simp)) Try.underlying144 rfl info_ris
  have e2 : (loadVar 2 ⟨w.heap.size + 1, 0, none⟩).run Try.prog w7 = .ok (.int .i64 0) w7 := by
    have c7 : World.cell? w7 ⟨w.heap.size + 1, 0, none⟩ = some (.int .i64 0) := (cell_of_row _ (w.heap.size + 1) 0 _ _ _ (k7.out.at (x := (w.heap.size + 1, #[.int .i64 0], 2)) (by simp))).trans rfl
    clear e1 k7
    simp [go_sem, c7]
  refine ⟨.tuple #[.agg #[.float .f32 a, .float .f32 h, .float .f32 v, .float .f32 f], .int .i64 0], ?_, rfl, k7.out.1⟩
  simp [results, Try.results144, asAddr, e1, e2, Sem.run_bind, Result.andThen_ok]

set_option maxRecDepth 100000 in
set_option maxHeartbeats 1000000 in
theorem iAttempt_f (cl : FuncId) (caps : Array Value) (p q : Nat) (w : World)
    (hcl : ∀ u, Below w.heap.size w u → Calls Try.prog cl caps u fun e u' => e = .panicked [{ v := .iface 214 (.agg #[.float .f32 p, .float .f32 q]), recovered := false }] ∧ Below u.heap.size u u') (hce : ∀ w : World, (callFunc cl caps).run Try.prog w = .ok (.enter cl caps) w) :
    Calls Try.prog 144 #[.func (.func cl) #[] caps] w fun e w' => e = .returned (.tuple #[.agg #[.float .f32 0, .float .f32 0, .float .f32 0, .float .f32 0], .int .i64 4]) ∧ Below w.heap.size w w' := by
  have hmf : ∀ (fn : Fn) (first cap : Array Value) (w : World), (Instr.makeFunc fn first cap).run Try.prog w = .ok (.func fn first cap) w := fun _ _ _ _ => rfl
  have k0 : Hid (Kept w [(w.heap.size, #[.float .f32 0, .float .f32 0, .float .f32 0, .float .f32 0], 144), (w.heap.size + 1, #[.int .i64 0], 2)] ((w.alloc (.cells #[.float .f32 0, .float .f32 0, .float .f32 0, .float .f32 0] 144)).alloc (.cells #[.int .i64 0] 2))) := hid ((((Kept.nil w).push _ _).push _ _).sub (by simp))
  have HC := hid hcl
  clear hcl
  go_enter_defers Try.func144, Try.ntmps144
  go_wp2_with fail
  refine (HC.out _ k0.out.1).mono ?_
  rintro e w1 ⟨rfl, hb1⟩
  have k1 := hid (k0.out.stay hb1)
  have c6 : World.cell? w1 ⟨w.heap.size + 1, 0, none⟩ = some (.int .i64 0) := (cell_of_row w1 (w.heap.size + 1) 0 _ _ _ (k1.out.at (x := (w.heap.size + 1, #[.int .i64 0], 2)) (by simp))).trans rfl
  have z6 : World.frozen? w1 ⟨w.heap.size + 1, 0, none⟩ = false := frozen_of_row w1 (w.heap.size + 1) 0 _ _ (k1.out.at (x := (w.heap.size + 1, #[.int .i64 0], 2)) (by simp))
  refine leaves_cons (f := 167) (args := #[.pointer (some ⟨w.heap.size + 1, 0, none⟩)]) (by simp) (by simp [go_sem]) ?_
  refine (iCatch_panic p q (w.heap.size + 1) _ _ c6 z6).mono ?_
  rintro e u' w'' ⟨rfl, rfl, w2, hb2, rfl⟩
  have k7 := hid (((k1.out.stay hb2).swap.lcell (by omega) (by simp) 0 (.int .i64 4)).swap)
  clear c6 z6 k1 k0 hb1 hb2
  generalize World.setCell w2 _ _ = w7 at k7 ⊢
  have e1 : (loadVar 144 ⟨w.heap.size, 0, none⟩).run Try.prog w7 = .ok (.agg #[.float .f32 0, .float .f32 0, .float .f32 0, .float .f32 0]) w7 := run_loadVar_row _ w.heap.size 144 144 #[.float .f32 0, .float .f32 0, .float .f32 0, .float .f32 0] (0, 0) _ (k7.out.at (x := (w.heap.size, #[.float .f32 0, .float .f32 0, .float .f32 0, .float .f32 0], 144)) (by simp)) Try.underlying144 rfl info_ris
  have e2 : (loadVar 2 ⟨w.heap.size + 1, 0, none⟩).run Try.prog w7 = .ok (.int .i64 4) w7 := by
    have c7 : World.cell? w7 ⟨w.heap.size + 1, 0, none⟩ = some (.int .i64 4) := (cell_of_row _ (w.heap.size + 1) 0 _ _ _ (k7.out.at (x := (w.heap.size + 1, #[.int .i64 4], 2)) (by simp))).trans rfl
    clear e1 k7
    simp [go_sem, c7]
  refine ⟨.tuple #[.agg #[.float .f32 0, .float .f32 0, .float .f32 0, .float .f32 0], .int .i64 4], ?_, rfl, k7.out.1⟩
  simp [results, Try.results144, asAddr, e1, e2, Sem.run_bind, Result.andThen_ok]

@[go_sem] theorem run_store_func (P : Program) (w : World) (a : Addr) (m : Mode) (fn : Fn) (x y : Array Value) : (store a (.func fn x y) m).run P w = stored P w a (.func fn x y) m := run_store P w a _ m rfl

set_option maxRecDepth 100000 in
set_option maxHeartbeats 2000000 in
theorem iRaise1_ok (n : Nat) (hn : n ≤ 1048576) (cap : Nat) (ys sa sh sv sf : Nat → Nat) (hf0 : sf 0 = 0)
    (hcall : ∀ k, k < n → ∀ u, Calls Try.prog 143 #[.agg #[.float .f32 (sa k), .float .f32 (sh k), .float .f32 (sv k), .float .f32 (sf k)], .float .f32 (ys k)] u fun e u' => e = .returned (.agg #[.float .f32 (sa (k + 1)), .float .f32 (sh (k + 1)), .float .f32 (sv (k + 1)), .float .f32 (sf (k + 1))]) ∧ Below u.heap.size u u')
    (w : World) (gs : Nat) (hy : ∀ k, k < n → w.cell? ⟨gs, k, none⟩ = some (.float .f32 (ys k))) :
    Calls Try.prog 102 #[.agg #[.float .f32 (sa 0), .float .f32 (sh 0), .float .f32 (sv 0)], .int .i64 1, .slice (some ⟨gs, 0, none⟩) n cap] w fun e w' => e = .returned (.tuple #[.agg #[.float .f32 (sa n), .float .f32 (sh n), .float .f32 (sv n), .float .f32 (sf n)], .int .i64 0]) ∧ Below w.heap.size w w' := by
  have k0 : Hid (Kept w [(w.heap.size, #[.float .f32 (sa 0), .float .f32 (sh 0), .float .f32 (sv 0)], 49), (w.heap.size + 1, #[.int .i64 1], 3), (w.heap.size + 1 + 1, #[.slice (some ⟨gs, 0, none⟩) n cap], 147), (w.heap.size + 1 + 1 + 1, #[.float .f32 0, .float .f32 0, .float .f32 0, .float .f32 0], 144), (w.heap.size + 1 + 1 + 1 + 1, #[.func (.func 142) #[] #[], .func (.func 143) #[] #[]], 182)] (((((w.alloc (.cells #[.float .f32 (sa 0), .float .f32 (sh 0), .float .f32 (sv 0)] 49)).alloc (.cells #[.int .i64 1] 3)).alloc (.cells #[.slice (some ⟨gs, 0, none⟩) n cap] 147)).alloc (.cells #[.float .f32 0, .float .f32 0, .float .f32 0, .float .f32 0] 144)).alloc (.cells #[.func (.func 142) #[] #[], .func (.func 143) #[] #[]] 182))) := hid (((((((Kept.nil w).push _ _).push _ _).push _ _).push _ _).push _ _).sub (by simp))
  have HW : Hid (Way (((((w.alloc (.cells #[.float .f32 (sa 0), .float .f32 (sh 0), .float .f32 (sv 0)] 49)).alloc (.cells #[.int .i64 1] 3)).alloc (.cells #[.slice (some ⟨gs, 0, none⟩) n cap] 147)).alloc (.cells #[.float .f32 0, .float .f32 0, .float .f32 0, .float .f32 0] 144)).alloc (.cells #[.func (.func 142) #[] #[], .func (.func 143) #[] #[]] 182)) w.heap.size (w.heap.size + 1 + 1) (w.heap.size + 1 + 1 + 1 + 1) (w.heap.size + 1) gs n cap (sa 0) (sh 0) (sv 0) ys 1 182) := hid
    { par := k0.out.at (x := (w.heap.size, #[.float .f32 (sa 0), .float .f32 (sh 0), .float .f32 (sv 0)], 49)) (by simp)
      hts := (cell_of_row _ (w.heap.size + 1 + 1) 0 _ _ _ (k0.out.at (x := (w.heap.size + 1 + 1, #[.slice (some ⟨gs, 0, none⟩) n cap], 147)) (by simp))).trans rfl
      one := fun k hk => (k0.out.1.cell (block_lt_of_cell (hy k hk))).trans (hy k hk)
      fns := k0.out.at (x := (w.heap.size + 1 + 1 + 1 + 1, #[.func (.func 142) #[] #[], .func (.func 143) #[] #[]], 182)) (by simp)
      way := (cell_of_row _ (w.heap.size + 1) 0 _ _ _ (k0.out.at (x := (w.heap.size + 1, #[.int .i64 1], 3)) (by simp))).trans rfl }
  have HC : Hid (∀ u, Below ((((((w.alloc (.cells #[.float .f32 (sa 0), .float .f32 (sh 0), .float .f32 (sv 0)] 49)).alloc (.cells #[.int .i64 1] 3)).alloc (.cells #[.slice (some ⟨gs, 0, none⟩) n cap] 147)).alloc (.cells #[.float .f32 0, .float .f32 0, .float .f32 0, .float .f32 0] 144)).alloc (.cells #[.func (.func 142) #[] #[], .func (.func 143) #[] #[]] 182))).heap.size (((((w.alloc (.cells #[.float .f32 (sa 0), .float .f32 (sh 0), .float .f32 (sv 0)] 49)).alloc (.cells #[.int .i64 1] 3)).alloc (.cells #[.slice (some ⟨gs, 0, none⟩) n cap] 147)).alloc (.cells #[.float .f32 0, .float .f32 0, .float .f32 0, .float .f32 0] 144)).alloc (.cells #[.func (.func 142) #[] #[], .func (.func 143) #[] #[]] 182)) u → Calls Try.prog 145 #[.pointer (some ⟨w.heap.size, 0, none⟩), .pointer (some ⟨w.heap.size + 1 + 1, 0, none⟩), .pointer (some ⟨w.heap.size + 1 + 1 + 1 + 1, 0, none⟩), .pointer (some ⟨w.heap.size + 1, 0, none⟩)] u fun e u' => e = .returned (.agg #[.float .f32 (sa n), .float .f32 (sh n), .float .f32 (sv n), .float .f32 (sf n)]) ∧ Below u.heap.size u u') := hid fun u hu => iWay1_ok n hn cap ys sa sh sv sf hf0 hcall u _ _ _ _ _ _ (HW.out.stay hu)
  have hmf : ∀ (fn : Fn) (first cap : Array Value) (w : World), (Instr.makeFunc fn first cap).run Try.prog w = .ok (.func fn first cap) w := fun _ _ _ _ => rfl
  clear hcall hy hf0 hn HW
  go_enter Try.func102, Try.ntmps102
  go_wp2_with fail
  refine (iAttempt_ok 145 #[.pointer (some ⟨w.heap.size, 0, none⟩), .pointer (some ⟨w.heap.size + 1 + 1, 0, none⟩), .pointer (some ⟨w.heap.size + 1 + 1 + 1 + 1, 0, none⟩), .pointer (some ⟨w.heap.size + 1, 0, none⟩)] (sa n) (sh n) (sv n) (sf n) _ HC.out (fun w => by simp [go_sem])).mono ?_
  rintro e w1 ⟨rfl, hb1⟩
  have k1 := hid ((k0.out.stay hb1).sub (l' := [(w.heap.size + 1 + 1 + 1, #[.float .f32 0, .float .f32 0, .float .f32 0, .float .f32 0], 144), (w.heap.size + 1 + 1 + 1 + 1, #[.func (.func 142) #[] #[], .func (.func 143) #[] #[]], 182)]) (by simp))
  have hlt : w.heap.size ≤ w.heap.size + 1 + 1 + 1 := by omega
  clear k0 hb1
  go_wp2_with (refine store_kept (w0 := w) (l := [(w.heap.size + 1 + 1 + 1 + 1, #[.func (.func 142) #[] #[], .func (.func 143) #[] #[]], 182)]) rfl 144 _ _ rfl (w.heap.size + 1 + 1 + 1) (#[.float .f32 (sa n), .float .f32 (sh n), .float .f32 (sv n), .float .f32 (sf n)]) rfl rfl 144 (#[.float .f32 0, .float .f32 0, .float .f32 0, .float .f32 0]) (k1.out) hlt (by simp) info_ris rfl (by simp [Value.oneCell']) (fun w6 k6 => ?_); replace k6 := hid k6)
  exact bodyPost_ret (results_row_tmp rfl _ _ (w.heap.size + 1 + 1 + 1) 144 (#[.float .f32 (sa n), .float .f32 (sh n), .float .f32 (sv n), .float .f32 (sf n)]) (0, 0) _ rfl (k6.out.at (x := (w.heap.size + 1 + 1 + 1, #[.float .f32 (sa n), .float .f32 (sh n), .float .f32 (sv n), .float .f32 (sf n)], 144)) (by simp)) Try.underlying144 rfl info_ris) rfl ⟨rfl, k6.out.1⟩

set_option maxRecDepth 100000 in
set_option maxHeartbeats 2000000 in
theorem iRaise1_f (n : Nat) (hn : n ≤ 1048576) (cap : Nat) (ys sa sh sv sf : Nat → Nat) (hf0 : sf 0 = 0) (m : Nat) (hm : m < n) (p q : Nat) (hpan : ∀ u, Calls Try.prog 143 #[.agg #[.float .f32 (sa m), .float .f32 (sh m), .float .f32 (sv m), .float .f32 (sf m)], .float .f32 (ys m)] u fun e u' => e = .panicked [{ v := .iface 214 (.agg #[.float .f32 p, .float .f32 q]), recovered := false }] ∧ Below u.heap.size u u')
    (hcall : ∀ k, k < m → ∀ u, Calls Try.prog 143 #[.agg #[.float .f32 (sa k), .float .f32 (sh k), .float .f32 (sv k), .float .f32 (sf k)], .float .f32 (ys k)] u fun e u' => e = .returned (.agg #[.float .f32 (sa (k + 1)), .float .f32 (sh (k + 1)), .float .f32 (sv (k + 1)), .float .f32 (sf (k + 1))]) ∧ Below u.heap.size u u')
    (w : World) (gs : Nat) (hy : ∀ k, k < n → w.cell? ⟨gs, k, none⟩ = some (.float .f32 (ys k))) :
    Calls Try.prog 102 #[.agg #[.float .f32 (sa 0), .float .f32 (sh 0), .float .f32 (sv 0)], .int .i64 1, .slice (some ⟨gs, 0, none⟩) n cap] w fun e w' => e = .returned (.tuple #[.agg #[.float .f32 0, .float .f32 0, .float .f32 0, .float .f32 0], .int .i64 4]) ∧ Below w.heap.size w w' := by
  have k0 : Hid (Kept w [(w.heap.size, #[.float .f32 (sa 0), .float .f32 (sh 0), .float .f32 (sv 0)], 49), (w.heap.size + 1, #[.int .i64 1], 3), (w.heap.size + 1 + 1, #[.slice (some ⟨gs, 0, none⟩) n cap], 147), (w.heap.size + 1 + 1 + 1, #[.float .f32 0, .float .f32 0, .float .f32 0, .float .f32 0], 144), (w.heap.size + 1 + 1 + 1 + 1, #[.func (.func 142) #[] #[], .func (.func 143) #[] #[]], 182)] (((((w.alloc (.cells #[.float .f32 (sa 0), .float .f32 (sh 0), .float .f32 (sv 0)] 49)).alloc (.cells #[.int .i64 1] 3)).alloc (.cells #[.slice (some ⟨gs, 0, none⟩) n cap] 147)).alloc (.cells #[.float .f32 0, .float .f32 0, .float .f32 0, .float .f32 0] 144)).alloc (.cells #[.func (.func 142) #[] #[], .func (.func 143) #[] #[]] 182))) := hid (((((((Kept.nil w).push _ _).push _ _).push _ _).push _ _).push _ _).sub (by simp))
  have HW : Hid (Way (((((w.alloc (.cells #[.float .f32 (sa 0), .float .f32 (sh 0), .float .f32 (sv 0)] 49)).alloc (.cells #[.int .i64 1] 3)).alloc (.cells #[.slice (some ⟨gs, 0, none⟩) n cap] 147)).alloc (.cells #[.float .f32 0, .float .f32 0, .float .f32 0, .float .f32 0] 144)).alloc (.cells #[.func (.func 142) #[] #[], .func (.func 143) #[] #[]] 182)) w.heap.size (w.heap.size + 1 + 1) (w.heap.size + 1 + 1 + 1 + 1) (w.heap.size + 1) gs n cap (sa 0) (sh 0) (sv 0) ys 1 182) := hid
    { par := k0.out.at (x := (w.heap.size, #[.float .f32 (sa 0), .float .f32 (sh 0), .float .f32 (sv 0)], 49)) (by simp)
      hts := (cell_of_row _ (w.heap.size + 1 + 1) 0 _ _ _ (k0.out.at (x := (w.heap.size + 1 + 1, #[.slice (some ⟨gs, 0, none⟩) n cap], 147)) (by simp))).trans rfl
      one := fun k hk => (k0.out.1.cell (block_lt_of_cell (hy k hk))).trans (hy k hk)
      fns := k0.out.at (x := (w.heap.size + 1 + 1 + 1 + 1, #[.func (.func 142) #[] #[], .func (.func 143) #[] #[]], 182)) (by simp)
      way := (cell_of_row _ (w.heap.size + 1) 0 _ _ _ (k0.out.at (x := (w.heap.size + 1, #[.int .i64 1], 3)) (by simp))).trans rfl }
  have HC : Hid (∀ u, Below ((((((w.alloc (.cells #[.float .f32 (sa 0), .float .f32 (sh 0), .float .f32 (sv 0)] 49)).alloc (.cells #[.int .i64 1] 3)).alloc (.cells #[.slice (some ⟨gs, 0, none⟩) n cap] 147)).alloc (.cells #[.float .f32 0, .float .f32 0, .float .f32 0, .float .f32 0] 144)).alloc (.cells #[.func (.func 142) #[] #[], .func (.func 143) #[] #[]] 182))).heap.size (((((w.alloc (.cells #[.float .f32 (sa 0), .float .f32 (sh 0), .float .f32 (sv 0)] 49)).alloc (.cells #[.int .i64 1] 3)).alloc (.cells #[.slice (some ⟨gs, 0, none⟩) n cap] 147)).alloc (.cells #[.float .f32 0, .float .f32 0, .float .f32 0, .float .f32 0] 144)).alloc (.cells #[.func (.func 142) #[] #[], .func (.func 143) #[] #[]] 182)) u → Calls Try.prog 145 #[.pointer (some ⟨w.heap.size, 0, none⟩), .pointer (some ⟨w.heap.size + 1 + 1, 0, none⟩), .pointer (some ⟨w.heap.size + 1 + 1 + 1 + 1, 0, none⟩), .pointer (some ⟨w.heap.size + 1, 0, none⟩)] u fun e u' => e = .panicked [{ v := .iface 214 (.agg #[.float .f32 p, .float .f32 q]), recovered := false }] ∧ Below u.heap.size u u') := hid fun u hu => iWay1_f n hn cap ys sa sh sv sf hf0 m hm [{ v := .iface 214 (.agg #[.float .f32 p, .float .f32 q]), recovered := false }] hpan hcall u _ _ _ _ _ _ (HW.out.stay hu)
  have hmf : ∀ (fn : Fn) (first cap : Array Value) (w : World), (Instr.makeFunc fn first cap).run Try.prog w = .ok (.func fn first cap) w := fun _ _ _ _ => rfl
  clear hcall hy hf0 hn HW hm hpan
  go_enter Try.func102, Try.ntmps102
  go_wp2_with fail
  refine (iAttempt_f 145 #[.pointer (some ⟨w.heap.size, 0, none⟩), .pointer (some ⟨w.heap.size + 1 + 1, 0, none⟩), .pointer (some ⟨w.heap.size + 1 + 1 + 1 + 1, 0, none⟩), .pointer (some ⟨w.heap.size + 1, 0, none⟩)] p q _ HC.out (fun w => by simp [go_sem])).mono ?_
  rintro e w1 ⟨rfl, hb1⟩
  have k1 := hid ((k0.out.stay hb1).sub (l' := [(w.heap.size + 1 + 1 + 1, #[.float .f32 0, .float .f32 0, .float .f32 0, .float .f32 0], 144), (w.heap.size + 1 + 1 + 1 + 1, #[.func (.func 142) #[] #[], .func (.func 143) #[] #[]], 182)]) (by simp))
  have hlt : w.heap.size ≤ w.heap.size + 1 + 1 + 1 := by omega
  clear k0 hb1
  go_wp2_with (refine store_kept (w0 := w) (l := [(w.heap.size + 1 + 1 + 1 + 1, #[.func (.func 142) #[] #[], .func (.func 143) #[] #[]], 182)]) rfl 144 _ _ rfl (w.heap.size + 1 + 1 + 1) (#[.float .f32 0, .float .f32 0, .float .f32 0, .float .f32 0]) rfl rfl 144 (#[.float .f32 0, .float .f32 0, .float .f32 0, .float .f32 0]) (k1.out) hlt (by simp) info_ris rfl (by simp [Value.oneCell']) (fun w6 k6 => ?_); replace k6 := hid k6)
  exact bodyPost_ret (results_row_tmp rfl _ _ (w.heap.size + 1 + 1 + 1) 144 (#[.float .f32 0, .float .f32 0, .float .f32 0, .float .f32 0]) (0, 0) _ rfl (k6.out.at (x := (w.heap.size + 1 + 1 + 1, #[.float .f32 0, .float .f32 0, .float .f32 0, .float .f32 0], 144)) (by simp)) Try.underlying144 rfl info_ris) rfl ⟨rfl, k6.out.1⟩

set_option maxRecDepth 100000 in
set_option maxHeartbeats 2000000 in
theorem sRaise_ok (a h v y : Nat) (hv : v < 4294967296) (D : RdF a h y) (hr : airB (rdW a h y) v = true) (w : World) :
    Calls Try.prog 100 #[.agg #[.float .f32 a, .float .f32 h, .float .f32 v], .float .f32 y] w fun e w' => e = .returned (.tuple #[.agg #[.float .f32 y, .float .f32 (rdW a h y), .float .f32 v], .int .i64 0]) ∧ Below w.heap.size w w' := by
  have k0 : Hid (Kept w [(w.heap.size, #[.float .f32 y, .float .f32 (rdW a h y), .float .f32 v], 49), (w.heap.size + 1, #[.float .f32 0, .float .f32 0, .float .f32 0], 49)] ((w.alloc (.cells #[.float .f32 y, .float .f32 (rdW a h y), .float .f32 v] 49)).alloc (.cells #[.float .f32 0, .float .f32 0, .float .f32 0] 49))) := hid ((((Kept.nil w).push _ _).push _ _).sub (by simp))
  have A0 : Hid (parAt ((w.alloc (.cells #[.float .f32 y, .float .f32 (rdW a h y), .float .f32 v] 49)).alloc (.cells #[.float .f32 0, .float .f32 0, .float .f32 0] 49)) w.heap.size y (rdW a h y) v 49) := hid (k0.out.at (x := (w.heap.size, #[.float .f32 y, .float .f32 (rdW a h y), .float .f32 v], 49)) (by simp))
  have HA := hid (fun u g o c0 c1 => sAirAt (rdW a h y) v hv true hr u g o c0 c1)
  have r1 := fun w => run_float_arith (P := Try.prog) w .sub 22 .f32 _ _ _ D.s1
  have r2 := fun w => run_float_arith (P := Try.prog) w .mul 22 .f32 _ _ _ D.s2
  have r3 := fun w => run_float_arith (P := Try.prog) w .sub 22 .f32 _ _ _ D.s3
  clear D hv hr
  go_enter Try.func100, Try.ntmps100
  go_wp2_with fail
  refine (HA.out _ w.heap.size 1 A0.out.c1 A0.out.c2).mono ?_
  rintro e w1 ⟨rfl, hb1⟩
  have k1 := hid (k0.out.stay hb1)
  clear A0
  have tok1 : True := trivial
  go_wp2_with (first | (refine wpList_load_row rfl 49 _ rfl (w.heap.size) rfl 49 (#[.float .f32 y, .float .f32 (rdW a h y), .float .f32 v]) (0, 0) _ (k1.out.at (x := (w.heap.size, #[.float .f32 y, .float .f32 (rdW a h y), .float .f32 v], 49)) (by simp)) Try.underlying49 rfl info_par ?_) | (have _t := tok1; (refine store_kept (w0 := w) (l := [(w.heap.size, #[.float .f32 y, .float .f32 (rdW a h y), .float .f32 v], 49)]) rfl 49 _ _ rfl (w.heap.size + 1) (#[.float .f32 y, .float .f32 (rdW a h y), .float .f32 v]) rfl rfl 49 (#[.float .f32 0, .float .f32 0, .float .f32 0]) (k1.out.swap) (by omega) (by first | (simp; done) | (simp; omega)) info_par rfl (by simp [Value.oneCell']) (fun w7 k7 => ?_); replace k7 := hid k7); clear tok1))
  exact bodyPost_ret (results_row_tmp rfl _ _ (w.heap.size + 1) 49 (#[.float .f32 y, .float .f32 (rdW a h y), .float .f32 v]) (0, 0) _ rfl (k7.out.at (x := (w.heap.size + 1, #[.float .f32 y, .float .f32 (rdW a h y), .float .f32 v], 49)) (by simp)) Try.underlying49 rfl info_par) rfl ⟨rfl, k7.out.1⟩

set_option maxRecDepth 100000 in
set_option maxHeartbeats 2000000 in
theorem sRaise_f (a h v y : Nat) (hv : v < 4294967296) (D : RdF a h y) (hr : airB (rdW a h y) v = false) (w : World) :
    Calls Try.prog 100 #[.agg #[.float .f32 a, .float .f32 h, .float .f32 v], .float .f32 y] w fun e w' => e = .returned (.tuple #[.agg #[.float .f32 0, .float .f32 0, .float .f32 0], .int .i64 4]) ∧ Below w.heap.size w w' := by
  have k0 : Hid (Kept w [(w.heap.size, #[.float .f32 y, .float .f32 (rdW a h y), .float .f32 v], 49), (w.heap.size + 1, #[.float .f32 0, .float .f32 0, .float .f32 0], 49)] ((w.alloc (.cells #[.float .f32 y, .float .f32 (rdW a h y), .float .f32 v] 49)).alloc (.cells #[.float .f32 0, .float .f32 0, .float .f32 0] 49))) := hid ((((Kept.nil w).push _ _).push _ _).sub (by simp))
  have A0 : Hid (parAt ((w.alloc (.cells #[.float .f32 y, .float .f32 (rdW a h y), .float .f32 v] 49)).alloc (.cells #[.float .f32 0, .float .f32 0, .float .f32 0] 49)) w.heap.size y (rdW a h y) v 49) := hid (k0.out.at (x := (w.heap.size, #[.float .f32 y, .float .f32 (rdW a h y), .float .f32 v], 49)) (by simp))
  have HA := hid (fun u g o c0 c1 => sAirAt (rdW a h y) v hv false hr u g o c0 c1)
  have r1 := fun w => run_float_arith (P := Try.prog) w .sub 22 .f32 _ _ _ D.s1
  have r2 := fun w => run_float_arith (P := Try.prog) w .mul 22 .f32 _ _ _ D.s2
  have r3 := fun w => run_float_arith (P := Try.prog) w .sub 22 .f32 _ _ _ D.s3
  clear D hv hr
  go_enter Try.func100, Try.ntmps100
  go_wp2_with fail
  refine (HA.out _ w.heap.size 1 A0.out.c1 A0.out.c2).mono ?_
  rintro e w1 ⟨rfl, hb1⟩
  have k1 := hid (k0.out.stay hb1)
  clear A0
  have tok1 : True := trivial
  go_wp2_with (first | (refine wpList_load_row rfl 49 _ rfl (w.heap.size) rfl 49 (#[.float .f32 y, .float .f32 (rdW a h y), .float .f32 v]) (0, 0) _ (k1.out.at (x := (w.heap.size, #[.float .f32 y, .float .f32 (rdW a h y), .float .f32 v], 49)) (by simp)) Try.underlying49 rfl info_par ?_) | (have _t := tok1; (refine store_kept (w0 := w) (l := [(w.heap.size, #[.float .f32 y, .float .f32 (rdW a h y), .float .f32 v], 49)]) rfl 49 _ _ rfl (w.heap.size + 1) (#[.float .f32 0, .float .f32 0, .float .f32 0]) rfl rfl 49 (#[.float .f32 0, .float .f32 0, .float .f32 0]) (k1.out.swap) (by omega) (by first | (simp; done) | (simp; omega)) info_par rfl (by simp [Value.oneCell']) (fun w7 k7 => ?_); replace k7 := hid k7); clear tok1))
  exact bodyPost_ret (results_row_tmp rfl _ _ (w.heap.size + 1) 49 (#[.float .f32 0, .float .f32 0, .float .f32 0]) (0, 0) _ rfl (k7.out.at (x := (w.heap.size + 1, #[.float .f32 0, .float .f32 0, .float .f32 0], 49)) (by simp)) Try.underlying49 rfl info_par) rfl ⟨rfl, k7.out.1⟩

theorem iDemand0 (w : World) : Calls Try.prog 158 #[.int .i64 0] w fun e w' => e = .returned (.tuple #[]) ∧ w = w' := by
  go_enter Try.func158, Try.ntmps158
  go_wp2
  go_end0
  exact ⟨rfl, rfl⟩

set_option maxRecDepth 100000 in
set_option maxHeartbeats 2000000 in
theorem iMoist_f (a h v f y : Nat) (D : RdF a h y) (hv : v < 4294967296) (hq : airB (rdW a h y) v = false) (w : World) :
    Calls Try.prog 143 #[.agg #[.float .f32 a, .float .f32 h, .float .f32 v, .float .f32 f], .float .f32 y] w fun e w' => e = .panicked [{ v := .iface 214 (.agg #[.float .f32 (rdW a h y), .float .f32 v]), recovered := false }] ∧ Below w.heap.size w w' := by
  have k0 : Hid (Kept w [(w.heap.size, #[.float .f32 a, .float .f32 h, .float .f32 v, .float .f32 f], 144), (w.heap.size + 1, #[.float .f32 0, .float .f32 0, .float .f32 0, .float .f32 0], 144)] ((w.alloc (.cells #[.float .f32 a, .float .f32 h, .float .f32 v, .float .f32 f] 144)).alloc (.cells #[.float .f32 0, .float .f32 0, .float .f32 0, .float .f32 0] 144))) := hid ((((Kept.nil w).push _ _).push _ _).sub (by simp))
  have HDr := hid (fun u => iDry_f a h v f y D hv hq u)
  clear D hv hq
  go_enter Try.func143, Try.ntmps143
  go_wp2_with fail
  refine (HDr.out _).mono ?_
  rintro e w1 ⟨rfl, hb1⟩
  exact ⟨rfl, rfl, (k0.out.stay hb1).1⟩

set_option maxRecDepth 100000 in
set_option maxHeartbeats 2000000 in
theorem iMoist_t (a h v f y : Nat) (D : RdF a h y) (hv : v < 4294967296) (hq : airB (rdW a h y) v = true) (H V G f1 : Nat) (hs : sett 30 (rdW a h y) v 0 = (H, V, G)) (hadd : S.add f G = some f1) (w : World) :
    Calls Try.prog 143 #[.agg #[.float .f32 a, .float .f32 h, .float .f32 v, .float .f32 f], .float .f32 y] w fun e w' => e = .returned (.agg #[.float .f32 y, .float .f32 H, .float .f32 V, .float .f32 f1]) ∧ Below w.heap.size w w' := by
  have k0 : Hid (Kept w [(w.heap.size, #[.float .f32 a, .float .f32 h, .float .f32 v, .float .f32 f], 144), (w.heap.size + 1, #[.float .f32 0, .float .f32 0, .float .f32 0, .float .f32 0], 144)] ((w.alloc (.cells #[.float .f32 a, .float .f32 h, .float .f32 v, .float .f32 f] 144)).alloc (.cells #[.float .f32 0, .float .f32 0, .float .f32 0, .float .f32 0] 144))) := hid ((((Kept.nil w).push _ _).push _ _).sub (by simp))
  have HDr := hid (fun u => iDry_t a h v f y D hv hq u)
  have HSt := hid (fun u => iSettle_ok (rdW a h y) v D.lt hq H V G hs u)
  have r1 := hid (fun w => run_float_arith (P := Try.prog) w .add 22 .f32 _ _ _ hadd)
  clear D hv hq hs hadd
  go_enter Try.func143, Try.ntmps143
  go_wp2_with fail
  refine (HDr.out _).mono ?_
  rintro e w1 ⟨rfl, hb1⟩
  have k1 := hid (k0.out.stay hb1)
  clear k0 hb1
  go_wp2_with (first | (have _t := k2; refine wpList_load_cut (by rfl) 47 _ rfl (w.heap.size) 1 rfl #[.float .f32 y, .float .f32 (rdW a h y), .float .f32 v, .float .f32 f] 144 (k2.out.at (x := (w.heap.size, #[.float .f32 y, .float .f32 (rdW a h y), .float .f32 v, .float .f32 f], 144)) (by simp)) [.float .f32 (rdW a h y), .float .f32 v] rfl _ Try.underlying47 rfl info_air ?_) | (refine store_kept (w0 := w) (l := [(w.heap.size + 1, #[.float .f32 0, .float .f32 0, .float .f32 0, .float .f32 0], 144)]) rfl 144 _ _ rfl (w.heap.size) (#[.float .f32 y, .float .f32 (rdW a h y), .float .f32 v, .float .f32 f]) rfl rfl 144 (#[.float .f32 a, .float .f32 h, .float .f32 v, .float .f32 f]) (k1.out) (Nat.le_refl _) (by first | (simp; done) | (simp; omega)) info_ris rfl (by simp [Value.oneCell']) (fun w2 k2 => ?_); replace k2 := hid k2))
  refine (HSt.out _).mono ?_
  rintro e w3 ⟨rfl, hb3⟩
  have k3 := hid (k2.out.stay hb3)
  have hlt := k3.out.lt (x := (w.heap.size + 1, #[.float .f32 0, .float .f32 0, .float .f32 0, .float .f32 0], 144)) (by simp)
  have hge : w.heap.size ≤ w3.heap.size := by simp at hlt; omega
  have hn1 : w3.heap.size ≠ w.heap.size := by simp at hlt; omega
  have hn2 : w3.heap.size ≠ w.heap.size + 1 := by simp at hlt; omega
  have k4 : Hid (Kept w [(w3.heap.size, #[.float .f32 H, .float .f32 V], 47), (w.heap.size, #[.float .f32 y, .float .f32 (rdW a h y), .float .f32 v, .float .f32 f], 144), (w.heap.size + 1, #[.float .f32 0, .float .f32 0, .float .f32 0, .float .f32 0], 144)] (w3.alloc (.cells #[.float .f32 H, .float .f32 V] 47))) := hid (k3.out.push _ _)
  clear k1 k2 k3 hb3
  go_wp2_with fail
  refine (iDemand0 _).mono ?_
  rintro e w4 ⟨rfl, rfl⟩
  generalize World.alloc w3 (.cells #[.float .f32 H, .float .f32 V] 47) = w4 at k4 ⊢
  go_wp2_with (first | (have _t := k7; fail) | (have _t := k6; first | (refine wpList_load_row rfl 144 _ rfl (w.heap.size) rfl 144 (#[.float .f32 y, .float .f32 H, .float .f32 V, .float .f32 f1]) (0, 0) _ (k6.out.at (x := (w.heap.size, #[.float .f32 y, .float .f32 H, .float .f32 V, .float .f32 f1], 144)) (by simp)) Try.underlying144 rfl info_ris ?_) | (refine store_kept (w0 := w) (l := [(w.heap.size, #[.float .f32 y, .float .f32 H, .float .f32 V, .float .f32 f1], 144), (w3.heap.size, #[.float .f32 H, .float .f32 V], 47)]) rfl 144 _ _ rfl (w.heap.size + 1) (#[.float .f32 y, .float .f32 H, .float .f32 V, .float .f32 f1]) rfl rfl 144 (#[.float .f32 0, .float .f32 0, .float .f32 0, .float .f32 0]) (k6.out.swap) (by omega) (by simpa using hn2) info_ris rfl (by simp [Value.oneCell']) (fun w7 k7 => ?_); replace k7 := hid k7)) | (refine wpList_load_row rfl 47 _ rfl (w3.heap.size) rfl 47 (#[.float .f32 H, .float .f32 V]) (0, 0) _ (k4.out.at (x := (w3.heap.size, #[.float .f32 H, .float .f32 V], 47)) (by simp)) Try.underlying47 rfl info_air ?_) | (refine store_part (w0 := w) (l := [(w.heap.size + 1, #[.float .f32 0, .float .f32 0, .float .f32 0, .float .f32 0], 144), (w3.heap.size, #[.float .f32 H, .float .f32 V], 47)]) rfl 47 _ _ rfl (w.heap.size) 1 rfl #[.float .f32 H, .float .f32 V] rfl #[.float .f32 y, .float .f32 (rdW a h y), .float .f32 v, .float .f32 f] #[.float .f32 y, .float .f32 H, .float .f32 V, .float .f32 f] 144 (k4.out.sub (by intro x hx; simp only [List.mem_cons, List.not_mem_nil, or_false] at hx ⊢; rcases hx with rfl | rfl | rfl <;> simp)) (Nat.le_refl _) (by simpa using hn1) (by simp) info_air (by simp [Value.oneCell']) rfl (fun w5 k5 => ?_); have c3 : World.cell? w5 ⟨w.heap.size, 3, none⟩ = some (.float .f32 f) := (cell_of_row w5 (w.heap.size) 3 _ _ _ (k5.at (x := (w.heap.size, #[.float .f32 y, .float .f32 H, .float .f32 V, .float .f32 f], 144)) (by simp))).trans rfl; have z3 : World.frozen? w5 ⟨w.heap.size, 3, none⟩ = false := frozen_of_row w5 (w.heap.size) 3 _ _ (k5.at (x := (w.heap.size, #[.float .f32 y, .float .f32 H, .float .f32 V, .float .f32 f], 144)) (by simp)); have r2 := r1.out; have k6 : Hid (Kept w [(w.heap.size, #[.float .f32 y, .float .f32 H, .float .f32 V, .float .f32 f1], 144), (w.heap.size + 1, #[.float .f32 0, .float .f32 0, .float .f32 0, .float .f32 0], 144), (w3.heap.size, #[.float .f32 H, .float .f32 V], 47)] (w5.setCell ⟨w.heap.size, 3, none⟩ (.float .f32 f1))) := hid (k5.lcell (Nat.le_refl _) (by simpa using hn1) 3 (.float .f32 f1)); clear k5 k4))
  exact bodyPost_ret (results_cell_row rfl _ _ (w.heap.size + 1) 144 (#[.float .f32 y, .float .f32 H, .float .f32 V, .float .f32 f1]) (0, 0) _ rfl (k7.out.at (x := (w.heap.size + 1, #[.float .f32 y, .float .f32 H, .float .f32 V, .float .f32 f1], 144)) (by simp)) Try.underlying144 rfl info_ris) rfl ⟨rfl, k7.out.1⟩

theorem infoz_f32 : (Try.prog.info? 22).map (fun i => (i.zero, i.size, i.bytes)) = some (some (.float .f32 0), 1, 4) := by kernel_rfl

theorem info_f1 : (Try.prog.info? 22).map (·.size) = some 1 := by kernel_rfl

set_option maxRecDepth 100000 in
set_option maxHeartbeats 2000000 in
theorem iHeights (a z p : Nat) (ha : Hgt a) (hz : Hgt z) (h1 : 1 ≤ p) (hp : p ≤ 100) (w : World) :
    Calls Try.prog 104 #[.float .f32 a, .float .f32 z, .int .i64 (p : Int)] w fun e w' => e = .returned (.slice (some ⟨w.heap.size, 0, none⟩) p p) ∧ w'.heap[w.heap.size]? = some (.cells (vls p (flw (upTo (stepW a z p) p))) 22 (0, 0)) ∧ Below w.heap.size w w' := by
  have r1 := fun w => run_float_arith (P := Try.prog) w .sub 22 .f32 _ _ _ (step_facts ha hz hp (k := 0) (by omega)).s1
  have HS := hid (fun k (hk : k < p) => step_facts ha hz hp hk)
  have HP := hid hp
  have hmk := fun w => run_make1 (P := Try.prog) (t := 147) (e := 22) Try.underlying147 infoz_f32 (n := p) (by omega) w
  have k0 : Hid (Kept w [(w.heap.size, vls p (flw (upTo (stepW a z p) 0)), 22)] (w.alloc (.cells (vls p (flw fun _ => 0)) 22))) := hid (by rw [upTo_zero]; exact (Kept.nil w).push _ _)
  have hneg : ¬ ((p : Int) < 0) := by omega
  clear ha hz hp h1
  go_enter Try.func104, Try.ntmps104
  go_wp2_with fail
  clear r1 hmk
  go_loopw [18] (fun i wr => ∃ k : Nat, k ≤ p ∧ i = .int .i64 k ∧ Hid (Kept w [(w.heap.size, vls p (flw (upTo (stepW a z p) k)), 22)] wr)) (fun i _ => p - (intOf i).toNat)
  case atStart => exact ⟨0, by omega, rfl, k0⟩
  case round =>
    obtain ⟨k, hk, rfl, hK⟩ := hrel
    clear k0
    by_cases hlt : k < p
    · have hk3 : (k : Int) < (p : Int) := by omega
      have HK := hid hlt
      have D := HS.out k hlt
      have r2 := fun w => run_float_arith (P := Try.prog) w .quo 22 .f32 _ _ _ D.s2
      have r3 := fun w => run_float_arith (P := Try.prog) w .mul 22 .f32 _ _ _ D.s3
      have r4 := fun w => run_float_arith (P := Try.prog) w .add 22 .f32 _ _ _ D.s4
      have cv1 : ∀ w, (convert 3 22 (.int .i64 ((k : Int) + 1))).run Try.prog w = .ok (.float .f32 (fiW ((k : Int) + 1))) w := fun w => rfl
      have cv2 : ∀ w, (convert 2 22 (.int .i64 (p : Int))).run Try.prog w = .ok (.float .f32 (fiW (p : Int))) w := fun w => rfl
      have ix : ∀ v, (Instr.indexAt 147 (.slice (some ⟨w.heap.size, 0, none⟩) p p) (.int .i64 (k : Int))).run Try.prog v = .ok (.pointer (some ⟨w.heap.size, k, none⟩)) v := fun v => by
        have := run_indexAt (P := Try.prog) (t := 147) (e := 22) (m := 1) Try.underlying147 info_f1 (b := w.heap.size) (o := 0) (n := p) (cap := p) (k := k) hlt v
        simpa using this
      have V : vAt wr w.heap.size p (flw (upTo (stepW a z p) k)) 22 := hK.out.at (x := (w.heap.size, vls p (flw (upTo (stepW a z p) k)), 22)) (by simp)
      have c1 : wr.cell? ⟨w.heap.size, k, none⟩ = some (.float .f32 (upTo (stepW a z p) k k)) := V.fcell hlt
      have z1 : wr.frozen? ⟨w.heap.size, k, none⟩ = false := V.frozen k
      have K1 : Hid (Kept w [(w.heap.size, vls p (flw (upTo (stepW a z p) (k + 1))), 22)] (wr.setCell ⟨w.heap.size, k, none⟩ (.float .f32 (stepW a z p k)))) := hid (by rw [← upTo_step]; exact hK.out.fcell (Nat.le_refl _) (by simp) k _)
      have hp9 := HP.out
      clear V D hK HS
      go_wp2_with fail
      go_roundw
      case rel => exact ⟨k + 1, by omega, by go_num, K1⟩
      case measure => simp [intOf]; omega
    · obtain rfl : k = p := by omega
      go_wp2
      go_ret
      exact ⟨rfl, hK.out.at (x := (w.heap.size, vls k (flw (upTo (stepW a z k) k)), 22)) (by simp), hK.out.1⟩

/-- A parcel on its way: its height, heat, vapour, and what has fallen out. -/
structure Mo where
  a : Nat
  h : Nat
  v : Nat
  f : Nat

def moSt (a z p h v : Nat) : Nat → Mo
  | 0 => ⟨a, h, v, 0⟩
  | k + 1 =>
    let s := moSt a z p h v k
    let r := rdW s.a s.h (stepW a z p k)
    ⟨stepW a z p k, setH r s.v, setV r s.v, fadd s.f (setG r s.v)⟩

def moR (a z p h v k : Nat) : Nat := rdW (moSt a z p h v k).a (moSt a z p h v k).h (stepW a z p k)

def moB (a z p h v k : Nat) : Bool := airB (moR a z p h v k) (moSt a z p h v k).v

structure MoF (s : Mo) : Prop where
  fa : FW s.a
  hw : s.h < 4294967296
  air : airB s.h s.v = true
  fn : nnB s.f = true

theorem MoF.vw {s : Mo} (m : MoF s) : s.v < 4294967296 := amt_lt (airB_iff.1 m.air).2.1

theorem MoF.fh {s : Mo} (m : MoF s) : FW s.h := fw_of m.hw (heat_fin m.hw (airB_iff.1 m.air).1)

theorem mo_rd {a z p h v k : Nat} (ha : Hgt a) (hz : Hgt z) (hp : p ≤ 100) (hk : k < p) (m : MoF (moSt a z p h v k)) : RdF (moSt a z p h v k).a (moSt a z p h v k).h (stepW a z p k) :=
  rd_facts m.fa m.fh (step_facts ha hz hp hk).fy

theorem mo_next {a z p h v k : Nat} (ha : Hgt a) (hz : Hgt z) (hp : p ≤ 100) (hk : k < p) (m : MoF (moSt a z p h v k)) (hb : moB a z p h v k = true) :
    MoF (moSt a z p h v (k + 1)) ∧ S.add (moSt a z p h v k).f (setG (moR a z p h v k) (moSt a z p h v k).v) = some (moSt a z p h v (k + 1)).f := by
  have D := mo_rd ha hz hp hk m
  obtain ⟨s1, s2, s3⟩ := set_ok D.lt hb
  have e := add_eq m.fn (amt_nn s3)
  exact ⟨⟨(step_facts ha hz hp hk).fy, s2, s1, e.2⟩, e.1⟩

theorem mo_facts {a z p h v : Nat} (ha : Hgt a) (hz : Hgt z) (hp : p ≤ 100) (hx : h < 4294967296) (hq : airB h v = true) : ∀ k, k ≤ p → (∀ j, j < k → moB a z p h v j = true) → MoF (moSt a z p h v k)
  | 0, _, _ => ⟨fw_amt (amtB_iff.2 (hgt_inf ha)), hx, hq, (by decide : nnB 0 = true)⟩
  | k + 1, hk, hj => (mo_next ha hz hp (by omega) (mo_facts ha hz hp hx hq k (by omega) (fun j h => hj j (by omega))) (hj k (by omega))).1

theorem mo_sett {a z p h v k : Nat} : sett 30 (moR a z p h v k) (moSt a z p h v k).v 0 = ((moSt a z p h v (k + 1)).h, (moSt a z p h v (k + 1)).v, setG (moR a z p h v k) (moSt a z p h v k).v) := rfl

/-- The program's step. -/
theorem iMoStep {a z p h v k : Nat} (ha : Hgt a) (hz : Hgt z) (hp : p ≤ 100) (hk : k < p) (m : MoF (moSt a z p h v k)) (hb : moB a z p h v k = true) (w : World) :
    Calls Try.prog 143 #[.agg #[.float .f32 (moSt a z p h v k).a, .float .f32 (moSt a z p h v k).h, .float .f32 (moSt a z p h v k).v, .float .f32 (moSt a z p h v k).f], .float .f32 (stepW a z p k)] w fun e w' => e = .returned (.agg #[.float .f32 (moSt a z p h v (k + 1)).a, .float .f32 (moSt a z p h v (k + 1)).h, .float .f32 (moSt a z p h v (k + 1)).v, .float .f32 (moSt a z p h v (k + 1)).f]) ∧ Below w.heap.size w w' :=
  iMoist_t _ _ _ _ _ (mo_rd ha hz hp hk m) m.vw hb _ _ _ _ mo_sett (mo_next ha hz hp hk m hb).2 w

theorem iMoStop {a z p h v k : Nat} (ha : Hgt a) (hz : Hgt z) (hp : p ≤ 100) (hk : k < p) (m : MoF (moSt a z p h v k)) (hb : moB a z p h v k = false) (w : World) :
    Calls Try.prog 143 #[.agg #[.float .f32 (moSt a z p h v k).a, .float .f32 (moSt a z p h v k).h, .float .f32 (moSt a z p h v k).v, .float .f32 (moSt a z p h v k).f], .float .f32 (stepW a z p k)] w fun e w' => e = .panicked [{ v := .iface 214 (.agg #[.float .f32 (moR a z p h v k), .float .f32 (moSt a z p h v k).v]), recovered := false }] ∧ Below w.heap.size w w' :=
  iMoist_f _ _ _ _ _ (mo_rd ha hz hp hk m) m.vw hb w

theorem run_load_cut {P : Program} {a : Act} {w : World} {d : Option Tmp} {ty0 : TypeId} {ps : String} {af : Array Edge} {gd : Option (Nat × Bool)} (ty : TypeId) (x : Operand) (g o : Nat) (hx : a.eval x = .pointer (some ⟨g, o, none⟩)) (cs : Array Value) (T : TypeId) (k : w.heap[g]? = some (.cells cs T (0, 0)))
    (part : List Value) (hp : part = (cs.toList.drop o).take part.length) (dd : TypeDesc) (hu : P.underlying ty = some dd) (hd : dd.isRow = true) (hi : (P.info? ty).map (·.size) = some part.length) : (execOp a.eval ⟨d, .load ty x, ty0, ps, af, gd⟩).run P w = .ok (.value (.agg part.toArray)) w := by
  unfold execOp
  simp only [hx, Instr.loadAt, Instr.sureAddr, Sem.run_bind, Sem.run_pure, Result.andThen_ok, run_loadVar_mid w g o ty part dd (range_part k o part hp) hu hd hi]

set_option maxRecDepth 100000 in
set_option maxHeartbeats 4000000 in
theorem iRaiseMoist_bad (a h v z : Nat) (q : Int) (ha : a < 4294967296) (hv : v < 4294967296) (hp : parB a h v = false) (w : World) :
    Calls Try.prog 51 #[.agg #[.float .f32 a, .float .f32 h, .float .f32 v], .float .f32 z, .int .i64 q] w fun e w' => e = .returned (.tuple #[.agg #[.float .f32 0, .float .f32 0, .float .f32 0], .float .f32 0, .int .i64 1]) ∧ Below w.heap.size w w' := by
  have k0 : Hid (Kept w [(w.heap.size, #[.float .f32 a, .float .f32 h, .float .f32 v], 49), (w.heap.size + 1, #[.float .f32 0, .float .f32 0, .float .f32 0], 49)] ((w.alloc (.cells #[.float .f32 a, .float .f32 h, .float .f32 v] 49)).alloc (.cells #[.float .f32 0, .float .f32 0, .float .f32 0] 49))) := hid ((((Kept.nil w).push _ _).push _ _).sub (by simp))
  have HP := hid (fun u => iValidParcel a h v ha hv false hp u)
  clear ha hv hp
  go_enter Try.func51, Try.ntmps51
  go_wp2_with fail
  refine (HP.out _).mono ?_
  rintro e w1 ⟨rfl, hb1⟩
  have k1 := hid (k0.out.stay hb1)
  go_wp2_with (refine store_kept (w0 := w) (l := [(w.heap.size, #[.float .f32 a, .float .f32 h, .float .f32 v], 49)]) rfl 49 _ _ rfl (w.heap.size + 1) (#[.float .f32 0, .float .f32 0, .float .f32 0]) rfl rfl 49 (#[.float .f32 0, .float .f32 0, .float .f32 0]) (k1.out.swap) (by omega) (by first | (simp; done) | (simp; omega)) info_par rfl (by simp [Value.oneCell']) (fun w7 k7 => ?_); replace k7 := hid k7)
  exact bodyPost_ret (results_row_tmp2 rfl _ _ (w.heap.size + 1) 49 (#[.float .f32 0, .float .f32 0, .float .f32 0]) (0, 0) _ rfl (k7.out.at (x := (w.heap.size + 1, #[.float .f32 0, .float .f32 0, .float .f32 0], 49)) (by simp)) Try.underlying49 rfl info_par) rfl ⟨rfl, k7.out.1⟩

set_option maxRecDepth 100000 in
set_option maxHeartbeats 4000000 in
theorem iRaiseMoist_range (a h v z : Nat) (q : Int) (ha : a < 4294967296) (hv : v < 4294967296) (hz : z < 4294967296) (hp : parB a h v = true) (hr : hgtB z = false ∨ q < 1 ∨ 100 < q) (w : World) :
    Calls Try.prog 51 #[.agg #[.float .f32 a, .float .f32 h, .float .f32 v], .float .f32 z, .int .i64 q] w fun e w' => e = .returned (.tuple #[.agg #[.float .f32 0, .float .f32 0, .float .f32 0], .float .f32 0, .int .i64 2]) ∧ Below w.heap.size w w' := by
  have k0 : Hid (Kept w [(w.heap.size, #[.float .f32 a, .float .f32 h, .float .f32 v], 49), (w.heap.size + 1, #[.float .f32 0, .float .f32 0, .float .f32 0], 49)] ((w.alloc (.cells #[.float .f32 a, .float .f32 h, .float .f32 v] 49)).alloc (.cells #[.float .f32 0, .float .f32 0, .float .f32 0] 49))) := hid ((((Kept.nil w).push _ _).push _ _).sub (by simp))
  have HP := hid (fun u => iValidParcel a h v ha hv true hp u)
  have HH := hid (fun b hb u => iHgt z hz b hb u)
  clear ha hv hp hz
  rcases hb : hgtB z with _ | _
  · clear hr
    go_enter Try.func51, Try.ntmps51
    go_wp2_with fail
    refine (HP.out _).mono ?_
    rintro e w1 ⟨rfl, hb1⟩
    have k1 := hid (k0.out.stay hb1)
    go_wp2_with fail
    refine (HH.out _ hb _).mono ?_
    rintro e w2 ⟨rfl, hb2⟩
    have k2 := hid (k1.out.stay hb2)
    clear k0 k1
    go_wp2_with (refine store_kept (w0 := w) (l := [(w.heap.size, #[.float .f32 a, .float .f32 h, .float .f32 v], 49)]) rfl 49 _ _ rfl (w.heap.size + 1) (#[.float .f32 0, .float .f32 0, .float .f32 0]) rfl rfl 49 (#[.float .f32 0, .float .f32 0, .float .f32 0]) (k2.out.swap) (by omega) (by first | (simp; done) | (simp; omega)) info_par rfl (by simp [Value.oneCell']) (fun w7 k7 => ?_); replace k7 := hid k7)
    exact bodyPost_ret (results_row_tmp2 rfl _ _ (w.heap.size + 1) 49 (#[.float .f32 0, .float .f32 0, .float .f32 0]) (0, 0) _ rfl (k7.out.at (x := (w.heap.size + 1, #[.float .f32 0, .float .f32 0, .float .f32 0], 49)) (by simp)) Try.underlying49 rfl info_par) rfl ⟨rfl, k7.out.1⟩
  · have hr' : q < 1 ∨ ¬ (q < 1) ∧ 100 < q := by
      rcases hr with h | h | h
      · rw [hb] at h; cases h
      · exact .inl h
      · exact .inr ⟨by omega, h⟩
    clear hr
    rcases hr' with hq | ⟨hq, hq2⟩
    all_goals
      go_enter Try.func51, Try.ntmps51
      go_wp2_with fail
      refine (HP.out _).mono ?_
      rintro e w1 ⟨rfl, hb1⟩
      have k1 := hid (k0.out.stay hb1)
      go_wp2_with fail
      refine (HH.out _ hb _).mono ?_
      rintro e w2 ⟨rfl, hb2⟩
      have k2 := hid (k1.out.stay hb2)
      clear k0 k1
      go_wp2_with (refine store_kept (w0 := w) (l := [(w.heap.size, #[.float .f32 a, .float .f32 h, .float .f32 v], 49)]) rfl 49 _ _ rfl (w.heap.size + 1) (#[.float .f32 0, .float .f32 0, .float .f32 0]) rfl rfl 49 (#[.float .f32 0, .float .f32 0, .float .f32 0]) (k2.out.swap) (by omega) (by first | (simp; done) | (simp; omega)) info_par rfl (by simp [Value.oneCell']) (fun w7 k7 => ?_); replace k7 := hid k7)
      exact bodyPost_ret (results_row_tmp2 rfl _ _ (w.heap.size + 1) 49 (#[.float .f32 0, .float .f32 0, .float .f32 0]) (0, 0) _ rfl (k7.out.at (x := (w.heap.size + 1, #[.float .f32 0, .float .f32 0, .float .f32 0], 49)) (by simp)) Try.underlying49 rfl info_par) rfl ⟨rfl, k7.out.1⟩

set_option maxRecDepth 100000 in
set_option maxHeartbeats 4000000 in
theorem iRaiseMoist_ok (a h v z n : Nat) (hx : h < 4294967296) (hv : v < 4294967296) (hp : parB a h v = true) (hq : hgtB z = true) (h1 : 1 ≤ n) (hn : n ≤ 100) (hall : ∀ j, j < n → moB a z n h v j = true) (w : World) :
    Calls Try.prog 51 #[.agg #[.float .f32 a, .float .f32 h, .float .f32 v], .float .f32 z, .int .i64 (n : Int)] w fun e w' => e = .returned (.tuple #[.agg #[.float .f32 z, .float .f32 (moSt a z n h v n).h, .float .f32 (moSt a z n h v n).v], .float .f32 (moSt a z n h v n).f, .int .i64 0]) ∧ Below w.heap.size w w' := by
  have k0 : Hid (Kept w [(w.heap.size, #[.float .f32 a, .float .f32 h, .float .f32 v], 49), (w.heap.size + 1, #[.float .f32 0, .float .f32 0, .float .f32 0], 49)] ((w.alloc (.cells #[.float .f32 a, .float .f32 h, .float .f32 v] 49)).alloc (.cells #[.float .f32 0, .float .f32 0, .float .f32 0] 49))) := hid ((((Kept.nil w).push _ _).push _ _).sub (by simp))
  have Ha : Hgt a := hgt_iff.1 (parB_iff.1 hp).1
  have Hz : Hgt z := hgt_iff.1 hq
  have hA := (parB_iff.1 hp).2
  have HP := hid (fun u => iValidParcel a h v (fw_amt (amtB_iff.2 (hgt_inf Ha))).1 hv true hp u)
  have HH := hid (fun u => iHgt z (fw_amt (amtB_iff.2 (hgt_inf Hz))).1 true hq u)
  have HHB := hid (fun u => iHeights a z n Ha Hz h1 hn u)
  have HR : Hid (∀ (u : World) (gs : Nat), (∀ k, k < n → u.cell? ⟨gs, k, none⟩ = some (.float .f32 (stepW a z n k))) → Calls Try.prog 102 #[.agg #[.float .f32 a, .float .f32 h, .float .f32 v], .int .i64 1, .slice (some ⟨gs, 0, none⟩) n n] u fun e u' => e = .returned (.tuple #[.agg #[.float .f32 (moSt a z n h v n).a, .float .f32 (moSt a z n h v n).h, .float .f32 (moSt a z n h v n).v, .float .f32 (moSt a z n h v n).f], .int .i64 0]) ∧ Below u.heap.size u u') := hid fun u gs hc => iRaise1_ok n (by omega) n (stepW a z n) (fun k => (moSt a z n h v k).a) (fun k => (moSt a z n h v k).h) (fun k => (moSt a z n h v k).v) (fun k => (moSt a z n h v k).f) rfl (fun k hk u => iMoStep Ha Hz hn hk (mo_facts Ha Hz hn hx hA k (by omega) (fun j hj => hall j (by omega))) (hall k hk) u) u gs hc
  have d1 : ¬ ((n : Int) < 1) := by omega
  have d2 : ¬ (100 < (n : Int)) := by omega
  clear hx hv hp hq h1 hn hall hA Ha Hz
  go_enter Try.func51, Try.ntmps51
  go_wp2_with fail
  refine (HP.out _).mono ?_
  rintro e w1 ⟨rfl, hb1⟩
  have k1 := hid (k0.out.stay hb1)
  go_wp2_with fail
  refine (HH.out _).mono ?_
  rintro e w2 ⟨rfl, hb2⟩
  have k2 := hid (k1.out.stay hb2)
  clear k0 k1
  go_wp2_with fail
  refine region_kept (w0 := w) (l := [(w.heap.size, #[.float .f32 a, .float .f32 h, .float .f32 v], 49), (w.heap.size + 1, #[.float .f32 0, .float .f32 0, .float .f32 0], 49)]) 13 #[false, false, false, false, false, false, false, false, false, false, false, false, false] (by kernel_rfl) rfl rfl ?_
  have kd := k2.out.drew
  clear k2 hb1 hb2
  generalize World.drew _ = wd at kd ⊢
  refine take_load 0 _ _ rfl (by rfl) (by kernel_rfl) (by kernel_rfl) (by kernel_rfl) 49 _ rfl (w.heap.size) (#[.float .f32 a, .float .f32 h, .float .f32 v]) 49 rfl (by simp) _ Try.underlying49 rfl (info_par) rfl rfl kd ?_
  simp only [Act.put, List.setIfInBounds_toArray, List.set_cons_zero, List.set_cons_succ]
  refine take_val 1 _ _ (.pointer (some ⟨w.heap.size, 0, none⟩)) rfl (by rfl) (by kernel_rfl) (by kernel_rfl) (by kernel_rfl) (fun w => by unfold execOp; go_simp) rfl rfl kd ?_
  simp only [Act.put, List.setIfInBounds_toArray, List.set_cons_zero, List.set_cons_succ]
  refine take_cell 2 _ _ (.float .f32 a) rfl (by rfl) (by kernel_rfl) (by kernel_rfl) (by kernel_rfl) (fun wq hS => by have hcell : wq.cell? ⟨w.heap.size, 0, none⟩ = some (.float .f32 a) := (cell_of_row wq (w.heap.size) 0 _ _ _ (hS.at (x := (w.heap.size, #[.float .f32 a, .float .f32 h, .float .f32 v], 49)) (by simp))).trans rfl; clear hS; unfold execOp; go_simp) rfl rfl kd ?_
  simp only [Act.put, List.setIfInBounds_toArray, List.set_cons_zero, List.set_cons_succ]
  refine take_val 3 _ _ (.float .f32 z) rfl (by rfl) (by kernel_rfl) (by kernel_rfl) (by kernel_rfl) (fun w => by rfl) rfl rfl kd ?_
  simp only [Act.put, List.setIfInBounds_toArray, List.set_cons_zero, List.set_cons_succ]
  refine take_val 4 _ _ (.int .i64 (n : Int)) rfl (by rfl) (by kernel_rfl) (by kernel_rfl) (by kernel_rfl) (fun w => by rfl) rfl rfl kd ?_
  simp only [Act.put, List.setIfInBounds_toArray, List.set_cons_zero, List.set_cons_succ]
  refine wpAnyH_ready (rs := [5, 10]) (by kernel_rfl) (by simp) ?_
  refine callKQ 5 _ (fun y u => ∃ gh, y = .slice (some ⟨gh, 0, none⟩) n n ∧ u.heap[gh]? = some (.cells (vls n (flw (upTo (stepW a z n) n))) 22 (0, 0)) ∧ (∀ x ∈ ([(w.heap.size, #[.float .f32 a, .float .f32 h, .float .f32 v], 49), (w.heap.size + 1, #[.float .f32 0, .float .f32 0, .float .f32 0], 49)] : List (Nat × Array Value × TypeId)), x.1 ≠ gh) ∧ w.heap.size ≤ gh) kd rfl (by rfl) 104 #[.float .f32 a, .float .f32 z, .int .i64 (n : Int)] (fun w => by unfold execOp; go_simp) rfl ?hc2 (fun y2 w2 hv2 k2 hb2 => ?_) ?_
  case hc2 =>
    refine (HHB.out _).mono ?_
    rintro e w' ⟨rfl, hrow, hb⟩
    exact ⟨_, ⟨_, rfl, hrow, kd.fresh, kd.size⟩, rfl, hb⟩
  · obtain ⟨gh, rfl, hrow2, hnh, hBh⟩ := hv2
    have kk2 := (k2.add hrow2)
    refine ⟨kk2.tail, ?_⟩
    simp only [Act.put, List.setIfInBounds_toArray, List.set_cons_zero, List.set_cons_succ]
    refine wpAnyH_ready (rs := [6, 10]) (by kernel_rfl) (by simp) ?_
    refine callK 6 _ _ (.tuple #[.agg #[.float .f32 (moSt a z n h v n).a, .float .f32 (moSt a z n h v n).h, .float .f32 (moSt a z n h v n).v, .float .f32 (moSt a z n h v n).f], .int .i64 0]) kk2 rfl (by rfl) 102 #[.agg #[.float .f32 a, .float .f32 h, .float .f32 v], .int .i64 1, .slice (some ⟨gh, 0, none⟩) n n] (fun w => by unfold execOp; go_simp) rfl rfl ?hc4 (fun w4 k4 => ?_) ?_
    case hc4 => exact HR.out _ gh (fun j hj => ((show vAt _ gh n (flw (upTo (stepW a z n) n)) 22 from kk2.at (x := (gh, vls n (flw (upTo (stepW a z n) n)), 22)) (by simp)).fcell hj).trans (by unfold upTo; rw [if_pos hj]))
    · refine ⟨k4.tail, ?_⟩
      simp only [Act.put, List.setIfInBounds_toArray, List.set_cons_zero, List.set_cons_succ]
      refine take_val 7 _ _ (.tuple #[.agg #[.float .f32 (moSt a z n h v n).a, .float .f32 (moSt a z n h v n).h, .float .f32 (moSt a z n h v n).v, .float .f32 (moSt a z n h v n).f], .int .i64 0]) rfl (by rfl) (by kernel_rfl) (by kernel_rfl) (by kernel_rfl) (fun w => by rfl) rfl rfl k4.tail ?_
      simp only [Act.put, List.setIfInBounds_toArray, List.set_cons_zero, List.set_cons_succ]
      refine take_val 8 _ _ (.agg #[.float .f32 (moSt a z n h v n).a, .float .f32 (moSt a z n h v n).h, .float .f32 (moSt a z n h v n).v, .float .f32 (moSt a z n h v n).f]) rfl (by rfl) (by kernel_rfl) (by kernel_rfl) (by kernel_rfl) (fun w => by unfold execOp; go_simp) rfl rfl k4.tail ?_
      simp only [Act.put, List.setIfInBounds_toArray, List.set_cons_zero, List.set_cons_succ]
      refine take_val 9 _ _ (.int .i64 0) rfl (by rfl) (by kernel_rfl) (by kernel_rfl) (by kernel_rfl) (fun w => by unfold execOp; go_simp) rfl rfl k4.tail ?_
      simp only [Act.put, List.setIfInBounds_toArray, List.set_cons_zero, List.set_cons_succ]
      refine wpAnyH_ready (rs := [10]) (by kernel_rfl) (by simp) ?_
      refine allocK 10 (fun g => _) _ k4 rfl (by rfl) (#[.float .f32 0, .float .f32 0, .float .f32 0, .float .f32 0]) 144 (by unfold execOp; go_simp) (fun g => rfl) rfl (fun w6 g6 k6 hBg6 hng6 => ?_) AllReadyH.nil
      refine ⟨k6.tail.tail, ?_⟩
      simp only [Act.put, List.setIfInBounds_toArray, List.set_cons_zero, List.set_cons_succ]
      have hBg6_ := hBg6
      refine wpAnyH_ready (rs := [11]) (by kernel_rfl) (by simp) ?_
      refine storeK 11 _ _ (k6.sub (l' := [(g6, #[.float .f32 0, .float .f32 0, .float .f32 0, .float .f32 0], 144), (gh, vls n (flw (upTo (stepW a z n) n)), 22), (w.heap.size, #[.float .f32 a, .float .f32 h, .float .f32 v], 49), (w.heap.size + 1, #[.float .f32 0, .float .f32 0, .float .f32 0], 49)]) (by intro x hx; simp only [List.mem_cons, List.not_mem_nil, or_false] at hx ⊢; rcases hx with rfl | rfl | rfl | rfl <;> simp)) hBg6 (by intro x hx; simp only [List.mem_cons, List.not_mem_nil, or_false] at hx; rcases hx with rfl | rfl | rfl <;> first | exact hng6 (gh, vls n (flw (upTo (stepW a z n) n)), 22) (by simp) | exact hng6 (w.heap.size, #[.float .f32 a, .float .f32 h, .float .f32 v], 49) (by simp) | exact hng6 (w.heap.size + 1, #[.float .f32 0, .float .f32 0, .float .f32 0], 49) (by simp)) rfl (by rfl) 144 _ _ rfl (#[.float .f32 (moSt a z n h v n).a, .float .f32 (moSt a z n h v n).h, .float .f32 (moSt a z n h v n).v, .float .f32 (moSt a z n h v n).f]) rfl rfl info_ris rfl (by simp [Value.oneCell']) rfl rfl (fun w7 k7 => ?_) AllReadyH.nil
      refine ⟨k7.tail.tail, ?_⟩
      simp only [Act.put, List.setIfInBounds_toArray, List.set_cons_zero, List.set_cons_succ]
      refine take_val 12 _ _ (.int .i64 0) rfl (by rfl) (by kernel_rfl) (by kernel_rfl) (by kernel_rfl) (fun w => by rfl) rfl rfl k7.tail.tail ?_
      simp only [Act.put, List.setIfInBounds_toArray, List.set_cons_zero, List.set_cons_succ]
      refine wpAnyH_done (by kernel_rfl) (NoPanic.normal ?_) _
      have kz := hid (k7.sub (l' := [(g6, #[.float .f32 (moSt a z n h v n).a, .float .f32 (moSt a z n h v n).h, .float .f32 (moSt a z n h v n).v, .float .f32 (moSt a z n h v n).f], 144), (w.heap.size + 1, #[.float .f32 0, .float .f32 0, .float .f32 0], 49)]) (by simp))
      have hBz := hBg6
      have hnz : g6 ≠ w.heap.size + 1 := Ne.symm (hng6 (w.heap.size + 1, #[.float .f32 0, .float .f32 0, .float .f32 0], 49) (by simp))
      generalize w7 = wz at kz ⊢
      generalize g6 = gz at kz hBz hnz ⊢
      have c0 : World.cell? wz ⟨gz, 0, none⟩ = some (.float .f32 (moSt a z n h v n).a) := (cell_of_row wz gz 0 _ _ _ (kz.out.at (x := (gz, #[.float .f32 (moSt a z n h v n).a, .float .f32 (moSt a z n h v n).h, .float .f32 (moSt a z n h v n).v, .float .f32 (moSt a z n h v n).f], 144)) (by simp))).trans rfl
      have z0 : World.frozen? wz ⟨gz, 0, none⟩ = false := frozen_of_row wz gz 0 _ _ (kz.out.at (x := (gz, #[.float .f32 (moSt a z n h v n).a, .float .f32 (moSt a z n h v n).h, .float .f32 (moSt a z n h v n).v, .float .f32 (moSt a z n h v n).f], 144)) (by simp))
      have ky := hid (kz.out.lcell (by omega) (by simpa using Ne.symm hnz) 0 (.float .f32 z))
      replace ky : Hid (Kept w [(gz, #[.float .f32 z, .float .f32 (moSt a z n h v n).h, .float .f32 (moSt a z n h v n).v, .float .f32 (moSt a z n h v n).f], 144), (w.heap.size + 1, #[.float .f32 0, .float .f32 0, .float .f32 0], 49)] _) := ky
      clear kz
      go_wp2_with fail
      refine region_kept (w0 := w) (l := [(gz, #[.float .f32 z, .float .f32 (moSt a z n h v n).h, .float .f32 (moSt a z n h v n).v, .float .f32 (moSt a z n h v n).f], 144)]) 7 #[false, false, false, false, false, false, false] (by kernel_rfl) rfl rfl ?_
      have kd := ky.out.drew.swap
      clear ky c0 z0
      generalize World.drew _ = wd at kd ⊢
      refine take_val 0 _ _ (.pointer (some ⟨gz, 0, none⟩)) rfl (by rfl) (by kernel_rfl) (by kernel_rfl) (by kernel_rfl) (fun w => by unfold execOp; go_simp) rfl rfl kd.tail ?_
      simp only [Act.put, List.setIfInBounds_toArray, List.set_cons_zero, List.set_cons_succ]
      refine take_val 2 _ _ (.pointer (some ⟨gz, 3, none⟩)) rfl (by rfl) (by kernel_rfl) (by kernel_rfl) (by kernel_rfl) (fun w => by unfold execOp; go_simp) rfl rfl kd.tail ?_
      simp only [Act.put, List.setIfInBounds_toArray, List.set_cons_zero, List.set_cons_succ]
      refine take_cell 1 _ _ (.agg #[.float .f32 z, .float .f32 (moSt a z n h v n).h, .float .f32 (moSt a z n h v n).v]) rfl (by rfl) (by kernel_rfl) (by kernel_rfl) (by kernel_rfl) (fun wq hS => run_load_cut 49 _ gz 0 rfl #[.float .f32 z, .float .f32 (moSt a z n h v n).h, .float .f32 (moSt a z n h v n).v, .float .f32 (moSt a z n h v n).f] 144 (hS.at (x := (gz, #[.float .f32 z, .float .f32 (moSt a z n h v n).h, .float .f32 (moSt a z n h v n).v, .float .f32 (moSt a z n h v n).f], 144)) (by simp)) [.float .f32 z, .float .f32 (moSt a z n h v n).h, .float .f32 (moSt a z n h v n).v] rfl _ Try.underlying49 rfl info_par) rfl rfl kd.tail ?_
      simp only [Act.put, List.setIfInBounds_toArray, List.set_cons_zero, List.set_cons_succ]
      refine take_cell 3 _ _ (.float .f32 (moSt a z n h v n).f) rfl (by rfl) (by kernel_rfl) (by kernel_rfl) (by kernel_rfl) (fun wq hS => by have hcell : wq.cell? ⟨gz, 3, none⟩ = some (.float .f32 (moSt a z n h v n).f) := (cell_of_row wq gz 3 _ _ _ (hS.at (x := (gz, #[.float .f32 z, .float .f32 (moSt a z n h v n).h, .float .f32 (moSt a z n h v n).v, .float .f32 (moSt a z n h v n).f], 144)) (by simp))).trans rfl; clear hS; unfold execOp; go_simp) rfl rfl kd.tail ?_
      simp only [Act.put, List.setIfInBounds_toArray, List.set_cons_zero, List.set_cons_succ]
      refine wpAnyH_ready (rs := [4]) (by kernel_rfl) (by simp) ?_
      refine storeK 4 _ _ kd (by omega) (by simpa using hnz) rfl (by rfl) 49 _ _ rfl (#[.float .f32 z, .float .f32 (moSt a z n h v n).h, .float .f32 (moSt a z n h v n).v]) rfl rfl info_par rfl (by simp [Value.oneCell']) rfl rfl (fun wy ky => ?_) AllReadyH.nil
      refine ⟨ky.tail, ?_⟩
      simp only [Act.put, List.setIfInBounds_toArray, List.set_cons_zero, List.set_cons_succ]
      refine take_val 5 _ _ (.float .f32 (moSt a z n h v n).f) rfl (by rfl) (by kernel_rfl) (by kernel_rfl) (by kernel_rfl) (fun w => by rfl) rfl rfl ky.tail ?_
      simp only [Act.put, List.setIfInBounds_toArray, List.set_cons_zero, List.set_cons_succ]
      refine take_val 6 _ _ (.int .i64 0) rfl (by rfl) (by kernel_rfl) (by kernel_rfl) (by kernel_rfl) (fun w => by rfl) rfl rfl ky.tail ?_
      simp only [Act.put, List.setIfInBounds_toArray, List.set_cons_zero, List.set_cons_succ]
      refine wpAnyH_done (by kernel_rfl) (NoPanic.normal ?_) _
      replace ky := hid ky
      go_wp2
      exact bodyPost_ret (results_row_tmp2 rfl _ _ (w.heap.size + 1) 49 (#[.float .f32 z, .float .f32 (moSt a z n h v n).h, .float .f32 (moSt a z n h v n).v]) (0, 0) _ rfl (ky.out.at (x := (w.heap.size + 1, #[.float .f32 z, .float .f32 (moSt a z n h v n).h, .float .f32 (moSt a z n h v n).v], 49)) (by simp)) Try.underlying49 rfl info_par) rfl ⟨rfl, ky.out.1⟩
    refine allocK 10 (fun g => _) _ kk2 rfl (by rfl) (#[.float .f32 0, .float .f32 0, .float .f32 0, .float .f32 0]) 144 (by unfold execOp; go_simp) (fun g => rfl) rfl (fun w8 g8 k8 hBg8 hng8 => ?_) AllReadyH.nil
    refine ⟨k8.tail.tail, ?_⟩
    simp only [Act.put, List.setIfInBounds_toArray, List.set_cons_zero, List.set_cons_succ]
    have hBg8_ := hBg8
    refine wpAnyH_ready (rs := [6]) (by kernel_rfl) (by simp) ?_
    refine callK 6 _ _ (.tuple #[.agg #[.float .f32 (moSt a z n h v n).a, .float .f32 (moSt a z n h v n).h, .float .f32 (moSt a z n h v n).v, .float .f32 (moSt a z n h v n).f], .int .i64 0]) k8 rfl (by rfl) 102 #[.agg #[.float .f32 a, .float .f32 h, .float .f32 v], .int .i64 1, .slice (some ⟨gh, 0, none⟩) n n] (fun w => by unfold execOp; go_simp) rfl rfl ?hc10 (fun w10 k10 => ?_) AllReadyH.nil
    case hc10 => exact HR.out _ gh (fun j hj => ((show vAt _ gh n (flw (upTo (stepW a z n) n)) 22 from k8.at (x := (gh, vls n (flw (upTo (stepW a z n) n)), 22)) (by simp)).fcell hj).trans (by unfold upTo; rw [if_pos hj]))
    refine ⟨k10.tail.tail, ?_⟩
    simp only [Act.put, List.setIfInBounds_toArray, List.set_cons_zero, List.set_cons_succ]
    refine take_val 7 _ _ (.tuple #[.agg #[.float .f32 (moSt a z n h v n).a, .float .f32 (moSt a z n h v n).h, .float .f32 (moSt a z n h v n).v, .float .f32 (moSt a z n h v n).f], .int .i64 0]) rfl (by rfl) (by kernel_rfl) (by kernel_rfl) (by kernel_rfl) (fun w => by rfl) rfl rfl k10.tail.tail ?_
    simp only [Act.put, List.setIfInBounds_toArray, List.set_cons_zero, List.set_cons_succ]
    refine take_val 8 _ _ (.agg #[.float .f32 (moSt a z n h v n).a, .float .f32 (moSt a z n h v n).h, .float .f32 (moSt a z n h v n).v, .float .f32 (moSt a z n h v n).f]) rfl (by rfl) (by kernel_rfl) (by kernel_rfl) (by kernel_rfl) (fun w => by unfold execOp; go_simp) rfl rfl k10.tail.tail ?_
    simp only [Act.put, List.setIfInBounds_toArray, List.set_cons_zero, List.set_cons_succ]
    refine take_val 9 _ _ (.int .i64 0) rfl (by rfl) (by kernel_rfl) (by kernel_rfl) (by kernel_rfl) (fun w => by unfold execOp; go_simp) rfl rfl k10.tail.tail ?_
    simp only [Act.put, List.setIfInBounds_toArray, List.set_cons_zero, List.set_cons_succ]
    refine wpAnyH_ready (rs := [11]) (by kernel_rfl) (by simp) ?_
    refine storeK 11 _ _ (k10.sub (l' := [(g8, #[.float .f32 0, .float .f32 0, .float .f32 0, .float .f32 0], 144), (gh, vls n (flw (upTo (stepW a z n) n)), 22), (w.heap.size, #[.float .f32 a, .float .f32 h, .float .f32 v], 49), (w.heap.size + 1, #[.float .f32 0, .float .f32 0, .float .f32 0], 49)]) (by intro x hx; simp only [List.mem_cons, List.not_mem_nil, or_false] at hx ⊢; rcases hx with rfl | rfl | rfl | rfl <;> simp)) hBg8 (by intro x hx; simp only [List.mem_cons, List.not_mem_nil, or_false] at hx; rcases hx with rfl | rfl | rfl <;> first | exact hng8 (gh, vls n (flw (upTo (stepW a z n) n)), 22) (by simp) | exact hng8 (w.heap.size, #[.float .f32 a, .float .f32 h, .float .f32 v], 49) (by simp) | exact hng8 (w.heap.size + 1, #[.float .f32 0, .float .f32 0, .float .f32 0], 49) (by simp)) rfl (by rfl) 144 _ _ rfl (#[.float .f32 (moSt a z n h v n).a, .float .f32 (moSt a z n h v n).h, .float .f32 (moSt a z n h v n).v, .float .f32 (moSt a z n h v n).f]) rfl rfl info_ris rfl (by simp [Value.oneCell']) rfl rfl (fun w11 k11 => ?_) AllReadyH.nil
    refine ⟨k11.tail.tail, ?_⟩
    simp only [Act.put, List.setIfInBounds_toArray, List.set_cons_zero, List.set_cons_succ]
    refine take_val 12 _ _ (.int .i64 0) rfl (by rfl) (by kernel_rfl) (by kernel_rfl) (by kernel_rfl) (fun w => by rfl) rfl rfl k11.tail.tail ?_
    simp only [Act.put, List.setIfInBounds_toArray, List.set_cons_zero, List.set_cons_succ]
    refine wpAnyH_done (by kernel_rfl) (NoPanic.normal ?_) _
    have kz := hid (k11.sub (l' := [(g8, #[.float .f32 (moSt a z n h v n).a, .float .f32 (moSt a z n h v n).h, .float .f32 (moSt a z n h v n).v, .float .f32 (moSt a z n h v n).f], 144), (w.heap.size + 1, #[.float .f32 0, .float .f32 0, .float .f32 0], 49)]) (by simp))
    have hBz := hBg8
    have hnz : g8 ≠ w.heap.size + 1 := Ne.symm (hng8 (w.heap.size + 1, #[.float .f32 0, .float .f32 0, .float .f32 0], 49) (by simp))
    generalize w11 = wz at kz ⊢
    generalize g8 = gz at kz hBz hnz ⊢
    have c0 : World.cell? wz ⟨gz, 0, none⟩ = some (.float .f32 (moSt a z n h v n).a) := (cell_of_row wz gz 0 _ _ _ (kz.out.at (x := (gz, #[.float .f32 (moSt a z n h v n).a, .float .f32 (moSt a z n h v n).h, .float .f32 (moSt a z n h v n).v, .float .f32 (moSt a z n h v n).f], 144)) (by simp))).trans rfl
    have z0 : World.frozen? wz ⟨gz, 0, none⟩ = false := frozen_of_row wz gz 0 _ _ (kz.out.at (x := (gz, #[.float .f32 (moSt a z n h v n).a, .float .f32 (moSt a z n h v n).h, .float .f32 (moSt a z n h v n).v, .float .f32 (moSt a z n h v n).f], 144)) (by simp))
    have ky := hid (kz.out.lcell (by omega) (by simpa using Ne.symm hnz) 0 (.float .f32 z))
    replace ky : Hid (Kept w [(gz, #[.float .f32 z, .float .f32 (moSt a z n h v n).h, .float .f32 (moSt a z n h v n).v, .float .f32 (moSt a z n h v n).f], 144), (w.heap.size + 1, #[.float .f32 0, .float .f32 0, .float .f32 0], 49)] _) := ky
    clear kz
    go_wp2_with fail
    refine region_kept (w0 := w) (l := [(gz, #[.float .f32 z, .float .f32 (moSt a z n h v n).h, .float .f32 (moSt a z n h v n).v, .float .f32 (moSt a z n h v n).f], 144)]) 7 #[false, false, false, false, false, false, false] (by kernel_rfl) rfl rfl ?_
    have kd := ky.out.drew.swap
    clear ky c0 z0
    generalize World.drew _ = wd at kd ⊢
    refine take_val 0 _ _ (.pointer (some ⟨gz, 0, none⟩)) rfl (by rfl) (by kernel_rfl) (by kernel_rfl) (by kernel_rfl) (fun w => by unfold execOp; go_simp) rfl rfl kd.tail ?_
    simp only [Act.put, List.setIfInBounds_toArray, List.set_cons_zero, List.set_cons_succ]
    refine take_val 2 _ _ (.pointer (some ⟨gz, 3, none⟩)) rfl (by rfl) (by kernel_rfl) (by kernel_rfl) (by kernel_rfl) (fun w => by unfold execOp; go_simp) rfl rfl kd.tail ?_
    simp only [Act.put, List.setIfInBounds_toArray, List.set_cons_zero, List.set_cons_succ]
    refine take_cell 1 _ _ (.agg #[.float .f32 z, .float .f32 (moSt a z n h v n).h, .float .f32 (moSt a z n h v n).v]) rfl (by rfl) (by kernel_rfl) (by kernel_rfl) (by kernel_rfl) (fun wq hS => run_load_cut 49 _ gz 0 rfl #[.float .f32 z, .float .f32 (moSt a z n h v n).h, .float .f32 (moSt a z n h v n).v, .float .f32 (moSt a z n h v n).f] 144 (hS.at (x := (gz, #[.float .f32 z, .float .f32 (moSt a z n h v n).h, .float .f32 (moSt a z n h v n).v, .float .f32 (moSt a z n h v n).f], 144)) (by simp)) [.float .f32 z, .float .f32 (moSt a z n h v n).h, .float .f32 (moSt a z n h v n).v] rfl _ Try.underlying49 rfl info_par) rfl rfl kd.tail ?_
    simp only [Act.put, List.setIfInBounds_toArray, List.set_cons_zero, List.set_cons_succ]
    refine take_cell 3 _ _ (.float .f32 (moSt a z n h v n).f) rfl (by rfl) (by kernel_rfl) (by kernel_rfl) (by kernel_rfl) (fun wq hS => by have hcell : wq.cell? ⟨gz, 3, none⟩ = some (.float .f32 (moSt a z n h v n).f) := (cell_of_row wq gz 3 _ _ _ (hS.at (x := (gz, #[.float .f32 z, .float .f32 (moSt a z n h v n).h, .float .f32 (moSt a z n h v n).v, .float .f32 (moSt a z n h v n).f], 144)) (by simp))).trans rfl; clear hS; unfold execOp; go_simp) rfl rfl kd.tail ?_
    simp only [Act.put, List.setIfInBounds_toArray, List.set_cons_zero, List.set_cons_succ]
    refine wpAnyH_ready (rs := [4]) (by kernel_rfl) (by simp) ?_
    refine storeK 4 _ _ kd (by omega) (by simpa using hnz) rfl (by rfl) 49 _ _ rfl (#[.float .f32 z, .float .f32 (moSt a z n h v n).h, .float .f32 (moSt a z n h v n).v]) rfl rfl info_par rfl (by simp [Value.oneCell']) rfl rfl (fun wy ky => ?_) AllReadyH.nil
    refine ⟨ky.tail, ?_⟩
    simp only [Act.put, List.setIfInBounds_toArray, List.set_cons_zero, List.set_cons_succ]
    refine take_val 5 _ _ (.float .f32 (moSt a z n h v n).f) rfl (by rfl) (by kernel_rfl) (by kernel_rfl) (by kernel_rfl) (fun w => by rfl) rfl rfl ky.tail ?_
    simp only [Act.put, List.setIfInBounds_toArray, List.set_cons_zero, List.set_cons_succ]
    refine take_val 6 _ _ (.int .i64 0) rfl (by rfl) (by kernel_rfl) (by kernel_rfl) (by kernel_rfl) (fun w => by rfl) rfl rfl ky.tail ?_
    simp only [Act.put, List.setIfInBounds_toArray, List.set_cons_zero, List.set_cons_succ]
    refine wpAnyH_done (by kernel_rfl) (NoPanic.normal ?_) _
    replace ky := hid ky
    go_wp2
    exact bodyPost_ret (results_row_tmp2 rfl _ _ (w.heap.size + 1) 49 (#[.float .f32 z, .float .f32 (moSt a z n h v n).h, .float .f32 (moSt a z n h v n).v]) (0, 0) _ rfl (ky.out.at (x := (w.heap.size + 1, #[.float .f32 z, .float .f32 (moSt a z n h v n).h, .float .f32 (moSt a z n h v n).v], 49)) (by simp)) Try.underlying49 rfl info_par) rfl ⟨rfl, ky.out.1⟩
  refine allocK 10 (fun g => _) _ kd rfl (by rfl) (#[.float .f32 0, .float .f32 0, .float .f32 0, .float .f32 0]) 144 (by unfold execOp; go_simp) (fun g => rfl) rfl (fun w12 g12 k12 hBg12 hng12 => ?_) AllReadyH.nil
  refine ⟨k12.tail, ?_⟩
  simp only [Act.put, List.setIfInBounds_toArray, List.set_cons_zero, List.set_cons_succ]
  have hBg12_ := hBg12
  refine wpAnyH_ready (rs := [5]) (by kernel_rfl) (by simp) ?_
  refine callKQ 5 _ (fun y u => ∃ gh, y = .slice (some ⟨gh, 0, none⟩) n n ∧ u.heap[gh]? = some (.cells (vls n (flw (upTo (stepW a z n) n))) 22 (0, 0)) ∧ (∀ x ∈ ([(g12, #[.float .f32 0, .float .f32 0, .float .f32 0, .float .f32 0], 144), (w.heap.size, #[.float .f32 a, .float .f32 h, .float .f32 v], 49), (w.heap.size + 1, #[.float .f32 0, .float .f32 0, .float .f32 0], 49)] : List (Nat × Array Value × TypeId)), x.1 ≠ gh) ∧ w.heap.size ≤ gh) k12 rfl (by rfl) 104 #[.float .f32 a, .float .f32 z, .int .i64 (n : Int)] (fun w => by unfold execOp; go_simp) rfl ?hc14 (fun y14 w14 hv14 k14 hb14 => ?_) AllReadyH.nil
  case hc14 =>
    refine (HHB.out _).mono ?_
    rintro e w' ⟨rfl, hrow, hb⟩
    exact ⟨_, ⟨_, rfl, hrow, k12.fresh, k12.size⟩, rfl, hb⟩
  obtain ⟨gh, rfl, hrow14, hnh, hBh⟩ := hv14
  have kk14 := (k14.add hrow14)
  refine ⟨kk14.tail.tail, ?_⟩
  simp only [Act.put, List.setIfInBounds_toArray, List.set_cons_zero, List.set_cons_succ]
  refine wpAnyH_ready (rs := [6]) (by kernel_rfl) (by simp) ?_
  refine callK 6 _ _ (.tuple #[.agg #[.float .f32 (moSt a z n h v n).a, .float .f32 (moSt a z n h v n).h, .float .f32 (moSt a z n h v n).v, .float .f32 (moSt a z n h v n).f], .int .i64 0]) kk14 rfl (by rfl) 102 #[.agg #[.float .f32 a, .float .f32 h, .float .f32 v], .int .i64 1, .slice (some ⟨gh, 0, none⟩) n n] (fun w => by unfold execOp; go_simp) rfl rfl ?hc16 (fun w16 k16 => ?_) AllReadyH.nil
  case hc16 => exact HR.out _ gh (fun j hj => ((show vAt _ gh n (flw (upTo (stepW a z n) n)) 22 from kk14.at (x := (gh, vls n (flw (upTo (stepW a z n) n)), 22)) (by simp)).fcell hj).trans (by unfold upTo; rw [if_pos hj]))
  refine ⟨k16.tail.tail, ?_⟩
  simp only [Act.put, List.setIfInBounds_toArray, List.set_cons_zero, List.set_cons_succ]
  refine take_val 7 _ _ (.tuple #[.agg #[.float .f32 (moSt a z n h v n).a, .float .f32 (moSt a z n h v n).h, .float .f32 (moSt a z n h v n).v, .float .f32 (moSt a z n h v n).f], .int .i64 0]) rfl (by rfl) (by kernel_rfl) (by kernel_rfl) (by kernel_rfl) (fun w => by rfl) rfl rfl k16.tail.tail ?_
  simp only [Act.put, List.setIfInBounds_toArray, List.set_cons_zero, List.set_cons_succ]
  refine take_val 8 _ _ (.agg #[.float .f32 (moSt a z n h v n).a, .float .f32 (moSt a z n h v n).h, .float .f32 (moSt a z n h v n).v, .float .f32 (moSt a z n h v n).f]) rfl (by rfl) (by kernel_rfl) (by kernel_rfl) (by kernel_rfl) (fun w => by unfold execOp; go_simp) rfl rfl k16.tail.tail ?_
  simp only [Act.put, List.setIfInBounds_toArray, List.set_cons_zero, List.set_cons_succ]
  refine take_val 9 _ _ (.int .i64 0) rfl (by rfl) (by kernel_rfl) (by kernel_rfl) (by kernel_rfl) (fun w => by unfold execOp; go_simp) rfl rfl k16.tail.tail ?_
  simp only [Act.put, List.setIfInBounds_toArray, List.set_cons_zero, List.set_cons_succ]
  refine wpAnyH_ready (rs := [11]) (by kernel_rfl) (by simp) ?_
  refine storeK 11 _ _ (k16.sub (l' := [(g12, #[.float .f32 0, .float .f32 0, .float .f32 0, .float .f32 0], 144), (gh, vls n (flw (upTo (stepW a z n) n)), 22), (w.heap.size, #[.float .f32 a, .float .f32 h, .float .f32 v], 49), (w.heap.size + 1, #[.float .f32 0, .float .f32 0, .float .f32 0], 49)]) (by intro x hx; simp only [List.mem_cons, List.not_mem_nil, or_false] at hx ⊢; rcases hx with rfl | rfl | rfl | rfl <;> simp)) hBg12 (by intro x hx; simp only [List.mem_cons, List.not_mem_nil, or_false] at hx; rcases hx with rfl | rfl | rfl <;> first | exact Ne.symm (hnh (g12, #[.float .f32 0, .float .f32 0, .float .f32 0, .float .f32 0], 144) (by simp)) | exact hng12 (w.heap.size, #[.float .f32 a, .float .f32 h, .float .f32 v], 49) (by simp) | exact hng12 (w.heap.size + 1, #[.float .f32 0, .float .f32 0, .float .f32 0], 49) (by simp)) rfl (by rfl) 144 _ _ rfl (#[.float .f32 (moSt a z n h v n).a, .float .f32 (moSt a z n h v n).h, .float .f32 (moSt a z n h v n).v, .float .f32 (moSt a z n h v n).f]) rfl rfl info_ris rfl (by simp [Value.oneCell']) rfl rfl (fun w17 k17 => ?_) AllReadyH.nil
  refine ⟨k17.tail.tail, ?_⟩
  simp only [Act.put, List.setIfInBounds_toArray, List.set_cons_zero, List.set_cons_succ]
  refine take_val 12 _ _ (.int .i64 0) rfl (by rfl) (by kernel_rfl) (by kernel_rfl) (by kernel_rfl) (fun w => by rfl) rfl rfl k17.tail.tail ?_
  simp only [Act.put, List.setIfInBounds_toArray, List.set_cons_zero, List.set_cons_succ]
  refine wpAnyH_done (by kernel_rfl) (NoPanic.normal ?_) _
  have kz := hid (k17.sub (l' := [(g12, #[.float .f32 (moSt a z n h v n).a, .float .f32 (moSt a z n h v n).h, .float .f32 (moSt a z n h v n).v, .float .f32 (moSt a z n h v n).f], 144), (w.heap.size + 1, #[.float .f32 0, .float .f32 0, .float .f32 0], 49)]) (by simp))
  have hBz := hBg12
  have hnz : g12 ≠ w.heap.size + 1 := Ne.symm (hng12 (w.heap.size + 1, #[.float .f32 0, .float .f32 0, .float .f32 0], 49) (by simp))
  generalize w17 = wz at kz ⊢
  generalize g12 = gz at kz hBz hnz ⊢
  have c0 : World.cell? wz ⟨gz, 0, none⟩ = some (.float .f32 (moSt a z n h v n).a) := (cell_of_row wz gz 0 _ _ _ (kz.out.at (x := (gz, #[.float .f32 (moSt a z n h v n).a, .float .f32 (moSt a z n h v n).h, .float .f32 (moSt a z n h v n).v, .float .f32 (moSt a z n h v n).f], 144)) (by simp))).trans rfl
  have z0 : World.frozen? wz ⟨gz, 0, none⟩ = false := frozen_of_row wz gz 0 _ _ (kz.out.at (x := (gz, #[.float .f32 (moSt a z n h v n).a, .float .f32 (moSt a z n h v n).h, .float .f32 (moSt a z n h v n).v, .float .f32 (moSt a z n h v n).f], 144)) (by simp))
  have ky := hid (kz.out.lcell (by omega) (by simpa using Ne.symm hnz) 0 (.float .f32 z))
  replace ky : Hid (Kept w [(gz, #[.float .f32 z, .float .f32 (moSt a z n h v n).h, .float .f32 (moSt a z n h v n).v, .float .f32 (moSt a z n h v n).f], 144), (w.heap.size + 1, #[.float .f32 0, .float .f32 0, .float .f32 0], 49)] _) := ky
  clear kz
  go_wp2_with fail
  refine region_kept (w0 := w) (l := [(gz, #[.float .f32 z, .float .f32 (moSt a z n h v n).h, .float .f32 (moSt a z n h v n).v, .float .f32 (moSt a z n h v n).f], 144)]) 7 #[false, false, false, false, false, false, false] (by kernel_rfl) rfl rfl ?_
  have kd := ky.out.drew.swap
  clear ky c0 z0
  generalize World.drew _ = wd at kd ⊢
  refine take_val 0 _ _ (.pointer (some ⟨gz, 0, none⟩)) rfl (by rfl) (by kernel_rfl) (by kernel_rfl) (by kernel_rfl) (fun w => by unfold execOp; go_simp) rfl rfl kd.tail ?_
  simp only [Act.put, List.setIfInBounds_toArray, List.set_cons_zero, List.set_cons_succ]
  refine take_val 2 _ _ (.pointer (some ⟨gz, 3, none⟩)) rfl (by rfl) (by kernel_rfl) (by kernel_rfl) (by kernel_rfl) (fun w => by unfold execOp; go_simp) rfl rfl kd.tail ?_
  simp only [Act.put, List.setIfInBounds_toArray, List.set_cons_zero, List.set_cons_succ]
  refine take_cell 1 _ _ (.agg #[.float .f32 z, .float .f32 (moSt a z n h v n).h, .float .f32 (moSt a z n h v n).v]) rfl (by rfl) (by kernel_rfl) (by kernel_rfl) (by kernel_rfl) (fun wq hS => run_load_cut 49 _ gz 0 rfl #[.float .f32 z, .float .f32 (moSt a z n h v n).h, .float .f32 (moSt a z n h v n).v, .float .f32 (moSt a z n h v n).f] 144 (hS.at (x := (gz, #[.float .f32 z, .float .f32 (moSt a z n h v n).h, .float .f32 (moSt a z n h v n).v, .float .f32 (moSt a z n h v n).f], 144)) (by simp)) [.float .f32 z, .float .f32 (moSt a z n h v n).h, .float .f32 (moSt a z n h v n).v] rfl _ Try.underlying49 rfl info_par) rfl rfl kd.tail ?_
  simp only [Act.put, List.setIfInBounds_toArray, List.set_cons_zero, List.set_cons_succ]
  refine take_cell 3 _ _ (.float .f32 (moSt a z n h v n).f) rfl (by rfl) (by kernel_rfl) (by kernel_rfl) (by kernel_rfl) (fun wq hS => by have hcell : wq.cell? ⟨gz, 3, none⟩ = some (.float .f32 (moSt a z n h v n).f) := (cell_of_row wq gz 3 _ _ _ (hS.at (x := (gz, #[.float .f32 z, .float .f32 (moSt a z n h v n).h, .float .f32 (moSt a z n h v n).v, .float .f32 (moSt a z n h v n).f], 144)) (by simp))).trans rfl; clear hS; unfold execOp; go_simp) rfl rfl kd.tail ?_
  simp only [Act.put, List.setIfInBounds_toArray, List.set_cons_zero, List.set_cons_succ]
  refine wpAnyH_ready (rs := [4]) (by kernel_rfl) (by simp) ?_
  refine storeK 4 _ _ kd (by omega) (by simpa using hnz) rfl (by rfl) 49 _ _ rfl (#[.float .f32 z, .float .f32 (moSt a z n h v n).h, .float .f32 (moSt a z n h v n).v]) rfl rfl info_par rfl (by simp [Value.oneCell']) rfl rfl (fun wy ky => ?_) AllReadyH.nil
  refine ⟨ky.tail, ?_⟩
  simp only [Act.put, List.setIfInBounds_toArray, List.set_cons_zero, List.set_cons_succ]
  refine take_val 5 _ _ (.float .f32 (moSt a z n h v n).f) rfl (by rfl) (by kernel_rfl) (by kernel_rfl) (by kernel_rfl) (fun w => by rfl) rfl rfl ky.tail ?_
  simp only [Act.put, List.setIfInBounds_toArray, List.set_cons_zero, List.set_cons_succ]
  refine take_val 6 _ _ (.int .i64 0) rfl (by rfl) (by kernel_rfl) (by kernel_rfl) (by kernel_rfl) (fun w => by rfl) rfl rfl ky.tail ?_
  simp only [Act.put, List.setIfInBounds_toArray, List.set_cons_zero, List.set_cons_succ]
  refine wpAnyH_done (by kernel_rfl) (NoPanic.normal ?_) _
  replace ky := hid ky
  go_wp2
  exact bodyPost_ret (results_row_tmp2 rfl _ _ (w.heap.size + 1) 49 (#[.float .f32 z, .float .f32 (moSt a z n h v n).h, .float .f32 (moSt a z n h v n).v]) (0, 0) _ rfl (ky.out.at (x := (w.heap.size + 1, #[.float .f32 z, .float .f32 (moSt a z n h v n).h, .float .f32 (moSt a z n h v n).v], 49)) (by simp)) Try.underlying49 rfl info_par) rfl ⟨rfl, ky.out.1⟩

set_option maxRecDepth 100000 in
set_option maxHeartbeats 4000000 in
theorem iRaiseMoist_f (a h v z n : Nat) (hx : h < 4294967296) (hv : v < 4294967296) (hp : parB a h v = true) (hq : hgtB z = true) (h1 : 1 ≤ n) (hn : n ≤ 100) (m : Nat) (hm : m < n) (hall : ∀ j, j < m → moB a z n h v j = true) (hstop : moB a z n h v m = false) (w : World) :
    Calls Try.prog 51 #[.agg #[.float .f32 a, .float .f32 h, .float .f32 v], .float .f32 z, .int .i64 (n : Int)] w fun e w' => e = .returned (.tuple #[.agg #[.float .f32 0, .float .f32 0, .float .f32 0], .float .f32 0, .int .i64 4]) ∧ Below w.heap.size w w' := by
  have k0 : Hid (Kept w [(w.heap.size, #[.float .f32 a, .float .f32 h, .float .f32 v], 49), (w.heap.size + 1, #[.float .f32 0, .float .f32 0, .float .f32 0], 49)] ((w.alloc (.cells #[.float .f32 a, .float .f32 h, .float .f32 v] 49)).alloc (.cells #[.float .f32 0, .float .f32 0, .float .f32 0] 49))) := hid ((((Kept.nil w).push _ _).push _ _).sub (by simp))
  have Ha : Hgt a := hgt_iff.1 (parB_iff.1 hp).1
  have Hz : Hgt z := hgt_iff.1 hq
  have hA := (parB_iff.1 hp).2
  have HP := hid (fun u => iValidParcel a h v (fw_amt (amtB_iff.2 (hgt_inf Ha))).1 hv true hp u)
  have HH := hid (fun u => iHgt z (fw_amt (amtB_iff.2 (hgt_inf Hz))).1 true hq u)
  have HHB := hid (fun u => iHeights a z n Ha Hz h1 hn u)
  have HR : Hid (∀ (u : World) (gs : Nat), (∀ k, k < n → u.cell? ⟨gs, k, none⟩ = some (.float .f32 (stepW a z n k))) → Calls Try.prog 102 #[.agg #[.float .f32 a, .float .f32 h, .float .f32 v], .int .i64 1, .slice (some ⟨gs, 0, none⟩) n n] u fun e u' => e = .returned (.tuple #[.agg #[.float .f32 0, .float .f32 0, .float .f32 0, .float .f32 0], .int .i64 4]) ∧ Below u.heap.size u u') := hid fun u gs hc => iRaise1_f n (by omega) n (stepW a z n) (fun k => (moSt a z n h v k).a) (fun k => (moSt a z n h v k).h) (fun k => (moSt a z n h v k).v) (fun k => (moSt a z n h v k).f) rfl m hm _ _ (fun u => iMoStop Ha Hz hn hm (mo_facts Ha Hz hn hx hA m (by omega) hall) hstop u) (fun k hk u => iMoStep Ha Hz hn (by omega) (mo_facts Ha Hz hn hx hA k (by omega) (fun j hj => hall j (by omega))) (hall k hk) u) u gs hc
  have d1 : ¬ ((n : Int) < 1) := by omega
  have d2 : ¬ (100 < (n : Int)) := by omega
  clear hx hv hp hq h1 hn hall hA Ha Hz hm hstop
  go_enter Try.func51, Try.ntmps51
  go_wp2_with fail
  refine (HP.out _).mono ?_
  rintro e w1 ⟨rfl, hb1⟩
  have k1 := hid (k0.out.stay hb1)
  go_wp2_with fail
  refine (HH.out _).mono ?_
  rintro e w2 ⟨rfl, hb2⟩
  have k2 := hid (k1.out.stay hb2)
  clear k0 k1
  go_wp2_with fail
  refine region_kept (w0 := w) (l := [(w.heap.size, #[.float .f32 a, .float .f32 h, .float .f32 v], 49), (w.heap.size + 1, #[.float .f32 0, .float .f32 0, .float .f32 0], 49)]) 13 #[false, false, false, false, false, false, false, false, false, false, false, false, false] (by kernel_rfl) rfl rfl ?_
  have kd := k2.out.drew
  clear k2 hb1 hb2
  generalize World.drew _ = wd at kd ⊢
  refine take_load 0 _ _ rfl (by rfl) (by kernel_rfl) (by kernel_rfl) (by kernel_rfl) 49 _ rfl (w.heap.size) (#[.float .f32 a, .float .f32 h, .float .f32 v]) 49 rfl (by simp) _ Try.underlying49 rfl (info_par) rfl rfl kd ?_
  simp only [Act.put, List.setIfInBounds_toArray, List.set_cons_zero, List.set_cons_succ]
  refine take_val 1 _ _ (.pointer (some ⟨w.heap.size, 0, none⟩)) rfl (by rfl) (by kernel_rfl) (by kernel_rfl) (by kernel_rfl) (fun w => by unfold execOp; go_simp) rfl rfl kd ?_
  simp only [Act.put, List.setIfInBounds_toArray, List.set_cons_zero, List.set_cons_succ]
  refine take_cell 2 _ _ (.float .f32 a) rfl (by rfl) (by kernel_rfl) (by kernel_rfl) (by kernel_rfl) (fun wq hS => by have hcell : wq.cell? ⟨w.heap.size, 0, none⟩ = some (.float .f32 a) := (cell_of_row wq (w.heap.size) 0 _ _ _ (hS.at (x := (w.heap.size, #[.float .f32 a, .float .f32 h, .float .f32 v], 49)) (by simp))).trans rfl; clear hS; unfold execOp; go_simp) rfl rfl kd ?_
  simp only [Act.put, List.setIfInBounds_toArray, List.set_cons_zero, List.set_cons_succ]
  refine take_val 3 _ _ (.float .f32 z) rfl (by rfl) (by kernel_rfl) (by kernel_rfl) (by kernel_rfl) (fun w => by rfl) rfl rfl kd ?_
  simp only [Act.put, List.setIfInBounds_toArray, List.set_cons_zero, List.set_cons_succ]
  refine take_val 4 _ _ (.int .i64 (n : Int)) rfl (by rfl) (by kernel_rfl) (by kernel_rfl) (by kernel_rfl) (fun w => by rfl) rfl rfl kd ?_
  simp only [Act.put, List.setIfInBounds_toArray, List.set_cons_zero, List.set_cons_succ]
  refine wpAnyH_ready (rs := [5, 10]) (by kernel_rfl) (by simp) ?_
  refine callKQ 5 _ (fun y u => ∃ gh, y = .slice (some ⟨gh, 0, none⟩) n n ∧ u.heap[gh]? = some (.cells (vls n (flw (upTo (stepW a z n) n))) 22 (0, 0)) ∧ (∀ x ∈ ([(w.heap.size, #[.float .f32 a, .float .f32 h, .float .f32 v], 49), (w.heap.size + 1, #[.float .f32 0, .float .f32 0, .float .f32 0], 49)] : List (Nat × Array Value × TypeId)), x.1 ≠ gh) ∧ w.heap.size ≤ gh) kd rfl (by rfl) 104 #[.float .f32 a, .float .f32 z, .int .i64 (n : Int)] (fun w => by unfold execOp; go_simp) rfl ?hc2 (fun y2 w2 hv2 k2 hb2 => ?_) ?_
  case hc2 =>
    refine (HHB.out _).mono ?_
    rintro e w' ⟨rfl, hrow, hb⟩
    exact ⟨_, ⟨_, rfl, hrow, kd.fresh, kd.size⟩, rfl, hb⟩
  · obtain ⟨gh, rfl, hrow2, hnh, hBh⟩ := hv2
    have kk2 := (k2.add hrow2)
    refine ⟨kk2.tail, ?_⟩
    simp only [Act.put, List.setIfInBounds_toArray, List.set_cons_zero, List.set_cons_succ]
    refine wpAnyH_ready (rs := [6, 10]) (by kernel_rfl) (by simp) ?_
    refine callK 6 _ _ (.tuple #[.agg #[.float .f32 0, .float .f32 0, .float .f32 0, .float .f32 0], .int .i64 4]) kk2 rfl (by rfl) 102 #[.agg #[.float .f32 a, .float .f32 h, .float .f32 v], .int .i64 1, .slice (some ⟨gh, 0, none⟩) n n] (fun w => by unfold execOp; go_simp) rfl rfl ?hc4 (fun w4 k4 => ?_) ?_
    case hc4 => exact HR.out _ gh (fun j hj => ((show vAt _ gh n (flw (upTo (stepW a z n) n)) 22 from kk2.at (x := (gh, vls n (flw (upTo (stepW a z n) n)), 22)) (by simp)).fcell hj).trans (by unfold upTo; rw [if_pos hj]))
    · refine ⟨k4.tail, ?_⟩
      simp only [Act.put, List.setIfInBounds_toArray, List.set_cons_zero, List.set_cons_succ]
      refine take_val 7 _ _ (.tuple #[.agg #[.float .f32 0, .float .f32 0, .float .f32 0, .float .f32 0], .int .i64 4]) rfl (by rfl) (by kernel_rfl) (by kernel_rfl) (by kernel_rfl) (fun w => by rfl) rfl rfl k4.tail ?_
      simp only [Act.put, List.setIfInBounds_toArray, List.set_cons_zero, List.set_cons_succ]
      refine take_val 8 _ _ (.agg #[.float .f32 0, .float .f32 0, .float .f32 0, .float .f32 0]) rfl (by rfl) (by kernel_rfl) (by kernel_rfl) (by kernel_rfl) (fun w => by unfold execOp; go_simp) rfl rfl k4.tail ?_
      simp only [Act.put, List.setIfInBounds_toArray, List.set_cons_zero, List.set_cons_succ]
      refine take_val 9 _ _ (.int .i64 4) rfl (by rfl) (by kernel_rfl) (by kernel_rfl) (by kernel_rfl) (fun w => by unfold execOp; go_simp) rfl rfl k4.tail ?_
      simp only [Act.put, List.setIfInBounds_toArray, List.set_cons_zero, List.set_cons_succ]
      refine wpAnyH_ready (rs := [10]) (by kernel_rfl) (by simp) ?_
      refine allocK 10 (fun g => _) _ k4 rfl (by rfl) (#[.float .f32 0, .float .f32 0, .float .f32 0, .float .f32 0]) 144 (by unfold execOp; go_simp) (fun g => rfl) rfl (fun w6 g6 k6 hBg6 hng6 => ?_) AllReadyH.nil
      refine ⟨k6.tail.tail, ?_⟩
      simp only [Act.put, List.setIfInBounds_toArray, List.set_cons_zero, List.set_cons_succ]
      have hBg6_ := hBg6
      refine wpAnyH_ready (rs := [11]) (by kernel_rfl) (by simp) ?_
      refine storeK 11 _ _ (k6.sub (l' := [(g6, #[.float .f32 0, .float .f32 0, .float .f32 0, .float .f32 0], 144), (gh, vls n (flw (upTo (stepW a z n) n)), 22), (w.heap.size, #[.float .f32 a, .float .f32 h, .float .f32 v], 49), (w.heap.size + 1, #[.float .f32 0, .float .f32 0, .float .f32 0], 49)]) (by intro x hx; simp only [List.mem_cons, List.not_mem_nil, or_false] at hx ⊢; rcases hx with rfl | rfl | rfl | rfl <;> simp)) hBg6 (by intro x hx; simp only [List.mem_cons, List.not_mem_nil, or_false] at hx; rcases hx with rfl | rfl | rfl <;> first | exact hng6 (gh, vls n (flw (upTo (stepW a z n) n)), 22) (by simp) | exact hng6 (w.heap.size, #[.float .f32 a, .float .f32 h, .float .f32 v], 49) (by simp) | exact hng6 (w.heap.size + 1, #[.float .f32 0, .float .f32 0, .float .f32 0], 49) (by simp)) rfl (by rfl) 144 _ _ rfl (#[.float .f32 0, .float .f32 0, .float .f32 0, .float .f32 0]) rfl rfl info_ris rfl (by simp [Value.oneCell']) rfl rfl (fun w7 k7 => ?_) AllReadyH.nil
      refine ⟨k7.tail.tail, ?_⟩
      simp only [Act.put, List.setIfInBounds_toArray, List.set_cons_zero, List.set_cons_succ]
      refine take_val 12 _ _ (.int .i64 4) rfl (by rfl) (by kernel_rfl) (by kernel_rfl) (by kernel_rfl) (fun w => by rfl) rfl rfl k7.tail.tail ?_
      simp only [Act.put, List.setIfInBounds_toArray, List.set_cons_zero, List.set_cons_succ]
      refine wpAnyH_done (by kernel_rfl) (NoPanic.normal ?_) _
      have kz := hid (k7.sub (l' := [(g6, #[.float .f32 0, .float .f32 0, .float .f32 0, .float .f32 0], 144), (w.heap.size + 1, #[.float .f32 0, .float .f32 0, .float .f32 0], 49)]) (by simp))
      have hBz := hBg6
      have hnz : g6 ≠ w.heap.size + 1 := Ne.symm (hng6 (w.heap.size + 1, #[.float .f32 0, .float .f32 0, .float .f32 0], 49) (by simp))
      generalize w7 = wz at kz ⊢
      generalize g6 = gz at kz hBz hnz ⊢
      go_wp2_with ((refine store_kept (w0 := w) (l := [(gz, #[.float .f32 0, .float .f32 0, .float .f32 0, .float .f32 0], 144)]) rfl 49 _ _ rfl (w.heap.size + 1) (#[.float .f32 0, .float .f32 0, .float .f32 0]) rfl rfl 49 (#[.float .f32 0, .float .f32 0, .float .f32 0]) (kz.out.swap) (by omega) (by simpa using hnz) info_par rfl (by simp [Value.oneCell']) (fun w7 k7 => ?_); replace k7 := hid k7))
      exact bodyPost_ret (results_row_tmp2 rfl _ _ (w.heap.size + 1) 49 (#[.float .f32 0, .float .f32 0, .float .f32 0]) (0, 0) _ rfl (k7.out.at (x := (w.heap.size + 1, #[.float .f32 0, .float .f32 0, .float .f32 0], 49)) (by simp)) Try.underlying49 rfl info_par) rfl ⟨rfl, k7.out.1⟩
    refine allocK 10 (fun g => _) _ kk2 rfl (by rfl) (#[.float .f32 0, .float .f32 0, .float .f32 0, .float .f32 0]) 144 (by unfold execOp; go_simp) (fun g => rfl) rfl (fun w8 g8 k8 hBg8 hng8 => ?_) AllReadyH.nil
    refine ⟨k8.tail.tail, ?_⟩
    simp only [Act.put, List.setIfInBounds_toArray, List.set_cons_zero, List.set_cons_succ]
    have hBg8_ := hBg8
    refine wpAnyH_ready (rs := [6]) (by kernel_rfl) (by simp) ?_
    refine callK 6 _ _ (.tuple #[.agg #[.float .f32 0, .float .f32 0, .float .f32 0, .float .f32 0], .int .i64 4]) k8 rfl (by rfl) 102 #[.agg #[.float .f32 a, .float .f32 h, .float .f32 v], .int .i64 1, .slice (some ⟨gh, 0, none⟩) n n] (fun w => by unfold execOp; go_simp) rfl rfl ?hc10 (fun w10 k10 => ?_) AllReadyH.nil
    case hc10 => exact HR.out _ gh (fun j hj => ((show vAt _ gh n (flw (upTo (stepW a z n) n)) 22 from k8.at (x := (gh, vls n (flw (upTo (stepW a z n) n)), 22)) (by simp)).fcell hj).trans (by unfold upTo; rw [if_pos hj]))
    refine ⟨k10.tail.tail, ?_⟩
    simp only [Act.put, List.setIfInBounds_toArray, List.set_cons_zero, List.set_cons_succ]
    refine take_val 7 _ _ (.tuple #[.agg #[.float .f32 0, .float .f32 0, .float .f32 0, .float .f32 0], .int .i64 4]) rfl (by rfl) (by kernel_rfl) (by kernel_rfl) (by kernel_rfl) (fun w => by rfl) rfl rfl k10.tail.tail ?_
    simp only [Act.put, List.setIfInBounds_toArray, List.set_cons_zero, List.set_cons_succ]
    refine take_val 8 _ _ (.agg #[.float .f32 0, .float .f32 0, .float .f32 0, .float .f32 0]) rfl (by rfl) (by kernel_rfl) (by kernel_rfl) (by kernel_rfl) (fun w => by unfold execOp; go_simp) rfl rfl k10.tail.tail ?_
    simp only [Act.put, List.setIfInBounds_toArray, List.set_cons_zero, List.set_cons_succ]
    refine take_val 9 _ _ (.int .i64 4) rfl (by rfl) (by kernel_rfl) (by kernel_rfl) (by kernel_rfl) (fun w => by unfold execOp; go_simp) rfl rfl k10.tail.tail ?_
    simp only [Act.put, List.setIfInBounds_toArray, List.set_cons_zero, List.set_cons_succ]
    refine wpAnyH_ready (rs := [11]) (by kernel_rfl) (by simp) ?_
    refine storeK 11 _ _ (k10.sub (l' := [(g8, #[.float .f32 0, .float .f32 0, .float .f32 0, .float .f32 0], 144), (gh, vls n (flw (upTo (stepW a z n) n)), 22), (w.heap.size, #[.float .f32 a, .float .f32 h, .float .f32 v], 49), (w.heap.size + 1, #[.float .f32 0, .float .f32 0, .float .f32 0], 49)]) (by intro x hx; simp only [List.mem_cons, List.not_mem_nil, or_false] at hx ⊢; rcases hx with rfl | rfl | rfl | rfl <;> simp)) hBg8 (by intro x hx; simp only [List.mem_cons, List.not_mem_nil, or_false] at hx; rcases hx with rfl | rfl | rfl <;> first | exact hng8 (gh, vls n (flw (upTo (stepW a z n) n)), 22) (by simp) | exact hng8 (w.heap.size, #[.float .f32 a, .float .f32 h, .float .f32 v], 49) (by simp) | exact hng8 (w.heap.size + 1, #[.float .f32 0, .float .f32 0, .float .f32 0], 49) (by simp)) rfl (by rfl) 144 _ _ rfl (#[.float .f32 0, .float .f32 0, .float .f32 0, .float .f32 0]) rfl rfl info_ris rfl (by simp [Value.oneCell']) rfl rfl (fun w11 k11 => ?_) AllReadyH.nil
    refine ⟨k11.tail.tail, ?_⟩
    simp only [Act.put, List.setIfInBounds_toArray, List.set_cons_zero, List.set_cons_succ]
    refine take_val 12 _ _ (.int .i64 4) rfl (by rfl) (by kernel_rfl) (by kernel_rfl) (by kernel_rfl) (fun w => by rfl) rfl rfl k11.tail.tail ?_
    simp only [Act.put, List.setIfInBounds_toArray, List.set_cons_zero, List.set_cons_succ]
    refine wpAnyH_done (by kernel_rfl) (NoPanic.normal ?_) _
    have kz := hid (k11.sub (l' := [(g8, #[.float .f32 0, .float .f32 0, .float .f32 0, .float .f32 0], 144), (w.heap.size + 1, #[.float .f32 0, .float .f32 0, .float .f32 0], 49)]) (by simp))
    have hBz := hBg8
    have hnz : g8 ≠ w.heap.size + 1 := Ne.symm (hng8 (w.heap.size + 1, #[.float .f32 0, .float .f32 0, .float .f32 0], 49) (by simp))
    generalize w11 = wz at kz ⊢
    generalize g8 = gz at kz hBz hnz ⊢
    go_wp2_with ((refine store_kept (w0 := w) (l := [(gz, #[.float .f32 0, .float .f32 0, .float .f32 0, .float .f32 0], 144)]) rfl 49 _ _ rfl (w.heap.size + 1) (#[.float .f32 0, .float .f32 0, .float .f32 0]) rfl rfl 49 (#[.float .f32 0, .float .f32 0, .float .f32 0]) (kz.out.swap) (by omega) (by simpa using hnz) info_par rfl (by simp [Value.oneCell']) (fun w7 k7 => ?_); replace k7 := hid k7))
    exact bodyPost_ret (results_row_tmp2 rfl _ _ (w.heap.size + 1) 49 (#[.float .f32 0, .float .f32 0, .float .f32 0]) (0, 0) _ rfl (k7.out.at (x := (w.heap.size + 1, #[.float .f32 0, .float .f32 0, .float .f32 0], 49)) (by simp)) Try.underlying49 rfl info_par) rfl ⟨rfl, k7.out.1⟩
  refine allocK 10 (fun g => _) _ kd rfl (by rfl) (#[.float .f32 0, .float .f32 0, .float .f32 0, .float .f32 0]) 144 (by unfold execOp; go_simp) (fun g => rfl) rfl (fun w12 g12 k12 hBg12 hng12 => ?_) AllReadyH.nil
  refine ⟨k12.tail, ?_⟩
  simp only [Act.put, List.setIfInBounds_toArray, List.set_cons_zero, List.set_cons_succ]
  have hBg12_ := hBg12
  refine wpAnyH_ready (rs := [5]) (by kernel_rfl) (by simp) ?_
  refine callKQ 5 _ (fun y u => ∃ gh, y = .slice (some ⟨gh, 0, none⟩) n n ∧ u.heap[gh]? = some (.cells (vls n (flw (upTo (stepW a z n) n))) 22 (0, 0)) ∧ (∀ x ∈ ([(g12, #[.float .f32 0, .float .f32 0, .float .f32 0, .float .f32 0], 144), (w.heap.size, #[.float .f32 a, .float .f32 h, .float .f32 v], 49), (w.heap.size + 1, #[.float .f32 0, .float .f32 0, .float .f32 0], 49)] : List (Nat × Array Value × TypeId)), x.1 ≠ gh) ∧ w.heap.size ≤ gh) k12 rfl (by rfl) 104 #[.float .f32 a, .float .f32 z, .int .i64 (n : Int)] (fun w => by unfold execOp; go_simp) rfl ?hc14 (fun y14 w14 hv14 k14 hb14 => ?_) AllReadyH.nil
  case hc14 =>
    refine (HHB.out _).mono ?_
    rintro e w' ⟨rfl, hrow, hb⟩
    exact ⟨_, ⟨_, rfl, hrow, k12.fresh, k12.size⟩, rfl, hb⟩
  obtain ⟨gh, rfl, hrow14, hnh, hBh⟩ := hv14
  have kk14 := (k14.add hrow14)
  refine ⟨kk14.tail.tail, ?_⟩
  simp only [Act.put, List.setIfInBounds_toArray, List.set_cons_zero, List.set_cons_succ]
  refine wpAnyH_ready (rs := [6]) (by kernel_rfl) (by simp) ?_
  refine callK 6 _ _ (.tuple #[.agg #[.float .f32 0, .float .f32 0, .float .f32 0, .float .f32 0], .int .i64 4]) kk14 rfl (by rfl) 102 #[.agg #[.float .f32 a, .float .f32 h, .float .f32 v], .int .i64 1, .slice (some ⟨gh, 0, none⟩) n n] (fun w => by unfold execOp; go_simp) rfl rfl ?hc16 (fun w16 k16 => ?_) AllReadyH.nil
  case hc16 => exact HR.out _ gh (fun j hj => ((show vAt _ gh n (flw (upTo (stepW a z n) n)) 22 from kk14.at (x := (gh, vls n (flw (upTo (stepW a z n) n)), 22)) (by simp)).fcell hj).trans (by unfold upTo; rw [if_pos hj]))
  refine ⟨k16.tail.tail, ?_⟩
  simp only [Act.put, List.setIfInBounds_toArray, List.set_cons_zero, List.set_cons_succ]
  refine take_val 7 _ _ (.tuple #[.agg #[.float .f32 0, .float .f32 0, .float .f32 0, .float .f32 0], .int .i64 4]) rfl (by rfl) (by kernel_rfl) (by kernel_rfl) (by kernel_rfl) (fun w => by rfl) rfl rfl k16.tail.tail ?_
  simp only [Act.put, List.setIfInBounds_toArray, List.set_cons_zero, List.set_cons_succ]
  refine take_val 8 _ _ (.agg #[.float .f32 0, .float .f32 0, .float .f32 0, .float .f32 0]) rfl (by rfl) (by kernel_rfl) (by kernel_rfl) (by kernel_rfl) (fun w => by unfold execOp; go_simp) rfl rfl k16.tail.tail ?_
  simp only [Act.put, List.setIfInBounds_toArray, List.set_cons_zero, List.set_cons_succ]
  refine take_val 9 _ _ (.int .i64 4) rfl (by rfl) (by kernel_rfl) (by kernel_rfl) (by kernel_rfl) (fun w => by unfold execOp; go_simp) rfl rfl k16.tail.tail ?_
  simp only [Act.put, List.setIfInBounds_toArray, List.set_cons_zero, List.set_cons_succ]
  refine wpAnyH_ready (rs := [11]) (by kernel_rfl) (by simp) ?_
  refine storeK 11 _ _ (k16.sub (l' := [(g12, #[.float .f32 0, .float .f32 0, .float .f32 0, .float .f32 0], 144), (gh, vls n (flw (upTo (stepW a z n) n)), 22), (w.heap.size, #[.float .f32 a, .float .f32 h, .float .f32 v], 49), (w.heap.size + 1, #[.float .f32 0, .float .f32 0, .float .f32 0], 49)]) (by intro x hx; simp only [List.mem_cons, List.not_mem_nil, or_false] at hx ⊢; rcases hx with rfl | rfl | rfl | rfl <;> simp)) hBg12 (by intro x hx; simp only [List.mem_cons, List.not_mem_nil, or_false] at hx; rcases hx with rfl | rfl | rfl <;> first | exact Ne.symm (hnh (g12, #[.float .f32 0, .float .f32 0, .float .f32 0, .float .f32 0], 144) (by simp)) | exact hng12 (w.heap.size, #[.float .f32 a, .float .f32 h, .float .f32 v], 49) (by simp) | exact hng12 (w.heap.size + 1, #[.float .f32 0, .float .f32 0, .float .f32 0], 49) (by simp)) rfl (by rfl) 144 _ _ rfl (#[.float .f32 0, .float .f32 0, .float .f32 0, .float .f32 0]) rfl rfl info_ris rfl (by simp [Value.oneCell']) rfl rfl (fun w17 k17 => ?_) AllReadyH.nil
  refine ⟨k17.tail.tail, ?_⟩
  simp only [Act.put, List.setIfInBounds_toArray, List.set_cons_zero, List.set_cons_succ]
  refine take_val 12 _ _ (.int .i64 4) rfl (by rfl) (by kernel_rfl) (by kernel_rfl) (by kernel_rfl) (fun w => by rfl) rfl rfl k17.tail.tail ?_
  simp only [Act.put, List.setIfInBounds_toArray, List.set_cons_zero, List.set_cons_succ]
  refine wpAnyH_done (by kernel_rfl) (NoPanic.normal ?_) _
  have kz := hid (k17.sub (l' := [(g12, #[.float .f32 0, .float .f32 0, .float .f32 0, .float .f32 0], 144), (w.heap.size + 1, #[.float .f32 0, .float .f32 0, .float .f32 0], 49)]) (by simp))
  have hBz := hBg12
  have hnz : g12 ≠ w.heap.size + 1 := Ne.symm (hng12 (w.heap.size + 1, #[.float .f32 0, .float .f32 0, .float .f32 0], 49) (by simp))
  generalize w17 = wz at kz ⊢
  generalize g12 = gz at kz hBz hnz ⊢
  go_wp2_with ((refine store_kept (w0 := w) (l := [(gz, #[.float .f32 0, .float .f32 0, .float .f32 0, .float .f32 0], 144)]) rfl 49 _ _ rfl (w.heap.size + 1) (#[.float .f32 0, .float .f32 0, .float .f32 0]) rfl rfl 49 (#[.float .f32 0, .float .f32 0, .float .f32 0]) (kz.out.swap) (by omega) (by simpa using hnz) info_par rfl (by simp [Value.oneCell']) (fun w7 k7 => ?_); replace k7 := hid k7))
  exact bodyPost_ret (results_row_tmp2 rfl _ _ (w.heap.size + 1) 49 (#[.float .f32 0, .float .f32 0, .float .f32 0]) (0, 0) _ rfl (k7.out.at (x := (w.heap.size + 1, #[.float .f32 0, .float .f32 0, .float .f32 0], 49)) (by simp)) Try.underlying49 rfl info_par) rfl ⟨rfl, k7.out.1⟩

set_option maxRecDepth 100000 in
set_option maxHeartbeats 4000000 in
theorem sMoist_ok (a h v z n : Nat) (hx : h < 4294967296) (hp : parB a h v = true) (hq : hgtB z = true) (hn : n ≤ 100) (h1 : 1 ≤ n) (hall : ∀ j, j < n → moB a z n h v j = true) (w : World) :
    Calls Try.prog 103 #[.agg #[.float .f32 a, .float .f32 h, .float .f32 v], .float .f32 z, .int .i64 (n : Int)] w fun e w' => e = .returned (.tuple #[.agg #[.float .f32 z, .float .f32 (moSt a z n h v n).h, .float .f32 (moSt a z n h v n).v], .float .f32 (moSt a z n h v n).f, .int .i64 0]) ∧ Below w.heap.size w w' := by
  have Ha : Hgt a := hgt_iff.1 (parB_iff.1 hp).1
  have Hz : Hgt z := hgt_iff.1 hq
  have hA := (parB_iff.1 hp).2
  have HM := hid (fun k (hk : k ≤ n) => mo_facts (h := h) (v := v) Ha Hz hn hx hA k (by omega) (fun j hj => hall j (by omega)))
  have HS := hid (fun k (hk : k < n) => step_facts (k := k) Ha Hz hn hk)
  have HD := hid (fun k (hk : k < n) (m : MoF (moSt a z n h v k)) => mo_rd Ha Hz hn hk m)
  have HNx := hid (fun k (hk : k < n) (m : MoF (moSt a z n h v k)) (hb : moB a z n h v k = true) => mo_next Ha Hz hn hk m hb)
  have HAll := hid hall
  have HN := hid hn
  have r1 := fun w => run_float_arith (P := Try.prog) w .sub 22 .f32 _ _ _ (step_facts Ha Hz hn (k := 0) (by omega)).s1
  have k0 : Hid (Kept w [(w.heap.size, #[.float .f32 a, .float .f32 h, .float .f32 v], 49), (w.heap.size + 1, #[.float .f32 0, .float .f32 0, .float .f32 0], 49)] ((w.alloc (.cells #[.float .f32 a, .float .f32 h, .float .f32 v] 49)).alloc (.cells #[.float .f32 0, .float .f32 0, .float .f32 0] 49))) := hid ((((Kept.nil w).push _ _).push _ _).sub (by simp))
  clear hx hp hq hn h1 hall hA Ha Hz
  go_enter Try.func103, Try.ntmps103
  go_wp2_with fail
  clear r1
  go_loopw [12, 11] (fun i gs wr => ∃ k : Nat, k ≤ n ∧ i = .int .i64 ((k : Int) + 1) ∧ gs = .float .f32 (moSt a z n h v k).f ∧ Hid (Kept w [(w.heap.size, #[.float .f32 (moSt a z n h v k).a, .float .f32 (moSt a z n h v k).h, .float .f32 (moSt a z n h v k).v], 49), (w.heap.size + 1, #[.float .f32 0, .float .f32 0, .float .f32 0], 49)] wr)) (fun i _ _ => n + 1 - (intOf i).toNat)
  case atStart => exact ⟨0, by omega, rfl, rfl, k0⟩
  case round =>
    obtain ⟨k, hk, rfl, rfl, hK⟩ := hrel
    clear k0
    by_cases hlt : k < n
    · have HK := hid hlt
      have hkn : k < n := hlt
      have hle : (k : Int) + 1 ≤ (n : Int) := by omega
      have D := HS.out k hkn
      have m0 := HM.out k hk
      have hb := HAll.out k hlt
      have nx := HNx.out k hkn m0 hb
      have r2 := fun w => run_float_arith (P := Try.prog) w .quo 22 .f32 _ _ _ D.s2
      have r3 := fun w => run_float_arith (P := Try.prog) w .mul 22 .f32 _ _ _ D.s3
      have r4 := fun w => run_float_arith (P := Try.prog) w .add 22 .f32 _ _ _ D.s4
      have r5 := hid (fun w => run_float_arith (P := Try.prog) w .add 22 .f32 _ _ _ nx.2)
      have cv1 : ∀ w, (convert 2 22 (.int .i64 ((k : Int) + 1))).run Try.prog w = .ok (.float .f32 (fiW ((k : Int) + 1))) w := fun w => rfl
      have cv2 : ∀ w, (convert 2 22 (.int .i64 (n : Int))).run Try.prog w = .ok (.float .f32 (fiW (n : Int))) w := fun w => rfl
      have HRs := hid (fun u => sRaise_ok (moSt a z n h v k).a (moSt a z n h v k).h (moSt a z n h v k).v (stepW a z n k) m0.vw (HD.out k hkn m0) hb u)
      have HSt := hid (fun u => sSettle (moR a z n h v k) (moSt a z n h v k).v (HD.out k hkn m0).lt hb _ _ _ mo_sett u)
      have HA := hid (fun u g T hg => sAirOk_t (moSt a z n h v (k + 1)).h (moSt a z n h v (k + 1)).v nx.1.air u g T hg)
      clear D m0 hb nx hlt hkn hk
      go_wp2_with (refine wpList_load_row rfl 49 _ rfl (w.heap.size) rfl 49 (#[.float .f32 (moSt a z n h v k).a, .float .f32 (moSt a z n h v k).h, .float .f32 (moSt a z n h v k).v]) (0, 0) _ (hK.out.at (x := (w.heap.size, #[.float .f32 (moSt a z n h v k).a, .float .f32 (moSt a z n h v k).h, .float .f32 (moSt a z n h v k).v], 49)) (by simp)) Try.underlying49 rfl info_par ?_)
      refine (HRs.out _).mono ?_
      rintro e w2 ⟨rfl, hb2⟩
      have k2 := hid (hK.out.stay hb2)
      have hlt2 := k2.out.lt (x := (w.heap.size + 1, #[.float .f32 0, .float .f32 0, .float .f32 0], 49)) (by simp)
      have k3 : Hid (Kept w [(w2.heap.size, #[.float .f32 (stepW a z n k), .float .f32 (moR a z n h v k), .float .f32 (moSt a z n h v k).v], 49), (w.heap.size, #[.float .f32 (moSt a z n h v k).a, .float .f32 (moSt a z n h v k).h, .float .f32 (moSt a z n h v k).v], 49), (w.heap.size + 1, #[.float .f32 0, .float .f32 0, .float .f32 0], 49)] (w2.alloc (.cells #[.float .f32 (stepW a z n k), .float .f32 (moR a z n h v k), .float .f32 (moSt a z n h v k).v] 49))) := hid (k2.out.push _ _)
      have hg2 : w.heap.size + 1 < w2.heap.size := by simpa using hlt2
      clear k2 hb2 hK hlt2 r2 r3 r4 cv1 cv2 hle
      go_wp2_with (refine wpList_load_cut (by rfl) 47 _ rfl (w2.heap.size) 1 rfl #[.float .f32 (stepW a z n k), .float .f32 (moR a z n h v k), .float .f32 (moSt a z n h v k).v] 49 (k3.out.at (x := (w2.heap.size, #[.float .f32 (stepW a z n k), .float .f32 (moR a z n h v k), .float .f32 (moSt a z n h v k).v], 49)) (by simp)) [.float .f32 (moR a z n h v k), .float .f32 (moSt a z n h v k).v] rfl _ Try.underlying47 rfl info_air ?_)
      refine (HSt.out _).mono ?_
      rintro e w4 ⟨rfl, hb4⟩
      have k4 := hid (k3.out.stay hb4)
      have hlt4 := k4.out.lt (x := (w2.heap.size, #[.float .f32 (stepW a z n k), .float .f32 (moR a z n h v k), .float .f32 (moSt a z n h v k).v], 49)) (by simp)
      have k5 : Hid (Kept w [(w4.heap.size, #[.float .f32 (moSt a z n h v (k + 1)).h, .float .f32 (moSt a z n h v (k + 1)).v], 47), (w2.heap.size, #[.float .f32 (stepW a z n k), .float .f32 (moR a z n h v k), .float .f32 (moSt a z n h v k).v], 49), (w.heap.size, #[.float .f32 (moSt a z n h v k).a, .float .f32 (moSt a z n h v k).h, .float .f32 (moSt a z n h v k).v], 49), (w.heap.size + 1, #[.float .f32 0, .float .f32 0, .float .f32 0], 49)] (w4.alloc (.cells #[.float .f32 (moSt a z n h v (k + 1)).h, .float .f32 (moSt a z n h v (k + 1)).v] 47))) := hid (k4.out.push _ _)
      have hg4 : w2.heap.size < w4.heap.size := by simpa using hlt4
      clear k3 k4 hb4 hlt4
      go_wp2_with fail
      refine (HA.out _ w4.heap.size 47 (k5.out.at (x := (w4.heap.size, #[.float .f32 (moSt a z n h v (k + 1)).h, .float .f32 (moSt a z n h v (k + 1)).v], 47)) (by simp))).mono ?_
      rintro e w5 ⟨rfl, rfl⟩
      generalize World.alloc w4 (.cells #[.float .f32 (moSt a z n h v (k + 1)).h, .float .f32 (moSt a z n h v (k + 1)).v] 47) = w5 at k5 ⊢
      generalize w2.heap.size = g2 at k5 hg2 hg4 ⊢
      generalize w4.heap.size = g4 at k5 hg4 ⊢
      have r6 := r5.out
      have hkk := HK.out
      have hnn := HN.out
      clear HRs HSt HA HK
      have tok1 : True := trivial
      go_wp2_with (first | (have _t := k6; first | (refine wpList_load_row rfl 49 _ rfl (g2) rfl 49 (#[.float .f32 (moSt a z n h v (k + 1)).a, .float .f32 (moSt a z n h v (k + 1)).h, .float .f32 (moSt a z n h v (k + 1)).v]) (0, 0) _ (k6.out.at (x := (g2, #[.float .f32 (moSt a z n h v (k + 1)).a, .float .f32 (moSt a z n h v (k + 1)).h, .float .f32 (moSt a z n h v (k + 1)).v], 49)) (by simp)) Try.underlying49 rfl info_par ?_) | (refine store_kept (w0 := w) (l := [(g2, #[.float .f32 (moSt a z n h v (k + 1)).a, .float .f32 (moSt a z n h v (k + 1)).h, .float .f32 (moSt a z n h v (k + 1)).v], 49), (g4, #[.float .f32 (moSt a z n h v (k + 1)).h, .float .f32 (moSt a z n h v (k + 1)).v], 47), (w.heap.size + 1, #[.float .f32 0, .float .f32 0, .float .f32 0], 49)]) rfl 49 _ _ rfl (w.heap.size) (#[.float .f32 (moSt a z n h v (k + 1)).a, .float .f32 (moSt a z n h v (k + 1)).h, .float .f32 (moSt a z n h v (k + 1)).v]) rfl rfl 49 (#[.float .f32 (moSt a z n h v k).a, .float .f32 (moSt a z n h v k).h, .float .f32 (moSt a z n h v k).v]) (k6.out.sub (by intro x hx; simp only [List.mem_cons, List.not_mem_nil, or_false] at hx ⊢; rcases hx with rfl | rfl | rfl | rfl <;> simp)) (Nat.le_refl _) (by simp; omega) info_par rfl (by simp [Value.oneCell']) (fun w7 k7 => ?_); have k8 := hid (k7.sub (l' := [(w.heap.size, #[.float .f32 (moSt a z n h v (k + 1)).a, .float .f32 (moSt a z n h v (k + 1)).h, .float .f32 (moSt a z n h v (k + 1)).v], 49), (w.heap.size + 1, #[.float .f32 0, .float .f32 0, .float .f32 0], 49)]) (by simp)); clear k7 k5)) | (refine wpList_load_row rfl 47 _ rfl (g4) rfl 47 (#[.float .f32 (moSt a z n h v (k + 1)).h, .float .f32 (moSt a z n h v (k + 1)).v]) (0, 0) _ (k5.out.at (x := (g4, #[.float .f32 (moSt a z n h v (k + 1)).h, .float .f32 (moSt a z n h v (k + 1)).v], 47)) (by simp)) Try.underlying47 rfl info_air ?_) | (refine store_part (w0 := w) (l := [(g4, #[.float .f32 (moSt a z n h v (k + 1)).h, .float .f32 (moSt a z n h v (k + 1)).v], 47), (w.heap.size, #[.float .f32 (moSt a z n h v k).a, .float .f32 (moSt a z n h v k).h, .float .f32 (moSt a z n h v k).v], 49), (w.heap.size + 1, #[.float .f32 0, .float .f32 0, .float .f32 0], 49)]) rfl 47 _ _ rfl g2 1 rfl #[.float .f32 (moSt a z n h v (k + 1)).h, .float .f32 (moSt a z n h v (k + 1)).v] rfl #[.float .f32 (stepW a z n k), .float .f32 (moR a z n h v k), .float .f32 (moSt a z n h v k).v] #[.float .f32 (moSt a z n h v (k + 1)).a, .float .f32 (moSt a z n h v (k + 1)).h, .float .f32 (moSt a z n h v (k + 1)).v] 49 (k5.out.sub (by intro x hx; simp only [List.mem_cons, List.not_mem_nil, or_false] at hx ⊢; rcases hx with rfl | rfl | rfl | rfl <;> simp)) (by omega) (by simp; omega) (by simp) info_air (by simp [Value.oneCell']) rfl (fun w6 k6 => ?_); replace k6 := hid k6))
      go_roundw
      case rel => exact ⟨k + 1, by omega, by go_num, rfl, k8⟩
      case measure => simp [intOf]; omega
    · obtain rfl : k = n := by omega
      have hle : ¬ ((k : Int) + 1 ≤ (k : Int)) := by omega
      have c0 : World.cell? wr ⟨w.heap.size, 0, none⟩ = some (.float .f32 (moSt a z k h v k).a) := (cell_of_row wr (w.heap.size) 0 _ _ _ (hK.out.at (x := (w.heap.size, #[.float .f32 (moSt a z k h v k).a, .float .f32 (moSt a z k h v k).h, .float .f32 (moSt a z k h v k).v], 49)) (by simp))).trans rfl
      have z0 : World.frozen? wr ⟨w.heap.size, 0, none⟩ = false := frozen_of_row wr (w.heap.size) 0 _ _ (hK.out.at (x := (w.heap.size, #[.float .f32 (moSt a z k h v k).a, .float .f32 (moSt a z k h v k).h, .float .f32 (moSt a z k h v k).v], 49)) (by simp))
      have k5 : Hid (Kept w [(w.heap.size, #[.float .f32 z, .float .f32 (moSt a z k h v k).h, .float .f32 (moSt a z k h v k).v], 49), (w.heap.size + 1, #[.float .f32 0, .float .f32 0, .float .f32 0], 49)] (wr.setCell ⟨w.heap.size, 0, none⟩ (.float .f32 z))) := hid (hK.out.lcell (Nat.le_refl _) (by simp) 0 (.float .f32 z))
      clear hlt hK
      go_wp2_with (first | (refine wpList_load_row rfl 49 _ rfl (w.heap.size) rfl 49 (#[.float .f32 z, .float .f32 (moSt a z k h v k).h, .float .f32 (moSt a z k h v k).v]) (0, 0) _ (k5.out.at (x := (w.heap.size, #[.float .f32 z, .float .f32 (moSt a z k h v k).h, .float .f32 (moSt a z k h v k).v], 49)) (by simp)) Try.underlying49 rfl info_par ?_) | (refine store_kept (w0 := w) (l := [(w.heap.size, #[.float .f32 z, .float .f32 (moSt a z k h v k).h, .float .f32 (moSt a z k h v k).v], 49)]) rfl 49 _ _ rfl (w.heap.size + 1) (#[.float .f32 z, .float .f32 (moSt a z k h v k).h, .float .f32 (moSt a z k h v k).v]) rfl rfl 49 (#[.float .f32 0, .float .f32 0, .float .f32 0]) (k5.out.swap) (by omega) (by first | (simp; done) | (simp; omega)) info_par rfl (by simp [Value.oneCell']) (fun w7 k7 => ?_); replace k7 := hid k7))
      exact bodyPost_ret (results_row_tmp2 rfl _ _ (w.heap.size + 1) 49 (#[.float .f32 z, .float .f32 (moSt a z k h v k).h, .float .f32 (moSt a z k h v k).v]) (0, 0) _ rfl (k7.out.at (x := (w.heap.size + 1, #[.float .f32 z, .float .f32 (moSt a z k h v k).h, .float .f32 (moSt a z k h v k).v], 49)) (by simp)) Try.underlying49 rfl info_par) rfl ⟨rfl, k7.out.1⟩

set_option maxRecDepth 100000 in
set_option maxHeartbeats 4000000 in
theorem sMoist_f (a h v z n : Nat) (hx : h < 4294967296) (hp : parB a h v = true) (hq : hgtB z = true) (hn : n ≤ 100) (h1 : 1 ≤ n) (m : Nat) (hm : m < n) (hall : ∀ j, j < m → moB a z n h v j = true) (hstop : moB a z n h v m = false) (w : World) :
    Calls Try.prog 103 #[.agg #[.float .f32 a, .float .f32 h, .float .f32 v], .float .f32 z, .int .i64 (n : Int)] w fun e w' => e = .returned (.tuple #[.agg #[.float .f32 0, .float .f32 0, .float .f32 0], .float .f32 0, .int .i64 4]) ∧ Below w.heap.size w w' := by
  have Ha : Hgt a := hgt_iff.1 (parB_iff.1 hp).1
  have Hz : Hgt z := hgt_iff.1 hq
  have hA := (parB_iff.1 hp).2
  have HM := hid (fun k (hk : k ≤ m) => mo_facts (h := h) (v := v) Ha Hz hn hx hA k (by omega) (fun j hj => hall j (by omega)))
  have HS := hid (fun k (hk : k < n) => step_facts (k := k) Ha Hz hn hk)
  have HD := hid (fun k (hk : k < n) (m : MoF (moSt a z n h v k)) => mo_rd Ha Hz hn hk m)
  have HNx := hid (fun k (hk : k < n) (m : MoF (moSt a z n h v k)) (hb : moB a z n h v k = true) => mo_next Ha Hz hn hk m hb)
  have HAll := hid hall
  have HN := hid hn
  have HStop := hid hstop
  have HMn := hid hm
  have r1 := fun w => run_float_arith (P := Try.prog) w .sub 22 .f32 _ _ _ (step_facts Ha Hz hn (k := 0) (by omega)).s1
  have k0 : Hid (Kept w [(w.heap.size, #[.float .f32 a, .float .f32 h, .float .f32 v], 49), (w.heap.size + 1, #[.float .f32 0, .float .f32 0, .float .f32 0], 49)] ((w.alloc (.cells #[.float .f32 a, .float .f32 h, .float .f32 v] 49)).alloc (.cells #[.float .f32 0, .float .f32 0, .float .f32 0] 49))) := hid ((((Kept.nil w).push _ _).push _ _).sub (by simp))
  clear hx hp hq hn h1 hall hA Ha Hz hm hstop
  go_enter Try.func103, Try.ntmps103
  go_wp2_with fail
  clear r1
  go_loopw [12, 11] (fun i gs wr => ∃ k : Nat, k ≤ m ∧ i = .int .i64 ((k : Int) + 1) ∧ gs = .float .f32 (moSt a z n h v k).f ∧ Hid (Kept w [(w.heap.size, #[.float .f32 (moSt a z n h v k).a, .float .f32 (moSt a z n h v k).h, .float .f32 (moSt a z n h v k).v], 49), (w.heap.size + 1, #[.float .f32 0, .float .f32 0, .float .f32 0], 49)] wr)) (fun i _ _ => n + 1 - (intOf i).toNat)
  case atStart => exact ⟨0, by omega, rfl, rfl, k0⟩
  case round =>
    obtain ⟨k, hk, rfl, rfl, hK⟩ := hrel
    clear k0
    by_cases hlt : k < m
    · have HK := hid hlt
      have hkn : k < n := (by have := HMn.out; omega)
      have hle : (k : Int) + 1 ≤ (n : Int) := by omega
      have D := HS.out k hkn
      have m0 := HM.out k hk
      have hb := HAll.out k hlt
      have nx := HNx.out k hkn m0 hb
      have r2 := fun w => run_float_arith (P := Try.prog) w .quo 22 .f32 _ _ _ D.s2
      have r3 := fun w => run_float_arith (P := Try.prog) w .mul 22 .f32 _ _ _ D.s3
      have r4 := fun w => run_float_arith (P := Try.prog) w .add 22 .f32 _ _ _ D.s4
      have r5 := hid (fun w => run_float_arith (P := Try.prog) w .add 22 .f32 _ _ _ nx.2)
      have cv1 : ∀ w, (convert 2 22 (.int .i64 ((k : Int) + 1))).run Try.prog w = .ok (.float .f32 (fiW ((k : Int) + 1))) w := fun w => rfl
      have cv2 : ∀ w, (convert 2 22 (.int .i64 (n : Int))).run Try.prog w = .ok (.float .f32 (fiW (n : Int))) w := fun w => rfl
      have HRs := hid (fun u => sRaise_ok (moSt a z n h v k).a (moSt a z n h v k).h (moSt a z n h v k).v (stepW a z n k) m0.vw (HD.out k hkn m0) hb u)
      have HSt := hid (fun u => sSettle (moR a z n h v k) (moSt a z n h v k).v (HD.out k hkn m0).lt hb _ _ _ mo_sett u)
      have HA := hid (fun u g T hg => sAirOk_t (moSt a z n h v (k + 1)).h (moSt a z n h v (k + 1)).v nx.1.air u g T hg)
      clear D m0 hb nx hlt hkn hk
      go_wp2_with (refine wpList_load_row rfl 49 _ rfl (w.heap.size) rfl 49 (#[.float .f32 (moSt a z n h v k).a, .float .f32 (moSt a z n h v k).h, .float .f32 (moSt a z n h v k).v]) (0, 0) _ (hK.out.at (x := (w.heap.size, #[.float .f32 (moSt a z n h v k).a, .float .f32 (moSt a z n h v k).h, .float .f32 (moSt a z n h v k).v], 49)) (by simp)) Try.underlying49 rfl info_par ?_)
      refine (HRs.out _).mono ?_
      rintro e w2 ⟨rfl, hb2⟩
      have k2 := hid (hK.out.stay hb2)
      have hlt2 := k2.out.lt (x := (w.heap.size + 1, #[.float .f32 0, .float .f32 0, .float .f32 0], 49)) (by simp)
      have k3 : Hid (Kept w [(w2.heap.size, #[.float .f32 (stepW a z n k), .float .f32 (moR a z n h v k), .float .f32 (moSt a z n h v k).v], 49), (w.heap.size, #[.float .f32 (moSt a z n h v k).a, .float .f32 (moSt a z n h v k).h, .float .f32 (moSt a z n h v k).v], 49), (w.heap.size + 1, #[.float .f32 0, .float .f32 0, .float .f32 0], 49)] (w2.alloc (.cells #[.float .f32 (stepW a z n k), .float .f32 (moR a z n h v k), .float .f32 (moSt a z n h v k).v] 49))) := hid (k2.out.push _ _)
      have hg2 : w.heap.size + 1 < w2.heap.size := by simpa using hlt2
      clear k2 hb2 hK hlt2 r2 r3 r4 cv1 cv2 hle
      go_wp2_with (refine wpList_load_cut (by rfl) 47 _ rfl (w2.heap.size) 1 rfl #[.float .f32 (stepW a z n k), .float .f32 (moR a z n h v k), .float .f32 (moSt a z n h v k).v] 49 (k3.out.at (x := (w2.heap.size, #[.float .f32 (stepW a z n k), .float .f32 (moR a z n h v k), .float .f32 (moSt a z n h v k).v], 49)) (by simp)) [.float .f32 (moR a z n h v k), .float .f32 (moSt a z n h v k).v] rfl _ Try.underlying47 rfl info_air ?_)
      refine (HSt.out _).mono ?_
      rintro e w4 ⟨rfl, hb4⟩
      have k4 := hid (k3.out.stay hb4)
      have hlt4 := k4.out.lt (x := (w2.heap.size, #[.float .f32 (stepW a z n k), .float .f32 (moR a z n h v k), .float .f32 (moSt a z n h v k).v], 49)) (by simp)
      have k5 : Hid (Kept w [(w4.heap.size, #[.float .f32 (moSt a z n h v (k + 1)).h, .float .f32 (moSt a z n h v (k + 1)).v], 47), (w2.heap.size, #[.float .f32 (stepW a z n k), .float .f32 (moR a z n h v k), .float .f32 (moSt a z n h v k).v], 49), (w.heap.size, #[.float .f32 (moSt a z n h v k).a, .float .f32 (moSt a z n h v k).h, .float .f32 (moSt a z n h v k).v], 49), (w.heap.size + 1, #[.float .f32 0, .float .f32 0, .float .f32 0], 49)] (w4.alloc (.cells #[.float .f32 (moSt a z n h v (k + 1)).h, .float .f32 (moSt a z n h v (k + 1)).v] 47))) := hid (k4.out.push _ _)
      have hg4 : w2.heap.size < w4.heap.size := by simpa using hlt4
      clear k3 k4 hb4 hlt4
      go_wp2_with fail
      refine (HA.out _ w4.heap.size 47 (k5.out.at (x := (w4.heap.size, #[.float .f32 (moSt a z n h v (k + 1)).h, .float .f32 (moSt a z n h v (k + 1)).v], 47)) (by simp))).mono ?_
      rintro e w5 ⟨rfl, rfl⟩
      generalize World.alloc w4 (.cells #[.float .f32 (moSt a z n h v (k + 1)).h, .float .f32 (moSt a z n h v (k + 1)).v] 47) = w5 at k5 ⊢
      generalize w2.heap.size = g2 at k5 hg2 hg4 ⊢
      generalize w4.heap.size = g4 at k5 hg4 ⊢
      have r6 := r5.out
      have hkk := HK.out
      have hnn := HN.out
      have hmm := HMn.out
      clear HRs HSt HA HK
      have tok1 : True := trivial
      go_wp2_with (first | (have _t := k6; first | (refine wpList_load_row rfl 49 _ rfl (g2) rfl 49 (#[.float .f32 (moSt a z n h v (k + 1)).a, .float .f32 (moSt a z n h v (k + 1)).h, .float .f32 (moSt a z n h v (k + 1)).v]) (0, 0) _ (k6.out.at (x := (g2, #[.float .f32 (moSt a z n h v (k + 1)).a, .float .f32 (moSt a z n h v (k + 1)).h, .float .f32 (moSt a z n h v (k + 1)).v], 49)) (by simp)) Try.underlying49 rfl info_par ?_) | (refine store_kept (w0 := w) (l := [(g2, #[.float .f32 (moSt a z n h v (k + 1)).a, .float .f32 (moSt a z n h v (k + 1)).h, .float .f32 (moSt a z n h v (k + 1)).v], 49), (g4, #[.float .f32 (moSt a z n h v (k + 1)).h, .float .f32 (moSt a z n h v (k + 1)).v], 47), (w.heap.size + 1, #[.float .f32 0, .float .f32 0, .float .f32 0], 49)]) rfl 49 _ _ rfl (w.heap.size) (#[.float .f32 (moSt a z n h v (k + 1)).a, .float .f32 (moSt a z n h v (k + 1)).h, .float .f32 (moSt a z n h v (k + 1)).v]) rfl rfl 49 (#[.float .f32 (moSt a z n h v k).a, .float .f32 (moSt a z n h v k).h, .float .f32 (moSt a z n h v k).v]) (k6.out.sub (by intro x hx; simp only [List.mem_cons, List.not_mem_nil, or_false] at hx ⊢; rcases hx with rfl | rfl | rfl | rfl <;> simp)) (Nat.le_refl _) (by simp; omega) info_par rfl (by simp [Value.oneCell']) (fun w7 k7 => ?_); have k8 := hid (k7.sub (l' := [(w.heap.size, #[.float .f32 (moSt a z n h v (k + 1)).a, .float .f32 (moSt a z n h v (k + 1)).h, .float .f32 (moSt a z n h v (k + 1)).v], 49), (w.heap.size + 1, #[.float .f32 0, .float .f32 0, .float .f32 0], 49)]) (by simp)); clear k7 k5)) | (refine wpList_load_row rfl 47 _ rfl (g4) rfl 47 (#[.float .f32 (moSt a z n h v (k + 1)).h, .float .f32 (moSt a z n h v (k + 1)).v]) (0, 0) _ (k5.out.at (x := (g4, #[.float .f32 (moSt a z n h v (k + 1)).h, .float .f32 (moSt a z n h v (k + 1)).v], 47)) (by simp)) Try.underlying47 rfl info_air ?_) | (refine store_part (w0 := w) (l := [(g4, #[.float .f32 (moSt a z n h v (k + 1)).h, .float .f32 (moSt a z n h v (k + 1)).v], 47), (w.heap.size, #[.float .f32 (moSt a z n h v k).a, .float .f32 (moSt a z n h v k).h, .float .f32 (moSt a z n h v k).v], 49), (w.heap.size + 1, #[.float .f32 0, .float .f32 0, .float .f32 0], 49)]) rfl 47 _ _ rfl g2 1 rfl #[.float .f32 (moSt a z n h v (k + 1)).h, .float .f32 (moSt a z n h v (k + 1)).v] rfl #[.float .f32 (stepW a z n k), .float .f32 (moR a z n h v k), .float .f32 (moSt a z n h v k).v] #[.float .f32 (moSt a z n h v (k + 1)).a, .float .f32 (moSt a z n h v (k + 1)).h, .float .f32 (moSt a z n h v (k + 1)).v] 49 (k5.out.sub (by intro x hx; simp only [List.mem_cons, List.not_mem_nil, or_false] at hx ⊢; rcases hx with rfl | rfl | rfl | rfl <;> simp)) (by omega) (by simp; omega) (by simp) info_air (by simp [Value.oneCell']) rfl (fun w6 k6 => ?_); replace k6 := hid k6))
      go_roundw
      case rel => exact ⟨k + 1, by omega, by go_num, rfl, k8⟩
      case measure => simp [intOf]; omega
    · obtain rfl : k = m := by omega
      have hkn : k < n := HMn.out
      have hle : (k : Int) + 1 ≤ (n : Int) := by omega
      have D := HS.out k hkn
      have m0 := HM.out k hk
      have r2 := fun w => run_float_arith (P := Try.prog) w .quo 22 .f32 _ _ _ D.s2
      have r3 := fun w => run_float_arith (P := Try.prog) w .mul 22 .f32 _ _ _ D.s3
      have r4 := fun w => run_float_arith (P := Try.prog) w .add 22 .f32 _ _ _ D.s4
      have cv1 : ∀ w, (convert 2 22 (.int .i64 ((k : Int) + 1))).run Try.prog w = .ok (.float .f32 (fiW ((k : Int) + 1))) w := fun w => rfl
      have cv2 : ∀ w, (convert 2 22 (.int .i64 (n : Int))).run Try.prog w = .ok (.float .f32 (fiW (n : Int))) w := fun w => rfl
      have HRs := hid (fun u => sRaise_f (moSt a z n h v k).a (moSt a z n h v k).h (moSt a z n h v k).v (stepW a z n k) m0.vw (HD.out k hkn m0) HStop.out u)
      clear D m0 hlt hkn hk
      go_wp2_with (refine wpList_load_row rfl 49 _ rfl (w.heap.size) rfl 49 (#[.float .f32 (moSt a z n h v k).a, .float .f32 (moSt a z n h v k).h, .float .f32 (moSt a z n h v k).v]) (0, 0) _ (hK.out.at (x := (w.heap.size, #[.float .f32 (moSt a z n h v k).a, .float .f32 (moSt a z n h v k).h, .float .f32 (moSt a z n h v k).v], 49)) (by simp)) Try.underlying49 rfl info_par ?_)
      refine (HRs.out _).mono ?_
      rintro e w2 ⟨rfl, hb2⟩
      have k2 := hid (hK.out.stay hb2)
      have k3 := hid ((k2.out.push #[.float .f32 0, .float .f32 0, .float .f32 0] 49).sub (l' := [(w.heap.size + 1, #[.float .f32 0, .float .f32 0, .float .f32 0], 49), (w2.heap.size, #[.float .f32 0, .float .f32 0, .float .f32 0], 49)]) (by intro x hx; simp only [List.mem_cons, List.not_mem_nil, or_false] at hx ⊢; rcases hx with rfl | rfl <;> simp))
      have hlt2 := k2.out.lt (x := (w.heap.size + 1, #[.float .f32 0, .float .f32 0, .float .f32 0], 49)) (by simp)
      have hg2 : w2.heap.size ≠ w.heap.size + 1 := by simp at hlt2; omega
      clear k2 hb2 hK hlt2 r2 r3 r4 cv1 cv2 hle
      go_wp2_with (refine store_kept (w0 := w) (l := [(w2.heap.size, #[.float .f32 0, .float .f32 0, .float .f32 0], 49)]) rfl 49 _ _ rfl (w.heap.size + 1) (#[.float .f32 0, .float .f32 0, .float .f32 0]) rfl rfl 49 (#[.float .f32 0, .float .f32 0, .float .f32 0]) (k3.out) (by omega) (by simpa using hg2) info_par rfl (by simp [Value.oneCell']) (fun w7 k7 => ?_); replace k7 := hid k7)
      exact bodyPost_ret (results_row_tmp2 rfl _ _ (w.heap.size + 1) 49 (#[.float .f32 0, .float .f32 0, .float .f32 0]) (0, 0) _ rfl (k7.out.at (x := (w.heap.size + 1, #[.float .f32 0, .float .f32 0, .float .f32 0], 49)) (by simp)) Try.underlying49 rfl info_par) rfl ⟨rfl, k7.out.1⟩

theorem first_before {p : Nat → Bool} {n m : Nat} (h : (List.range n).find? p = some m) : ∀ j, j < m → p j = false := by
  intro j hj
  rcases hp : p j with _ | _
  · rfl
  · exfalso
    have hm : m < n := List.mem_range.1 (List.mem_of_find?_eq_some h)
    obtain ⟨_, i, hi, he, hb⟩ := List.find?_eq_some_iff_getElem.1 h
    have : i = m := by simpa using he
    subst this
    have := hb j hj
    simp [hp] at this

set_option maxRecDepth 100000 in
set_option maxHeartbeats 2000000 in
theorem sRaiseMoist_bad (a h v z : Nat) (q : Int) (ha : a < 4294967296) (hv : v < 4294967296) (hp : parB a h v = false) (w : World) :
    Calls Try.prog 50 #[.agg #[.float .f32 a, .float .f32 h, .float .f32 v], .float .f32 z, .int .i64 q] w fun e w' => e = .returned (.tuple #[.agg #[.float .f32 0, .float .f32 0, .float .f32 0], .float .f32 0, .int .i64 1]) ∧ Below w.heap.size w w' := by
  have k0 : Hid (Kept w [(w.heap.size, #[.float .f32 a, .float .f32 h, .float .f32 v], 49), (w.heap.size + 1, #[.float .f32 0, .float .f32 0, .float .f32 0], 49)] ((w.alloc (.cells #[.float .f32 a, .float .f32 h, .float .f32 v] 49)).alloc (.cells #[.float .f32 0, .float .f32 0, .float .f32 0] 49))) := hid ((((Kept.nil w).push _ _).push _ _).sub (by simp))
  have A0 : Hid (parAt ((w.alloc (.cells #[.float .f32 a, .float .f32 h, .float .f32 v] 49)).alloc (.cells #[.float .f32 0, .float .f32 0, .float .f32 0] 49)) w.heap.size a h v 49) := hid (k0.out.at (x := (w.heap.size, #[.float .f32 a, .float .f32 h, .float .f32 v], 49)) (by simp))
  have HP := hid (fun u g T (hg : parAt u g a h v T) => sParOk a h v ha hv false hp u g T hg)
  clear ha hv hp
  go_enter Try.func50, Try.ntmps50
  go_wp2_with fail
  refine (HP.out _ _ _ A0.out).mono ?_
  rintro e w1 ⟨rfl, hb1⟩
  have k1 := hid (k0.out.stay hb1)
  go_wp2_with (refine store_kept (w0 := w) (l := [(w.heap.size, #[.float .f32 a, .float .f32 h, .float .f32 v], 49)]) rfl 49 _ _ rfl (w.heap.size + 1) (#[.float .f32 0, .float .f32 0, .float .f32 0]) rfl rfl 49 (#[.float .f32 0, .float .f32 0, .float .f32 0]) (k1.out.swap) (by omega) (by first | (simp; done) | (simp; omega)) info_par rfl (by simp [Value.oneCell']) (fun w7 k7 => ?_); replace k7 := hid k7)
  exact bodyPost_ret (results_row_tmp2 rfl _ _ (w.heap.size + 1) 49 (#[.float .f32 0, .float .f32 0, .float .f32 0]) (0, 0) _ rfl (k7.out.at (x := (w.heap.size + 1, #[.float .f32 0, .float .f32 0, .float .f32 0], 49)) (by simp)) Try.underlying49 rfl info_par) rfl ⟨rfl, k7.out.1⟩

set_option maxRecDepth 100000 in
set_option maxHeartbeats 2000000 in
theorem sRaiseMoist_range (a h v z : Nat) (q : Int) (ha : a < 4294967296) (hv : v < 4294967296) (hz : z < 4294967296) (hp : parB a h v = true) (hr : hgtB z = false ∨ q < 1 ∨ 100 < q) (w : World) :
    Calls Try.prog 50 #[.agg #[.float .f32 a, .float .f32 h, .float .f32 v], .float .f32 z, .int .i64 q] w fun e w' => e = .returned (.tuple #[.agg #[.float .f32 0, .float .f32 0, .float .f32 0], .float .f32 0, .int .i64 2]) ∧ Below w.heap.size w w' := by
  have k0 : Hid (Kept w [(w.heap.size, #[.float .f32 a, .float .f32 h, .float .f32 v], 49), (w.heap.size + 1, #[.float .f32 0, .float .f32 0, .float .f32 0], 49)] ((w.alloc (.cells #[.float .f32 a, .float .f32 h, .float .f32 v] 49)).alloc (.cells #[.float .f32 0, .float .f32 0, .float .f32 0] 49))) := hid ((((Kept.nil w).push _ _).push _ _).sub (by simp))
  have A0 : Hid (parAt ((w.alloc (.cells #[.float .f32 a, .float .f32 h, .float .f32 v] 49)).alloc (.cells #[.float .f32 0, .float .f32 0, .float .f32 0] 49)) w.heap.size a h v 49) := hid (k0.out.at (x := (w.heap.size, #[.float .f32 a, .float .f32 h, .float .f32 v], 49)) (by simp))
  have HP := hid (fun u g T (hg : parAt u g a h v T) => sParOk a h v ha hv true hp u g T hg)
  have HH := hid (fun b hb u => sHgt z hz b hb u)
  clear ha hv hp hz
  rcases hb : hgtB z with _ | _
  · clear hr
    go_enter Try.func50, Try.ntmps50
    go_wp2_with fail
    refine (HP.out _ _ _ A0.out).mono ?_
    rintro e w1 ⟨rfl, hb1⟩
    have k1 := hid (k0.out.stay hb1)
    go_wp2_with fail
    refine (HH.out _ hb _).mono ?_
    rintro e w2 ⟨rfl, hb2⟩
    have k2 := hid (k1.out.stay hb2)
    clear k0 k1 A0
    go_wp2_with (refine store_kept (w0 := w) (l := [(w.heap.size, #[.float .f32 a, .float .f32 h, .float .f32 v], 49)]) rfl 49 _ _ rfl (w.heap.size + 1) (#[.float .f32 0, .float .f32 0, .float .f32 0]) rfl rfl 49 (#[.float .f32 0, .float .f32 0, .float .f32 0]) (k2.out.swap) (by omega) (by first | (simp; done) | (simp; omega)) info_par rfl (by simp [Value.oneCell']) (fun w7 k7 => ?_); replace k7 := hid k7)
    exact bodyPost_ret (results_row_tmp2 rfl _ _ (w.heap.size + 1) 49 (#[.float .f32 0, .float .f32 0, .float .f32 0]) (0, 0) _ rfl (k7.out.at (x := (w.heap.size + 1, #[.float .f32 0, .float .f32 0, .float .f32 0], 49)) (by simp)) Try.underlying49 rfl info_par) rfl ⟨rfl, k7.out.1⟩
  · have hr' : ¬ (1 ≤ q ∧ q ≤ 100) := by
      rcases hr with h | h | h
      · rw [hb] at h; cases h
      · omega
      · omega
    clear hr
    have HI := hid (fun u => l00In_f q 1 100 hr' u)
    clear hr'
    go_enter Try.func50, Try.ntmps50
    go_wp2_with fail
    refine (HP.out _ _ _ A0.out).mono ?_
    rintro e w1 ⟨rfl, hb1⟩
    have k1 := hid (k0.out.stay hb1)
    go_wp2_with fail
    refine (HH.out _ hb _).mono ?_
    rintro e w2 ⟨rfl, hb2⟩
    have k2 := hid (k1.out.stay hb2)
    clear k0 k1 A0
    go_wp2_with fail
    refine (HI.out _).mono ?_
    rintro e w3 ⟨rfl, rfl⟩
    go_wp2_with (refine store_kept (w0 := w) (l := [(w.heap.size, #[.float .f32 a, .float .f32 h, .float .f32 v], 49)]) rfl 49 _ _ rfl (w.heap.size + 1) (#[.float .f32 0, .float .f32 0, .float .f32 0]) rfl rfl 49 (#[.float .f32 0, .float .f32 0, .float .f32 0]) (k2.out.swap) (by omega) (by first | (simp; done) | (simp; omega)) info_par rfl (by simp [Value.oneCell']) (fun w7 k7 => ?_); replace k7 := hid k7)
    exact bodyPost_ret (results_row_tmp2 rfl _ _ (w.heap.size + 1) 49 (#[.float .f32 0, .float .f32 0, .float .f32 0]) (0, 0) _ rfl (k7.out.at (x := (w.heap.size + 1, #[.float .f32 0, .float .f32 0, .float .f32 0], 49)) (by simp)) Try.underlying49 rfl info_par) rfl ⟨rfl, k7.out.1⟩

set_option maxRecDepth 100000 in
set_option maxHeartbeats 2000000 in
theorem sRaiseMoist_go (a h v z n : Nat) (ha : a < 4294967296) (hv : v < 4294967296) (hz : z < 4294967296) (hp : parB a h v = true) (hq : hgtB z = true) (h1 : 1 ≤ n) (hn : n ≤ 100) (pa ph pv f : Nat) (c : Int)
    (hL : ∀ u, Calls Try.prog 103 #[.agg #[.float .f32 a, .float .f32 h, .float .f32 v], .float .f32 z, .int .i64 (n : Int)] u fun e u' => e = .returned (.tuple #[.agg #[.float .f32 pa, .float .f32 ph, .float .f32 pv], .float .f32 f, .int .i64 c]) ∧ Below u.heap.size u u') (w : World) :
    Calls Try.prog 50 #[.agg #[.float .f32 a, .float .f32 h, .float .f32 v], .float .f32 z, .int .i64 (n : Int)] w fun e w' => e = .returned (.tuple #[.agg #[.float .f32 pa, .float .f32 ph, .float .f32 pv], .float .f32 f, .int .i64 c]) ∧ Below w.heap.size w w' := by
  have k0 : Hid (Kept w [(w.heap.size, #[.float .f32 a, .float .f32 h, .float .f32 v], 49), (w.heap.size + 1, #[.float .f32 0, .float .f32 0, .float .f32 0], 49)] ((w.alloc (.cells #[.float .f32 a, .float .f32 h, .float .f32 v] 49)).alloc (.cells #[.float .f32 0, .float .f32 0, .float .f32 0] 49))) := hid ((((Kept.nil w).push _ _).push _ _).sub (by simp))
  have A0 : Hid (parAt ((w.alloc (.cells #[.float .f32 a, .float .f32 h, .float .f32 v] 49)).alloc (.cells #[.float .f32 0, .float .f32 0, .float .f32 0] 49)) w.heap.size a h v 49) := hid (k0.out.at (x := (w.heap.size, #[.float .f32 a, .float .f32 h, .float .f32 v], 49)) (by simp))
  have HP := hid (fun u g T (hg : parAt u g a h v T) => sParOk a h v ha hv true hp u g T hg)
  have HH := hid (fun u => sHgt z hz true hq u)
  have HI := hid (fun u => l00In_t (n : Int) 1 100 (by omega) (by omega) u)
  have HL := hid hL
  clear ha hv hp hz hq hL h1 hn
  go_enter Try.func50, Try.ntmps50
  go_wp2_with fail
  refine (HP.out _ _ _ A0.out).mono ?_
  rintro e w1 ⟨rfl, hb1⟩
  have k1 := hid (k0.out.stay hb1)
  go_wp2_with fail
  refine (HH.out _).mono ?_
  rintro e w2 ⟨rfl, hb2⟩
  have k2 := hid (k1.out.stay hb2)
  clear k0 k1 A0
  go_wp2_with fail
  refine (HI.out _).mono ?_
  rintro e w3 ⟨rfl, rfl⟩
  go_wp2_with (refine wpList_load_row rfl 49 _ rfl (w.heap.size) rfl 49 (#[.float .f32 a, .float .f32 h, .float .f32 v]) (0, 0) _ (k2.out.at (x := (w.heap.size, #[.float .f32 a, .float .f32 h, .float .f32 v], 49)) (by simp)) Try.underlying49 rfl info_par ?_)
  refine (HL.out _).mono ?_
  rintro e w3 ⟨rfl, hb3⟩
  have k3 := hid (k2.out.stay hb3)
  clear k2
  go_wp2_with (refine store_kept (w0 := w) (l := [(w.heap.size, #[.float .f32 a, .float .f32 h, .float .f32 v], 49)]) rfl 49 _ _ rfl (w.heap.size + 1) (#[.float .f32 pa, .float .f32 ph, .float .f32 pv]) rfl rfl 49 (#[.float .f32 0, .float .f32 0, .float .f32 0]) (k3.out.swap) (by omega) (by first | (simp; done) | (simp; omega)) info_par rfl (by simp [Value.oneCell']) (fun w7 k7 => ?_); replace k7 := hid k7)
  exact bodyPost_ret (results_row_tmp2 rfl _ _ (w.heap.size + 1) 49 (#[.float .f32 pa, .float .f32 ph, .float .f32 pv]) (0, 0) _ rfl (k7.out.at (x := (w.heap.size + 1, #[.float .f32 pa, .float .f32 ph, .float .f32 pv], 49)) (by simp)) Try.underlying49 rfl info_par) rfl ⟨rfl, k7.out.1⟩

set_option maxRecDepth 100000 in
theorem coreRaiseMoist (x0a x0h x0v : Nat) (x1 : Nat) (x2 : Int) (r0a r0h r0v : Nat) (hlr0a : r0a < 4294967296) (hfr0a : finB r0a = true) (hlr0h : r0h < 4294967296) (hfr0h : finB r0h = true) (hlr0v : r0v < 4294967296) (hfr0v : finB r0v = true) (r1 : Nat) (hl1 : r1 < 4294967296) (r2 : Int)
    (hS : ∀ w, Calls Try.prog 50 #[.agg #[.float .f32 x0a, .float .f32 x0h, .float .f32 x0v], .float .f32 x1, .int .i64 x2] w fun e w' => e = .returned (.tuple #[.agg #[.float .f32 r0a, .float .f32 r0h, .float .f32 r0v], .float .f32 r1, .int .i64 r2]) ∧ Below w.heap.size w w')
    (hI : ∀ w, Calls Try.prog 51 #[.agg #[.float .f32 x0a, .float .f32 x0h, .float .f32 x0v], .float .f32 x1, .int .i64 x2] w fun e w' => e = .returned (.tuple #[.agg #[.float .f32 r0a, .float .f32 r0h, .float .f32 r0v], .float .f32 r1, .int .i64 r2]) ∧ Below w.heap.size w w') (w : World) :
    Calls Try.prog 13 #[.agg #[.float .f32 x0a, .float .f32 x0h, .float .f32 x0v], .float .f32 x1, .int .i64 x2] w fun e w' => e = .returned (.bool true) ∧ Below w.heap.size w w' := by
  have k0 : Hid (Kept w [(w.heap.size, #[.float .f32 x0a, .float .f32 x0h, .float .f32 x0v], 42)] (w.alloc (.cells (#[.float .f32 x0a, .float .f32 x0h, .float .f32 x0v]) 42))) := hid ((Kept.nil w).push (#[.float .f32 x0a, .float .f32 x0h, .float .f32 x0v]) 42)
  have HS := hid hS
  have HI := hid hI
  clear hS hI
  have hcr0a := fun w => run_conv_wid (P := Try.prog) w 22 29 r0a hlr0a Try.underlying22 Try.underlying29 (finB_iff.1 hfr0a)
  have Hlr0a := hid hlr0a
  have Hfr0a := hid hfr0a
  clear hlr0a hfr0a
  have hcr0h := fun w => run_conv_wid (P := Try.prog) w 22 29 r0h hlr0h Try.underlying22 Try.underlying29 (finB_iff.1 hfr0h)
  have Hlr0h := hid hlr0h
  have Hfr0h := hid hfr0h
  clear hlr0h hfr0h
  have hcr0v := fun w => run_conv_wid (P := Try.prog) w 22 29 r0v hlr0v Try.underlying22 Try.underlying29 (finB_iff.1 hfr0v)
  have Hlr0v := hid hlr0v
  have Hfr0v := hid hfr0v
  clear hlr0v hfr0v
  obtain ⟨zf1, wf1, hc1, hd1, hs1⟩ := conv_any (P := Try.prog) 22 29 r1 hl1 Try.underlying22 Try.underlying29
  have S1 := hid hs1
  have D1 := hid hd1
  clear hl1 hs1 hd1
  all_goals
    go_enter Try.func13, Try.ntmps13
    go_wp2_with (refine wpList_load_row rfl 42 _ rfl (w.heap.size) rfl 42 (#[.float .f32 x0a, .float .f32 x0h, .float .f32 x0v]) (0, 0) _ (k0.out.at (x := (w.heap.size, #[.float .f32 x0a, .float .f32 x0h, .float .f32 x0v], 42)) (by simp)) Try.underlying42 rfl (info_lpar) ?_)
    refine (toParcel _ _ _ _).mono ?_
    rintro e u0 ⟨rfl, hb0⟩
    have k1 := hid (k0.out.stay hb0)
    clear hb0
    go_wp2_with fail
    refine (HS.out _).mono ?_
    rintro e u1 ⟨rfl, hb1⟩
    have k2 := hid (k1.out.stay hb1)
    clear hb1
    have mk2 := hid (k2.out.push #[.float .f32 r0a, .float .f32 r0h, .float .f32 r0v] 49)
    go_wp2_with (refine wpList_load_row rfl 42 _ rfl (w.heap.size) rfl 42 (#[.float .f32 x0a, .float .f32 x0h, .float .f32 x0v]) (0, 0) _ (mk2.out.at (x := (w.heap.size, #[.float .f32 x0a, .float .f32 x0h, .float .f32 x0v], 42)) (by simp)) Try.underlying42 rfl (info_lpar) ?_)
    refine (toParcel _ _ _ _).mono ?_
    rintro e u2 ⟨rfl, hb2⟩
    have k3 := hid (mk2.out.stay hb2)
    clear hb2
    go_wp2_with fail
    refine (HI.out _).mono ?_
    rintro e u3 ⟨rfl, hb3⟩
    have k4 := hid (k3.out.stay hb3)
    clear hb3
    have mk4 := hid (k4.out.push #[.float .f32 r0a, .float .f32 r0h, .float .f32 r0v] 49)
    go_wp2_with (first | (refine wpList_load_row rfl 49 _ rfl (u3.heap.size) rfl 49 (#[.float .f32 r0a, .float .f32 r0h, .float .f32 r0v]) (0, 0) _ (mk4.out.at (x := (u3.heap.size, #[.float .f32 r0a, .float .f32 r0h, .float .f32 r0v], 49)) (by simp)) Try.underlying49 rfl (info_par) ?_) | (refine wpList_load_row rfl 49 _ rfl (u1.heap.size) rfl 49 (#[.float .f32 r0a, .float .f32 r0h, .float .f32 r0v]) (0, 0) _ (mk4.out.at (x := (u1.heap.size, #[.float .f32 r0a, .float .f32 r0h, .float .f32 r0v], 49)) (by simp)) Try.underlying49 rfl (info_par) ?_))
    refine (eqParcel r0a r0h r0v Hlr0a.out Hlr0h.out Hlr0v.out Hfr0a.out Hfr0h.out Hfr0v.out _).mono ?_
    rintro e u4 ⟨rfl, hb4⟩
    have k5 := hid (mk4.out.stay hb4)
    go_wp2_with fail
    refine (sameFloat2 _ _ (S1.out _ _) _).mono ?_
    rintro e z1 ⟨rfl, rfl⟩
    have kn1 := hid (kept_wf (kept_wf k5.out (D1.out _)) (D1.out _))
    go_wp2
    go_ret
    exact ⟨rfl, kn1.out.1⟩

theorem lawRaiseMoist (a h v : Nat) (ha : a < 4294967296) (hh : h < 4294967296) (hv : v < 4294967296) (z : Nat) (hz : z < 4294967296) (q : Int) (_h1 : -9223372036854775808 ≤ q) (_h2 : q ≤ 9223372036854775807) (w : World) :
    Calls Try.prog 13 #[.agg #[.float .f32 a, .float .f32 h, .float .f32 v], .float .f32 z, .int .i64 q] w fun e w' => e = .returned (.bool true) ∧ Below w.heap.size w w' := by
  rcases hp : parB a h v with _ | _
  · exact coreRaiseMoist a h v z q 0 0 0 (by decide) (by decide) (by decide) (by decide) (by decide) (by decide) 0 (by decide) 1 (sRaiseMoist_bad a h v z q ha hv hp) (iRaiseMoist_bad a h v z q ha hv hp) w
  · by_cases hr : hgtB z = false ∨ q < 1 ∨ 100 < q
    · exact coreRaiseMoist a h v z q 0 0 0 (by decide) (by decide) (by decide) (by decide) (by decide) (by decide) 0 (by decide) 2 (sRaiseMoist_range a h v z q ha hv hz hp hr) (iRaiseMoist_range a h v z q ha hv hz hp hr) w
    · have hq : hgtB z = true := by
        rcases hb : hgtB z with _ | _
        · exact absurd (.inl hb) hr
        · rfl
      have h1 : 1 ≤ q := by
        apply Int.not_lt.1; intro hlt; exact hr (.inr (.inl hlt))
      have h2 : q ≤ 100 := by
        apply Int.not_lt.1; intro hlt; exact hr (.inr (.inr hlt))
      obtain ⟨n, rfl⟩ := Int.eq_ofNat_of_zero_le (show 0 ≤ q by omega)
      have n1 : 1 ≤ n := by omega
      have n2 : n ≤ 100 := by omega
      rcases hs : firstB (fun k => !moB a z n h v k) n with _ | m
      · have hall : ∀ j, j < n → moB a z n h v j = true := fun j hj => by
          unfold firstB at hs
          have := List.find?_eq_none.1 hs j (List.mem_range.2 hj)
          simpa using this
        have m0 := mo_facts (hgt_iff.1 (parB_iff.1 hp).1) (hgt_iff.1 hq) n2 hh (parB_iff.1 hp).2 n (Nat.le_refl _) hall
        obtain ⟨q5, q6, _⟩ := airB_iff.1 m0.air
        exact coreRaiseMoist a h v z n z _ _ hz (amt_fin (hgt_amt hq)) m0.hw (heat_fin m0.hw q5) m0.vw (amt_fin q6) _ (nn_lt m0.fn) 0 (sRaiseMoist_go a h v z n ha hv hz hp hq n1 n2 _ _ _ _ 0 (sMoist_ok a h v z n hh hp hq n2 n1 hall)) (iRaiseMoist_ok a h v z n hh hv hp hq n1 n2 hall) w
      · have hm := firstB_lt hs
        have hstop : moB a z n h v m = false := by
          unfold firstB at hs
          have := List.find?_some hs
          simpa using this
        have hall : ∀ j, j < m → moB a z n h v j = true := fun j hj => by
          unfold firstB at hs
          have := first_before hs j hj
          simpa using this
        exact coreRaiseMoist a h v z n 0 0 0 (by decide) (by decide) (by decide) (by decide) (by decide) (by decide) 0 (by decide) 4 (sRaiseMoist_go a h v z n ha hv hz hp hq n1 n2 _ _ _ _ 4 (sMoist_f a h v z n hh hp hq n2 n1 m hm hall hstop)) (iRaiseMoist_f a h v z n hh hv hp hq n1 n2 m hm hall hstop) w
end Go.Proofs.Ytdmnlbfmcibohaa

namespace Go.Proofs.Ytdmnlbfmcibohaa.fnExactRaiseMoist
open Go.RowKit Go.Fl Go.ChangeShapes Go.WideShapes Go.ChangeAt

set_option maxHeartbeats 2000000 in
theorem closed : joinedFacts Try.prog 13 Try.f13 Rows.fnExactRaiseMoistSpec Rows.fnExactRaiseMoistRow = true := by
  unfold joinedFacts
  simp only [Bool.and_eq_true]
  exact ⟨⟨⟨⟨⟨⟨⟨⟨⟨⟨⟨⟨⟨⟨⟨⟨⟨⟨⟨⟨⟨⟨⟨⟨⟨⟨⟨⟨⟨⟨⟨(by as_aux_lemma => kernel_rfl),
    laid⟩,
    rowed⟩,
    (by as_aux_lemma => kernel_rfl)⟩,
    (by as_aux_lemma => kernel_rfl)⟩,
    (by as_aux_lemma => kernel_rfl)⟩,
    (by rw [no_stops]; rfl)⟩,
    (by as_aux_lemma => kernel_rfl)⟩,
    (by rw [no_knobs]; rfl)⟩,
    (by as_aux_lemma => kernel_rfl)⟩,
    (by as_aux_lemma => kernel_rfl)⟩,
    (by as_aux_lemma => kernel_rfl)⟩,
    (by as_aux_lemma => kernel_rfl)⟩,
    (by as_aux_lemma => kernel_rfl)⟩,
    (by as_aux_lemma => kernel_rfl)⟩,
    (by as_aux_lemma => kernel_rfl)⟩,
    (by as_aux_lemma => kernel_rfl)⟩,
    (by as_aux_lemma => kernel_rfl)⟩,
    (by as_aux_lemma => kernel_rfl)⟩,
    (by as_aux_lemma => kernel_rfl)⟩,
    (by as_aux_lemma => kernel_rfl)⟩,
    (by as_aux_lemma => kernel_rfl)⟩,
    (show (Rows.fnExactRaiseMoistRow.plainKeys == Try.prog.plainKeys) = true by rw [plain_keys]; rfl)⟩,
    (by as_aux_lemma => kernel_rfl)⟩,
    stops_heard⟩,
    may_enter⟩,
    (show (Rows.fnExactRaiseMoistRow.lifted == Try.prog.liftsFinal) = true by rw [lifts_final]; rfl)⟩,
    (show (Try.prog.make == some Rows.fnExactRaiseMoistRow.make) = true by rw [made]; rfl)⟩,
    (by as_aux_lemma => kernel_rfl)⟩,
    (by as_aux_lemma => kernel_rfl)⟩,
    (by as_aux_lemma => kernel_rfl)⟩,
    (by as_aux_lemma => kernel_rfl)⟩

set_option maxRecDepth 100000 in
theorem lifted (os : Os) (started : os.Started) (H : Type) (enc : TypeId × Value → H) :
    ReturnsInHanded {} Try.checked os 13 .any (Rows.fnExactRaiseMoistSpec.pre6 enc Try.prog Try.f13 Rows.fnExactRaiseMoistRow.domain false) (Rows.fnExactRaiseMoistSpec.post enc Try.prog Try.f13 false true false false) := by
  refine LawFrame.lifted (C := Try.checked) (fn := Try.f13) (n := 3) (tb := 4) started own (by kernel_rfl) Try.func13 laid ?_ rfl rfl ?_ rfl Try.underlying4
    (ChangeSpec.witness6 (enc := enc) (C := Try.checked) false ⟨#[], #[.agg #[.float .f32 0, .float .f32 0, .float .f32 0], .float .f32 0, .int .i64 0], []⟩ 8 (by kernel_rfl) (by kernel_rfl) (by kernel_rfl) (by kernel_rfl)) ?_
  · intro t ht
    simp only [Try.params13, List.mem_cons, List.not_mem_nil, or_false] at ht
    rcases ht with rfl | rfl | rfl <;> first | exact rdf | exact rdi | exact rdq
  · intro ds hd
    match ds, hd with
    | [_, _, _], _ => rfl
  · intro W base args ds ps hval hn _
    obtain ⟨v0, v1, v2, rfl⟩ : ∃ v0 v1 v2, args = #[v0, v1, v2] := arr3 hn
    obtain ⟨c0, rfl, hb0⟩ := open_floats Try.underlying42 rfl Try.underlying22 cells3 types3 (hval 0 42 v0 rfl rfl)
    obtain ⟨c1, rfl, hb1⟩ := open_f32 Try.underlying22 (hval 1 22 v1 rfl rfl)
    obtain ⟨c2, rfl, hb2, hc2⟩ := open_i64 Try.underlying2 (hval 2 2 v2 rfl rfl)
    simp only [vls3]
    exact lawRaiseMoist (c0 0) (c0 1) (c0 2) (hb0 0 (by decide)) (hb0 1 (by decide)) (hb0 2 (by decide)) c1 hb1 c2 hb2 hc2 W

theorem over : Rows.fnExactRaiseMoistRow.holds Try.pinned (OpenSpec.ofChange Rows.fnExactRaiseMoistSpec) :=
  OpenClaim.holds_of_wide 13 Try.f13 rfl rfl rfl rfl rfl rfl rfl ⟨rfl, rfl, rfl, rfl, rfl⟩ rfl rfl rfl rfl rfl (by kernel_rfl) Try.func13 closed
    (of_decide_eq_true (by kernel_rfl)) (by unfold Func.isWrapper; rw [if_neg (by decide +kernel)]; exact ⟨rfl, rfl⟩)
    (fun os started H enc _ => lifted os started H enc)

theorem proved : Rows.FnExactRaiseMoistSaid := over
#print axioms proved
end Go.Proofs.Ytdmnlbfmcibohaa.fnExactRaiseMoist
