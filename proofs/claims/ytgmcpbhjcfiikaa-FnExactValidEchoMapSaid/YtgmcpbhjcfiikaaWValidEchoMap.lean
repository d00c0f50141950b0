import Derived.Test.YtgmcpbhjcfiikaaCValidEchoMap
import Derived.Test.YtgmcpbhjcfiikaaChecked
import Derived.Test.YtgmcpbhjcfiikaaRows
import Derived.Laws.FloatArith
import Derived.ProofKit
import Derived.WalkKit
import Derived.WalkLawsBesides
import Derived.WalkSpells
import Derived.Deep.QuietTactic
import Derived.BigQuiet
import Derived.Deep.RegionHeld3
import Derived.ChangeKeysEq
import Derived.Laws.BitsAllLaws
import Derived.Deep.MidRow
import Derived.Deep.WholeRow
import Derived.StillTailTactics
import Derived.Deep.Slices
import Derived.ChangeSame
import Derived.OrdersIn
import Derived.ControlIn
import Derived.RangeFuncSeq
import Derived.RangeFuncNested
import Derived.ArgAppend
import Derived.OwnWalkIn
import Derived.TacticsInMore
import Derived.Below
import Derived.Laws.AppendOwn
import Derived.RangeFuncLeaves
import Derived.RangeFuncBox
import Derived.LoopNIn
import Derived.LoopIn
import Derived.Shelf.Abstract
import Derived.Deep.Strs
import Derived.OpenShut
/- The law FnExactValidEchoMap of chapter 1: at every argument the call returns true, and what was there before it is as it was. -/
namespace Go.Proofs.Ytgmcpbhjcfiikaa
open Go.RowKit Go.Fl

@[go_sem] theorem ext_f64bits (y : Nat) (w : World) : (callFunc 230 #[.float .f64 y]).run Try.prog w = .ok (.value (.int .u64 y)) w := by
  rw [run_callFunc_extern Try.func230 (by kernel_rfl) (by kernel_rfl) (by kernel_rfl) (e := Extern.MathFloatBits.float64bits) (by kernel_rfl)]
  rfl

@[go_sem] theorem ext_f64from (n : Int) (w : World) : (callFunc 204 #[.int .u64 n]).run Try.prog w = .ok (.value (.float .f64 n.toNat)) w := by
  rw [run_callFunc_extern Try.func204 (by kernel_rfl) (by kernel_rfl) (by kernel_rfl) (e := Extern.MathFloatBits.float64frombits) (by kernel_rfl)]
  rfl

theorem hid {p : Prop} (h : p) : Hid p := h

theorem clear_sign (y : Nat) (h : y < 18446744073709551616) : (bits BinOp.andNot IntKind.u64 (y : Int) 9223372036854775808).toNat = y % 9223372036854775808 := by
  rw [u64_andNot _ _ (by omega) (by omega) (by omega) (by omega)]
  rw [Int.toNat_natCast, Int.toNat_natCast]
  exact Nat.and_two_pow_sub_one_eq_mod y 63

theorem abs_f64 (y : Nat) (h : y < 18446744073709551616) (w : World) :
    Calls Try.prog 215 #[.float .f64 y] w fun e w' => e = .returned (.float .f64 (y % 9223372036854775808)) ∧ w = w' := by
  have hc := hid (clear_sign y h)
  clear h
  go_enter Try.func215, Try.ntmps215
  go_wp2
  go_ret
  exact ⟨by simp [hc.out], rfl⟩

theorem isNaN_f64 (y : Nat) (w : World) :
    Calls Try.prog 168 #[.float .f64 y] w fun e w' => e = .returned (.bool (FloatKind.f64.format.order y y != some .eq)) ∧ w = w' := by
  go_enter Try.func168, Try.ntmps168
  go_wp2
  go_ret
  exact ⟨rfl, rfl⟩

theorem isInf_f64 (y : Nat) (h : y < 18446744073709551616) (w : World) :
    Calls Try.prog 169 #[.float .f64 y, .int .i64 0] w fun e w' => e = .returned (.bool (FloatKind.f64.format.order (y % 9223372036854775808) 9218868437227405311 == some .gt)) ∧ w = w' := by
  have hc := hid h
  clear h
  go_enter Try.func169, Try.ntmps169
  go_wp2_with (go_at_call 215; refine (abs_f64 y hc.out _).mono ?_; rintro e w' ⟨rfl, rfl⟩)
  go_ret
  exact ⟨rfl, rfl⟩

theorem isFinite_t (x : Nat) (hx : x < 4294967296) (h : finB x = true) (w : World) :
    Calls Try.prog 96 #[.float .f32 x] w fun e w' => e = .returned (.bool true) ∧ w = w' := by
  rw [finB_iff] at h
  have hc := fun w => run_conv_wid (P := Try.prog) w 23 30 x hx Try.underlying23 Try.underlying30 h
  obtain ⟨a, b, m, e, hr⟩ := read_wid_fin hx h
  have hn : (FloatKind.f64.format.order (wid x) (wid x) != some .eq) = false := by
    show (D.order (wid x) (wid x) != some .eq) = false
    rw [order_self hr]; rfl
  have hi : (FloatKind.f64.format.order (wid x % 9223372036854775808) 9218868437227405311 == some .gt) = false := by
    show (D.order (wid x % 9223372036854775808) 9218868437227405311 == some .gt) = false
    rw [b, order_ltD a (by decide)]
    rw [DINF_val] at a
    have hle : wid (mg x) ≤ 9218868437227405311 := by omega
    rcases Nat.lt_or_eq_of_le hle with h' | h'
    · rw [Nat.compare_eq_lt.2 h']; rfl
    · rw [Nat.compare_eq_eq.2 h']; rfl
  have hw : wid x < 18446744073709551616 := D.write_lt _
  have Hn := hid hn
  have Hi := hid hi
  have Hw := hid hw
  clear hn hi hw hr a b h hx
  go_enter Try.func96, Try.ntmps96
  go_wp2_with (first | (go_at_call 168; refine (isNaN_f64 (wid x) _).mono ?_; rintro e w' ⟨rfl, rfl⟩; rw [Hn.out]) | (go_at_call 169; refine (isInf_f64 (wid x) Hw.out _).mono ?_; rintro e w' ⟨rfl, rfl⟩; rw [Hi.out]))
  go_ret
  exact ⟨rfl, rfl⟩

theorem isFinite_f (x : Nat) (hx : x < 4294967296) (h : finB x = false) (w : World) :
    Calls Try.prog 96 #[.float .f32 x] w fun e w' => e = .returned (.bool false) ∧ Below w.heap.size w w' := by
  rw [finB_iff'] at h
  rcases Nat.lt_or_eq_of_le h with h | h
  · obtain ⟨z, hc, h1, _⟩ := run_conv_nan (P := Try.prog) w 23 30 x Try.underlying23 Try.underlying30 h
    obtain ⟨s, t, hr⟩ := read_nanD h1
    have Hn := hid (show (FloatKind.f64.format.order z z != some .eq) = true by
      show (D.order z z != some .eq) = true
      rw [order_nan hr]; rfl)
    clear h h1 hr hx
    go_enter Try.func96, Try.ntmps96
    go_wp2_with (go_at_call 168; refine (isNaN_f64 z _).mono ?_; rintro e w' ⟨rfl, rfl⟩; rw [Hn.out])
    go_ret
    exact ⟨rfl, (Below.refl _ _).drew⟩
  · obtain ⟨z, hc, h1, h2⟩ := run_conv_inf (P := Try.prog) w 23 30 x hx Try.underlying23 Try.underlying30 h.symm
    have hr : D.read z = .infinity (decide (9223372036854775808 ≤ z)) := by rw [read_signD h2, h1, read_DINF]
    have Hn := hid (show (FloatKind.f64.format.order z z != some .eq) = false by
      show (D.order z z != some .eq) = false
      rw [order_inf hr]; rfl)
    have Hi := hid (show (FloatKind.f64.format.order (z % 9223372036854775808) 9218868437227405311 == some .gt) = true by
      rw [h1]; decide)
    have H2 := hid h2
    clear h h1 hr hx h2
    go_enter Try.func96, Try.ntmps96
    go_wp2_with (first | (go_at_call 168; refine (isNaN_f64 z _).mono ?_; rintro e w' ⟨rfl, rfl⟩; rw [Hn.out]) | (go_at_call 169; refine (isInf_f64 z H2.out _).mono ?_; rintro e w' ⟨rfl, rfl⟩; rw [Hi.out]))
    go_ret
    exact ⟨rfl, Below.refl _ _⟩

theorem signbit_f64 (y : Nat) (w : World) :
    Calls Try.prog 205 #[.float .f64 y] w fun e w' => e = .returned (.bool (decide (wrap64 (y : Int) < 0))) ∧ w = w' := by
  go_enter Try.func205, Try.ntmps205
  go_wp2
  go_ret
  exact ⟨rfl, rfl⟩

theorem and_sign (y : Nat) (h : y < 18446744073709551616) : (decide (wrap64 (y : Int) < 0)) = decide (9223372036854775808 ≤ y) := by
  unfold wrap64
  by_cases h' : 9223372036854775808 ≤ y
  · rw [decide_eq_true h']; simp; omega
  · rw [decide_eq_false h']; simp; omega

theorem isAmount_t (x : Nat) (h : amtB x = true) (w : World) :
    Calls Try.prog 139 #[.float .f32 x] w fun e w' => e = .returned (.bool true) ∧ w = w' := by
  have hf := amt_fin h
  rw [amtB_iff, INF_val] at h
  have hx : x < 4294967296 := by omega
  have hc := fun w => run_conv_wid (P := Try.prog) w 23 30 x hx Try.underlying23 Try.underlying30 (finB_iff.1 hf)
  have hw : wid x < 18446744073709551616 := D.write_lt _
  have Hs := hid (show (decide (wrap64 (wid x : Int) < 0)) = false by
    rw [and_sign _ hw]
    have := (wid_val (x := x) (by rw [INF_val]; omega)).1
    rw [DINF_val] at this
    simp; omega)
  have Hx := hid hx
  have Hf := hid hf
  clear h hf hx hw
  go_enter Try.func139, Try.ntmps139
  go_wp2_with (first | (go_at_call 96; refine (isFinite_t x Hx.out Hf.out _).mono ?_; rintro e w' ⟨rfl, rfl⟩) | (go_at_call 205; refine (signbit_f64 (wid x) _).mono ?_; rintro e w' ⟨rfl, rfl⟩; rw [Hs.out]))
  go_ret
  exact ⟨rfl, rfl⟩

theorem isAmount_f (x : Nat) (hx : x < 4294967296) (h : amtB x = false) (w : World) :
    Calls Try.prog 139 #[.float .f32 x] w fun e w' => e = .returned (.bool false) ∧ Below w.heap.size w w' := by
  rcases hf : finB x with _ | _
  · have Hx := hid hx
    have Hf := hid hf
    clear h hf hx
    go_enter Try.func139, Try.ntmps139
    go_wp2_with (go_at_call 96; refine (isFinite_f x Hx.out Hf.out _).mono ?_; rintro e w' ⟨rfl, hb⟩)
    go_ret
    exact ⟨rfl, hb⟩
  · have hc := fun w => run_conv_wid (P := Try.prog) w 23 30 x hx Try.underlying23 Try.underlying30 (finB_iff.1 hf)
    have hw : wid x < 18446744073709551616 := D.write_lt _
    have Hs := hid (show (decide (wrap64 (wid x : Int) < 0)) = true by
      rw [and_sign _ hw, wid_fin hx (finB_iff.1 hf)]
      rw [amtB_iff', INF_val] at h
      rw [finB_iff, INF_val] at hf
      unfold mg at hf ⊢
      rw [if_pos (by omega)]
      simp)
    have Hx := hid hx
    have Hf := hid hf
    clear h hf hx hw
    go_enter Try.func139, Try.ntmps139
    go_wp2_with (first | (go_at_call 96; refine (isFinite_t x Hx.out Hf.out _).mono ?_; rintro e w' ⟨rfl, rfl⟩) | (go_at_call 205; refine (signbit_f64 (wid x) _).mono ?_; rintro e w' ⟨rfl, rfl⟩; rw [Hs.out]))
    go_ret
    exact ⟨rfl, Below.refl _ _⟩

@[go_sem] theorem ext_f32bits (y : Nat) (w : World) : (callFunc 194 #[.float .f32 y]).run Try.prog w = .ok (.value (.int .u32 y)) w := by
  rw [run_callFunc_extern Try.func194 (by kernel_rfl) (by kernel_rfl) (by kernel_rfl) (e := Extern.MathFloatBits.float32bits) (by kernel_rfl)]
  rfl

theorem sFinite_t (x : Nat) (hx : x < 4294967296) (h : finB x = true) (w : World) :
    Calls Try.prog 89 #[.float .f32 x] w fun e w' => e = .returned (.bool true) ∧ w = w' := by
  have hr := fun w => run_float_arith (P := Try.prog) w .sub 23 .f32 x x 0 (sub_self_fin hx h)
  clear h hx
  go_enter Try.func89, Try.ntmps89
  go_wp2
  go_ret
  exact ⟨rfl, rfl⟩

theorem sFinite_f (x : Nat) (hx : x < 4294967296) (h : finB x = false) (w : World) :
    Calls Try.prog 89 #[.float .f32 x] w fun e w' => e = .returned (.bool false) ∧ Below w.heap.size w w' := by
  obtain ⟨z, hr, h1, _⟩ := run_arith_nan (P := Try.prog) w .sub (by simp) 23 x x (sub_self_none hx h)
  have Hn := hid (show (FloatKind.f32.format.order z 0 == some .eq) = false by
    show (S.order z 0 == some .eq) = false
    rw [order_nan32 h1]; rfl)
  clear h hx h1
  go_enter Try.func89, Try.ntmps89
  go_wp2
  go_ret
  exact ⟨by simp [Hn.out], (Below.refl _ _).drew⟩

theorem sAmount_t (x : Nat) (h : amtB x = true) (w : World) :
    Calls Try.prog 125 #[.float .f32 x] w fun e w' => e = .returned (.bool true) ∧ w = w' := by
  have hf := amt_fin h
  have h' := amtB_iff.1 h
  have hx : x < 4294967296 := by rw [INF_val] at h'; omega
  have Hx := hid hx
  have Hf := hid hf
  by_cases h0 : x = 0
  · subst h0
    clear h hf h' hx
    go_enter Try.func125, Try.ntmps125
    go_wp2_with (go_at_call 89; refine (sFinite_t 0 Hx.out Hf.out _).mono ?_; rintro e w' ⟨rfl, rfl⟩)
    go_ret
    exact ⟨rfl, rfl⟩
  · have hg : (FloatKind.f32.format.order x 0 == some .gt) = true := by
      show (S.order x 0 == some .gt) = true
      rw [order_zero_pos h', Nat.compare_eq_gt.2 (by omega)]; rfl
    clear h hf h' hx h0
    go_enter Try.func125, Try.ntmps125
    go_wp2_with (go_at_call 89; refine (sFinite_t x Hx.out Hf.out _).mono ?_; rintro e w' ⟨rfl, rfl⟩)
    go_ret
    exact ⟨rfl, rfl⟩

theorem sAmount_f (x : Nat) (hx : x < 4294967296) (h : amtB x = false) (w : World) :
    Calls Try.prog 125 #[.float .f32 x] w fun e w' => e = .returned (.bool false) ∧ Below w.heap.size w w' := by
  rcases hf : finB x with _ | _
  · have Hx := hid hx
    have Hf := hid hf
    clear h hf hx
    go_enter Try.func125, Try.ntmps125
    go_wp2_with (go_at_call 89; refine (sFinite_f x Hx.out Hf.out _).mono ?_; rintro e w' ⟨rfl, hb⟩)
    go_ret
    exact ⟨rfl, hb⟩
  · have hs : 2147483648 ≤ x := by
      rw [amtB_iff', INF_val] at h
      have := finB_iff.1 hf
      rw [INF_val] at this
      unfold mg at this
      omega
    have hg : (FloatKind.f32.format.order x 0 == some .gt) = false := order_neg_zero hx hf hs
    have hb : ((x : Int) == 0) = false := by simp; omega
    have Hx := hid hx
    have Hf := hid hf
    clear h hf hx hs
    go_enter Try.func125, Try.ntmps125
    go_wp2_with (go_at_call 89; refine (sFinite_t x Hx.out Hf.out _).mono ?_; rintro e w' ⟨rfl, rfl⟩)
    go_ret
    exact ⟨rfl, Below.refl _ _⟩

theorem back {P : Program} {f : FuncId} {args : Array Value} {w : World} {v : Value} (h : Calls P f args w fun e w' => e = .returned v ∧ w = w') : Calls P f args w fun e w' => e = .returned v ∧ w' = w :=
  h.mono fun _ _ ⟨a, b⟩ => ⟨a, b.symm⟩

theorem l00In_t (n a b : Int) (h1 : a ≤ n) (h2 : n ≤ b) (w : World) :
    Calls Try.prog 91 #[.int .i64 n, .int .i64 a, .int .i64 b] w fun e w' => e = .returned (.bool true) ∧ w = w' := by
  go_enter Try.func91, Try.ntmps91
  go_wp2
  go_ret
  exact ⟨by first | rfl | (simp; done) | (simp; omega), rfl⟩

theorem l00In_f (n a b : Int) (hn : ¬ (a ≤ n ∧ n ≤ b)) (w : World) :
    Calls Try.prog 91 #[.int .i64 n, .int .i64 a, .int .i64 b] w fun e w' => e = .returned (.bool false) ∧ w = w' := by
  by_cases h0 : a ≤ n
  · have h3 : b < n := by omega
    clear hn
    go_enter Try.func91, Try.ntmps91
    go_wp2
    go_ret
    exact ⟨by first | rfl | (simp; done) | (simp; omega), rfl⟩
  · have h3 : n < a := by omega
    have h4 : decide (a ≤ n) = false := by simp; omega
    clear hn h0
    go_enter Try.func91, Try.ntmps91
    go_wp2
    go_ret
    exact ⟨by simp, rfl⟩

theorem sameFloat2 (a b : Nat) (h : Same2 a b) (w : World) :
    Calls Try.prog 23 #[.float .f64 a, .float .f64 b] w fun e w' => e = .returned (.bool true) ∧ w = w' := by
  obtain ⟨h1, h2⟩ := h
  rcases h1 with ⟨h1, rfl⟩ | ⟨h1, h3, h4, h5⟩
  · have hn : (FloatKind.f64.format.order a a != some .eq) = false := by
      show (Ieee.Format.order D a a != some .eq) = false
      rw [h1]; rfl
    have hq : (FloatKind.f64.format.order a a == some .eq) = true := by
      show (Ieee.Format.order D a a == some .eq) = true
      rw [h1]; rfl
    rcases hz : (FloatKind.f64.format.order a 0 == some .eq) with _ | _
    · clear h1 h2
      go_enter Try.func23, Try.ntmps23
      go_wp2
      go_ret
      exact ⟨by simp, rfl⟩
    · obtain ⟨q, hd⟩ := h2 h1 (beq_iff_eq.1 hz)
      have hdiv := fun w => run_float_arith (P := Try.prog) w .quo 30 .f64 4607182418800017408 a q hd
      clear h1 h2 hd
      go_enter Try.func23, Try.ntmps23
      go_wp2
      go_ret
      exact ⟨by simp, rfl⟩
  · have hn : (FloatKind.f64.format.order a a != some .eq) = true := by
      show (Ieee.Format.order D a a != some .eq) = true
      rw [h1]; rfl
    have hm : (FloatKind.f64.format.order b b != some .eq) = true := by
      show (Ieee.Format.order D b b != some .eq) = true
      rw [h3]; rfl
    clear h1 h2 h3 h4 h5
    go_enter Try.func23, Try.ntmps23
    go_wp2
    go_ret
    exact ⟨by simp, rfl⟩

theorem info_spot : (Try.prog.info? 125).map (·.size) = some 2 := by kernel_rfl

theorem info_cell : (Try.prog.info? 127).map (·.size) = some 4 := by kernel_rfl

theorem info_lcell : (Try.prog.info? 130).map (·.size) = some 4 := by kernel_rfl

theorem info_lspot : (Try.prog.info? 124).map (·.size) = some 2 := by kernel_rfl

set_option maxRecDepth 100000 in
theorem toSpot (a b : Int) (w : World) :
    Calls Try.prog 161 #[.agg #[.int .i16 a, .int .i16 b]] w fun e w' => e = .returned (.agg #[.int .i16 a, .int .i16 b]) ∧ Below w.heap.size w w' := by
  have k0 : Hid (Kept w [(w.heap.size + 1 + 1, #[.int .i16 0, .int .i16 0], 125), (w.heap.size + 1, #[.int .i16 0, .int .i16 0], 125), (w.heap.size, #[.int .i16 a, .int .i16 b], 124)] (((w.alloc (.cells #[.int .i16 a, .int .i16 b] 124)).alloc (.cells #[.int .i16 0, .int .i16 0] 125)).alloc (.cells #[.int .i16 0, .int .i16 0] 125))) := hid (((((Kept.nil w).push _ _).push _ _).push _ _).sub (by simp))
  go_enter Try.func161, Try.ntmps161
  go_wp2_with fail
  generalize (((w.alloc (.cells #[.int .i16 a, .int .i16 b] 124)).alloc (.cells #[.int .i16 0, .int .i16 0] 125)).alloc (.cells #[.int .i16 0, .int .i16 0] 125)) = w1 at k0 ⊢
  go_loopw [4] (fun i wr => ∃ x y : Int, Hid (Kept w [(w.heap.size + 1 + 1, #[.int .i16 x, .int .i16 y], 125), (w.heap.size + 1, #[.int .i16 0, .int .i16 0], 125), (w.heap.size, #[.int .i16 a, .int .i16 b], 124)] wr) ∧ ((i = .int .i64 0) ∨ (i = .int .i64 1 ∧ x = a) ∨ (i = .int .i64 2 ∧ x = a ∧ y = b))) (fun i _ => 2 - (intOf i).toNat)
  case atStart => exact ⟨0, 0, k0, .inl rfl⟩
  case round =>
    obtain ⟨x, y, h0, hc⟩ := hrel
    clear k0
    have c0 : wr.cell? ⟨w.heap.size, 0, none⟩ = some (.int .i16 a) := (cell_of_row wr w.heap.size 0 _ _ _ (h0.out.at (x := (w.heap.size, #[.int .i16 a, .int .i16 b], 124)) (by simp))).trans rfl
    have c1 : wr.cell? ⟨w.heap.size, 1, none⟩ = some (.int .i16 b) := (cell_of_row wr w.heap.size 1 _ _ _ (h0.out.at (x := (w.heap.size, #[.int .i16 a, .int .i16 b], 124)) (by simp))).trans rfl
    have hr := h0.out.at (x := (w.heap.size + 1 + 1, #[.int .i16 x, .int .i16 y], 125)) (by simp)
    have d0 : wr.cell? ⟨w.heap.size + 1 + 1, 0, none⟩ = some (.int .i16 x) := (cell_of_row wr _ 0 _ _ _ hr).trans rfl
    have d1 : wr.cell? ⟨w.heap.size + 1 + 1, 1, none⟩ = some (.int .i16 y) := (cell_of_row wr _ 1 _ _ _ hr).trans rfl
    have f0 : wr.frozen? ⟨w.heap.size + 1 + 1, 0, none⟩ = false := frozen_of_row wr _ 0 _ _ hr
    have f1 : wr.frozen? ⟨w.heap.size + 1 + 1, 1, none⟩ = false := frozen_of_row wr _ 1 _ _ hr
    have K0 := hid (h0.out.lcell (by omega) (by simp <;> omega) 0 (.int .i16 a))
    have K1 := hid (h0.out.lcell (by omega) (by simp <;> omega) 1 (.int .i16 b))
    clear hr
    rcases hc with rfl | ⟨rfl, rfl⟩ | ⟨rfl, rfl, rfl⟩
    · go_wp2
      go_roundw
      case rel => exact ⟨a, y, K0, .inr (.inl ⟨by go_num, rfl⟩)⟩
      case measure => simp [intOf]
    · go_wp2
      go_roundw
      case rel => exact ⟨x, b, K1, .inr (.inr ⟨by go_num, rfl, rfl⟩)⟩
      case measure => simp [intOf]
    · clear K0 K1 c0 c1 d0 d1 f0 f1
      go_wp2_with (first | (have _t := h0; refine wpList_load_row rfl 125 _ rfl (w.heap.size + 1 + 1) rfl 125 (#[.int .i16 x, .int .i16 y]) (0, 0) _ (h0.out.at (x := (w.heap.size + 1 + 1, #[.int .i16 x, .int .i16 y], 125)) (by simp)) Try.underlying125 rfl (info_spot) ?_) | (have _t := h0; refine store_kept (w0 := w) (l := []) rfl 125 _ _ rfl (w.heap.size + 1) (#[.int .i16 x, .int .i16 y]) rfl rfl 125 (#[.int .i16 0, .int .i16 0]) (h0.out.sub (by simp)) (by omega) (by simp) (info_spot) (by simp) (by simp [Value.oneCell']) ?_; intro w3 k3; have k3 := hid k3))
      exact bodyPost_ret (results_cell_row rfl _ _ (w.heap.size + 1) 125 #[.int .i16 x, .int .i16 y] (0, 0) _ rfl (k3.out.at (x := (w.heap.size + 1, #[.int .i16 x, .int .i16 y], 125)) (by simp)) Try.underlying125 rfl info_spot) rfl ⟨rfl, k3.out.1⟩

set_option maxRecDepth 100000 in
theorem toCell (a b : Int) (q : Nat) (s : Int) (w : World) :
    Calls Try.prog 84 #[.agg #[.int .i16 a, .int .i16 b, .float .f32 q, .int .i64 s]] w fun e w' => e = .returned (.agg #[.int .i16 a, .int .i16 b, .float .f32 q, .int .i64 s]) ∧ Below w.heap.size w w' := by
  have k0 : Hid (Kept w [(w.heap.size + 1 + 1, #[.int .i16 0, .int .i16 0, .float .f32 0, .int .i64 0], 127), (w.heap.size + 1, #[.int .i16 0, .int .i16 0, .float .f32 0, .int .i64 0], 127), (w.heap.size, #[.int .i16 a, .int .i16 b, .float .f32 q, .int .i64 s], 130)] (((w.alloc (.cells #[.int .i16 a, .int .i16 b, .float .f32 q, .int .i64 s] 130)).alloc (.cells #[.int .i16 0, .int .i16 0, .float .f32 0, .int .i64 0] 127)).alloc (.cells #[.int .i16 0, .int .i16 0, .float .f32 0, .int .i64 0] 127))) := hid (((((Kept.nil w).push _ _).push _ _).push _ _).sub (by simp))
  go_enter Try.func84, Try.ntmps84
  go_wp2_with (refine wpList_load_cut rfl 124 _ rfl w.heap.size 0 rfl _ _ (k0.out.at (x := (w.heap.size, #[.int .i16 a, .int .i16 b, .float .f32 q, .int .i64 s], 130)) (by simp)) [.int .i16 a, .int .i16 b] rfl _ Try.underlying124 rfl info_lspot ?_)
  refine (toSpot a b _).mono ?_
  rintro e w1 ⟨rfl, hb1⟩
  have k1 := hid (k0.out.stay hb1)
  clear k0 hb1
  have tok1 : True := trivial
  go_wp2_with (first | (have _t := tok1; refine store_part (w0 := w) rfl 125 _ _ rfl (w.heap.size + 1 + 1) 0 rfl #[.int .i16 a, .int .i16 b] rfl _ #[.int .i16 a, .int .i16 b, .float .f32 0, .int .i64 0] _ k1.out (by omega) (by simp <;> omega) (by simp) info_spot (by simp [Value.oneCell']) rfl ?_; intro w2 k2; clear tok1; have k2 := hid k2; have hr := k2.out.at (x := (w.heap.size + 1 + 1, #[.int .i16 a, .int .i16 b, .float .f32 0, .int .i64 0], 127)) (by simp); have hl := k2.out.at (x := (w.heap.size, #[.int .i16 a, .int .i16 b, .float .f32 q, .int .i64 s], 130)) (by simp); have c2 : w2.cell? ⟨w.heap.size, 2, none⟩ = some (.float .f32 q) := (cell_of_row w2 _ 2 _ _ _ hl).trans rfl; have c3 : w2.cell? ⟨w.heap.size, 3, none⟩ = some (.int .i64 s) := (cell_of_row w2 _ 3 _ _ _ hl).trans rfl; have d2 : w2.cell? ⟨w.heap.size + 1 + 1, 2, none⟩ = some (.float .f32 0) := (cell_of_row w2 _ 2 _ _ _ hr).trans rfl; have d3 : w2.cell? ⟨w.heap.size + 1 + 1, 3, none⟩ = some (.int .i64 0) := (cell_of_row w2 _ 3 _ _ _ hr).trans rfl; have f2 : w2.frozen? ⟨w.heap.size + 1 + 1, 2, none⟩ = false := frozen_of_row w2 _ 2 _ _ hr; have f3 : w2.frozen? ⟨w.heap.size + 1 + 1, 3, none⟩ = false := frozen_of_row w2 _ 3 _ _ hr; clear hr hl; have k3 : Hid (Kept w [(w.heap.size + 1 + 1, #[.int .i16 a, .int .i16 b, .float .f32 q, .int .i64 s], 127), (w.heap.size + 1, #[.int .i16 0, .int .i16 0, .float .f32 0, .int .i64 0], 127), (w.heap.size, #[.int .i16 a, .int .i16 b, .float .f32 q, .int .i64 s], 130)] ((w2.setCell ⟨w.heap.size + 1 + 1, 2, none⟩ (.float .f32 q)).setCell ⟨w.heap.size + 1 + 1, 3, none⟩ (.int .i64 s))) := hid ((k2.out.lcell (by omega) (by simp <;> omega) 2 (.float .f32 q)).lcell (by omega) (by simp <;> omega) 3 (.int .i64 s))) | (have _t := k3; refine wpList_load_row rfl 127 _ rfl (w.heap.size + 1 + 1) rfl 127 (#[.int .i16 a, .int .i16 b, .float .f32 q, .int .i64 s]) (0, 0) _ (k3.out.at (x := (w.heap.size + 1 + 1, #[.int .i16 a, .int .i16 b, .float .f32 q, .int .i64 s], 127)) (by simp)) Try.underlying127 rfl info_cell ?_) | (have _t := k3; refine store_kept (w0 := w) (l := []) rfl 127 _ _ rfl (w.heap.size + 1) (#[.int .i16 a, .int .i16 b, .float .f32 q, .int .i64 s]) rfl rfl 127 (#[.int .i16 0, .int .i16 0, .float .f32 0, .int .i64 0]) (k3.out.sub (by simp)) (by omega) (by simp) info_cell (by simp) (by simp [Value.oneCell']) ?_; intro w4 k4; have k4 := hid k4))
  exact bodyPost_ret (results_cell_row rfl _ _ (w.heap.size + 1) 127 #[.int .i16 a, .int .i16 b, .float .f32 q, .int .i64 s] (0, 0) _ rfl (k4.out.at (x := (w.heap.size + 1, #[.int .i16 a, .int .i16 b, .float .f32 q, .int .i64 s], 127)) (by simp)) Try.underlying127 rfl info_cell) rfl ⟨rfl, k4.out.1⟩

@[go_sem] theorem semAtSome (l : Nat) (ρ : Operand → Value) (o : Oper) (h : ∀ c, o.op ≠ .defer c) : Oper.semAt (some l) ρ o = execOp ρ o := Oper.semAt_some l ρ o h

@[go_sem] theorem zero_kern : Try.zeroCells58 = vls 400 (flw fun _ => 0) := by kernel_rfl

theorem kept_drewK {w0 : World} {l : List (Nat × Array Value × TypeId)} {w : World} (k : Kept w0 l w) (n : Nat) : Kept w0 l (w.drewN n) := ⟨below_drewN k.1 n, fun x hx => k.2 x hx⟩

set_option maxRecDepth 100000 in
theorem eqSpot (a b : Int) (w : World) :
    Calls Try.prog 163 #[.agg #[.int .i16 a, .int .i16 b], .agg #[.int .i16 a, .int .i16 b]] w fun e w' => e = .returned (.bool true) ∧ Below w.heap.size w w' := by
  have k0 : Hid (Kept w [(w.heap.size + 1, #[.int .i16 a, .int .i16 b], 125), (w.heap.size, #[.int .i16 a, .int .i16 b], 125)] ((w.alloc (.cells #[.int .i16 a, .int .i16 b] 125)).alloc (.cells #[.int .i16 a, .int .i16 b] 125))) := hid ((((Kept.nil w).push _ _).push _ _).sub (by simp))
  go_enter Try.func163, Try.ntmps163
  go_wp2_with fail
  generalize ((w.alloc (.cells #[.int .i16 a, .int .i16 b] 125)).alloc (.cells #[.int .i16 a, .int .i16 b] 125)) = w1 at k0 ⊢
  go_loopw [5] (fun i wr => ((i = .int .i64 0) ∨ (i = .int .i64 1) ∨ (i = .int .i64 2)) ∧ Hid (Kept w [(w.heap.size + 1, #[.int .i16 a, .int .i16 b], 125), (w.heap.size, #[.int .i16 a, .int .i16 b], 125)] wr)) (fun i _ => 2 - (intOf i).toNat)
  case atStart => exact ⟨.inl rfl, k0⟩
  case round =>
    obtain ⟨hc, h0⟩ := hrel
    clear k0
    have ra := h0.out.at (x := (w.heap.size, #[.int .i16 a, .int .i16 b], 125)) (by simp)
    have rb := h0.out.at (x := (w.heap.size + 1, #[.int .i16 a, .int .i16 b], 125)) (by simp)
    have c0 : wr.cell? ⟨w.heap.size, 0, none⟩ = some (.int .i16 a) := (cell_of_row wr _ 0 _ _ _ ra).trans rfl
    have c1 : wr.cell? ⟨w.heap.size, 1, none⟩ = some (.int .i16 b) := (cell_of_row wr _ 1 _ _ _ ra).trans rfl
    have d0 : wr.cell? ⟨w.heap.size + 1, 0, none⟩ = some (.int .i16 a) := (cell_of_row wr _ 0 _ _ _ rb).trans rfl
    have d1 : wr.cell? ⟨w.heap.size + 1, 1, none⟩ = some (.int .i16 b) := (cell_of_row wr _ 1 _ _ _ rb).trans rfl
    clear ra rb
    rcases hc with rfl | rfl | rfl
    · go_wp2_with fail
      go_quiet (fail)
      go_wp2
      go_roundw
      case rel => exact ⟨.inr (.inl (by go_num)), hid (kept_drewK h0.out nq)⟩
      case measure => simp [intOf]
    · go_wp2_with fail
      go_quiet (fail)
      go_wp2
      go_roundw
      case rel => exact ⟨.inr (.inr (by go_num)), hid (kept_drewK h0.out nq)⟩
      case measure => simp [intOf]
    · go_wp2
      go_ret
      exact ⟨rfl, h0.out.1⟩

set_option maxRecDepth 100000 in
theorem eqCell (a b : Int) (q : Nat) (s : Int) (hq : q < 4294967296) (w : World) :
    Calls Try.prog 87 #[.agg #[.int .i16 a, .int .i16 b, .float .f32 q, .int .i64 s], .agg #[.int .i16 a, .int .i16 b, .float .f32 q, .int .i64 s]] w fun e w' => e = .returned (.bool true) ∧ Below w.heap.size w w' := by
  obtain ⟨z0, f0, c0, d0, s0⟩ := conv_any (P := Try.prog) 23 30 q hq Try.underlying23 Try.underlying30
  have S0 := hid s0
  have D0 := hid d0
  have k0 : Hid (Kept w [(w.heap.size + 1, #[.int .i16 a, .int .i16 b, .float .f32 q, .int .i64 s], 127), (w.heap.size, #[.int .i16 a, .int .i16 b, .float .f32 q, .int .i64 s], 127)] ((w.alloc (.cells #[.int .i16 a, .int .i16 b, .float .f32 q, .int .i64 s] 127)).alloc (.cells #[.int .i16 a, .int .i16 b, .float .f32 q, .int .i64 s] 127))) := hid ((((Kept.nil w).push _ _).push _ _).sub (by simp))
  clear hq s0 d0
  go_enter Try.func87, Try.ntmps87
  go_wp2_with (first | (refine wpList_load_cut rfl 125 _ rfl w.heap.size 0 rfl _ _ (k0.out.at (x := (w.heap.size, #[.int .i16 a, .int .i16 b, .float .f32 q, .int .i64 s], 127)) (by simp)) [.int .i16 a, .int .i16 b] rfl _ Try.underlying125 rfl info_spot ?_) | (refine wpList_load_cut rfl 125 _ rfl (w.heap.size + 1) 0 rfl _ _ (k0.out.at (x := (w.heap.size + 1, #[.int .i16 a, .int .i16 b, .float .f32 q, .int .i64 s], 127)) (by simp)) [.int .i16 a, .int .i16 b] rfl _ Try.underlying125 rfl info_spot ?_))
  refine (eqSpot a b _).mono ?_
  rintro e w1 ⟨rfl, hb1⟩
  have k1 := hid (k0.out.stay hb1)
  have k2 := hid (kept_wf k1.out (D0.out _))
  have k3 := hid (kept_wf k2.out (D0.out _))
  clear k0 hb1
  have e0 : w1.cell? ⟨w.heap.size, 2, none⟩ = some (.float .f32 q) := (cell_of_row _ _ 2 _ _ _ (k1.out.at (x := (w.heap.size, #[.int .i16 a, .int .i16 b, .float .f32 q, .int .i64 s], 127)) (by simp))).trans rfl
  have e1 : (f0 w1).cell? ⟨w.heap.size + 1, 2, none⟩ = some (.float .f32 q) := (cell_of_row _ _ 2 _ _ _ (k2.out.at (x := (w.heap.size + 1, #[.int .i16 a, .int .i16 b, .float .f32 q, .int .i64 s], 127)) (by simp))).trans rfl
  have e2 : (f0 (f0 w1)).cell? ⟨w.heap.size, 3, none⟩ = some (.int .i64 s) := (cell_of_row _ _ 3 _ _ _ (k3.out.at (x := (w.heap.size, #[.int .i16 a, .int .i16 b, .float .f32 q, .int .i64 s], 127)) (by simp))).trans rfl
  have e3 : (f0 (f0 w1)).cell? ⟨w.heap.size + 1, 3, none⟩ = some (.int .i64 s) := (cell_of_row _ _ 3 _ _ _ (k3.out.at (x := (w.heap.size + 1, #[.int .i16 a, .int .i16 b, .float .f32 q, .int .i64 s], 127)) (by simp))).trans rfl
  go_wp2_with fail
  refine (sameFloat2 _ _ (S0.out _ _) _).mono ?_
  rintro e w2 ⟨rfl, rfl⟩
  go_wp2
  go_ret
  exact ⟨rfl, k3.out.1⟩

theorem infoz_cell : (Try.prog.info? 127).map (fun i => (i.zero, i.size, i.bytes)) = some (some (.agg #[.int .i16 0, .int .i16 0, .float .f32 0, .int .i64 0]), 4, 16) := by kernel_rfl

theorem szCells_ok (p : Option Addr) (n cap : Nat) (hn : n ≤ 1048576) (w : World) :
    Calls Try.prog 25 #[.slice p n cap, .int .i64 1048576] w fun e w' => e = .returned (.int .i64 (1048576 - (n : Int))) ∧ w = w' := by
  have h1 : IntKind.i64.wrap (1048576 - (n : Int)) = 1048576 - (n : Int) := by rw [IntKind.wrap_i64]; omega
  have h2 : ¬ (1048576 - (n : Int) < 0) := by omega
  go_enter Try.func25, Try.ntmps25
  go_wp2
  go_ret
  exact ⟨rfl, rfl⟩

theorem szCells_no (p : Option Addr) (n cap : Nat) (hn : 1048576 < n) (hm : n ≤ maxLen) (w : World) :
    Calls Try.prog 25 #[.slice p n cap, .int .i64 1048576] w fun e w' => e = .returned (.int .i64 (-1)) ∧ w = w' := by
  have hm' : n ≤ 9223372036854775807 := hm
  have h1 : IntKind.i64.wrap (1048576 - (n : Int)) = 1048576 - (n : Int) := by rw [IntKind.wrap_i64]; omega
  have h2 : (1048576 - (n : Int) < 0) := by omega
  go_enter Try.func25, Try.ntmps25
  go_wp2
  go_ret
  exact ⟨rfl, rfl⟩

set_option maxRecDepth 100000 in
set_option maxHeartbeats 1000000 in
theorem toCells (s : Value) (n : Nat) (x : Nat → E4) (w : World) (hs : RdE w s n x) (hn : n ≤ 1048576) :
    Calls Try.prog 27 #[s] w fun e w' => ∃ g, e = .returned (.slice (some ⟨g, 0, none⟩) n n) ∧ RdE w' (.slice (some ⟨g, 0, none⟩) n n) n x ∧ Below w.heap.size w w' := by
  obtain ⟨p, cap, rfl, hc⟩ := hs
  have HC := hid hc
  obtain ⟨cs0, L0, hmk⟩ := run_makeE (P := Try.prog) (t := 36) (e := 127) Try.underlying36 infoz_cell hn w
  have k0 : Hid (∃ cs, LvE cs n 0 x ∧ Kept w [(w.heap.size, cs, 127)] (w.alloc (.cells cs0 127))) := hid ⟨_, ⟨L0.1, fun i hi => absurd hi (Nat.not_lt_zero _)⟩, (Kept.nil w).push _ _⟩
  clear hc L0
  go_enter Try.func27, Try.ntmps27
  go_wp2_with fail
  go_loopw [4] (fun i wr => ∃ k : Nat, k ≤ n ∧ i = .int .i64 k ∧ Hid (∃ cs, LvE cs n k x ∧ Kept w [(w.heap.size, cs, 127)] wr)) (fun i _ => n - (intOf i).toNat)
  case atStart => exact ⟨0, by omega, rfl, k0⟩
  case round =>
    obtain ⟨k, hk, rfl, h0⟩ := hrel
    clear k0 hmk
    obtain ⟨cs, L1, h1⟩ := h0.out
    by_cases hlt : k < n
    · have HK := hid hlt
      have hk3 : (k : Int) < (n : Int) := by omega
      obtain ⟨b, o, rfl, hcell⟩ := HC.out (by omega)
      have R1 : Hid (wr.rangeAt b (o + k * 4) (e4 (x k))) := hid (range_stay (hcell k hlt) rfl h1.1)
      clear hcell
      have i1 := fun w => run_indexAt (P := Try.prog) (t := 33) (e := 130) Try.underlying33 info_lcell (b := b) (o := o) (n := n) (cap := cap) (k := k) hlt w
      have i2 := fun w9 => run_indexAt (P := Try.prog) (t := 36) (e := 127) Try.underlying36 info_cell (b := w.heap.size) (o := 0) (n := n) (cap := n) (k := k) hlt w9
      simp only [Nat.zero_add] at i2
      have H1 := hid h1
      have LL := hid L1
      clear h0 L1 h1
      go_wp2_with (refine wpList_load_mid rfl 130 _ rfl b (o + k * 4) rfl _ _ R1.out Try.underlying130 rfl info_lcell ?_)
      refine (toCell _ _ _ _ _).mono ?_
      rintro e w1 ⟨rfl, hb1⟩
      have H2 := hid (H1.out.stay hb1)
      clear i1 H1 hb1 R1
      go_wp2_with (refine store_part (w0 := w) rfl 127 _ _ rfl w.heap.size (k * 4) rfl #[.int .i16 (x k).a, .int .i16 (x k).b, .float .f32 (x k).q, .int .i64 (x k).s] rfl cs _ 127 H2.out (Nat.le_refl _) (by simp) (by have h1 := LL.out.1; have h2 := HK.out; simp; omega) info_cell (by simp [Value.oneCell']) rfl (fun w3 k3 => ?_); replace k3 := hid k3)
      clear i2
      go_roundw
      case rel => exact ⟨k + 1, by omega, by go_num, hid ⟨_, LL.out.step HK.out, k3.out⟩⟩
      case measure => simp [intOf]; omega
    · obtain rfl : k = n := by omega
      clear h0
      have R := hid (L1.rd (B := w.heap.size) (T := 127) h1 (by simp) k)
      have B := hid h1.1
      clear L1 h1
      go_wp2
      go_ret
      exact ⟨w.heap.size, rfl, R.out, B.out⟩

set_option maxRecDepth 100000 in
set_option maxHeartbeats 1000000 in
theorem eqCells (s t : Value) (n : Nat) (x : Nat → E4) (hx : ∀ k, (x k).ok) (w : World) (hs : RdE w s n x) (ht : RdE w t n x) (hn : n ≤ 1048576) :
    Calls Try.prog 29 #[s, t] w fun e w' => e = .returned (.bool true) ∧ Below w.heap.size w w' := by
  obtain ⟨p, cap, rfl, hc⟩ := hs
  obtain ⟨p2, cap2, rfl, hc2⟩ := ht
  have HC := hid hc
  have HD := hid hc2
  have HN := hid hn
  have HX := hid hx
  clear hc hc2 hn hx
  go_enter Try.func29, Try.ntmps29
  go_wp2_with fail
  go_loopw [5] (fun i wr => ∃ k : Nat, k ≤ n ∧ i = .int .i64 k ∧ Hid (Kept w [] wr)) (fun i _ => n - (intOf i).toNat)
  case atStart => exact ⟨0, by omega, rfl, hid (Kept.nil w)⟩
  case round =>
    obtain ⟨k, hk, rfl, h0⟩ := hrel
    by_cases hlt : k < n
    · have hn9 := HN.out
      have hk3 : (k : Int) < (n : Int) := by omega
      obtain ⟨b, o, rfl, hcell⟩ := HC.out (by omega)
      obtain ⟨b2, o2, rfl, hcell2⟩ := HD.out (by omega)
      have HK := hid hlt
      have R1 := hid (fun wq (hb : Below w.heap.size w wq) => range_stay (hcell k hlt) rfl hb)
      have R2 := hid (fun wq (hb : Below w.heap.size w wq) => range_stay (hcell2 k hlt) rfl hb)
      clear hcell hcell2
      go_wp2_with fail
      refine region_kept (w0 := w) (l := []) 10 #[false, false, false, false, false, false, false, false, false, false] (by kernel_rfl) rfl rfl ?_
      have kd := h0.out.drew
      generalize World.drew _ = wd at kd ⊢
      refine take_val 0 _ _ (.slice (some ⟨b, o, none⟩) n cap) rfl (by rfl) (by kernel_rfl) (by kernel_rfl) (by kernel_rfl) (fun w => by rfl) rfl rfl kd ?_
      simp only [Act.put, List.setIfInBounds_toArray, List.set_cons_zero, List.set_cons_succ]
      refine take_val 1 _ _ (.int .i64 (k : Int)) rfl (by rfl) (by kernel_rfl) (by kernel_rfl) (by kernel_rfl) (fun w => by rfl) rfl rfl kd ?_
      simp only [Act.put, List.setIfInBounds_toArray, List.set_cons_zero, List.set_cons_succ]
      refine take_val 2 _ _ (.pointer (some ⟨b, o + k * 4, none⟩)) rfl (by rfl) (by kernel_rfl) (by kernel_rfl) (by kernel_rfl) (fun w => run_index_op _ _ rfl rfl (run_indexAt Try.underlying36 info_cell HK.out w)) rfl rfl kd ?_
      simp only [Act.put, List.setIfInBounds_toArray, List.set_cons_zero, List.set_cons_succ]
      refine take_cell 3 _ _ (.agg #[.int .i16 (x k).a, .int .i16 (x k).b, .float .f32 (x k).q, .int .i64 (x k).s]) rfl (by rfl) (by kernel_rfl) (by kernel_rfl) (by kernel_rfl) (fun wq hS => run_load_mid 127 _ b (o + k * 4) (e4 (x k)) rfl (R1.out _ hS.1) _ Try.underlying127 rfl info_cell) rfl rfl kd ?_
      simp only [Act.put, List.setIfInBounds_toArray, List.set_cons_zero, List.set_cons_succ]
      refine take_val 4 _ _ (.slice (some ⟨b2, o2, none⟩) n cap2) rfl (by rfl) (by kernel_rfl) (by kernel_rfl) (by kernel_rfl) (fun w => by rfl) rfl rfl kd ?_
      simp only [Act.put, List.setIfInBounds_toArray, List.set_cons_zero, List.set_cons_succ]
      refine take_val 5 _ _ (.int .i64 (k : Int)) rfl (by rfl) (by kernel_rfl) (by kernel_rfl) (by kernel_rfl) (fun w => by rfl) rfl rfl kd ?_
      simp only [Act.put, List.setIfInBounds_toArray, List.set_cons_zero, List.set_cons_succ]
      refine take_val 6 _ _ (.pointer (some ⟨b2, o2 + k * 4, none⟩)) rfl (by rfl) (by kernel_rfl) (by kernel_rfl) (by kernel_rfl) (fun w => run_index_op _ _ rfl rfl (run_indexAt Try.underlying36 info_cell HK.out w)) rfl rfl kd ?_
      simp only [Act.put, List.setIfInBounds_toArray, List.set_cons_zero, List.set_cons_succ]
      refine take_cell 7 _ _ (.agg #[.int .i16 (x k).a, .int .i16 (x k).b, .float .f32 (x k).q, .int .i64 (x k).s]) rfl (by rfl) (by kernel_rfl) (by kernel_rfl) (by kernel_rfl) (fun wq hS => run_load_mid 127 _ b2 (o2 + k * 4) (e4 (x k)) rfl (R2.out _ hS.1) _ Try.underlying127 rfl info_cell) rfl rfl kd ?_
      simp only [Act.put, List.setIfInBounds_toArray, List.set_cons_zero, List.set_cons_succ]
      refine wpAnyH_ready (rs := [8]) (by kernel_rfl) (by simp) ?_
      refine callK 8 _ _ (.bool true) kd rfl (by rfl) 87 #[.agg #[.int .i16 (x k).a, .int .i16 (x k).b, .float .f32 (x k).q, .int .i64 (x k).s], .agg #[.int .i16 (x k).a, .int .i16 (x k).b, .float .f32 (x k).q, .int .i64 (x k).s]] (fun w => by unfold execOp; go_simp) rfl rfl ?hc1 (fun w1 k1 => ?_) AllReadyH.nil
      case hc1 => exact eqCell _ _ _ _ (HX.out k).1 _
      refine ⟨k1, ?_⟩
      simp only [Act.put, List.setIfInBounds_toArray, List.set_cons_zero, List.set_cons_succ]
      refine take_val 9 _ _ (.bool false) rfl (by rfl) (by kernel_rfl) (by kernel_rfl) (by kernel_rfl) (fun w => by unfold execOp; go_simp) rfl rfl k1 ?_
      simp only [Act.put, List.setIfInBounds_toArray, List.set_cons_zero, List.set_cons_succ]
      refine wpAnyH_done (by kernel_rfl) (NoPanic.normal ?_) _
      go_wp2
      go_roundw
      case rel => exact ⟨k + 1, by omega, by go_num, hid k1⟩
      case measure => simp [intOf]; omega
    · obtain rfl : k = n := by omega
      go_wp2
      go_ret
      exact ⟨rfl, h0.out.1⟩

def InK (n : Int) : Prop := -1000 ≤ n ∧ n ≤ 1000

def OkC (c : E4) : Prop := InK c.a ∧ InK c.b ∧ amtB c.q = true ∧ 1 ≤ c.s ∧ c.s ≤ 1000000

set_option maxRecDepth 100000 in
theorem sBefore (c d : E4) (w : World) :
    Calls Try.prog 160 #[.agg #[.int .i16 c.a, .int .i16 c.b], .agg #[.int .i16 d.a, .int .i16 d.b]] w fun e w' => e = .returned (.bool (decide (Bef c d))) ∧ Below w.heap.size w w' := by
  obtain ⟨a, b, q0, s0⟩ := c
  obtain ⟨a2, b2, q2, s2⟩ := d
  have k0 : Hid (Kept w [(w.heap.size + 1, #[.int .i16 a2, .int .i16 b2], 125), (w.heap.size, #[.int .i16 a, .int .i16 b], 125)] ((w.alloc (.cells #[.int .i16 a, .int .i16 b] 125)).alloc (.cells #[.int .i16 a2, .int .i16 b2] 125))) := hid ((((Kept.nil w).push _ _).push _ _).sub (by simp))
  show Calls Try.prog 160 #[.agg #[.int .i16 a, .int .i16 b], .agg #[.int .i16 a2, .int .i16 b2]] w fun e w' => e = .returned (.bool (decide (a < a2 ∨ (a = a2 ∧ b < b2)))) ∧ Below w.heap.size w w'
  by_cases h1 : a < a2
  · go_enter Try.func160, Try.ntmps160
    go_wp2
    go_ret
    exact ⟨by simp [h1], k0.out.1⟩
  · by_cases h2 : a = a2
    · subst h2
      by_cases h3 : b < b2
      · go_enter Try.func160, Try.ntmps160
        go_wp2
        go_ret
        exact ⟨by simp, k0.out.1⟩
      · go_enter Try.func160, Try.ntmps160
        go_wp2
        go_ret
        exact ⟨by simp [h3], k0.out.1⟩
    · go_enter Try.func160, Try.ntmps160
      go_wp2
      go_ret
      exact ⟨by simp [h1], k0.out.1⟩

/-- How two small numbers compare. -/
def cmpI (a b : Int) : Int := if a < b then -1 else if b < a then 1 else 0

theorem iNaN16 (a : Int) (w : World) : Calls Try.prog 231 #[.int .i16 a] w fun e w' => e = .returned (.bool false) ∧ w = w' := by
  go_enter Try.func231, Try.ntmps231
  go_wp2
  go_ret
  exact ⟨by simp, rfl⟩

theorem iCmp16 (a b : Int) (w : World) : Calls Try.prog 211 #[.int .i16 a, .int .i16 b] w fun e w' => e = .returned (.int .i64 (cmpI a b)) ∧ w = w' := by
  have h : a < b ∨ (¬ a < b ∧ b < a) ∨ (¬ a < b ∧ ¬ b < a) := by omega
  rcases h with h | ⟨h, h2⟩ | ⟨h, h2⟩
  all_goals
    have hc : cmpI a b = cmpI a b := rfl
    first | rw [show cmpI a b = -1 from if_pos h] | rw [show cmpI a b = 1 from (if_neg h).trans (if_pos h2)] | rw [show cmpI a b = 0 from (if_neg h).trans (if_neg h2)]
    clear hc
    go_enter Try.func211, Try.ntmps211
    go_wp2_with fail
    refine (iNaN16 _ _).mono ?_
    rintro e w1 ⟨rfl, rfl⟩
    go_wp2_with fail
    refine (iNaN16 _ _).mono ?_
    rintro e w1 ⟨rfl, rfl⟩
    go_wp2
    go_ret
    exact ⟨rfl, rfl⟩

def lexI (c d : E4) : Int := if cmpI c.a d.a ≠ 0 then cmpI c.a d.a else cmpI c.b d.b

theorem cmp_eq {a b : Int} (h : cmpI a b = 0) : a = b := by
  unfold cmpI at h
  by_cases h1 : a < b
  · rw [if_pos h1] at h; omega
  · rw [if_neg h1] at h
    by_cases h2 : b < a
    · rw [if_pos h2] at h; omega
    · omega

theorem info_i16 : (Try.prog.info? 123).map (·.size) = some 1 := by kernel_rfl

set_option maxRecDepth 100000 in
set_option maxHeartbeats 1000000 in
theorem iCmpS (c d : E4) (g g2 : Nat) (w : World) (h0 : w.cell? ⟨g, 0, none⟩ = some (.int .i16 c.a)) (h1 : w.cell? ⟨g, 1, none⟩ = some (.int .i16 c.b)) (h2 : w.cell? ⟨g2, 0, none⟩ = some (.int .i16 d.a)) (h3 : w.cell? ⟨g2, 1, none⟩ = some (.int .i16 d.b)) :
    Calls Try.prog 162 #[.slice (some ⟨g, 0, none⟩) 2 2, .slice (some ⟨g2, 0, none⟩) 2 2] w fun e w' => e = .returned (.int .i64 (lexI c d)) ∧ w = w' := by
  have i0 := fun w => run_indexAt (P := Try.prog) (t := 218) (e := 123) Try.underlying218 info_i16 (b := g) (o := 0) (n := 2) (cap := 2) (k := 0) (by omega) w
  have i1 := fun w => run_indexAt (P := Try.prog) (t := 218) (e := 123) Try.underlying218 info_i16 (b := g) (o := 0) (n := 2) (cap := 2) (k := 1) (by omega) w
  have j0 := fun w => run_indexAt (P := Try.prog) (t := 218) (e := 123) Try.underlying218 info_i16 (b := g2) (o := 0) (n := 2) (cap := 2) (k := 0) (by omega) w
  have j1 := fun w => run_indexAt (P := Try.prog) (t := 218) (e := 123) Try.underlying218 info_i16 (b := g2) (o := 0) (n := 2) (cap := 2) (k := 1) (by omega) w
  simp only [Nat.zero_add, Nat.zero_mul, Nat.one_mul, Int.natCast_zero, Int.natCast_one] at i0 i1 j0 j1
  go_enter Try.func162, Try.ntmps162
  go_wp2_with fail
  go_loopw [11] (fun i wr => w = wr ∧ ((i = .int .i64 0) ∨ (i = .int .i64 1 ∧ Hid (cmpI c.a d.a = 0)) ∨ (i = .int .i64 2 ∧ Hid (cmpI c.a d.a = 0) ∧ Hid (cmpI c.b d.b = 0)))) (fun i _ => 2 - (intOf i).toNat)
  case atStart => exact ⟨rfl, .inl rfl⟩
  case round =>
    obtain ⟨rfl, hc⟩ := hrel
    rcases hc with rfl | ⟨rfl, hz⟩ | ⟨rfl, hz, hz2⟩
    · go_wp2_with fail
      refine (iCmp16 _ _ _).mono ?_
      rintro e w1 ⟨rfl, rfl⟩
      by_cases h : cmpI c.a d.a = 0
      · go_wp2
        go_roundw
        case rel => exact ⟨trivial, .inr (.inl ⟨by go_num, hid h⟩)⟩
        case measure => simp [intOf]
      · have e := hid (show lexI c d = cmpI c.a d.a from if_pos h)
        go_wp2
        go_ret
        exact ⟨by rw [e.out]; rfl, rfl⟩
    · have e := hid (show lexI c d = cmpI c.b d.b from if_neg (fun h => h hz.out))
      go_wp2_with fail
      refine (iCmp16 _ _ _).mono ?_
      rintro e w1 ⟨rfl, rfl⟩
      by_cases h : cmpI c.b d.b = 0
      · go_wp2
        go_roundw
        case rel => exact ⟨trivial, .inr (.inr ⟨by go_num, hz, hid h⟩)⟩
        case measure => simp [intOf]
      · go_wp2
        go_ret
        exact ⟨by rw [e.out]; rfl, rfl⟩
    · have e := hid (show lexI c d = 0 from (if_neg (fun h => h hz.out)).trans hz2.out)
      go_wp2
      go_ret
      exact ⟨by rw [e.out]; rfl, rfl⟩

theorem cmp_pos {a b : Int} : 0 ≤ cmpI a b ↔ ¬ a < b := by
  unfold cmpI
  by_cases h1 : a < b
  · rw [if_pos h1]; omega
  · rw [if_neg h1]
    by_cases h2 : b < a
    · rw [if_pos h2]; omega
    · rw [if_neg h2]; omega

theorem lex_bef (c d : E4) : (0 ≤ lexI c d) ↔ ¬ Bef c d := by
  unfold lexI Bef
  by_cases h : cmpI c.a d.a = 0
  · rw [if_neg (fun h' => h' h), cmp_pos]
    have := cmp_eq h
    omega
  · rw [if_pos h, cmp_pos]
    have h2 : c.a ≠ d.a := fun e => h (by unfold cmpI; rw [if_neg (by omega), if_neg (by omega)])
    omega

set_option maxRecDepth 100000 in
theorem iCmpSpots (c d : E4) (w : World) :
    Calls Try.prog 86 #[.agg #[.int .i16 c.a, .int .i16 c.b], .agg #[.int .i16 d.a, .int .i16 d.b]] w fun e w' => e = .returned (.int .i64 (lexI c d)) ∧ Below w.heap.size w w' := by
  have k0 : Hid (Kept w [(w.heap.size + 1, #[.int .i16 d.a, .int .i16 d.b], 125), (w.heap.size, #[.int .i16 c.a, .int .i16 c.b], 125)] ((w.alloc (.cells #[.int .i16 c.a, .int .i16 c.b] 125)).alloc (.cells #[.int .i16 d.a, .int .i16 d.b] 125))) := hid ((((Kept.nil w).push _ _).push _ _).sub (by simp))
  have HC : Hid (∀ w9, Kept w [(w.heap.size + 1, #[.int .i16 d.a, .int .i16 d.b], 125), (w.heap.size, #[.int .i16 c.a, .int .i16 c.b], 125)] w9 → Calls Try.prog 162 #[.slice (some ⟨w.heap.size, 0, none⟩) 2 2, .slice (some ⟨w.heap.size + 1, 0, none⟩) 2 2] w9 fun e w' => e = .returned (.int .i64 (lexI c d)) ∧ w9 = w') := hid fun w9 k =>
    have ra := k.at (x := (w.heap.size, #[.int .i16 c.a, .int .i16 c.b], 125)) (by simp)
    have rb := k.at (x := (w.heap.size + 1, #[.int .i16 d.a, .int .i16 d.b], 125)) (by simp)
    iCmpS c d _ _ w9 ((cell_of_row w9 _ 0 _ _ _ ra).trans rfl) ((cell_of_row w9 _ 1 _ _ _ ra).trans rfl) ((cell_of_row w9 _ 0 _ _ _ rb).trans rfl) ((cell_of_row w9 _ 1 _ _ _ rb).trans rfl)
  go_enter Try.func86, Try.ntmps86
  go_wp2_with fail
  generalize ((w.alloc (.cells #[.int .i16 c.a, .int .i16 c.b] 125)).alloc (.cells #[.int .i16 d.a, .int .i16 d.b] 125)) = w1 at k0 ⊢
  go_quiet ((go_at_call 162; exact Calls.quiet_of_same (back (HC.out _ (kept_drewK k0.out _)))))
  go_wp2
  go_ret
  exact ⟨rfl, (kept_drewK k0.out nq).1⟩

theorem ixs (a b : Int) (w : World) :
    (Instr.index 125 (.agg #[.int .i16 a, .int .i16 b]) (.int .i64 0)).run Try.prog w = .ok (.int .i16 a) w ∧ (Instr.index 125 (.agg #[.int .i16 a, .int .i16 b]) (.int .i64 1)).run Try.prog w = .ok (.int .i16 b) w :=
  ⟨run_index_vls Try.underlying125 Try.underlying123 rfl info_i16 2 (fun i => if i = 0 then .int .i16 a else .int .i16 b) 0 (by omega) (by omega) w,
    run_index_vls Try.underlying125 Try.underlying123 rfl info_i16 2 (fun i => if i = 0 then .int .i16 a else .int .i16 b) 1 (by omega) (by omega) w⟩

set_option maxRecDepth 100000 in
set_option maxHeartbeats 1000000 in
theorem iValidCell (c : E4) (hq : c.q < 4294967296) (r : Bool) (h : r = true ↔ OkC c) (w : World) :
    Calls Try.prog 85 #[.agg #[.int .i16 c.a, .int .i16 c.b, .float .f32 c.q, .int .i64 c.s]] w fun e w' => e = .returned (.bool r) ∧ Below w.heap.size w w' := by
  have H := hid h
  have HQ := hid hq
  have no : Hid (¬ OkC c → r = false) := hid fun hn => by
    cases r with
    | true => exact absurd (h.1 rfl) hn
    | false => rfl
  have k0 : Hid (Kept w [(w.heap.size, #[.int .i16 c.a, .int .i16 c.b, .float .f32 c.q, .int .i64 c.s], 127)] (w.alloc (.cells #[.int .i16 c.a, .int .i16 c.b, .float .f32 c.q, .int .i64 c.s] 127))) := hid ((Kept.nil w).push _ _)
  clear h hq
  have x0 := fun w => (ixs c.a c.b w).1
  have x1 := fun w => (ixs c.a c.b w).2
  go_enter Try.func85, Try.ntmps85
  go_wp2_with (refine wpList_load_cut rfl 125 _ rfl w.heap.size 0 rfl _ _ (k0.out.at (x := (w.heap.size, #[.int .i16 c.a, .int .i16 c.b, .float .f32 c.q, .int .i64 c.s], 127)) (by simp)) [.int .i16 c.a, .int .i16 c.b] rfl _ Try.underlying125 rfl info_spot ?_)
  generalize (w.alloc (.cells #[.int .i16 c.a, .int .i16 c.b, .float .f32 c.q, .int .i64 c.s] 127)) = w1 at k0 ⊢
  go_loopw [7] (fun i wr => w1 = wr ∧ ((i = .int .i64 0) ∨ (i = .int .i64 1 ∧ Hid (InK c.a)) ∨ (i = .int .i64 2 ∧ Hid (InK c.a) ∧ Hid (InK c.b)))) (fun i _ => 2 - (intOf i).toNat)
  case atStart => exact ⟨rfl, .inl rfl⟩
  case round =>
    obtain ⟨rfl, hc⟩ := hrel
    rcases hc with rfl | ⟨rfl, hz⟩ | ⟨rfl, hz, hz2⟩
    · by_cases h1 : InK c.a
      · obtain ⟨h2, h3⟩ := id h1
        have g2 : ¬ c.a < -1000 := by omega
        have g3 : ¬ 1000 < c.a := by omega
        have H1 := hid h1
        clear h1 h2 h3
        go_wp2
        go_roundw
        case rel => exact ⟨trivial, .inr (.inl ⟨by go_num, H1⟩)⟩
        case measure => simp [intOf]
      · have e := hid (no.out fun h => h1 h.1)
        have h2 : c.a < -1000 ∨ (¬ c.a < -1000 ∧ 1000 < c.a) := by unfold InK at h1; omega
        clear h1
        rcases h2 with h2 | ⟨h2, h3⟩
        all_goals
          go_wp2
          go_ret
          exact ⟨by rw [e.out]; rfl, k0.out.1⟩
    · by_cases h1 : InK c.b
      · obtain ⟨h2, h3⟩ := id h1
        have g2 : ¬ c.b < -1000 := by omega
        have g3 : ¬ 1000 < c.b := by omega
        have H1 := hid h1
        clear h1 h2 h3
        go_wp2
        go_roundw
        case rel => exact ⟨trivial, .inr (.inr ⟨by go_num, hz, H1⟩)⟩
        case measure => simp [intOf]
      · have e := hid (no.out fun h => h1 h.2.1)
        have h2 : c.b < -1000 ∨ (¬ c.b < -1000 ∧ 1000 < c.b) := by unfold InK at h1; omega
        clear h1
        rcases h2 with h2 | ⟨h2, h3⟩
        all_goals
          go_wp2
          go_ret
          exact ⟨by rw [e.out]; rfl, k0.out.1⟩
    · have ra := k0.out.at (x := (w.heap.size, #[.int .i16 c.a, .int .i16 c.b, .float .f32 c.q, .int .i64 c.s], 127)) (by simp)
      have c2 : w1.cell? ⟨w.heap.size, 2, none⟩ = some (.float .f32 c.q) := (cell_of_row w1 _ 2 _ _ _ ra).trans rfl
      have c3 : w1.cell? ⟨w.heap.size, 3, none⟩ = some (.int .i64 c.s) := (cell_of_row w1 _ 3 _ _ _ ra).trans rfl
      clear ra
      rcases ha : amtB c.q with _ | _
      · have e := hid (no.out fun h => by have := h.2.2.1; rw [ha] at this; cases this)
        have HA := hid ha
        clear ha
        go_wp2_with fail
        refine (isAmount_f _ HQ.out HA.out _).mono ?_
        rintro e9 w2 ⟨rfl, hb2⟩
        have k2 := hid (k0.out.stay hb2)
        go_wp2
        go_ret
        exact ⟨by rw [e.out]; rfl, k2.out.1⟩
      · by_cases h1 : 1 ≤ c.s
        · by_cases h2 : c.s ≤ 1000000
          · have e := hid (H.out.2 ⟨hz.out, hz2.out, ha, h1, h2⟩)
            have HA := hid ha
            clear ha
            go_wp2_with fail
            refine (isAmount_t _ HA.out _).mono ?_
            rintro e9 w2 ⟨rfl, rfl⟩
            go_wp2
            go_ret
            exact ⟨by rw [e.out]; first | rfl | (simp; done) | (simp; omega), k0.out.1⟩
          · have e := hid (no.out fun h => h2 h.2.2.2.2)
            have HA := hid ha
            clear ha
            go_wp2_with fail
            refine (isAmount_t _ HA.out _).mono ?_
            rintro e9 w2 ⟨rfl, rfl⟩
            go_wp2
            go_ret
            exact ⟨by rw [e.out]; first | rfl | (simp; done) | (simp; omega), k0.out.1⟩
        · have e := hid (no.out fun h => h1 h.2.2.2.1)
          have HA := hid ha
          clear ha
          go_wp2_with fail
          refine (isAmount_t _ HA.out _).mono ?_
          rintro e9 w2 ⟨rfl, rfl⟩
          go_wp2
          go_ret
          exact ⟨by rw [e.out]; first | rfl | (simp; done) | (simp; omega), k0.out.1⟩

def MapP (n : Nat) (x : Nat → E4) : Prop := ∀ i, i < n → OkC (x i) ∧ (i = 0 ∨ Bef (x (i - 1)) (x i))

theorem MapP.step {k : Nat} {x : Nat → E4} (h : MapP k x) (h1 : OkC (x k)) (h2 : k = 0 ∨ Bef (x (k - 1)) (x k)) : MapP (k + 1) x := fun i hi => by
  rcases Nat.lt_or_eq_of_le (Nat.le_of_lt_succ hi) with h3 | rfl
  · exact h i h3
  · exact ⟨h1, h2⟩

theorem l00In_q (n a b : Int) (w : World) :
    Calls Try.prog 91 #[.int .i64 n, .int .i64 a, .int .i64 b] w fun e w' => e = .returned (.bool (decide (a ≤ n ∧ n ≤ b))) ∧ w = w' := by
  by_cases h : a ≤ n ∧ n ≤ b
  · rw [decide_eq_true h]; exact l00In_t n a b h.1 h.2 w
  · rw [decide_eq_false h]; exact l00In_f n a b h w

set_option maxRecDepth 100000 in
set_option maxHeartbeats 2000000 in
theorem sMap (s : Value) (n : Nat) (x : Nat → E4) (hx : ∀ k, (x k).ok) (r : Bool) (h : r = true ↔ MapP n x ∧ n ≤ 400) (w : World) (hs : RdE w s n x) (hn : n ≤ 1048576) :
    Calls Try.prog 83 #[s] w fun e w' => e = .returned (.bool r) ∧ Below w.heap.size w w' := by
  obtain ⟨p, cap, rfl, hc⟩ := hs
  have HC := hid hc
  have HX := hid hx
  have HN := hid hn
  have H := hid h
  have no : Hid (¬ MapP n x → r = false) := hid fun hn => by
    cases r with
    | true => exact absurd (h.1 rfl).1 hn
    | false => rfl
  clear hc hx h hn
  go_enter Try.func83, Try.ntmps83
  go_wp2_with fail
  go_loopw [3] (fun i wr => ∃ k : Nat, k ≤ n ∧ i = .int .i64 k ∧ Hid (Kept w [] wr) ∧ Hid (MapP k x)) (fun i _ => n - (intOf i).toNat)
  case atStart => exact ⟨0, by omega, rfl, hid (Kept.nil w), hid fun i hi => absurd hi (Nat.not_lt_zero _)⟩
  case round =>
    obtain ⟨k, hk, rfl, h0, hm⟩ := hrel
    by_cases hlt : k < n
    · have hn9 := HN.out
      have hk3 : (k : Int) < (n : Int) := by omega
      obtain ⟨b, o, rfl, hcell⟩ := HC.out (by omega)
      have HK := hid hlt
      have R0 := hid (range_stay (hcell k hlt) rfl h0.out.1)
      obtain ⟨c0, c1, c2, c3⟩ := range_cells R0.out
      obtain ⟨hq, ⟨ba1, ba2⟩, bb1, bb2⟩ := HX.out k
      have i1 := fun w => run_indexAt (P := Try.prog) (t := 36) (e := 127) Try.underlying36 info_cell (b := b) (o := o) (n := n) (cap := cap) (k := k) hlt w
      have HQ := hid hq
      have wa : wrap64 (x k).a = (x k).a := by unfold wrap64; omega
      have wb : wrap64 (x k).b = (x k).b := by unfold wrap64; omega
      have RC := hid (fun i (hi : i < n) wq (hb : Below w.heap.size w wq) => range_stay (hcell i hi) rfl hb)
      clear hcell hq
      by_cases hok : OkC (x k)
      · obtain ⟨g1, g2, g3, g4, g5⟩ := id hok
        have d1 : decide (-1000 ≤ (x k).a ∧ (x k).a ≤ 1000) = true := decide_eq_true g1
        have d2 : decide (-1000 ≤ (x k).b ∧ (x k).b ≤ 1000) = true := decide_eq_true g2
        have d3 : decide (1 ≤ (x k).s ∧ (x k).s ≤ 1000000) = true := decide_eq_true ⟨g4, g5⟩
        have OK := hid hok
        have G3 := hid g3
        clear hok g1 g2 g3 g4 g5
        go_wp2_with fail
        refine (l00In_q _ _ _ _).mono ?_
        rintro e w2 ⟨rfl, rfl⟩
        go_wp2_with fail
        refine (l00In_q _ _ _ _).mono ?_
        rintro e w2 ⟨rfl, rfl⟩
        go_wp2_with fail
        refine (sAmount_t _ G3.out _).mono ?_
        rintro e w2 ⟨rfl, rfl⟩
        go_wp2_with fail
        refine (l00In_q _ _ _ _).mono ?_
        rintro e w2 ⟨rfl, rfl⟩
        rcases Nat.eq_zero_or_pos k with rfl | hp
        · go_wp2_with fail
          go_quiet (fail)
          go_wp2
          go_roundw
          case rel => exact ⟨1, by omega, by go_num, hid (kept_drewK h0.out nq), hid (hm.out.step OK.out (.inl rfl))⟩
          case measure => simp [intOf]; omega
        · obtain ⟨m, rfl⟩ : ∃ m, k = m + 1 := ⟨k - 1, by omega⟩
          have hm1 : 0 < (m : Int) + 1 := by omega
          have hm2 : wrap64 ((m : Int) + 1 - 1) = (m : Int) := by unfold wrap64; omega
          have hm3 : IntKind.i64.wrap (m : Int) = (m : Int) := by rw [IntKind.wrap_i64]; omega
          have HM := hid (show m < n by omega)
          have R1 := hid (RC.out (m + 1) HK.out)
          have R2 := hid (RC.out m HM.out)
          simp only [Int.natCast_add, Int.natCast_one]
          by_cases hb : Bef (x m) (x (m + 1))
          · have HB := hid (fun w => by have := sBefore (x m) (x (m + 1)) w; rw [decide_eq_true hb] at this; exact this)
            go_wp2_with fail
            refine region_kept (w0 := w) (l := []) 16 #[false, false, false, false, false, false, false, false, false, false, false, false, false, false, false, false] (by kernel_rfl) rfl rfl ?_
            have kd := h0.out.drew
            generalize World.drew _ = wd at kd ⊢
            refine take_val 0 _ _ (.int .i64 ((m : Int) + 1)) rfl (by rfl) (by kernel_rfl) (by kernel_rfl) (by kernel_rfl) (fun w => by rfl) rfl rfl kd ?_
            simp only [Act.put, List.setIfInBounds_toArray, List.set_cons_zero, List.set_cons_succ]
            refine take_val 1 _ _ (.bool true) rfl (by rfl) (by kernel_rfl) (by kernel_rfl) (by kernel_rfl) (fun w => by unfold execOp; go_simp) rfl rfl kd ?_
            simp only [Act.put, List.setIfInBounds_toArray, List.set_cons_zero, List.set_cons_succ]
            refine take_val 2 _ _ (.bool true) rfl (by rfl) (by kernel_rfl) (by kernel_rfl) (by kernel_rfl) (fun w => by rfl) rfl rfl kd ?_
            simp only [Act.put, List.setIfInBounds_toArray, List.set_cons_zero, List.set_cons_succ]
            refine take_val 3 _ _ (.slice (some ⟨b, o, none⟩) n cap) rfl (by rfl) (by kernel_rfl) (by kernel_rfl) (by kernel_rfl) (fun w => by rfl) rfl rfl kd ?_
            simp only [Act.put, List.setIfInBounds_toArray, List.set_cons_zero, List.set_cons_succ]
            refine take_val 4 _ _ (.int .i64 ((m : Int) + 1)) rfl (by rfl) (by kernel_rfl) (by kernel_rfl) (by kernel_rfl) (fun w => by rfl) rfl rfl kd ?_
            simp only [Act.put, List.setIfInBounds_toArray, List.set_cons_zero, List.set_cons_succ]
            refine take_val 5 _ _ (.int .i64 (m : Int)) rfl (by rfl) (by kernel_rfl) (by kernel_rfl) (by kernel_rfl) (fun w => by unfold execOp; go_simp) rfl rfl kd ?_
            simp only [Act.put, List.setIfInBounds_toArray, List.set_cons_zero, List.set_cons_succ]
            refine take_val 6 _ _ (.pointer (some ⟨b, o + m * 4, none⟩)) rfl (by rfl) (by kernel_rfl) (by kernel_rfl) (by kernel_rfl) (fun w => run_index_op _ _ rfl rfl (run_indexAt Try.underlying36 info_cell HM.out w)) rfl rfl kd ?_
            simp only [Act.put, List.setIfInBounds_toArray, List.set_cons_zero, List.set_cons_succ]
            refine take_val 7 _ _ (.pointer (some ⟨b, o + m * 4, none⟩)) rfl (by rfl) (by kernel_rfl) (by kernel_rfl) (by kernel_rfl) (fun w => by unfold execOp; go_simp) rfl rfl kd ?_
            simp only [Act.put, List.setIfInBounds_toArray, List.set_cons_zero, List.set_cons_succ]
            refine take_cell 8 _ _ (.agg #[.int .i16 (x m).a, .int .i16 (x m).b]) rfl (by rfl) (by kernel_rfl) (by kernel_rfl) (by kernel_rfl) (fun wq hS => run_load_mid 125 _ b (o + m * 4) [.int .i16 (x m).a, .int .i16 (x m).b] rfl (range_two (R2.out _ hS.1)) _ Try.underlying125 rfl info_spot) rfl rfl kd ?_
            simp only [Act.put, List.setIfInBounds_toArray, List.set_cons_zero, List.set_cons_succ]
            refine take_val 9 _ _ (.pointer (some ⟨b, o + (m + 1) * 4, none⟩)) rfl (by rfl) (by kernel_rfl) (by kernel_rfl) (by kernel_rfl) (fun w => by rfl) rfl rfl kd ?_
            simp only [Act.put, List.setIfInBounds_toArray, List.set_cons_zero, List.set_cons_succ]
            refine take_val 10 _ _ (.pointer (some ⟨b, o + (m + 1) * 4, none⟩)) rfl (by rfl) (by kernel_rfl) (by kernel_rfl) (by kernel_rfl) (fun w => by unfold execOp; go_simp) rfl rfl kd ?_
            simp only [Act.put, List.setIfInBounds_toArray, List.set_cons_zero, List.set_cons_succ]
            refine take_val 11 _ _ (.pointer (some ⟨b, o + (m + 1) * 4, none⟩)) rfl (by rfl) (by kernel_rfl) (by kernel_rfl) (by kernel_rfl) (fun w => by unfold execOp; go_simp) rfl rfl kd ?_
            simp only [Act.put, List.setIfInBounds_toArray, List.set_cons_zero, List.set_cons_succ]
            refine take_cell 12 _ _ (.agg #[.int .i16 (x (m + 1)).a, .int .i16 (x (m + 1)).b]) rfl (by rfl) (by kernel_rfl) (by kernel_rfl) (by kernel_rfl) (fun wq hS => run_load_mid 125 _ b (o + (m + 1) * 4) [.int .i16 (x (m + 1)).a, .int .i16 (x (m + 1)).b] rfl (range_two (R1.out _ hS.1)) _ Try.underlying125 rfl info_spot) rfl rfl kd ?_
            simp only [Act.put, List.setIfInBounds_toArray, List.set_cons_zero, List.set_cons_succ]
            refine wpAnyH_ready (rs := [13]) (by kernel_rfl) (by simp) ?_
            refine callK 13 _ _ (.bool true) kd rfl (by rfl) 160 #[.agg #[.int .i16 (x m).a, .int .i16 (x m).b], .agg #[.int .i16 (x (m + 1)).a, .int .i16 (x (m + 1)).b]] (fun w => by unfold execOp; go_simp) rfl rfl ?hc1 (fun w1 k1 => ?_) AllReadyH.nil
            case hc1 => exact HB.out _
            refine ⟨k1, ?_⟩
            simp only [Act.put, List.setIfInBounds_toArray, List.set_cons_zero, List.set_cons_succ]
            refine take_val 14 _ _ (.bool false) rfl (by rfl) (by kernel_rfl) (by kernel_rfl) (by kernel_rfl) (fun w => by unfold execOp; go_simp) rfl rfl k1 ?_
            simp only [Act.put, List.setIfInBounds_toArray, List.set_cons_zero, List.set_cons_succ]
            refine take_val 15 _ _ (.bool false) rfl (by rfl) (by kernel_rfl) (by kernel_rfl) (by kernel_rfl) (fun w => by unfold execOp; go_simp) rfl rfl k1 ?_
            simp only [Act.put, List.setIfInBounds_toArray, List.set_cons_zero, List.set_cons_succ]
            refine wpAnyH_done (by kernel_rfl) (NoPanic.normal ?_) _
            go_wp2
            go_roundw
            case rel => exact ⟨m + 1 + 1, by omega, by go_num, hid k1, hid (hm.out.step OK.out (.inr hb))⟩
            case measure => simp [intOf]; omega
          · have HB := hid (fun w => by have := sBefore (x m) (x (m + 1)) w; rw [decide_eq_false hb] at this; exact this)
            have e := hid (no.out fun h => by have := (h (m + 1) HK.out).2; rcases this with h1 | h1; omega; exact hb h1)
            go_wp2_with fail
            refine region_kept (w0 := w) (l := []) 16 #[false, false, false, false, false, false, false, false, false, false, false, false, false, false, false, false] (by kernel_rfl) rfl rfl ?_
            have kd := h0.out.drew
            generalize World.drew _ = wd at kd ⊢
            refine take_val 0 _ _ (.int .i64 ((m : Int) + 1)) rfl (by rfl) (by kernel_rfl) (by kernel_rfl) (by kernel_rfl) (fun w => by rfl) rfl rfl kd ?_
            simp only [Act.put, List.setIfInBounds_toArray, List.set_cons_zero, List.set_cons_succ]
            refine take_val 1 _ _ (.bool true) rfl (by rfl) (by kernel_rfl) (by kernel_rfl) (by kernel_rfl) (fun w => by unfold execOp; go_simp) rfl rfl kd ?_
            simp only [Act.put, List.setIfInBounds_toArray, List.set_cons_zero, List.set_cons_succ]
            refine take_val 2 _ _ (.bool true) rfl (by rfl) (by kernel_rfl) (by kernel_rfl) (by kernel_rfl) (fun w => by rfl) rfl rfl kd ?_
            simp only [Act.put, List.setIfInBounds_toArray, List.set_cons_zero, List.set_cons_succ]
            refine take_val 3 _ _ (.slice (some ⟨b, o, none⟩) n cap) rfl (by rfl) (by kernel_rfl) (by kernel_rfl) (by kernel_rfl) (fun w => by rfl) rfl rfl kd ?_
            simp only [Act.put, List.setIfInBounds_toArray, List.set_cons_zero, List.set_cons_succ]
            refine take_val 4 _ _ (.int .i64 ((m : Int) + 1)) rfl (by rfl) (by kernel_rfl) (by kernel_rfl) (by kernel_rfl) (fun w => by rfl) rfl rfl kd ?_
            simp only [Act.put, List.setIfInBounds_toArray, List.set_cons_zero, List.set_cons_succ]
            refine take_val 5 _ _ (.int .i64 (m : Int)) rfl (by rfl) (by kernel_rfl) (by kernel_rfl) (by kernel_rfl) (fun w => by unfold execOp; go_simp) rfl rfl kd ?_
            simp only [Act.put, List.setIfInBounds_toArray, List.set_cons_zero, List.set_cons_succ]
            refine take_val 6 _ _ (.pointer (some ⟨b, o + m * 4, none⟩)) rfl (by rfl) (by kernel_rfl) (by kernel_rfl) (by kernel_rfl) (fun w => run_index_op _ _ rfl rfl (run_indexAt Try.underlying36 info_cell HM.out w)) rfl rfl kd ?_
            simp only [Act.put, List.setIfInBounds_toArray, List.set_cons_zero, List.set_cons_succ]
            refine take_val 7 _ _ (.pointer (some ⟨b, o + m * 4, none⟩)) rfl (by rfl) (by kernel_rfl) (by kernel_rfl) (by kernel_rfl) (fun w => by unfold execOp; go_simp) rfl rfl kd ?_
            simp only [Act.put, List.setIfInBounds_toArray, List.set_cons_zero, List.set_cons_succ]
            refine take_cell 8 _ _ (.agg #[.int .i16 (x m).a, .int .i16 (x m).b]) rfl (by rfl) (by kernel_rfl) (by kernel_rfl) (by kernel_rfl) (fun wq hS => run_load_mid 125 _ b (o + m * 4) [.int .i16 (x m).a, .int .i16 (x m).b] rfl (range_two (R2.out _ hS.1)) _ Try.underlying125 rfl info_spot) rfl rfl kd ?_
            simp only [Act.put, List.setIfInBounds_toArray, List.set_cons_zero, List.set_cons_succ]
            refine take_val 9 _ _ (.pointer (some ⟨b, o + (m + 1) * 4, none⟩)) rfl (by rfl) (by kernel_rfl) (by kernel_rfl) (by kernel_rfl) (fun w => by rfl) rfl rfl kd ?_
            simp only [Act.put, List.setIfInBounds_toArray, List.set_cons_zero, List.set_cons_succ]
            refine take_val 10 _ _ (.pointer (some ⟨b, o + (m + 1) * 4, none⟩)) rfl (by rfl) (by kernel_rfl) (by kernel_rfl) (by kernel_rfl) (fun w => by unfold execOp; go_simp) rfl rfl kd ?_
            simp only [Act.put, List.setIfInBounds_toArray, List.set_cons_zero, List.set_cons_succ]
            refine take_val 11 _ _ (.pointer (some ⟨b, o + (m + 1) * 4, none⟩)) rfl (by rfl) (by kernel_rfl) (by kernel_rfl) (by kernel_rfl) (fun w => by unfold execOp; go_simp) rfl rfl kd ?_
            simp only [Act.put, List.setIfInBounds_toArray, List.set_cons_zero, List.set_cons_succ]
            refine take_cell 12 _ _ (.agg #[.int .i16 (x (m + 1)).a, .int .i16 (x (m + 1)).b]) rfl (by rfl) (by kernel_rfl) (by kernel_rfl) (by kernel_rfl) (fun wq hS => run_load_mid 125 _ b (o + (m + 1) * 4) [.int .i16 (x (m + 1)).a, .int .i16 (x (m + 1)).b] rfl (range_two (R1.out _ hS.1)) _ Try.underlying125 rfl info_spot) rfl rfl kd ?_
            simp only [Act.put, List.setIfInBounds_toArray, List.set_cons_zero, List.set_cons_succ]
            refine wpAnyH_ready (rs := [13]) (by kernel_rfl) (by simp) ?_
            refine callK 13 _ _ (.bool false) kd rfl (by rfl) 160 #[.agg #[.int .i16 (x m).a, .int .i16 (x m).b], .agg #[.int .i16 (x (m + 1)).a, .int .i16 (x (m + 1)).b]] (fun w => by unfold execOp; go_simp) rfl rfl ?hc1 (fun w1 k1 => ?_) AllReadyH.nil
            case hc1 => exact HB.out _
            refine ⟨k1, ?_⟩
            simp only [Act.put, List.setIfInBounds_toArray, List.set_cons_zero, List.set_cons_succ]
            refine take_val 14 _ _ (.bool true) rfl (by rfl) (by kernel_rfl) (by kernel_rfl) (by kernel_rfl) (fun w => by unfold execOp; go_simp) rfl rfl k1 ?_
            simp only [Act.put, List.setIfInBounds_toArray, List.set_cons_zero, List.set_cons_succ]
            refine take_val 15 _ _ (.bool true) rfl (by rfl) (by kernel_rfl) (by kernel_rfl) (by kernel_rfl) (fun w => by unfold execOp; go_simp) rfl rfl k1 ?_
            simp only [Act.put, List.setIfInBounds_toArray, List.set_cons_zero, List.set_cons_succ]
            refine wpAnyH_done (by kernel_rfl) (NoPanic.normal ?_) _
            go_wp2
            go_ret
            exact ⟨by rw [e.out]; rfl, k1.1⟩
      · have e := hid (no.out fun h => hok (h k hlt).1)
        by_cases g1 : InK (x k).a
        · have d1 : decide (-1000 ≤ (x k).a ∧ (x k).a ≤ 1000) = true := decide_eq_true g1
          by_cases g2 : InK (x k).b
          · have d2 : decide (-1000 ≤ (x k).b ∧ (x k).b ≤ 1000) = true := decide_eq_true g2
            rcases g3 : amtB (x k).q with _ | _
            · have G3 := hid g3
              clear hok g1 g2 g3
              go_wp2_with fail
              refine (l00In_q _ _ _ _).mono ?_
              rintro e9 w2 ⟨rfl, rfl⟩
              go_wp2_with fail
              refine (l00In_q _ _ _ _).mono ?_
              rintro e9 w2 ⟨rfl, rfl⟩
              go_wp2_with fail
              refine (sAmount_f _ HQ.out G3.out _).mono ?_
              rintro e9 w2 ⟨rfl, hb2⟩
              have k2 := hid (h0.out.stay hb2)
              go_wp2
              go_ret
              exact ⟨by rw [e.out]; rfl, k2.out.1⟩
            · have d3 : decide (1 ≤ (x k).s ∧ (x k).s ≤ 1000000) = false := decide_eq_false fun h => hok ⟨g1, g2, g3, h.1, h.2⟩
              have G3 := hid g3
              clear hok g1 g2 g3
              go_wp2_with fail
              refine (l00In_q _ _ _ _).mono ?_
              rintro e9 w2 ⟨rfl, rfl⟩
              go_wp2_with fail
              refine (l00In_q _ _ _ _).mono ?_
              rintro e9 w2 ⟨rfl, rfl⟩
              go_wp2_with fail
              refine (sAmount_t _ G3.out _).mono ?_
              rintro e9 w2 ⟨rfl, rfl⟩
              go_wp2_with fail
              refine (l00In_q _ _ _ _).mono ?_
              rintro e9 w2 ⟨rfl, rfl⟩
              rw [d3]
              go_wp2
              go_ret
              exact ⟨by rw [e.out]; rfl, h0.out.1⟩
          · have d2 : decide (-1000 ≤ (x k).b ∧ (x k).b ≤ 1000) = false := decide_eq_false g2
            clear hok g1 g2
            go_wp2_with fail
            refine (l00In_q _ _ _ _).mono ?_
            rintro e9 w2 ⟨rfl, rfl⟩
            go_wp2_with fail
            refine (l00In_q _ _ _ _).mono ?_
            rintro e9 w2 ⟨rfl, rfl⟩
            rw [d2]
            go_wp2
            go_ret
            exact ⟨by rw [e.out]; rfl, h0.out.1⟩
        · have d1 : decide (-1000 ≤ (x k).a ∧ (x k).a ≤ 1000) = false := decide_eq_false g1
          clear hok g1
          go_wp2_with fail
          refine (l00In_q _ _ _ _).mono ?_
          rintro e9 w2 ⟨rfl, rfl⟩
          rw [d1]
          go_wp2
          go_ret
          exact ⟨by rw [e.out]; rfl, h0.out.1⟩
    · obtain rfl : k = n := by omega
      have hk3 : ¬ (k : Int) < (k : Int) := by omega
      by_cases h4 : k ≤ 400
      · have h5 : (k : Int) ≤ 400 := by omega
        have e := hid (H.out.2 ⟨hm.out, h4⟩)
        clear hlt h4
        go_wp2
        go_ret
        exact ⟨by rw [e.out]; first | rfl | (simp; done) | (simp; omega), h0.out.1⟩
      · have h5 : ¬ (k : Int) ≤ 400 := by omega
        have e : Hid (r = false) := hid (by
          cases r with
          | true => exact absurd (H.out.1 rfl).2 h4
          | false => rfl)
        clear hlt h4
        go_wp2
        go_ret
        exact ⟨by rw [e.out]; first | rfl | (simp; done) | (simp; omega), h0.out.1⟩

set_option maxRecDepth 100000 in
set_option maxHeartbeats 4000000 in
theorem iMap (s : Value) (n : Nat) (x : Nat → E4) (hx : ∀ k, (x k).ok) (r : Bool) (h : r = true ↔ MapP n x ∧ n ≤ 400) (w : World) (hs : RdE w s n x) (hn : n ≤ 1048576) :
    Calls Try.prog 28 #[s] w fun e w' => e = .returned (.bool r) ∧ Below w.heap.size w w' := by
  obtain ⟨p, cap, rfl, hc⟩ := hs
  by_cases h4 : n ≤ 400
  · have HC := hid hc
    have HX := hid hx
    have HN := hid hn
    have H := hid h
    have no : Hid (¬ MapP n x → r = false) := hid fun hn => by
      cases r with
      | true => exact absurd (h.1 rfl).1 hn
      | false => rfl
    have h5 : ¬ 400 < (n : Int) := by omega
    have H4 := hid h4
    clear hc hx h hn h4
    go_enter Try.func28, Try.ntmps28
    go_wp2_with fail
    clear h5
    go_loopw [10] (fun i wr => ∃ k : Nat, k ≤ n ∧ i = .int .i64 k ∧ Hid (Kept w [] wr) ∧ Hid (MapP k x)) (fun i _ => n - (intOf i).toNat)
    case atStart => exact ⟨0, by omega, rfl, hid (Kept.nil w), hid fun i hi => absurd hi (Nat.not_lt_zero _)⟩
    case round =>
      obtain ⟨k, hk, rfl, h0, hm⟩ := hrel
      by_cases hlt : k < n
      · have hn9 := HN.out
        have hk3 : (k : Int) < (n : Int) := by omega
        obtain ⟨b, o, rfl, hcell⟩ := HC.out (by omega)
        have HK := hid hlt
        have R0 := hid (range_stay (hcell k hlt) rfl h0.out.1)
        have hq := (HX.out k).1
        have i1 := fun w => run_indexAt (P := Try.prog) (t := 36) (e := 127) Try.underlying36 info_cell (b := b) (o := o) (n := n) (cap := cap) (k := k) hlt w
        have HQ := hid hq
        have RC := hid (fun i (hi : i < n) wq (hb : Below w.heap.size w wq) => range_stay (hcell i hi) rfl hb)
        have K4 := hid (h0.out.push #[.int .i16 (x k).a, .int .i16 (x k).b, .float .f32 (x k).q, .int .i64 (x k).s] 127)
        clear hcell hq
        go_wp2_with (refine wpList_load_mid rfl 127 _ rfl b (o + k * 4) rfl [.int .i16 (x k).a, .int .i16 (x k).b, .float .f32 (x k).q, .int .i64 (x k).s] _ R0.out Try.underlying127 rfl info_cell ?_)
        generalize hg4 : wr.heap.size = g4 at K4 ⊢
        generalize wr.alloc (.cells #[.int .i16 (x k).a, .int .i16 (x k).b, .float .f32 (x k).q, .int .i64 (x k).s] 127) = w4 at K4 ⊢
        clear hg4
        by_cases hok : OkC (x k)
        · have OK := hid hok
          clear hok
          have HV := hid (fun w => iValidCell (x k) HQ.out true ⟨fun _ => OK.out, fun _ => rfl⟩ w)
          rcases Nat.eq_zero_or_pos k with rfl | hp
          · skip
            refine region_kept (w0 := w) (l := [(g4, #[.int .i16 (x 0).a, .int .i16 (x 0).b, .float .f32 (x 0).q, .int .i64 (x 0).s], 127)]) 19 #[false, false, false, false, false, false, false, false, false, false, false, false, false, false, false, false, false, false, false] (by kernel_rfl) rfl rfl ?_
            have kd := K4.out.drew
            generalize World.drew _ = wd at kd ⊢
            refine take_cell 0 _ _ (.agg #[.int .i16 (x 0).a, .int .i16 (x 0).b, .float .f32 (x 0).q, .int .i64 (x 0).s]) rfl (by rfl) (by kernel_rfl) (by kernel_rfl) (by kernel_rfl) (fun wq hS => run_load_mid 127 _ g4 0 (e4 (x 0)) rfl (range_part (hS.at (x := (g4, #[.int .i16 (x 0).a, .int .i16 (x 0).b, .float .f32 (x 0).q, .int .i64 (x 0).s], 127)) (by simp)) 0 (e4 (x 0)) rfl) _ Try.underlying127 rfl info_cell) rfl rfl kd ?_
            simp only [Act.put, List.setIfInBounds_toArray, List.set_cons_zero, List.set_cons_succ]
            refine wpAnyH_ready (rs := [1]) (by kernel_rfl) (by simp) ?_
            refine callK 1 _ _ (.bool true) kd rfl (by rfl) 85 #[.agg #[.int .i16 (x 0).a, .int .i16 (x 0).b, .float .f32 (x 0).q, .int .i64 (x 0).s]] (fun w => by unfold execOp; go_simp) rfl rfl ?hc1 (fun w1 k1 => ?_) AllReadyH.nil
            case hc1 => exact HV.out _
            refine ⟨k1, ?_⟩
            simp only [Act.put, List.setIfInBounds_toArray, List.set_cons_zero, List.set_cons_succ]
            refine take_val 2 _ _ (.bool false) rfl (by rfl) (by kernel_rfl) (by kernel_rfl) (by kernel_rfl) (fun w => by unfold execOp; go_simp) rfl rfl k1 ?_
            simp only [Act.put, List.setIfInBounds_toArray, List.set_cons_zero, List.set_cons_succ]
            refine take_val 3 _ _ (.bool false) rfl (by rfl) (by kernel_rfl) (by kernel_rfl) (by kernel_rfl) (fun w => by rfl) rfl rfl k1 ?_
            simp only [Act.put, List.setIfInBounds_toArray, List.set_cons_zero, List.set_cons_succ]
            refine take_val 4 _ _ (.int .i64 0) rfl (by rfl) (by kernel_rfl) (by kernel_rfl) (by kernel_rfl) (fun w => by rfl) rfl rfl k1 ?_
            simp only [Act.put, List.setIfInBounds_toArray, List.set_cons_zero, List.set_cons_succ]
            refine take_val 5 _ _ (.bool false) rfl (by rfl) (by kernel_rfl) (by kernel_rfl) (by kernel_rfl) (fun w => by unfold execOp; go_simp) rfl rfl k1 ?_
            simp only [Act.put, List.setIfInBounds_toArray, List.set_cons_zero, List.set_cons_succ]
            refine take_val 6 _ _ (.bool false) rfl (by rfl) (by kernel_rfl) (by kernel_rfl) (by kernel_rfl) (fun w => by rfl) rfl rfl k1 ?_
            simp only [Act.put, List.setIfInBounds_toArray, List.set_cons_zero, List.set_cons_succ]
            refine take_skip 7 _ _ rfl (by kernel_rfl) (by kernel_rfl) (by kernel_rfl) (by kernel_rfl) rfl rfl k1 ?_
            simp only [Act.put, List.setIfInBounds_toArray, List.set_cons_zero, List.set_cons_succ]
            refine take_skip 8 _ _ rfl (by kernel_rfl) (by kernel_rfl) (by kernel_rfl) (by kernel_rfl) rfl rfl k1 ?_
            simp only [Act.put, List.setIfInBounds_toArray, List.set_cons_zero, List.set_cons_succ]
            refine take_skip 9 _ _ rfl (by kernel_rfl) (by kernel_rfl) (by kernel_rfl) (by kernel_rfl) rfl rfl k1 ?_
            simp only [Act.put, List.setIfInBounds_toArray, List.set_cons_zero, List.set_cons_succ]
            refine take_skip 10 _ _ rfl (by kernel_rfl) (by kernel_rfl) (by kernel_rfl) (by kernel_rfl) rfl rfl k1 ?_
            simp only [Act.put, List.setIfInBounds_toArray, List.set_cons_zero, List.set_cons_succ]
            refine take_skip 11 _ _ rfl (by kernel_rfl) (by kernel_rfl) (by kernel_rfl) (by kernel_rfl) rfl rfl k1 ?_
            simp only [Act.put, List.setIfInBounds_toArray, List.set_cons_zero, List.set_cons_succ]
            refine take_skip 12 _ _ rfl (by kernel_rfl) (by kernel_rfl) (by kernel_rfl) (by kernel_rfl) rfl rfl k1 ?_
            simp only [Act.put, List.setIfInBounds_toArray, List.set_cons_zero, List.set_cons_succ]
            refine take_skip 13 _ _ rfl (by kernel_rfl) (by kernel_rfl) (by kernel_rfl) (by kernel_rfl) rfl rfl k1 ?_
            simp only [Act.put, List.setIfInBounds_toArray, List.set_cons_zero, List.set_cons_succ]
            refine take_skip 14 _ _ rfl (by kernel_rfl) (by kernel_rfl) (by kernel_rfl) (by kernel_rfl) rfl rfl k1 ?_
            simp only [Act.put, List.setIfInBounds_toArray, List.set_cons_zero, List.set_cons_succ]
            refine take_skip 15 _ _ rfl (by kernel_rfl) (by kernel_rfl) (by kernel_rfl) (by kernel_rfl) rfl rfl k1 ?_
            simp only [Act.put, List.setIfInBounds_toArray, List.set_cons_zero, List.set_cons_succ]
            refine take_skip 16 _ _ rfl (by kernel_rfl) (by kernel_rfl) (by kernel_rfl) (by kernel_rfl) rfl rfl k1 ?_
            simp only [Act.put, List.setIfInBounds_toArray, List.set_cons_zero, List.set_cons_succ]
            refine take_val 17 _ _ (.bool false) rfl (by rfl) (by kernel_rfl) (by kernel_rfl) (by kernel_rfl) (fun w => by unfold execOp; go_simp) rfl rfl k1 ?_
            simp only [Act.put, List.setIfInBounds_toArray, List.set_cons_zero, List.set_cons_succ]
            refine take_val 18 _ _ (.bool false) rfl (by rfl) (by kernel_rfl) (by kernel_rfl) (by kernel_rfl) (fun w => by unfold execOp; go_simp) rfl rfl k1 ?_
            simp only [Act.put, List.setIfInBounds_toArray, List.set_cons_zero, List.set_cons_succ]
            refine wpAnyH_done (by kernel_rfl) (NoPanic.normal ?_) _
            go_wp2
            go_roundw
            case rel => exact ⟨1, by omega, by go_num, hid (k1.sub (by simp)), hid (hm.out.step OK.out (.inl rfl))⟩
            case measure => simp [intOf]; omega
          · obtain ⟨m, rfl⟩ : ∃ m, k = m + 1 := ⟨k - 1, by omega⟩
            have hm1 : 0 < (m : Int) + 1 := by omega
            have hm2 : wrap64 ((m : Int) + 1 - 1) = (m : Int) := by unfold wrap64; omega
            have hm3 : IntKind.i64.wrap (m : Int) = (m : Int) := by rw [IntKind.wrap_i64]; omega
            have HM := hid (show m < n by omega)
            have R2 := hid (RC.out m HM.out)
            simp only [Int.natCast_add, Int.natCast_one]
            by_cases hb : Bef (x m) (x (m + 1))
            · have hlx : ¬ 0 ≤ lexI (x m) (x (m + 1)) := fun h => (lex_bef _ _).1 h hb
              skip
              refine region_kept (w0 := w) (l := [(g4, #[.int .i16 (x (m + 1)).a, .int .i16 (x (m + 1)).b, .float .f32 (x (m + 1)).q, .int .i64 (x (m + 1)).s], 127)]) 19 #[false, false, false, false, false, false, false, false, false, false, false, false, false, false, false, false, false, false, false] (by kernel_rfl) rfl rfl ?_
              have kd := K4.out.drew
              generalize World.drew _ = wd at kd ⊢
              refine take_cell 0 _ _ (.agg #[.int .i16 (x (m + 1)).a, .int .i16 (x (m + 1)).b, .float .f32 (x (m + 1)).q, .int .i64 (x (m + 1)).s]) rfl (by rfl) (by kernel_rfl) (by kernel_rfl) (by kernel_rfl) (fun wq hS => run_load_mid 127 _ g4 0 (e4 (x (m + 1))) rfl (range_part (hS.at (x := (g4, #[.int .i16 (x (m + 1)).a, .int .i16 (x (m + 1)).b, .float .f32 (x (m + 1)).q, .int .i64 (x (m + 1)).s], 127)) (by simp)) 0 (e4 (x (m + 1))) rfl) _ Try.underlying127 rfl info_cell) rfl rfl kd ?_
              simp only [Act.put, List.setIfInBounds_toArray, List.set_cons_zero, List.set_cons_succ]
              refine wpAnyH_ready (rs := [1]) (by kernel_rfl) (by simp) ?_
              refine callK 1 _ _ (.bool true) kd rfl (by rfl) 85 #[.agg #[.int .i16 (x (m + 1)).a, .int .i16 (x (m + 1)).b, .float .f32 (x (m + 1)).q, .int .i64 (x (m + 1)).s]] (fun w => by unfold execOp; go_simp) rfl rfl ?hc1 (fun w1 k1 => ?_) AllReadyH.nil
              case hc1 => exact HV.out _
              refine ⟨k1, ?_⟩
              simp only [Act.put, List.setIfInBounds_toArray, List.set_cons_zero, List.set_cons_succ]
              refine take_val 2 _ _ (.bool false) rfl (by rfl) (by kernel_rfl) (by kernel_rfl) (by kernel_rfl) (fun w => by unfold execOp; go_simp) rfl rfl k1 ?_
              simp only [Act.put, List.setIfInBounds_toArray, List.set_cons_zero, List.set_cons_succ]
              refine take_val 3 _ _ (.bool false) rfl (by rfl) (by kernel_rfl) (by kernel_rfl) (by kernel_rfl) (fun w => by rfl) rfl rfl k1 ?_
              simp only [Act.put, List.setIfInBounds_toArray, List.set_cons_zero, List.set_cons_succ]
              refine take_val 4 _ _ (.int .i64 ((m : Int) + 1)) rfl (by rfl) (by kernel_rfl) (by kernel_rfl) (by kernel_rfl) (fun w => by rfl) rfl rfl k1 ?_
              simp only [Act.put, List.setIfInBounds_toArray, List.set_cons_zero, List.set_cons_succ]
              refine take_val 5 _ _ (.bool true) rfl (by rfl) (by kernel_rfl) (by kernel_rfl) (by kernel_rfl) (fun w => by unfold execOp; go_simp) rfl rfl k1 ?_
              simp only [Act.put, List.setIfInBounds_toArray, List.set_cons_zero, List.set_cons_succ]
              refine take_val 6 _ _ (.bool true) rfl (by rfl) (by kernel_rfl) (by kernel_rfl) (by kernel_rfl) (fun w => by rfl) rfl rfl k1 ?_
              simp only [Act.put, List.setIfInBounds_toArray, List.set_cons_zero, List.set_cons_succ]
              refine take_val 7 _ _ (.slice (some ⟨b, o, none⟩) n cap) rfl (by rfl) (by kernel_rfl) (by kernel_rfl) (by kernel_rfl) (fun w => by rfl) rfl rfl k1 ?_
              simp only [Act.put, List.setIfInBounds_toArray, List.set_cons_zero, List.set_cons_succ]
              refine take_val 8 _ _ (.int .i64 ((m : Int) + 1)) rfl (by rfl) (by kernel_rfl) (by kernel_rfl) (by kernel_rfl) (fun w => by rfl) rfl rfl k1 ?_
              simp only [Act.put, List.setIfInBounds_toArray, List.set_cons_zero, List.set_cons_succ]
              refine take_val 9 _ _ (.int .i64 (m : Int)) rfl (by rfl) (by kernel_rfl) (by kernel_rfl) (by kernel_rfl) (fun w => by unfold execOp; go_simp) rfl rfl k1 ?_
              simp only [Act.put, List.setIfInBounds_toArray, List.set_cons_zero, List.set_cons_succ]
              refine take_val 10 _ _ (.pointer (some ⟨b, o + m * 4, none⟩)) rfl (by rfl) (by kernel_rfl) (by kernel_rfl) (by kernel_rfl) (fun w => run_index_op _ _ rfl rfl (run_indexAt Try.underlying36 info_cell HM.out w)) rfl rfl k1 ?_
              simp only [Act.put, List.setIfInBounds_toArray, List.set_cons_zero, List.set_cons_succ]
              refine take_val 11 _ _ (.pointer (some ⟨b, o + m * 4, none⟩)) rfl (by rfl) (by kernel_rfl) (by kernel_rfl) (by kernel_rfl) (fun w => by unfold execOp; go_simp) rfl rfl k1 ?_
              simp only [Act.put, List.setIfInBounds_toArray, List.set_cons_zero, List.set_cons_succ]
              refine take_cell 12 _ _ (.agg #[.int .i16 (x m).a, .int .i16 (x m).b]) rfl (by rfl) (by kernel_rfl) (by kernel_rfl) (by kernel_rfl) (fun wq hS => run_load_mid 125 _ b (o + m * 4) [.int .i16 (x m).a, .int .i16 (x m).b] rfl (range_two (R2.out _ hS.1)) _ Try.underlying125 rfl info_spot) rfl rfl k1 ?_
              simp only [Act.put, List.setIfInBounds_toArray, List.set_cons_zero, List.set_cons_succ]
              refine take_val 13 _ _ (.pointer (some ⟨g4, 0, none⟩)) rfl (by rfl) (by kernel_rfl) (by kernel_rfl) (by kernel_rfl) (fun w => by unfold execOp; go_simp) rfl rfl k1 ?_
              simp only [Act.put, List.setIfInBounds_toArray, List.set_cons_zero, List.set_cons_succ]
              refine take_cell 14 _ _ (.agg #[.int .i16 (x (m + 1)).a, .int .i16 (x (m + 1)).b]) rfl (by rfl) (by kernel_rfl) (by kernel_rfl) (by kernel_rfl) (fun wq hS => run_load_mid 125 _ g4 0 [.int .i16 (x (m + 1)).a, .int .i16 (x (m + 1)).b] rfl (range_part (hS.at (x := (g4, #[.int .i16 (x (m + 1)).a, .int .i16 (x (m + 1)).b, .float .f32 (x (m + 1)).q, .int .i64 (x (m + 1)).s], 127)) (by simp)) 0 [.int .i16 (x (m + 1)).a, .int .i16 (x (m + 1)).b] rfl) _ Try.underlying125 rfl info_spot) rfl rfl k1 ?_
              simp only [Act.put, List.setIfInBounds_toArray, List.set_cons_zero, List.set_cons_succ]
              refine wpAnyH_ready (rs := [15]) (by kernel_rfl) (by simp) ?_
              refine callK 15 _ _ (.int .i64 (lexI (x m) (x (m + 1)))) k1 rfl (by rfl) 86 #[.agg #[.int .i16 (x m).a, .int .i16 (x m).b], .agg #[.int .i16 (x (m + 1)).a, .int .i16 (x (m + 1)).b]] (fun w => by unfold execOp; go_simp) rfl rfl ?hc2 (fun w2 k2 => ?_) AllReadyH.nil
              case hc2 => exact iCmpSpots _ _ _
              refine ⟨k2, ?_⟩
              simp only [Act.put, List.setIfInBounds_toArray, List.set_cons_zero, List.set_cons_succ]
              refine take_val 16 _ _ (.bool false) rfl (by rfl) (by kernel_rfl) (by kernel_rfl) (by kernel_rfl) (fun w => by unfold execOp; go_simp) rfl rfl k2 ?_
              simp only [Act.put, List.setIfInBounds_toArray, List.set_cons_zero, List.set_cons_succ]
              refine take_val 17 _ _ (.bool false) rfl (by rfl) (by kernel_rfl) (by kernel_rfl) (by kernel_rfl) (fun w => by unfold execOp; go_simp) rfl rfl k2 ?_
              simp only [Act.put, List.setIfInBounds_toArray, List.set_cons_zero, List.set_cons_succ]
              refine take_val 18 _ _ (.bool false) rfl (by rfl) (by kernel_rfl) (by kernel_rfl) (by kernel_rfl) (fun w => by unfold execOp; go_simp) rfl rfl k2 ?_
              simp only [Act.put, List.setIfInBounds_toArray, List.set_cons_zero, List.set_cons_succ]
              refine wpAnyH_done (by kernel_rfl) (NoPanic.normal ?_) _
              go_wp2
              go_roundw
              case rel => exact ⟨m + 1 + 1, by omega, by go_num, hid (k2.sub (by simp)), hid (hm.out.step OK.out (.inr hb))⟩
              case measure => simp [intOf]; omega
            · have hlx : 0 ≤ lexI (x m) (x (m + 1)) := (lex_bef _ _).2 hb
              have e := hid (no.out fun h => by have := (h (m + 1) HK.out).2; rcases this with h1 | h1; omega; exact hb h1)
              skip
              refine region_kept (w0 := w) (l := [(g4, #[.int .i16 (x (m + 1)).a, .int .i16 (x (m + 1)).b, .float .f32 (x (m + 1)).q, .int .i64 (x (m + 1)).s], 127)]) 19 #[false, false, false, false, false, false, false, false, false, false, false, false, false, false, false, false, false, false, false] (by kernel_rfl) rfl rfl ?_
              have kd := K4.out.drew
              generalize World.drew _ = wd at kd ⊢
              refine take_cell 0 _ _ (.agg #[.int .i16 (x (m + 1)).a, .int .i16 (x (m + 1)).b, .float .f32 (x (m + 1)).q, .int .i64 (x (m + 1)).s]) rfl (by rfl) (by kernel_rfl) (by kernel_rfl) (by kernel_rfl) (fun wq hS => run_load_mid 127 _ g4 0 (e4 (x (m + 1))) rfl (range_part (hS.at (x := (g4, #[.int .i16 (x (m + 1)).a, .int .i16 (x (m + 1)).b, .float .f32 (x (m + 1)).q, .int .i64 (x (m + 1)).s], 127)) (by simp)) 0 (e4 (x (m + 1))) rfl) _ Try.underlying127 rfl info_cell) rfl rfl kd ?_
              simp only [Act.put, List.setIfInBounds_toArray, List.set_cons_zero, List.set_cons_succ]
              refine wpAnyH_ready (rs := [1]) (by kernel_rfl) (by simp) ?_
              refine callK 1 _ _ (.bool true) kd rfl (by rfl) 85 #[.agg #[.int .i16 (x (m + 1)).a, .int .i16 (x (m + 1)).b, .float .f32 (x (m + 1)).q, .int .i64 (x (m + 1)).s]] (fun w => by unfold execOp; go_simp) rfl rfl ?hc1 (fun w1 k1 => ?_) AllReadyH.nil
              case hc1 => exact HV.out _
              refine ⟨k1, ?_⟩
              simp only [Act.put, List.setIfInBounds_toArray, List.set_cons_zero, List.set_cons_succ]
              refine take_val 2 _ _ (.bool false) rfl (by rfl) (by kernel_rfl) (by kernel_rfl) (by kernel_rfl) (fun w => by unfold execOp; go_simp) rfl rfl k1 ?_
              simp only [Act.put, List.setIfInBounds_toArray, List.set_cons_zero, List.set_cons_succ]
              refine take_val 3 _ _ (.bool false) rfl (by rfl) (by kernel_rfl) (by kernel_rfl) (by kernel_rfl) (fun w => by rfl) rfl rfl k1 ?_
              simp only [Act.put, List.setIfInBounds_toArray, List.set_cons_zero, List.set_cons_succ]
              refine take_val 4 _ _ (.int .i64 ((m : Int) + 1)) rfl (by rfl) (by kernel_rfl) (by kernel_rfl) (by kernel_rfl) (fun w => by rfl) rfl rfl k1 ?_
              simp only [Act.put, List.setIfInBounds_toArray, List.set_cons_zero, List.set_cons_succ]
              refine take_val 5 _ _ (.bool true) rfl (by rfl) (by kernel_rfl) (by kernel_rfl) (by kernel_rfl) (fun w => by unfold execOp; go_simp) rfl rfl k1 ?_
              simp only [Act.put, List.setIfInBounds_toArray, List.set_cons_zero, List.set_cons_succ]
              refine take_val 6 _ _ (.bool true) rfl (by rfl) (by kernel_rfl) (by kernel_rfl) (by kernel_rfl) (fun w => by rfl) rfl rfl k1 ?_
              simp only [Act.put, List.setIfInBounds_toArray, List.set_cons_zero, List.set_cons_succ]
              refine take_val 7 _ _ (.slice (some ⟨b, o, none⟩) n cap) rfl (by rfl) (by kernel_rfl) (by kernel_rfl) (by kernel_rfl) (fun w => by rfl) rfl rfl k1 ?_
              simp only [Act.put, List.setIfInBounds_toArray, List.set_cons_zero, List.set_cons_succ]
              refine take_val 8 _ _ (.int .i64 ((m : Int) + 1)) rfl (by rfl) (by kernel_rfl) (by kernel_rfl) (by kernel_rfl) (fun w => by rfl) rfl rfl k1 ?_
              simp only [Act.put, List.setIfInBounds_toArray, List.set_cons_zero, List.set_cons_succ]
              refine take_val 9 _ _ (.int .i64 (m : Int)) rfl (by rfl) (by kernel_rfl) (by kernel_rfl) (by kernel_rfl) (fun w => by unfold execOp; go_simp) rfl rfl k1 ?_
              simp only [Act.put, List.setIfInBounds_toArray, List.set_cons_zero, List.set_cons_succ]
              refine take_val 10 _ _ (.pointer (some ⟨b, o + m * 4, none⟩)) rfl (by rfl) (by kernel_rfl) (by kernel_rfl) (by kernel_rfl) (fun w => run_index_op _ _ rfl rfl (run_indexAt Try.underlying36 info_cell HM.out w)) rfl rfl k1 ?_
              simp only [Act.put, List.setIfInBounds_toArray, List.set_cons_zero, List.set_cons_succ]
              refine take_val 11 _ _ (.pointer (some ⟨b, o + m * 4, none⟩)) rfl (by rfl) (by kernel_rfl) (by kernel_rfl) (by kernel_rfl) (fun w => by unfold execOp; go_simp) rfl rfl k1 ?_
              simp only [Act.put, List.setIfInBounds_toArray, List.set_cons_zero, List.set_cons_succ]
              refine take_cell 12 _ _ (.agg #[.int .i16 (x m).a, .int .i16 (x m).b]) rfl (by rfl) (by kernel_rfl) (by kernel_rfl) (by kernel_rfl) (fun wq hS => run_load_mid 125 _ b (o + m * 4) [.int .i16 (x m).a, .int .i16 (x m).b] rfl (range_two (R2.out _ hS.1)) _ Try.underlying125 rfl info_spot) rfl rfl k1 ?_
              simp only [Act.put, List.setIfInBounds_toArray, List.set_cons_zero, List.set_cons_succ]
              refine take_val 13 _ _ (.pointer (some ⟨g4, 0, none⟩)) rfl (by rfl) (by kernel_rfl) (by kernel_rfl) (by kernel_rfl) (fun w => by unfold execOp; go_simp) rfl rfl k1 ?_
              simp only [Act.put, List.setIfInBounds_toArray, List.set_cons_zero, List.set_cons_succ]
              refine take_cell 14 _ _ (.agg #[.int .i16 (x (m + 1)).a, .int .i16 (x (m + 1)).b]) rfl (by rfl) (by kernel_rfl) (by kernel_rfl) (by kernel_rfl) (fun wq hS => run_load_mid 125 _ g4 0 [.int .i16 (x (m + 1)).a, .int .i16 (x (m + 1)).b] rfl (range_part (hS.at (x := (g4, #[.int .i16 (x (m + 1)).a, .int .i16 (x (m + 1)).b, .float .f32 (x (m + 1)).q, .int .i64 (x (m + 1)).s], 127)) (by simp)) 0 [.int .i16 (x (m + 1)).a, .int .i16 (x (m + 1)).b] rfl) _ Try.underlying125 rfl info_spot) rfl rfl k1 ?_
              simp only [Act.put, List.setIfInBounds_toArray, List.set_cons_zero, List.set_cons_succ]
              refine wpAnyH_ready (rs := [15]) (by kernel_rfl) (by simp) ?_
              refine callK 15 _ _ (.int .i64 (lexI (x m) (x (m + 1)))) k1 rfl (by rfl) 86 #[.agg #[.int .i16 (x m).a, .int .i16 (x m).b], .agg #[.int .i16 (x (m + 1)).a, .int .i16 (x (m + 1)).b]] (fun w => by unfold execOp; go_simp) rfl rfl ?hc2 (fun w2 k2 => ?_) AllReadyH.nil
              case hc2 => exact iCmpSpots _ _ _
              refine ⟨k2, ?_⟩
              simp only [Act.put, List.setIfInBounds_toArray, List.set_cons_zero, List.set_cons_succ]
              refine take_val 16 _ _ (.bool true) rfl (by rfl) (by kernel_rfl) (by kernel_rfl) (by kernel_rfl) (fun w => by unfold execOp; go_simp) rfl rfl k2 ?_
              simp only [Act.put, List.setIfInBounds_toArray, List.set_cons_zero, List.set_cons_succ]
              refine take_val 17 _ _ (.bool true) rfl (by rfl) (by kernel_rfl) (by kernel_rfl) (by kernel_rfl) (fun w => by unfold execOp; go_simp) rfl rfl k2 ?_
              simp only [Act.put, List.setIfInBounds_toArray, List.set_cons_zero, List.set_cons_succ]
              refine take_val 18 _ _ (.bool true) rfl (by rfl) (by kernel_rfl) (by kernel_rfl) (by kernel_rfl) (fun w => by unfold execOp; go_simp) rfl rfl k2 ?_
              simp only [Act.put, List.setIfInBounds_toArray, List.set_cons_zero, List.set_cons_succ]
              refine wpAnyH_done (by kernel_rfl) (NoPanic.normal ?_) _
              go_wp2
              go_ret
              exact ⟨by rw [e.out]; rfl, k2.1⟩
        · have e := hid (no.out fun h => hok (h k HK.out).1)
          have HV := hid (fun w => iValidCell (x k) HQ.out false ⟨fun h => (by cases h), fun h => absurd h hok⟩ w)
          clear hok
          skip
          refine region_kept (w0 := w) (l := [(g4, #[.int .i16 (x k).a, .int .i16 (x k).b, .float .f32 (x k).q, .int .i64 (x k).s], 127)]) 19 #[false, false, false, false, false, false, false, false, false, false, false, false, false, false, false, false, false, false, false] (by kernel_rfl) rfl rfl ?_
          have kd := K4.out.drew
          generalize World.drew _ = wd at kd ⊢
          refine take_cell 0 _ _ (.agg #[.int .i16 (x k).a, .int .i16 (x k).b, .float .f32 (x k).q, .int .i64 (x k).s]) rfl (by rfl) (by kernel_rfl) (by kernel_rfl) (by kernel_rfl) (fun wq hS => run_load_mid 127 _ g4 0 (e4 (x k)) rfl (range_part (hS.at (x := (g4, #[.int .i16 (x k).a, .int .i16 (x k).b, .float .f32 (x k).q, .int .i64 (x k).s], 127)) (by simp)) 0 (e4 (x k)) rfl) _ Try.underlying127 rfl info_cell) rfl rfl kd ?_
          simp only [Act.put, List.setIfInBounds_toArray, List.set_cons_zero, List.set_cons_succ]
          refine wpAnyH_ready (rs := [1]) (by kernel_rfl) (by simp) ?_
          refine callK 1 _ _ (.bool false) kd rfl (by rfl) 85 #[.agg #[.int .i16 (x k).a, .int .i16 (x k).b, .float .f32 (x k).q, .int .i64 (x k).s]] (fun w => by unfold execOp; go_simp) rfl rfl ?hc1 (fun w1 k1 => ?_) AllReadyH.nil
          case hc1 => exact HV.out _
          refine ⟨k1, ?_⟩
          simp only [Act.put, List.setIfInBounds_toArray, List.set_cons_zero, List.set_cons_succ]
          refine take_val 2 _ _ (.bool true) rfl (by rfl) (by kernel_rfl) (by kernel_rfl) (by kernel_rfl) (fun w => by unfold execOp; go_simp) rfl rfl k1 ?_
          simp only [Act.put, List.setIfInBounds_toArray, List.set_cons_zero, List.set_cons_succ]
          refine take_val 3 _ _ (.bool true) rfl (by rfl) (by kernel_rfl) (by kernel_rfl) (by kernel_rfl) (fun w => by rfl) rfl rfl k1 ?_
          simp only [Act.put, List.setIfInBounds_toArray, List.set_cons_zero, List.set_cons_succ]
          refine take_skip 4 _ _ rfl (by kernel_rfl) (by kernel_rfl) (by kernel_rfl) (by kernel_rfl) rfl rfl k1 ?_
          simp only [Act.put, List.setIfInBounds_toArray, List.set_cons_zero, List.set_cons_succ]
          refine take_skip 5 _ _ rfl (by kernel_rfl) (by kernel_rfl) (by kernel_rfl) (by kernel_rfl) rfl rfl k1 ?_
          simp only [Act.put, List.setIfInBounds_toArray, List.set_cons_zero, List.set_cons_succ]
          refine take_skip 6 _ _ rfl (by kernel_rfl) (by kernel_rfl) (by kernel_rfl) (by kernel_rfl) rfl rfl k1 ?_
          simp only [Act.put, List.setIfInBounds_toArray, List.set_cons_zero, List.set_cons_succ]
          refine take_skip 7 _ _ rfl (by kernel_rfl) (by kernel_rfl) (by kernel_rfl) (by kernel_rfl) rfl rfl k1 ?_
          simp only [Act.put, List.setIfInBounds_toArray, List.set_cons_zero, List.set_cons_succ]
          refine take_skip 8 _ _ rfl (by kernel_rfl) (by kernel_rfl) (by kernel_rfl) (by kernel_rfl) rfl rfl k1 ?_
          simp only [Act.put, List.setIfInBounds_toArray, List.set_cons_zero, List.set_cons_succ]
          refine take_skip 9 _ _ rfl (by kernel_rfl) (by kernel_rfl) (by kernel_rfl) (by kernel_rfl) rfl rfl k1 ?_
          simp only [Act.put, List.setIfInBounds_toArray, List.set_cons_zero, List.set_cons_succ]
          refine take_skip 10 _ _ rfl (by kernel_rfl) (by kernel_rfl) (by kernel_rfl) (by kernel_rfl) rfl rfl k1 ?_
          simp only [Act.put, List.setIfInBounds_toArray, List.set_cons_zero, List.set_cons_succ]
          refine take_skip 11 _ _ rfl (by kernel_rfl) (by kernel_rfl) (by kernel_rfl) (by kernel_rfl) rfl rfl k1 ?_
          simp only [Act.put, List.setIfInBounds_toArray, List.set_cons_zero, List.set_cons_succ]
          refine take_skip 12 _ _ rfl (by kernel_rfl) (by kernel_rfl) (by kernel_rfl) (by kernel_rfl) rfl rfl k1 ?_
          simp only [Act.put, List.setIfInBounds_toArray, List.set_cons_zero, List.set_cons_succ]
          refine take_skip 13 _ _ rfl (by kernel_rfl) (by kernel_rfl) (by kernel_rfl) (by kernel_rfl) rfl rfl k1 ?_
          simp only [Act.put, List.setIfInBounds_toArray, List.set_cons_zero, List.set_cons_succ]
          refine take_skip 14 _ _ rfl (by kernel_rfl) (by kernel_rfl) (by kernel_rfl) (by kernel_rfl) rfl rfl k1 ?_
          simp only [Act.put, List.setIfInBounds_toArray, List.set_cons_zero, List.set_cons_succ]
          refine take_skip 15 _ _ rfl (by kernel_rfl) (by kernel_rfl) (by kernel_rfl) (by kernel_rfl) rfl rfl k1 ?_
          simp only [Act.put, List.setIfInBounds_toArray, List.set_cons_zero, List.set_cons_succ]
          refine take_skip 16 _ _ rfl (by kernel_rfl) (by kernel_rfl) (by kernel_rfl) (by kernel_rfl) rfl rfl k1 ?_
          simp only [Act.put, List.setIfInBounds_toArray, List.set_cons_zero, List.set_cons_succ]
          refine take_skip 17 _ _ rfl (by kernel_rfl) (by kernel_rfl) (by kernel_rfl) (by kernel_rfl) rfl rfl k1 ?_
          simp only [Act.put, List.setIfInBounds_toArray, List.set_cons_zero, List.set_cons_succ]
          refine take_val 18 _ _ (.bool true) rfl (by rfl) (by kernel_rfl) (by kernel_rfl) (by kernel_rfl) (fun w => by unfold execOp; go_simp) rfl rfl k1 ?_
          simp only [Act.put, List.setIfInBounds_toArray, List.set_cons_zero, List.set_cons_succ]
          refine wpAnyH_done (by kernel_rfl) (NoPanic.normal ?_) _
          go_wp2
          go_ret
          exact ⟨by rw [e.out]; rfl, k1.1⟩
      · obtain rfl : k = n := by omega
        have hk3 : ¬ (k : Int) < (k : Int) := by omega
        have e := hid (H.out.2 ⟨hm.out, H4.out⟩)
        clear hlt
        go_wp2
        go_ret
        exact ⟨by rw [e.out]; rfl, h0.out.1⟩
  · have e : Hid (r = false) := hid (by
      cases r with
      | true => exact absurd (h.1 rfl).2 h4
      | false => rfl)
    have h5 : 400 < (n : Int) := by omega
    clear h hx hc h4
    go_enter Try.func28, Try.ntmps28
    go_wp2
    go_ret
    exact ⟨by rw [e.out]; rfl, Below.refl _ _⟩

theorem words_cons : ∀ (v : List Char) (r : List Char), (∀ c ∈ v, c ≠ Char.ofNat 32) → wordsSigns (v ++ Char.ofNat 32 :: r) = v :: wordsSigns r
  | [], r, _ => rfl
  | c :: v, r, h => by
    have ih := words_cons v r (fun x hx => h x (by simp [hx]))
    have hc : c ≠ Char.ofNat 32 := h c (by simp)
    show wordsSigns (c :: (v ++ Char.ofNat 32 :: r)) = _
    rw [wordsSigns.eq_3 _ _ (fun e => hc e), ih]

def w0 : List Nat := [104, 97, 114, 110, 101, 115, 115]

def w1 : List Nat := [53, 57, 54, 54, 49, 98, 54, 54, 48, 56, 52, 53, 55, 102, 98, 53, 50, 52, 101, 51, 99, 56, 50, 53, 50, 97, 53, 101, 54, 51, 54, 56, 102, 102, 97, 97, 51, 57, 56, 49, 55, 102, 98, 48, 49, 52, 99, 56, 53, 102, 54, 56, 99, 52, 55, 101, 50, 49, 51, 102, 56, 53, 101, 101]

def w2 : List Nat := [99, 117, 116]

def w3 : List Nat := [97, 116, 32, 108, 111, 111, 112, 46, 101, 120, 97, 109, 112, 108, 101, 47, 103, 48, 49, 50, 50, 52, 47, 108, 97, 119, 115, 46, 70, 110, 69, 120, 97, 99, 116, 86, 97, 112, 111, 117, 114, 65, 98, 111, 118, 101, 32, 108, 111, 111, 112, 46, 101, 120, 97, 109, 112, 108, 101, 47, 103, 48, 49, 50, 50, 52, 47, 108, 97, 119, 115, 46, 70, 110, 69, 120, 97, 99, 116, 86, 97, 108, 105, 100, 69, 99, 104, 111, 77, 97, 112, 32, 108, 111, 111, 112, 46, 101, 120, 97, 109, 112, 108, 101, 47, 103, 48, 49, 50, 50, 52, 47, 108, 97, 119, 115, 46, 70, 110, 69, 120, 97, 99, 116, 82, 105, 115, 101, 73, 110, 32, 108, 111, 111, 112, 46, 101, 120, 97, 109, 112, 108, 101, 47, 103, 48, 49, 50, 50, 52, 47, 108, 97, 119, 115, 46, 70, 110, 69, 120, 97, 99, 116, 83, 116, 101, 97, 100, 121, 83, 111, 117, 110, 100, 105, 110, 103, 32, 108, 111, 111, 112, 46, 101, 120, 97, 109, 112, 108, 101, 47, 103, 48, 49, 50, 50, 52, 47, 108, 97, 119, 115, 46, 70, 110, 69, 120, 97, 99, 116, 69, 118, 101, 110, 116, 115, 79, 102, 32, 108, 111, 111, 112, 46, 101, 120, 97, 109, 112, 108, 101, 47, 103, 48, 49, 50, 50, 52, 47, 108, 97, 119, 115, 46, 70, 110, 69, 120, 97, 99, 116, 76, 111, 115, 115, 101, 115, 79, 102, 32, 108, 111, 111, 112, 46, 101, 120, 97, 109, 112, 108, 101, 47, 103, 48, 49, 50, 50, 52, 47, 108, 97, 119, 115, 46, 70, 110, 69, 120, 97, 99, 116, 67, 111, 108, 108, 105, 100, 101, 32, 108, 111, 111, 112, 46, 101, 120, 97, 109, 112, 108, 101, 47, 103, 48, 49, 50, 50, 52, 47, 108, 97, 119, 115, 46, 70, 110, 69, 120, 97, 99, 116, 67, 111, 108, 108, 105, 100, 101, 83, 116, 101, 112, 115, 32, 108, 111, 111, 112, 46, 101, 120, 97, 109, 112, 108, 101, 47, 103, 48, 49, 50, 50, 52, 47, 108, 97, 119, 115, 46, 70, 110, 69, 120, 97, 99, 116, 82, 97, 105, 110, 77, 97, 100, 101, 32, 108, 111, 111, 112, 46, 101, 120, 97, 109, 112, 108, 101, 47, 103, 48, 49, 50, 50, 52, 47, 108, 97, 119, 115, 46, 70, 110, 69, 120, 97, 99, 116, 71, 114, 111, 119, 79, 110, 99, 101, 32, 108, 111, 111, 112, 46, 101, 120, 97, 109, 112, 108, 101, 47, 103, 48, 49, 50, 50, 52, 47, 108, 97, 119, 115, 46, 70, 110, 69, 120, 97, 99, 116, 71, 114, 111, 119, 83, 116, 101, 112, 115, 32, 108, 111, 111, 112, 46, 101, 120, 97, 109, 112, 108, 101, 47, 103, 48, 49, 50, 50, 52, 47, 108, 97, 119, 115, 46, 70, 110, 69, 120, 97, 99, 116, 83, 116, 101, 112, 115, 84, 111, 68, 114, 121, 32, 108, 111, 111, 112, 46, 101, 120, 97, 109, 112, 108, 101, 47, 103, 48, 49, 50, 50, 52, 47, 108, 97, 119, 115, 46, 70, 110, 69, 120, 97, 99, 116, 85, 110, 105, 116, 65, 116, 32, 108, 111, 111, 112, 46, 101, 120, 97, 109, 112, 108, 101, 47, 103, 48, 49, 50, 50, 52, 47, 108, 97, 119, 115, 46, 70, 110, 69, 120, 97, 99, 116, 84, 104, 105, 114, 100, 82, 111, 111, 116, 32, 108, 111, 111, 112, 46, 101, 120, 97, 109, 112, 108, 101, 47, 103, 48, 49, 50, 50, 52, 47, 108, 97, 119, 115, 46, 70, 110, 69, 120, 97, 99, 116, 68, 114, 97, 119, 80, 97, 105, 114, 115, 32, 108, 111, 111, 112, 46, 101, 120, 97, 109, 112, 108, 101, 47, 103, 48, 49, 50, 50, 52, 47, 108, 97, 119, 115, 46, 70, 110, 69, 120, 97, 99, 116, 67, 111, 108, 108, 105, 100, 101, 80, 97, 105, 114, 115]

def letters (l : List Nat) : List Char := l.map Char.ofNat

theorem head_reads : Try.prog.initOrder = String.ofList (letters w0 ++ Char.ofNat 32 :: (letters w1 ++ Char.ofNat 32 :: (letters w2 ++ Char.ofNat 32 :: letters w3))) := by kernel_rfl

theorem no_blank {l : List Nat} (h : l.all (fun n => Char.ofNat n != Char.ofNat 32) = true) : ∀ c ∈ letters l, c ≠ Char.ofNat 32 := by
  intro c hc
  obtain ⟨n, hn, rfl⟩ := List.mem_map.1 hc
  have := List.all_eq_true.1 h n hn
  simpa using this

theorem h0 : letters w0 = "harness".toList := by kernel_rfl

theorem h2 : letters w2 = "cut".toList := by kernel_rfl

theorem sums : isSumSigns (letters w1) = true := by kernel_rfl

theorem words : wordsSigns Try.prog.initOrder.toList = "harness".toList :: letters w1 :: "cut".toList :: wordsSigns (letters w3) := by
  rw [head_reads, String.toList_ofList, words_cons _ _ (no_blank (by decide +kernel)), words_cons _ _ (no_blank (by decide +kernel)), words_cons _ _ (no_blank (by decide +kernel)), h0, h2]

theorem behind : ∃ r, behindMainWord (wordsSigns Try.prog.initOrder.toList) = "cut".toList :: r := by
  refine ⟨wordsSigns (letters w3), ?_⟩
  rw [words]
  generalize wordsSigns (letters w3) = r
  have hs := sums
  generalize letters w1 = v at hs
  unfold behindMainWord
  simp [hs]

theorem not_later : Try.prog.laysLater = false := by kernel_rfl

theorem no_reflect : Try.prog.bearsReflect = false := by kernel_rfl

theorem no_doors : Try.prog.doorFits [] = true := by kernel_rfl

theorem strips (r : List (List Char)) : stripLifts liftWords ("cut".toList :: r) = ([], "cut".toList :: r) := by kernel_rfl

theorem may_enter_of (P : Program) (r : List (List Char)) (h : behindMainWord (wordsSigns P.initOrder.toList) = "cut".toList :: r) (h1 : P.laysLater = false) (h2 : P.bearsReflect = false) (h3 : P.doorFits [] = true) : P.mayEnter = true := by
  unfold Program.mayEnter
  rw [h]
  dsimp only
  rw [strips, h1, h2, h3]
  kernel_rfl

theorem lifts_final_of (P : Program) (r : List (List Char)) (h : behindMainWord (wordsSigns P.initOrder.toList) = "cut".toList :: r) : P.liftsFinal = false := by
  unfold Program.liftsFinal Program.headLifts
  rw [h]
  dsimp only
  rw [strips]
  kernel_rfl

theorem made_of (P : Program) (r : List (List Char)) (h : behindMainWord (wordsSigns P.initOrder.toList) = "cut".toList :: r) : P.make = some .cut := by
  unfold Program.make
  rw [h]
  kernel_rfl

theorem may_enter : Try.prog.mayEnter = true := let ⟨r, h⟩ := behind; may_enter_of _ r h not_later no_reflect no_doors

theorem lifts_final : Try.prog.liftsFinal = false := let ⟨r, h⟩ := behind; lifts_final_of _ r h

theorem made : Try.prog.make = some .cut := let ⟨r, h⟩ := behind; made_of _ r h

theorem laid : laidOutB Try.prog = true := by kernel_rfl

theorem rowed : mapsRowed Try.prog = true := by kernel_rfl

theorem no_stops : Try.prog.stops = [] := by kernel_rfl

theorem no_knobs : Try.prog.stopKnobs = [] := by kernel_rfl

theorem plain_keys : Try.prog.plainKeys = false := by kernel_rfl

theorem stops_heard : Try.prog.stopsHeard = true := by kernel_rfl

theorem arr1 {α : Type} {cs : Array α} (h : cs.size = 1) : ∃ c0, cs = #[c0] := by
  obtain ⟨l⟩ := cs
  match l, h with
  | [a], _ => exact ⟨a, rfl⟩

theorem own : ownKnob Try.prog.godebug = none := by kernel_rfl

theorem cellsF : Try.prog.cellsOf 23 = 1 := by kernel_rfl

theorem rde : Try.prog.readableRec 33 = true ∧ 33 < Try.prog.types.size := ⟨by kernel_rfl, of_decide_eq_true (by kernel_rfl)⟩

theorem cellsE4 : Try.prog.cellsOf 130 = 4 := by kernel_rfl

theorem cellsE2 : Try.prog.cellsOf 124 = 2 := by kernel_rfl

theorem cellsE1 : Try.prog.cellsOf 123 = 1 := by kernel_rfl

theorem cellsEI : Try.prog.cellsOf 2 = 1 := by kernel_rfl

theorem rdE_stay {w w' : World} {m : Nat} {v : Value} {n : Nat} {x : Nat → E4} (h : RdE w v n x) (hm : m = w.heap.size) (hb : Below m w w') : RdE w' v n x := by
  obtain ⟨p, cap, e, h⟩ := h
  refine ⟨p, cap, e, fun hn => ?_⟩
  obtain ⟨b, o, e2, h2⟩ := h hn
  exact ⟨b, o, e2, fun i hi => range_stay (h2 i hi) hm hb⟩

theorem sValidMap (s : Value) (n : Nat) (x : Nat → E4) (hx : ∀ k, (x k).ok) (r : Bool) (h : r = true ↔ MapP n x ∧ n ≤ 400) (w : World) (hs : RdE w s n x) (hn : n ≤ 1048576) :
    Calls Try.prog 26 #[s] w fun e w' => e = .returned (.bool r) ∧ Below w.heap.size w w' := by
  have HM := hid (sMap s n x hx r h w hs hn)
  clear hx h hs hn
  go_enter Try.func26, Try.ntmps26
  go_wp2_with fail
  refine HM.out.mono ?_
  rintro e w1 ⟨rfl, hb1⟩
  have B := hid hb1
  clear hb1
  go_wp2
  go_ret
  exact ⟨rfl, B.out⟩

set_option maxRecDepth 100000 in
set_option maxHeartbeats 2000000 in
theorem coreValidEchoMap (n : Nat) (x : Nat → E4) (s : Value) (hx : ∀ k, (x k).ok) (r : Bool) (h : r = true ↔ MapP n x ∧ n ≤ 400) (w : World) (hs : RdE w s n x) (hn : n ≤ 1048576) :
    Calls Try.prog 4 #[s] w fun e w' => e = .returned (.bool true) ∧ Below w.heap.size w w' := by
  have R := hid hs
  obtain ⟨p, cap, rfl, _⟩ := hs
  have HX := hid hx
  have H := hid h
  have HN := hid hn
  have hneg : ¬ (1048576 - (n : Int) < 0) := by omega
  have k0 : Hid (Kept w [] w) := hid (Kept.nil w)
  clear hx h hn
  go_enter Try.func4, Try.ntmps4
  go_wp2_with fail
  refine (szCells_ok _ _ _ HN.out _).mono ?_
  rintro e u0 ⟨rfl, rfl⟩
  go_wp2_with fail
  refine (toCells _ n x _ R.out HN.out).mono ?_
  rintro e u1 ⟨g1, rfl, r1, b1⟩
  have k1 := hid (k0.out.stay b1)
  go_wp2_with fail
  refine (sValidMap _ n x HX.out r H.out _ r1 HN.out).mono ?_
  rintro e u2 ⟨rfl, b2⟩
  have k2 := hid (k1.out.stay b2)
  have R2 := hid (rdE_stay R.out rfl k2.out.1)
  clear r1 b1 b2
  go_wp2_with fail
  refine (toCells _ n x _ R2.out HN.out).mono ?_
  rintro e u3 ⟨g3, rfl, r3, b3⟩
  have k3 := hid (k2.out.stay b3)
  have R3 := hid r3
  go_wp2_with fail
  refine (iMap _ n x HX.out r H.out _ r3 HN.out).mono ?_
  rintro e u4 ⟨rfl, b4⟩
  have k4 := hid (k3.out.stay b4)
  have R4 := hid (rdE_stay r3 rfl b4)
  have Q4 := hid (rdE_stay R.out rfl k4.out.1)
  clear r3 b3 b4 R3
  go_wp2_with fail
  refine (toCells _ n x _ Q4.out HN.out).mono ?_
  rintro e u5 ⟨g5, rfl, r5, b5⟩
  have k5 := hid (k4.out.stay b5)
  have R5 := hid (rdE_stay R4.out rfl b5)
  have Q5 := hid r5
  clear b5 r5
  go_wp2_with fail
  refine (eqCells _ _ n x HX.out _ R5.out Q5.out HN.out).mono ?_
  rintro e u6 ⟨rfl, b6⟩
  have k6 := hid (k5.out.stay b6)
  clear b6
  go_wp2
  go_ret
  exact ⟨rfl, k6.out.1⟩

theorem lawValidEchoMap (n : Nat) (x : Nat → E4) (s : Value) (hx : ∀ k, (x k).ok) {w : World} (hs : RdE w s n x) (hm : n ≤ maxLen) :
    Calls Try.prog 4 #[s] w fun e w' => e = .returned (.bool true) ∧ Below w.heap.size w w' := by
  by_cases hn : n ≤ 1048576
  · rcases Classical.em (MapP n x ∧ n ≤ 400) with h | h
    · exact coreValidEchoMap n x s hx true ⟨fun _ => h, fun _ => rfl⟩ w hs hn
    · exact coreValidEchoMap n x s hx false ⟨fun h' => Bool.noConfusion h', fun h' => absurd h' h⟩ w hs hn
  · obtain ⟨p, cap, rfl, _⟩ := hs
    have HN := hid (show 1048576 < n by omega)
    have HM := hid hm
    clear hx hm hn
    go_enter Try.func4, Try.ntmps4
    go_wp2_with fail
    refine (szCells_no _ _ _ HN.out HM.out _).mono ?_
    rintro e u0 ⟨rfl, rfl⟩
    go_wp2
    go_ret
    exact ⟨rfl, Below.refl _ _⟩
end Go.Proofs.Ytgmcpbhjcfiikaa

namespace Go.Proofs.Ytgmcpbhjcfiikaa.fnExactValidEchoMap
open Go.RowKit Go.Fl Go.ChangeShapes Go.WideShapes Go.ChangeAt

set_option maxHeartbeats 2000000 in
theorem closed : joinedFacts Try.prog 4 Try.f4 Rows.fnExactValidEchoMapSpec Rows.fnExactValidEchoMapRow = true := by
  unfold joinedFacts
  simp only [Bool.and_eq_true]
  exact ⟨⟨⟨⟨⟨⟨⟨⟨⟨⟨⟨⟨⟨⟨⟨⟨⟨⟨⟨⟨⟨⟨⟨⟨⟨⟨⟨⟨⟨⟨⟨(by as_aux_lemma => kernel_rfl),
    laid⟩,
    rowed⟩,
    (by as_aux_lemma => kernel_rfl)⟩,
    (by as_aux_lemma => kernel_rfl)⟩,
    (by as_aux_lemma => kernel_rfl)⟩,
    (by rw [no_stops]; rfl)⟩,
    (by as_aux_lemma => kernel_rfl)⟩,
    (by rw [no_knobs]; rfl)⟩,
    (by as_aux_lemma => kernel_rfl)⟩,
    (by as_aux_lemma => kernel_rfl)⟩,
    (by as_aux_lemma => kernel_rfl)⟩,
    (by as_aux_lemma => kernel_rfl)⟩,
    (by as_aux_lemma => kernel_rfl)⟩,
    (by as_aux_lemma => kernel_rfl)⟩,
    (by as_aux_lemma => kernel_rfl)⟩,
    (by as_aux_lemma => kernel_rfl)⟩,
    (by as_aux_lemma => kernel_rfl)⟩,
    (by as_aux_lemma => kernel_rfl)⟩,
    (by as_aux_lemma => kernel_rfl)⟩,
    (by as_aux_lemma => kernel_rfl)⟩,
    (by as_aux_lemma => kernel_rfl)⟩,
    (show (Rows.fnExactValidEchoMapRow.plainKeys == Try.prog.plainKeys) = true by rw [plain_keys]; rfl)⟩,
    (by as_aux_lemma => kernel_rfl)⟩,
    stops_heard⟩,
    may_enter⟩,
    (show (Rows.fnExactValidEchoMapRow.lifted == Try.prog.liftsFinal) = true by rw [lifts_final]; rfl)⟩,
    (show (Try.prog.make == some Rows.fnExactValidEchoMapRow.make) = true by rw [made]; rfl)⟩,
    (by as_aux_lemma => kernel_rfl)⟩,
    (by as_aux_lemma => kernel_rfl)⟩,
    (by as_aux_lemma => kernel_rfl)⟩,
    (by as_aux_lemma => kernel_rfl)⟩

set_option maxRecDepth 100000 in
theorem lifted (os : Os) (started : os.Started) (H : Type) (enc : TypeId × Value → H) :
    ReturnsInHanded {} Try.checked os 4 .any (Rows.fnExactValidEchoMapSpec.pre6 enc Try.prog Try.f4 Rows.fnExactValidEchoMapRow.domain false) (Rows.fnExactValidEchoMapSpec.post enc Try.prog Try.f4 false true false false) := by
  refine LawFrame.lifted (C := Try.checked) (fn := Try.f4) (n := 1) (tb := 4) started own (by kernel_rfl) Try.func4 laid ?_ rfl rfl ?_ rfl Try.underlying4
    (ChangeSpec.witness6 (enc := enc) (C := Try.checked) false ⟨#[], #[.slice none 0 0], []⟩ 8 (by kernel_rfl) (by kernel_rfl) (by kernel_rfl) (by kernel_rfl)) ?_
  · intro t ht
    simp only [Try.params4, List.mem_cons, List.not_mem_nil, or_false] at ht
    subst ht; exact rde
  · intro ds hd
    match ds, hd with
    | [_], _ => rfl
  · intro W base args ds ps hval hn hT
    obtain ⟨v0, rfl⟩ : ∃ v0, args = #[v0] := arr1 hn
    simp only [Try.params4] at hT
    obtain ⟨d0, p0, t0⟩ := trodAll_head hT
    obtain ⟨n0, x0, R0, M0, X0⟩ := open_echo Try.underlying33 Try.underlying130 Try.underlying124 Try.underlying123 Try.underlying23 Try.underlying2 ⟨rfl, rfl⟩ ⟨rfl, rfl⟩ ⟨rfl, rfl⟩ cellsE4 cellsE2 cellsE1 cellsF cellsEI t0 (open_sl Try.underlying33 (hval 0 33 v0 rfl rfl))
    exact lawValidEchoMap n0 x0 v0 X0 R0 M0

theorem over : Rows.fnExactValidEchoMapRow.holds Try.pinned (OpenSpec.ofChange Rows.fnExactValidEchoMapSpec) :=
  OpenClaim.holds_of_wide 4 Try.f4 rfl rfl rfl rfl rfl rfl rfl ⟨rfl, rfl, rfl, rfl, rfl⟩ rfl rfl rfl rfl rfl (by kernel_rfl) Try.func4 closed
    (of_decide_eq_true (by kernel_rfl)) (by unfold Func.isWrapper; rw [if_neg (by decide +kernel)]; exact ⟨rfl, rfl⟩)
    (fun os started H enc _ => lifted os started H enc)

theorem proved : Rows.FnExactValidEchoMapSaid := over
#print axioms proved
end Go.Proofs.Ytgmcpbhjcfiikaa.fnExactValidEchoMap
