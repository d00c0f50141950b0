import Derived.Test.YthpimindkmmkjaaDoorENoisePulses
import Derived.Test.YthpimindkmmkjaaDoorChecked
import Derived.Test.YthpimindkmmkjaaDoorRows
import Derived.Test.YthpimindkmmkjaaDoorCards
import Derived.Test.YthpimindkmmkjaaDoorTie
import Derived.Laws.FloatArith
import Derived.ProofKit
import Derived.WalkKit
import Derived.WalkLawsBesides
import Derived.WalkSpells
import Derived.Deep.QuietTactic
import Derived.BigQuiet
import Derived.Deep.RegionHeld3
import Derived.ChangeKeysEq
import Derived.Laws.BitsAllLaws
import Derived.Deep.MidRow
import Derived.Deep.WholeRow
import Derived.StillTailTactics
import Derived.Deep.Slices
import Derived.ChangeSame
import Derived.OrdersIn
import Derived.ControlIn
import Derived.RangeFuncSeq
import Derived.RangeFuncNested
import Derived.ArgAppend
import Derived.OwnWalkIn
import Derived.TacticsInMore
import Derived.Laws.ComplexArith
import Derived.Below
import Derived.Laws.AppendOwn
import Derived.Deep.Strs
import Derived.LaidEql
import Derived.Stop.Asserts
import Derived.RowKitTokens
import Derived.RangeFuncLeaves
import Derived.RangeFuncBox
import Derived.LoopNIn
import Derived.LoopIn
import Derived.Shelf.Abstract
import Derived.OpenShut
import Derived.Stop.LaidErr
import Derived.LaidMore
import Derived.Handed
import Derived.LaidHandle
import Derived.Stop.Joined
import Derived.MakeChecks
import Derived.MapKept
import Derived.StillTail
import Derived.ScopeJumps
import Derived.SevenTiedAt
/- The tied card of FnExactNoisePulses. -/
namespace Go.Proofs.YthpimindkmmkjaaDoor
open Go.RowKit Go.Fl

@[go_sem] theorem ext_f64bits (y : Nat) (w : World) : (callFunc 197 #[.float .f64 y]).run Tryd.prog w = .ok (.value (.int .u64 y)) w := by
  rw [run_callFunc_extern Tryd.func197 (by kernel_rfl) (by kernel_rfl) (by kernel_rfl) (e := Extern.MathFloatBits.float64bits) (by kernel_rfl)]
  rfl

@[go_sem] theorem ext_f64from (n : Int) (w : World) : (callFunc 169 #[.int .u64 n]).run Tryd.prog w = .ok (.value (.float .f64 n.toNat)) w := by
  rw [run_callFunc_extern Tryd.func169 (by kernel_rfl) (by kernel_rfl) (by kernel_rfl) (e := Extern.MathFloatBits.float64frombits) (by kernel_rfl)]
  rfl

theorem hid {p : Prop} (h : p) : Hid p := h

theorem clear_sign (y : Nat) (h : y < 18446744073709551616) : (bits BinOp.andNot IntKind.u64 (y : Int) 9223372036854775808).toNat = y % 9223372036854775808 := by
  rw [u64_andNot _ _ (by omega) (by omega) (by omega) (by omega)]
  rw [Int.toNat_natCast, Int.toNat_natCast]
  exact Nat.and_two_pow_sub_one_eq_mod y 63

theorem abs_f64 (y : Nat) (h : y < 18446744073709551616) (w : World) :
    Calls Tryd.prog 166 #[.float .f64 y] w fun e w' => e = .returned (.float .f64 (y % 9223372036854775808)) ∧ w = w' := by
  have hc := hid (clear_sign y h)
  clear h
  go_enter Tryd.func166, Tryd.ntmps166
  go_wp2
  go_ret
  exact ⟨by simp [hc.out], rfl⟩

theorem isNaN_f64 (y : Nat) (w : World) :
    Calls Tryd.prog 124 #[.float .f64 y] w fun e w' => e = .returned (.bool (FloatKind.f64.format.order y y != some .eq)) ∧ w = w' := by
  go_enter Tryd.func124, Tryd.ntmps124
  go_wp2
  go_ret
  exact ⟨rfl, rfl⟩

theorem isInf_f64 (y : Nat) (h : y < 18446744073709551616) (w : World) :
    Calls Tryd.prog 125 #[.float .f64 y, .int .i64 0] w fun e w' => e = .returned (.bool (FloatKind.f64.format.order (y % 9223372036854775808) 9218868437227405311 == some .gt)) ∧ w = w' := by
  have hc := hid h
  clear h
  go_enter Tryd.func125, Tryd.ntmps125
  go_wp2_with (go_at_call 166; refine (abs_f64 y hc.out _).mono ?_; rintro e w' ⟨rfl, rfl⟩)
  go_ret
  exact ⟨rfl, rfl⟩

theorem isFinite_t (x : Nat) (hx : x < 4294967296) (h : finB x = true) (w : World) :
    Calls Tryd.prog 61 #[.float .f32 x] w fun e w' => e = .returned (.bool true) ∧ w = w' := by
  rw [finB_iff] at h
  have hc := fun w => run_conv_wid (P := Tryd.prog) w 22 77 x hx Tryd.underlying22 Tryd.underlying77 h
  obtain ⟨a, b, m, e, hr⟩ := read_wid_fin hx h
  have hn : (FloatKind.f64.format.order (wid x) (wid x) != some .eq) = false := by
    show (D.order (wid x) (wid x) != some .eq) = false
    rw [order_self hr]; rfl
  have hi : (FloatKind.f64.format.order (wid x % 9223372036854775808) 9218868437227405311 == some .gt) = false := by
    show (D.order (wid x % 9223372036854775808) 9218868437227405311 == some .gt) = false
    rw [b, order_ltD a (by decide)]
    rw [DINF_val] at a
    have hle : wid (mg x) ≤ 9218868437227405311 := by omega
    rcases Nat.lt_or_eq_of_le hle with h' | h'
    · rw [Nat.compare_eq_lt.2 h']; rfl
    · rw [Nat.compare_eq_eq.2 h']; rfl
  have hw : wid x < 18446744073709551616 := D.write_lt _
  have Hn := hid hn
  have Hi := hid hi
  have Hw := hid hw
  clear hn hi hw hr a b h hx
  go_enter Tryd.func61, Tryd.ntmps61
  go_wp2_with (first | (go_at_call 124; refine (isNaN_f64 (wid x) _).mono ?_; rintro e w' ⟨rfl, rfl⟩; rw [Hn.out]) | (go_at_call 125; refine (isInf_f64 (wid x) Hw.out _).mono ?_; rintro e w' ⟨rfl, rfl⟩; rw [Hi.out]))
  go_ret
  exact ⟨rfl, rfl⟩

theorem isFinite_f (x : Nat) (hx : x < 4294967296) (h : finB x = false) (w : World) :
    Calls Tryd.prog 61 #[.float .f32 x] w fun e w' => e = .returned (.bool false) ∧ Below w.heap.size w w' := by
  rw [finB_iff'] at h
  rcases Nat.lt_or_eq_of_le h with h | h
  · obtain ⟨z, hc, h1, _⟩ := run_conv_nan (P := Tryd.prog) w 22 77 x Tryd.underlying22 Tryd.underlying77 h
    obtain ⟨s, t, hr⟩ := read_nanD h1
    have Hn := hid (show (FloatKind.f64.format.order z z != some .eq) = true by
      show (D.order z z != some .eq) = true
      rw [order_nan hr]; rfl)
    clear h h1 hr hx
    go_enter Tryd.func61, Tryd.ntmps61
    go_wp2_with (go_at_call 124; refine (isNaN_f64 z _).mono ?_; rintro e w' ⟨rfl, rfl⟩; rw [Hn.out])
    go_ret
    exact ⟨rfl, (Below.refl _ _).drew⟩
  · obtain ⟨z, hc, h1, h2⟩ := run_conv_inf (P := Tryd.prog) w 22 77 x hx Tryd.underlying22 Tryd.underlying77 h.symm
    have hr : D.read z = .infinity (decide (9223372036854775808 ≤ z)) := by rw [read_signD h2, h1, read_DINF]
    have Hn := hid (show (FloatKind.f64.format.order z z != some .eq) = false by
      show (D.order z z != some .eq) = false
      rw [order_inf hr]; rfl)
    have Hi := hid (show (FloatKind.f64.format.order (z % 9223372036854775808) 9218868437227405311 == some .gt) = true by
      rw [h1]; decide)
    have H2 := hid h2
    clear h h1 hr hx h2
    go_enter Tryd.func61, Tryd.ntmps61
    go_wp2_with (first | (go_at_call 124; refine (isNaN_f64 z _).mono ?_; rintro e w' ⟨rfl, rfl⟩; rw [Hn.out]) | (go_at_call 125; refine (isInf_f64 z H2.out _).mono ?_; rintro e w' ⟨rfl, rfl⟩; rw [Hi.out]))
    go_ret
    exact ⟨rfl, Below.refl _ _⟩

theorem signbit_f64 (y : Nat) (w : World) :
    Calls Tryd.prog 165 #[.float .f64 y] w fun e w' => e = .returned (.bool (decide (wrap64 (y : Int) < 0))) ∧ w = w' := by
  go_enter Tryd.func165, Tryd.ntmps165
  go_wp2
  go_ret
  exact ⟨rfl, rfl⟩

theorem and_sign (y : Nat) (h : y < 18446744073709551616) : (decide (wrap64 (y : Int) < 0)) = decide (9223372036854775808 ≤ y) := by
  unfold wrap64
  by_cases h' : 9223372036854775808 ≤ y
  · rw [decide_eq_true h']; simp; omega
  · rw [decide_eq_false h']; simp; omega

theorem isAmount_t (x : Nat) (h : amtB x = true) (w : World) :
    Calls Tryd.prog 123 #[.float .f32 x] w fun e w' => e = .returned (.bool true) ∧ w = w' := by
  have hf := amt_fin h
  rw [amtB_iff, INF_val] at h
  have hx : x < 4294967296 := by omega
  have hc := fun w => run_conv_wid (P := Tryd.prog) w 22 77 x hx Tryd.underlying22 Tryd.underlying77 (finB_iff.1 hf)
  have hw : wid x < 18446744073709551616 := D.write_lt _
  have Hs := hid (show (decide (wrap64 (wid x : Int) < 0)) = false by
    rw [and_sign _ hw]
    have := (wid_val (x := x) (by rw [INF_val]; omega)).1
    rw [DINF_val] at this
    simp; omega)
  have Hx := hid hx
  have Hf := hid hf
  clear h hf hx hw
  go_enter Tryd.func123, Tryd.ntmps123
  go_wp2_with (first | (go_at_call 61; refine (isFinite_t x Hx.out Hf.out _).mono ?_; rintro e w' ⟨rfl, rfl⟩) | (go_at_call 165; refine (signbit_f64 (wid x) _).mono ?_; rintro e w' ⟨rfl, rfl⟩; rw [Hs.out]))
  go_ret
  exact ⟨rfl, rfl⟩

theorem isAmount_f (x : Nat) (hx : x < 4294967296) (h : amtB x = false) (w : World) :
    Calls Tryd.prog 123 #[.float .f32 x] w fun e w' => e = .returned (.bool false) ∧ Below w.heap.size w w' := by
  rcases hf : finB x with _ | _
  · have Hx := hid hx
    have Hf := hid hf
    clear h hf hx
    go_enter Tryd.func123, Tryd.ntmps123
    go_wp2_with (go_at_call 61; refine (isFinite_f x Hx.out Hf.out _).mono ?_; rintro e w' ⟨rfl, hb⟩)
    go_ret
    exact ⟨rfl, hb⟩
  · have hc := fun w => run_conv_wid (P := Tryd.prog) w 22 77 x hx Tryd.underlying22 Tryd.underlying77 (finB_iff.1 hf)
    have hw : wid x < 18446744073709551616 := D.write_lt _
    have Hs := hid (show (decide (wrap64 (wid x : Int) < 0)) = true by
      rw [and_sign _ hw, wid_fin hx (finB_iff.1 hf)]
      rw [amtB_iff', INF_val] at h
      rw [finB_iff, INF_val] at hf
      unfold mg at hf ⊢
      rw [if_pos (by omega)]
      simp)
    have Hx := hid hx
    have Hf := hid hf
    clear h hf hx hw
    go_enter Tryd.func123, Tryd.ntmps123
    go_wp2_with (first | (go_at_call 61; refine (isFinite_t x Hx.out Hf.out _).mono ?_; rintro e w' ⟨rfl, rfl⟩) | (go_at_call 165; refine (signbit_f64 (wid x) _).mono ?_; rintro e w' ⟨rfl, rfl⟩; rw [Hs.out]))
    go_ret
    exact ⟨rfl, Below.refl _ _⟩

@[go_sem] theorem ext_f32bits (y : Nat) (w : World) : (callFunc 132 #[.float .f32 y]).run Tryd.prog w = .ok (.value (.int .u32 y)) w := by
  rw [run_callFunc_extern Tryd.func132 (by kernel_rfl) (by kernel_rfl) (by kernel_rfl) (e := Extern.MathFloatBits.float32bits) (by kernel_rfl)]
  rfl

theorem sFinite_t (x : Nat) (hx : x < 4294967296) (h : finB x = true) (w : World) :
    Calls Tryd.prog 58 #[.float .f32 x] w fun e w' => e = .returned (.bool true) ∧ w = w' := by
  have hr := fun w => run_float_arith (P := Tryd.prog) w .sub 22 .f32 x x 0 (sub_self_fin hx h)
  clear h hx
  go_enter Tryd.func58, Tryd.ntmps58
  go_wp2
  go_ret
  exact ⟨rfl, rfl⟩

theorem sFinite_f (x : Nat) (hx : x < 4294967296) (h : finB x = false) (w : World) :
    Calls Tryd.prog 58 #[.float .f32 x] w fun e w' => e = .returned (.bool false) ∧ Below w.heap.size w w' := by
  obtain ⟨z, hr, h1, _⟩ := run_arith_nan (P := Tryd.prog) w .sub (by simp) 22 x x (sub_self_none hx h)
  have Hn := hid (show (FloatKind.f32.format.order z 0 == some .eq) = false by
    show (S.order z 0 == some .eq) = false
    rw [order_nan32 h1]; rfl)
  clear h hx h1
  go_enter Tryd.func58, Tryd.ntmps58
  go_wp2
  go_ret
  exact ⟨by simp [Hn.out], (Below.refl _ _).drew⟩

theorem sAmount_t (x : Nat) (h : amtB x = true) (w : World) :
    Calls Tryd.prog 71 #[.float .f32 x] w fun e w' => e = .returned (.bool true) ∧ w = w' := by
  have hf := amt_fin h
  have h' := amtB_iff.1 h
  have hx : x < 4294967296 := by rw [INF_val] at h'; omega
  have Hx := hid hx
  have Hf := hid hf
  by_cases h0 : x = 0
  · subst h0
    clear h hf h' hx
    go_enter Tryd.func71, Tryd.ntmps71
    go_wp2_with (go_at_call 58; refine (sFinite_t 0 Hx.out Hf.out _).mono ?_; rintro e w' ⟨rfl, rfl⟩)
    go_ret
    exact ⟨rfl, rfl⟩
  · have hg : (FloatKind.f32.format.order x 0 == some .gt) = true := by
      show (S.order x 0 == some .gt) = true
      rw [order_zero_pos h', Nat.compare_eq_gt.2 (by omega)]; rfl
    clear h hf h' hx h0
    go_enter Tryd.func71, Tryd.ntmps71
    go_wp2_with (go_at_call 58; refine (sFinite_t x Hx.out Hf.out _).mono ?_; rintro e w' ⟨rfl, rfl⟩)
    go_ret
    exact ⟨rfl, rfl⟩

theorem sAmount_f (x : Nat) (hx : x < 4294967296) (h : amtB x = false) (w : World) :
    Calls Tryd.prog 71 #[.float .f32 x] w fun e w' => e = .returned (.bool false) ∧ Below w.heap.size w w' := by
  rcases hf : finB x with _ | _
  · have Hx := hid hx
    have Hf := hid hf
    clear h hf hx
    go_enter Tryd.func71, Tryd.ntmps71
    go_wp2_with (go_at_call 58; refine (sFinite_f x Hx.out Hf.out _).mono ?_; rintro e w' ⟨rfl, hb⟩)
    go_ret
    exact ⟨rfl, hb⟩
  · have hs : 2147483648 ≤ x := by
      rw [amtB_iff', INF_val] at h
      have := finB_iff.1 hf
      rw [INF_val] at this
      unfold mg at this
      omega
    have hg : (FloatKind.f32.format.order x 0 == some .gt) = false := order_neg_zero hx hf hs
    have hb : ((x : Int) == 0) = false := by simp; omega
    have Hx := hid hx
    have Hf := hid hf
    clear h hf hx hs
    go_enter Tryd.func71, Tryd.ntmps71
    go_wp2_with (go_at_call 58; refine (sFinite_t x Hx.out Hf.out _).mono ?_; rintro e w' ⟨rfl, rfl⟩)
    go_ret
    exact ⟨rfl, Below.refl _ _⟩

theorem l00In_t (n a b : Int) (h1 : a ≤ n) (h2 : n ≤ b) (w : World) :
    Calls Tryd.prog 59 #[.int .i64 n, .int .i64 a, .int .i64 b] w fun e w' => e = .returned (.bool true) ∧ w = w' := by
  go_enter Tryd.func59, Tryd.ntmps59
  go_wp2
  go_ret
  exact ⟨by first | rfl | (simp; done) | (simp; omega), rfl⟩

theorem l00In_f (n a b : Int) (hn : ¬ (a ≤ n ∧ n ≤ b)) (w : World) :
    Calls Tryd.prog 59 #[.int .i64 n, .int .i64 a, .int .i64 b] w fun e w' => e = .returned (.bool false) ∧ w = w' := by
  by_cases h0 : a ≤ n
  · have h3 : b < n := by omega
    clear hn
    go_enter Tryd.func59, Tryd.ntmps59
    go_wp2
    go_ret
    exact ⟨by first | rfl | (simp; done) | (simp; omega), rfl⟩
  · have h3 : n < a := by omega
    have h4 : decide (a ≤ n) = false := by simp; omega
    clear hn h0
    go_enter Tryd.func59, Tryd.ntmps59
    go_wp2
    go_ret
    exact ⟨by simp, rfl⟩

@[go_sem] theorem ext_nanWord (w : World) : (callFunc 169 #[.int .u64 9221120237041090561]).run Tryd.prog w = .ok (.value (.float .f64 9221120237041090561)) w := by
  rw [run_callFunc_extern Tryd.func169 (by kernel_rfl) (by kernel_rfl) (by kernel_rfl) (e := Extern.MathFloatBits.float64frombits) (by kernel_rfl)]
  rfl

theorem sameFloat2 (a b : Nat) (h : Same2 a b) (w : World) :
    Calls Tryd.prog 51 #[.float .f64 a, .float .f64 b] w fun e w' => e = .returned (.bool true) ∧ w = w' := by
  obtain ⟨h1, h2⟩ := h
  rcases h1 with ⟨h1, rfl⟩ | ⟨h1, h3, h4, h5⟩
  · have hn : (FloatKind.f64.format.order a a != some .eq) = false := by
      show (Ieee.Format.order D a a != some .eq) = false
      rw [h1]; rfl
    have hq : (FloatKind.f64.format.order a a == some .eq) = true := by
      show (Ieee.Format.order D a a == some .eq) = true
      rw [h1]; rfl
    rcases hz : (FloatKind.f64.format.order a 0 == some .eq) with _ | _
    · clear h1 h2
      go_enter Tryd.func51, Tryd.ntmps51
      go_wp2
      go_ret
      exact ⟨by simp, rfl⟩
    · obtain ⟨q, hd⟩ := h2 h1 (beq_iff_eq.1 hz)
      have hdiv := fun w => run_float_arith (P := Tryd.prog) w .quo 77 .f64 4607182418800017408 a q hd
      clear h1 h2 hd
      go_enter Tryd.func51, Tryd.ntmps51
      go_wp2
      go_ret
      exact ⟨by simp, rfl⟩
  · have hn : (FloatKind.f64.format.order a a != some .eq) = true := by
      show (Ieee.Format.order D a a != some .eq) = true
      rw [h1]; rfl
    have hm : (FloatKind.f64.format.order b b != some .eq) = true := by
      show (Ieee.Format.order D b b != some .eq) = true
      rw [h3]; rfl
    clear h1 h2 h3 h4 h5
    go_enter Tryd.func51, Tryd.ntmps51
    go_wp2
    go_ret
    exact ⟨by simp, rfl⟩

theorem sameCx (a b c d : Nat) (h1 : Same2 a c) (h2 : Same2 b d) (w : World) :
    Calls Tryd.prog 76 #[.complex .f64 a b, .complex .f64 c d] w fun e w' => e = .returned (.bool true) ∧ w = w' := by
  have H1 := hid h1
  have H2 := hid h2
  clear h1 h2
  go_enter Tryd.func76, Tryd.ntmps76
  go_wp2_with fail
  refine (sameFloat2 a c H1.out _).mono ?_
  rintro e w1 ⟨rfl, rfl⟩
  go_wp2_with fail
  refine (sameFloat2 b d H2.out _).mono ?_
  rintro e w2 ⟨rfl, rfl⟩
  go_wp2
  go_ret
  exact ⟨rfl, rfl⟩

theorem info_cx : (Tryd.prog.info? 91).map (·.size) = some 1 := by kernel_rfl

theorem infoz_cx : (Tryd.prog.info? 91).map (fun i => (i.zero, i.size, i.bytes)) = some (some (.complex .f32 0 0), 1, 8) := by kernel_rfl

/-- The parts of a complex number of finite words. -/
def CxFin (v : Value) : Prop := ∃ a b, v = .complex .f32 a b ∧ a < 4294967296 ∧ b < 4294967296 ∧ finB a = true ∧ finB b = true

set_option maxRecDepth 100000 in
set_option maxHeartbeats 1000000 in
theorem eqCxs (s t : Value) (n : Nat) (y : Nat → Value) (hy : ∀ k, k < n → CxFin (y k)) (w : World) (hs : RdV w s n y) (ht : RdV w t n y) (hn : n ≤ 1048576) :
    Calls Tryd.prog 26 #[s, t] w fun e w' => e = .returned (.bool true) ∧ Below w.heap.size w w' := by
  obtain ⟨p, cap, rfl, hc⟩ := hs
  obtain ⟨p2, cap2, rfl, hc2⟩ := ht
  have HC := hid hc
  have HD := hid hc2
  have HN := hid hn
  have HY := hid hy
  clear hc hc2 hn hy
  go_enter Tryd.func26, Tryd.ntmps26
  go_wp2_with fail
  go_loopw [5] (fun i wr => ∃ k : Nat, k ≤ n ∧ i = .int .i64 k ∧ Hid (Kept w [] wr)) (fun i _ => n - (intOf i).toNat)
  case atStart => exact ⟨0, by omega, rfl, hid (Kept.nil w)⟩
  case round =>
    obtain ⟨k, hk, rfl, h0⟩ := hrel
    by_cases hlt : k < n
    · have hn9 := HN.out
      have hk3 : (k : Int) < (n : Int) := by omega
      obtain ⟨b, o, rfl, hcell⟩ := HC.out (by omega)
      obtain ⟨b2, o2, rfl, hcell2⟩ := HD.out (by omega)
      obtain ⟨z1, z2, hz, l1, l2, f1, f2⟩ := HY.out k hlt
      have cv := fun w => conv_complex_fin (P := Tryd.prog) 91 107 Tryd.underlying91 Tryd.underlying107 l1 f1 l2 f2 w
      have HK := hid hlt
      have R1 := hid (fun wq (hb : Below w.heap.size w wq) => show wq.cell? ⟨b, o + k, none⟩ = some (.complex .f32 z1 z2) from by have h1 := hcell k HK.out; rw [hb.cell (block_lt_of_cell h1), h1, hz])
      have R2 := hid (fun wq (hb : Below w.heap.size w wq) => show wq.cell? ⟨b2, o2 + k, none⟩ = some (.complex .f32 z1 z2) from by have h1 := hcell2 k HK.out; rw [hb.cell (block_lt_of_cell h1), h1, hz])
      have S1 := hid (sameCx (wid z1) (wid z2) (wid z1) (wid z2) (same2_fin l1 f1) (same2_fin l2 f2))
      have j1 : ∀ w, (Instr.indexAt 38 (.slice (some ⟨b, o, none⟩) n cap) (.int .i64 (k : Int))).run Tryd.prog w = .ok (.pointer (some ⟨b, o + k, none⟩)) w := fun w => by have := run_indexAt (P := Tryd.prog) (t := 38) (e := 91) Tryd.underlying38 info_cx (b := b) (o := o) (n := n) (cap := cap) (k := k) HK.out w; simpa using this
      have j2 : ∀ w, (Instr.indexAt 38 (.slice (some ⟨b2, o2, none⟩) n cap2) (.int .i64 (k : Int))).run Tryd.prog w = .ok (.pointer (some ⟨b2, o2 + k, none⟩)) w := fun w => by have := run_indexAt (P := Tryd.prog) (t := 38) (e := 91) Tryd.underlying38 info_cx (b := b2) (o := o2) (n := n) (cap := cap2) (k := k) HK.out w; simpa using this
      clear hcell hcell2 hz l1 l2 f1 f2
      go_wp2_with fail
      refine region_kept (w0 := w) (l := []) 12 #[false, false, false, false, false, false, false, false, false, false, false, false] (by kernel_rfl) rfl rfl ?_
      have kd := h0.out.drew
      generalize World.drew _ = wd at kd ⊢
      refine take_val 0 _ _ (.slice (some ⟨b, o, none⟩) n cap) rfl (by rfl) (by kernel_rfl) (by kernel_rfl) (by kernel_rfl) (fun w => by rfl) rfl rfl kd ?_
      simp only [Act.put, List.setIfInBounds_toArray, List.set_cons_zero, List.set_cons_succ]
      refine take_val 1 _ _ (.int .i64 (k : Int)) rfl (by rfl) (by kernel_rfl) (by kernel_rfl) (by kernel_rfl) (fun w => by rfl) rfl rfl kd ?_
      simp only [Act.put, List.setIfInBounds_toArray, List.set_cons_zero, List.set_cons_succ]
      refine take_val 2 _ _ (.pointer (some ⟨b, o + k, none⟩)) rfl (by rfl) (by kernel_rfl) (by kernel_rfl) (by kernel_rfl) (fun w => run_index_op _ _ rfl rfl (j1 w)) rfl rfl kd ?_
      simp only [Act.put, List.setIfInBounds_toArray, List.set_cons_zero, List.set_cons_succ]
      refine take_cell 3 _ _ (.complex .f32 z1 z2) rfl (by rfl) (by kernel_rfl) (by kernel_rfl) (by kernel_rfl) (fun wq hS => by have hcell : wq.cell? ⟨b, o + k, none⟩ = some (.complex .f32 z1 z2) := R1.out _ hS.1; clear hS; unfold execOp; go_simp) rfl rfl kd ?_
      simp only [Act.put, List.setIfInBounds_toArray, List.set_cons_zero, List.set_cons_succ]
      refine take_val 4 _ _ (.complex .f64 (wid z1) (wid z2)) rfl (by rfl) (by kernel_rfl) (by kernel_rfl) (by kernel_rfl) (fun w => by have := cv w; unfold execOp; go_simp) rfl rfl kd ?_
      simp only [Act.put, List.setIfInBounds_toArray, List.set_cons_zero, List.set_cons_succ]
      refine take_val 5 _ _ (.slice (some ⟨b2, o2, none⟩) n cap2) rfl (by rfl) (by kernel_rfl) (by kernel_rfl) (by kernel_rfl) (fun w => by rfl) rfl rfl kd ?_
      simp only [Act.put, List.setIfInBounds_toArray, List.set_cons_zero, List.set_cons_succ]
      refine take_val 6 _ _ (.int .i64 (k : Int)) rfl (by rfl) (by kernel_rfl) (by kernel_rfl) (by kernel_rfl) (fun w => by rfl) rfl rfl kd ?_
      simp only [Act.put, List.setIfInBounds_toArray, List.set_cons_zero, List.set_cons_succ]
      refine take_val 7 _ _ (.pointer (some ⟨b2, o2 + k, none⟩)) rfl (by rfl) (by kernel_rfl) (by kernel_rfl) (by kernel_rfl) (fun w => run_index_op _ _ rfl rfl (j2 w)) rfl rfl kd ?_
      simp only [Act.put, List.setIfInBounds_toArray, List.set_cons_zero, List.set_cons_succ]
      refine take_cell 8 _ _ (.complex .f32 z1 z2) rfl (by rfl) (by kernel_rfl) (by kernel_rfl) (by kernel_rfl) (fun wq hS => by have hcell : wq.cell? ⟨b2, o2 + k, none⟩ = some (.complex .f32 z1 z2) := R2.out _ hS.1; clear hS; unfold execOp; go_simp) rfl rfl kd ?_
      simp only [Act.put, List.setIfInBounds_toArray, List.set_cons_zero, List.set_cons_succ]
      refine take_val 9 _ _ (.complex .f64 (wid z1) (wid z2)) rfl (by rfl) (by kernel_rfl) (by kernel_rfl) (by kernel_rfl) (fun w => by have := cv w; unfold execOp; go_simp) rfl rfl kd ?_
      simp only [Act.put, List.setIfInBounds_toArray, List.set_cons_zero, List.set_cons_succ]
      refine wpAnyH_ready (rs := [10]) (by kernel_rfl) (by simp) ?_
      refine callK 10 _ _ (.bool true) kd rfl (by rfl) 76 #[.complex .f64 (wid z1) (wid z2), .complex .f64 (wid z1) (wid z2)] (fun w => by unfold execOp; go_simp) rfl rfl ?hc1 (fun w1 k1 => ?_) AllReadyH.nil
      case hc1 => exact (S1.out _).mono fun e w' h => ⟨h.1, h.2 ▸ Below.refl _ _⟩
      refine ⟨k1, ?_⟩
      simp only [Act.put, List.setIfInBounds_toArray, List.set_cons_zero, List.set_cons_succ]
      refine take_val 11 _ _ (.bool false) rfl (by rfl) (by kernel_rfl) (by kernel_rfl) (by kernel_rfl) (fun w => by unfold execOp; go_simp) rfl rfl k1 ?_
      simp only [Act.put, List.setIfInBounds_toArray, List.set_cons_zero, List.set_cons_succ]
      refine wpAnyH_done (by kernel_rfl) (NoPanic.normal ?_) _
      go_wp2
      go_roundw
      case rel => exact ⟨k + 1, by omega, by go_num, hid k1⟩
      case measure => simp [intOf]; omega
    · obtain rfl : k = n := by omega
      go_wp2
      go_ret
      exact ⟨rfl, h0.out.1⟩

set_option maxRecDepth 100000 in
set_option maxHeartbeats 2000000 in
theorem markCxs (w0 : World) (l : List (Nat × Array Value × TypeId)) (B n cap : Nat) (cs : Array Value) (y : Nat → Value) (w : World) (hk : Kept w0 ((B, cs, 91) :: l) w) (hB : w0.heap.size ≤ B) (hne : ∀ x ∈ l, x.1 ≠ B) (h : LvV cs n y) (hn : n ≤ 64) :
    Calls Tryd.prog 27 #[.slice (some ⟨B, 0, none⟩) n cap, .int .i64 1] w fun e w' => e = .returned (.int .i64 (1 + n)) ∧ ∃ cs', LvV cs' n (fun k => ckV (k + 1)) ∧ Kept w0 ((B, cs', 91) :: l) w' := by
  have HN := hid hn
  have HNE := hid hne
  have HBB := hid hB
  have h0 : Hid (∃ cs', LvV cs' n (mrV y (fun k => ckV (k + 1)) 0) ∧ Kept w0 ((B, cs', 91) :: l) w) := hid ⟨cs, by rw [mrV_zero]; exact h, hk⟩
  clear hk h hn hB hne
  go_enter Tryd.func27, Tryd.ntmps27
  go_wp2_with fail
  go_loopw [1, 5] (fun u i wr => ∃ k : Nat, k ≤ n ∧ i = .int .i64 k ∧ u = .int .i64 (1 + k) ∧ Hid (∃ cs', LvV cs' n (mrV y (fun k => ckV (k + 1)) k) ∧ Kept w0 ((B, cs', 91) :: l) wr)) (fun _ i _ => n - (intOf i).toNat)
  case atStart => exact ⟨0, by omega, rfl, by simp, h0⟩
  case round =>
    obtain ⟨k, hk, rfl, rfl, h1⟩ := hrel
    clear h0
    by_cases hlt : k < n
    · have HL := hid hlt
      have hn9 := HN.out
      have hk3 : (k : Int) < (n : Int) := by omega
      obtain ⟨cs', a1, a2⟩ := h1.out
      have i1 := fun w => run_indexAt (P := Tryd.prog) (t := 38) (e := 91) Tryd.underlying38 info_cx (b := B) (o := 0) (n := n) (cap := cap) (k := k) hlt w
      simp only [Nat.zero_add, Nat.mul_one] at i1
      obtain ⟨q1, _⟩ := ck_one (k := k + 1) (by omega)
      have cv1 : ∀ w : World, (convert 3 77 (.int .i64 (1 + (k : Int)))).run Tryd.prog w = .ok (.float .f64 (floatOfInt .f64 ((k + 1 : Nat) : Int))) w := fun w => by
        have := run_convert_int_float (P := Tryd.prog) w 3 77 .i64 .f64 (1 + (k : Int)) (by rw [Tryd.underlying3]; rfl) Tryd.underlying77
        rw [show ((k + 1 : Nat) : Int) = 1 + (k : Int) by omega]; exact this
      have cv2 : ∀ w : World, (convert 107 91 (.complex .f64 (floatOfInt .f64 ((k + 1 : Nat) : Int)) 4607182418800017408)).run Tryd.prog w = .ok (ckV (k + 1)) w := fun w => run_convert_complex (P := Tryd.prog) w 107 91 .f64 .f32 _ _ _ _ (by rw [Tryd.underlying107]; rfl) Tryd.underlying91 q1
      generalize floatOfInt .f64 ((k + 1 : Nat) : Int) = fk at cv1 cv2
      have A1 := hid a1
      have A2 := hid a2
      clear h1 a1 a2 q1
      have tok1 : True := trivial
      go_wp2_with (have _t := tok1; clear tok1; refine store_lv1 rfl 91 _ _ rfl info_cx B k (ckV (k + 1)) rfl rfl rfl rfl A2.out A1.out HL.out HBB.out HNE.out (fun w1 k1 v1 => ?_); replace k1 := hid k1; replace v1 := hid v1; clear A1 A2)
      have b3 : Hid (∃ cs', LvV cs' n (mrV y (fun k => ckV (k + 1)) (k + 1)) ∧ Kept w0 ((B, cs', 91) :: l) w1) := hid ⟨_, by have := v1.out; rw [mrV_step y (fun k => ckV (k + 1)) k] at this; exact this, k1.out⟩
      clear k1 v1 cv1 cv2
      have hw9 : wrap64 ((k : Int) + 1) = (k : Int) + 1 := by unfold wrap64; omega
      have hw8 : IntKind.i64.wrap (1 + (k : Int) + 1) = 1 + (k : Int) + 1 := by rw [IntKind.wrap_i64]; omega
      go_roundw
      case rel => exact ⟨k + 1, by have := HL.out; omega, by go_num, by first | (congr 1; omega) | (simp; omega), b3⟩
      case measure => have := HL.out; simp [intOf]; omega
    · obtain rfl : k = n := by omega
      have hk3 : ¬ (k : Int) < (k : Int) := by omega
      go_wp2
      go_ret
      obtain ⟨cs', a1, a2⟩ := h1.out
      exact ⟨rfl, cs', a1.ext (fun j hj => if_pos hj), a2⟩

set_option maxRecDepth 100000 in
set_option maxHeartbeats 2000000 in
theorem heldCxs (s : Value) (n : Nat) (w : World) (hs : RdV w s n (fun k => ckV (k + 1))) (hn : n ≤ 64) :
    Calls Tryd.prog 28 #[s, .int .i64 1] w fun e w' => e = .returned (.int .i64 (1 + n)) ∧ w = w' := by
  obtain ⟨p, cap, rfl, hc⟩ := hs
  have HC := hid hc
  have HN := hid hn
  clear hc hn
  go_enter Tryd.func28, Tryd.ntmps28
  go_wp2_with fail
  go_loopw [1, 5] (fun u i wr => ∃ k : Nat, k ≤ n ∧ i = .int .i64 k ∧ u = .int .i64 (1 + k) ∧ w = wr) (fun _ i _ => n - (intOf i).toNat)
  case atStart => exact ⟨0, by omega, rfl, by simp, rfl⟩
  case round =>
    obtain ⟨k, hk, rfl, rfl, rfl⟩ := hrel
    by_cases hlt : k < n
    · have HL := hid hlt
      have hn9 := HN.out
      have hk3 : (k : Int) < (n : Int) := by omega
      obtain ⟨b, o, rfl, hcell⟩ := HC.out (by omega)
      have c0 : w.cell? ⟨b, o + k, none⟩ = some (.complex .f32 (wS (k + 1)) 1065353216) := hcell k hlt
      have i1 := fun w => run_indexAt (P := Tryd.prog) (t := 38) (e := 91) Tryd.underlying38 info_cx (b := b) (o := o) (n := n) (cap := cap) (k := k) hlt w
      simp only [Nat.mul_one] at i1
      obtain ⟨q1, q2⟩ := ck_one (k := k + 1) (by omega)
      have cv1 : ∀ w : World, (convert 3 77 (.int .i64 (1 + (k : Int)))).run Tryd.prog w = .ok (.float .f64 (floatOfInt .f64 ((k + 1 : Nat) : Int))) w := fun w => by
        have := run_convert_int_float (P := Tryd.prog) w 3 77 .i64 .f64 (1 + (k : Int)) (by rw [Tryd.underlying3]; rfl) Tryd.underlying77
        rw [show ((k + 1 : Nat) : Int) = 1 + (k : Int) by omega]; exact this
      have cv2 : ∀ w : World, (convert 107 91 (.complex .f64 (floatOfInt .f64 ((k + 1 : Nat) : Int)) 4607182418800017408)).run Tryd.prog w = .ok (.complex .f32 (wS (k + 1)) 1065353216) w := fun w => run_convert_complex (P := Tryd.prog) w 107 91 .f64 .f32 _ _ _ _ (by rw [Tryd.underlying107]; rfl) Tryd.underlying91 q1
      have q3 : (FloatKind.f32.format.order 1065353216 1065353216 == some .eq) = true := by decide +kernel
      generalize floatOfInt .f64 ((k + 1 : Nat) : Int) = fk at cv1 cv2
      generalize wS (k + 1) = wk at cv2 q2 c0
      clear hcell q1
      go_wp2
      have hw9 : wrap64 ((k : Int) + 1) = (k : Int) + 1 := by unfold wrap64; omega
      go_roundw
      case rel => exact ⟨k + 1, by have := HL.out; omega, by go_num, by first | (congr 1; omega) | (simp; omega), trivial⟩
      case measure => have := HL.out; simp [intOf]; omega
    · obtain rfl : k = n := by omega
      have hk3 : ¬ (k : Int) < (k : Int) := by omega
      go_wp2
      go_ret
      exact ⟨rfl, rfl⟩

theorem held0C (p : Option Addr) (c : Nat) (w : World) : Calls Tryd.prog 28 #[.slice p 0 c, .int .i64 1] w fun e w' => e = .returned (.int .i64 1) ∧ w = w' := by
  have := heldCxs (.slice p 0 c) 0 w (RdV.zero w p c _) (by omega)
  simpa using this

theorem mark0C (p : Option Addr) (c : Nat) (w : World) : Calls Tryd.prog 27 #[.slice p 0 c, .int .i64 1] w fun e w' => e = .returned (.int .i64 1) ∧ w = w' := by
  go_enter Tryd.func27, Tryd.ntmps27
  go_wp2_with fail
  go_loopw [1, 5] (fun u i wr => i = .int .i64 0 ∧ u = .int .i64 1 ∧ w = wr) (fun _ _ _ => 0)
  case atStart => exact ⟨rfl, rfl, rfl⟩
  case round =>
    obtain ⟨rfl, rfl, rfl⟩ := hrel
    go_wp2
    go_ret
    exact ⟨rfl, rfl⟩

/-- A slice of n complex numbers that a call made. -/
def MadeC (n : Nat) (y : Nat → Value) (w : World) (v : Value) (w' : World) : Prop := ∃ B cs cap, v = .slice (some ⟨B, 0, none⟩) n cap ∧ w.heap.size ≤ B ∧ LvV cs n y ∧ Kept w [(B, cs, 91)] w'

theorem isTypeOf (v : Value) (w : World) : (Extern.ReflectliteType.typeOf #[.iface 291 v]).run Tryd.prog w = .ok (.iface 245 (.agg #[.pointer (some ⟨15, 291, none⟩)])) w := by kernel_rfl

theorem isComparable (w : World) : ((Extern.ReflectliteType.method fun t => do Extern.Rtype.noPackHeld "Comparable" t; pure (.bool (← typeInfo t).comparable)) #[.agg #[.pointer (some ⟨15, 291, none⟩)]]).run Tryd.prog w = .ok (.bool true) w := by kernel_rfl

theorem isCompCall (w : World) : (callFunc 271 #[.agg #[.pointer (some ⟨15, 291, none⟩)]]).run Tryd.prog w = .ok (Next.value (.bool true)) w := by
  have h32 := @run_callFunc_extern Tryd.prog 271 _ (Extern.ReflectliteType.method fun t => do Extern.Rtype.noPackHeld "Comparable" t; pure (.bool (← typeInfo t).comparable)) Tryd.func271 (by kernel_rfl) (by kernel_rfl) (by kernel_rfl) (by kernel_rfl)
  rw [h32, isComparable]
  rfl

theorem isMethodComparable (v : Value) (w : World) : (Go.method 435 245 v "Comparable").run Tryd.prog w = .ok (271, v) w := by kernel_rfl

theorem isComp : (Tryd.prog.info? 291).map (·.comparable) = some true := by kernel_rfl

theorem isSize : (Tryd.prog.info? 293).map (·.size) = some 1 := by kernel_rfl

theorem noIsE (v : Value) (xT : TypeId) (w : World) : (Instr.typeAssert (.iface 291 v) xT 247 true).run Tryd.prog w = .ok (.tuple #[.nilIface, .bool false]) w := run_typeAssert_lacksB Tryd.underlying247 (by kernel_rfl) (by kernel_rfl) v xT w

theorem noUnwrapE (v : Value) (xT : TypeId) (w : World) : (Instr.typeAssert (.iface 291 v) xT 250 true).run Tryd.prog w = .ok (.tuple #[.nilIface, .bool false]) w := run_typeAssert_lacksB Tryd.underlying250 (by kernel_rfl) (by kernel_rfl) v xT w

theorem noUnwrapsE (v : Value) (xT : TypeId) (w : World) : (Instr.typeAssert (.iface 291 v) xT 252 true).run Tryd.prog w = .ok (.tuple #[.nilIface, .bool false]) w := run_typeAssert_lacksB Tryd.underlying252 (by kernel_rfl) (by kernel_rfl) v xT w

set_option maxRecDepth 100000 in
/-- errors.Is(x, x), x a pointer to an errors.errorString. -/
theorem is_same (a : Addr) (w : World) :
    Calls Tryd.prog 126 #[.iface 291 (.pointer (some a)), .iface 291 (.pointer (some a))] w fun e w' => e = .returned (.bool true) ∧ w' = w := by
  obtain ⟨i, hi, hcmp⟩ := Option.map_eq_some_iff.1 isComp
  obtain ⟨j, hj, hjs⟩ := Option.map_eq_some_iff.1 isSize
  have h8 := @run_callFunc_extern Tryd.prog 167 _ Extern.ReflectliteType.typeOf Tryd.func167 (by kernel_rfl) (by kernel_rfl) (by kernel_rfl) (by kernel_rfl)
  have tT := isTypeOf
  have cT := isCompCall
  have mR := isMethodComparable
  have heq := run_eql_iface_ptr_same (P := Tryd.prog) w a Tryd.underlying90 Tryd.underlying291 hi hcmp hj
  go_enter Tryd.func126, Tryd.ntmps126
  go_wp2
  refine wp_loop_rounds 1 ?_
  rw [rounds_succ]
  go_wp2
  go_ret
  exact ⟨rfl, rfl⟩

set_option maxRecDepth 100000 in
/-- errors.Is(x, y), two different pointers to errors.errorString. -/
theorem is_other (a b : Addr) (ca cb : Array Value) (ta tb : TypeId) (w : World) (hne : a ≠ b) (ha : w.heap[a.block]? = some (.cells ca ta (0, 0))) (hb : w.heap[b.block]? = some (.cells cb tb (0, 0))) :
    Calls Tryd.prog 126 #[.iface 291 (.pointer (some a)), .iface 291 (.pointer (some b))] w fun e w' => e = .returned (.bool false) ∧ w' = w := by
  obtain ⟨i, hi, hcmp⟩ := Option.map_eq_some_iff.1 isComp
  obtain ⟨j, hj, hjs⟩ := Option.map_eq_some_iff.1 isSize
  have h8 := @run_callFunc_extern Tryd.prog 167 _ Extern.ReflectliteType.typeOf Tryd.func167 (by kernel_rfl) (by kernel_rfl) (by kernel_rfl) (by kernel_rfl)
  have tT := isTypeOf
  have cT := isCompCall
  have mR := isMethodComparable
  have nE := noIsE
  have uE := noUnwrapE
  have vE := noUnwrapsE
  have heq := run_eql_iface_ptr_other (P := Tryd.prog) w Tryd.underlying90 Tryd.underlying291 hi hcmp hj (by rw [hjs]; decide) hne ha hb
  go_enter Tryd.func126, Tryd.ntmps126
  go_wp2
  refine wp_loop_rounds 1 ?_
  rw [rounds_succ]
  go_wp2
  go_ret
  exact ⟨rfl, rfl⟩

@[go_sem] theorem semAtSome (l : Nat) (ρ : Operand → Value) (o : Oper) (h : ∀ c, o.op ≠ .defer c) : Oper.semAt (some l) ρ o = execOp ρ o := Oper.semAt_some l ρ o h

/-- The errors that are variables: each points to a cell of its own. -/
structure Sent (w : World) (A : Nat → Addr) : Prop where
  c0 : w.cell? ⟨2, 0, none⟩ = some (.iface 291 (.pointer (some (A 0))))
  c1 : w.cell? ⟨0, 0, none⟩ = some (.iface 291 (.pointer (some (A 1))))
  c2 : w.cell? ⟨1, 0, none⟩ = some (.iface 291 (.pointer (some (A 2))))
  c3 : w.cell? ⟨3, 0, none⟩ = some (.iface 291 (.pointer (some (A 3))))
  c4 : w.cell? ⟨4, 0, none⟩ = some (.iface 291 (.pointer (some (A 4))))
  b : ∀ i, i < 5 → ∃ c t, w.heap[(A i).block]? = some (.cells c t (0, 0))
  ne : ∀ i j, i < 5 → j < 5 → i ≠ j → A i ≠ A j

theorem cell_below {w w' : World} {a : Addr} {v : Value} (h : w.cell? a = some v) (hb : Below w.heap.size w w') : w'.cell? a = some v := by
  have hlt : a.block < w.heap.size := by
    rcases Nat.lt_or_ge a.block w.heap.size with h' | h'
    · exact h'
    · simp [World.cell?, Array.getElem?_eq_none h'] at h
  unfold World.cell? at h ⊢
  rw [hb.block _ hlt]
  exact h

theorem Sent.stay {w w' : World} {A : Nat → Addr} (h : Sent w A) (hb : Below w.heap.size w w') : Sent w' A :=
  ⟨cell_below h.c0 hb, cell_below h.c1 hb, cell_below h.c2 hb, cell_below h.c3 hb, cell_below h.c4 hb, fun i hi => by
    obtain ⟨c, t, e⟩ := h.b i hi
    exact ⟨c, t, by rw [hb.block _ (lt_of_block e)]; exact e⟩, h.ne⟩

theorem code_1 (A : Nat → Addr) (w : World) (S : Sent w A) : Calls Tryd.prog 62 #[.iface 291 (.pointer (some (A 1)))] w fun e w' => e = .returned (.int .i64 2) ∧ w' = w := by
  have c0 := S.c0
  have c1 := S.c1
  have HS := hid S
  clear S
  go_enter Tryd.func62, Tryd.ntmps62
  go_wp2_with fail
  refine (is_other (A 1) (A 0) _ _ _ _ _ (HS.out.ne 1 0 (by omega) (by omega) (by omega)) (HS.out.b 1 (by omega)).choose_spec.choose_spec (HS.out.b 0 (by omega)).choose_spec.choose_spec).mono ?_
  rintro e0 u0 ⟨rfl, rfl⟩
  go_wp2_with fail
  refine (is_same (A 1) _).mono ?_
  rintro e9 u9 ⟨rfl, rfl⟩
  go_wp2
  go_ret
  exact ⟨rfl, rfl⟩

theorem err_star : "*" ++ "errors.errorString" = "*errors.errorString" := by decide

theorem row_err (u : TypeId) (h : Tryd.prog.typeName? 3 u = some "*errors.errorString") : u = 291 :=
  typeName_ptr_named (nm := "errors.errorString") (by rw [err_star]; kernel_rfl) (by kernel_rfl) (by decide) u (by rw [err_star]; exact h)

/-- What the rows' condition says of the variables. -/
theorem sent_of {W : World} (h : laidMetH Tryd.prog Rows.fnExactSpotOfRow.laid W) : ∃ A, Sent W A ∧ (W.var? Tryd.prog "loop.example/g01224/impl.errUnfit" = some #[.iface 291 (.pointer (some (A 0)))] ∧ W.var? Tryd.prog "loop.example/g01224/impl.errBeyond" = some #[.iface 291 (.pointer (some (A 1)))] ∧ W.var? Tryd.prog "loop.example/g01224/impl.errCrowded" = some #[.iface 291 (.pointer (some (A 2)))] ∧ W.var? Tryd.prog "loop.example/g01224/impl.errNoText" = some #[.iface 291 (.pointer (some (A 3)))] ∧ W.var? Tryd.prog "loop.example/g01224/impl.errNowhere" = some #[.iface 291 (.pointer (some (A 4)))]) := by
  rw [MakeChecks.laidMetH_plain _ _ _ (by kernel_rfl)] at h
  obtain ⟨a0, a1, a2, a3, a4, ⟨v0, v1, v2, v3, v4⟩, ⟨b0, b1, b2, b3, b4⟩, n01, n02, n03, n04, n12, n13, n14, n23, n24, n34⟩ := laid_five (tp := 291) h
    (g0 := 2) (by kernel_rfl) (by kernel_rfl)
    (g1 := 0) (by kernel_rfl) (by kernel_rfl)
    (g2 := 1) (by kernel_rfl) (by kernel_rfl)
    (g3 := 3) (by kernel_rfl) (by kernel_rfl)
    (g4 := 4) (by kernel_rfl) (by kernel_rfl)
    Tryd.underlying90 row_err Tryd.underlying291 Tryd.underlying293 rfl rfl Tryd.underlying9 (by kernel_rfl) (by kernel_rfl)
  refine ⟨fun i => match i with | 0 => a0 | 1 => a1 | 2 => a2 | 3 => a3 | _ => a4, ⟨?_, ?_, ?_, ?_, ?_, ?_, ?_⟩, v0, v1, v2, v3, v4⟩
  · simpa using World.var?_cell (g := 2) (by kernel_rfl) v0 0
  · simpa using World.var?_cell (g := 0) (by kernel_rfl) v1 0
  · simpa using World.var?_cell (g := 1) (by kernel_rfl) v2 0
  · simpa using World.var?_cell (g := 3) (by kernel_rfl) v3 0
  · simpa using World.var?_cell (g := 4) (by kernel_rfl) v4 0
  · intro i hi
    match i, hi with
    | 0, _ => exact b0
    | 1, _ => exact b1
    | 2, _ => exact b2
    | 3, _ => exact b3
    | 4, _ => exact b4
  · intro i j hi hj hne
    match i, j, hi, hj, hne with
    | 0, 0, _, _, h => exact absurd rfl h
    | 0, 1, _, _, _ => exact n01
    | 0, 2, _, _, _ => exact n02
    | 0, 3, _, _, _ => exact n03
    | 0, 4, _, _, _ => exact n04
    | 1, 0, _, _, _ => exact n01.symm
    | 1, 1, _, _, h => exact absurd rfl h
    | 1, 2, _, _, _ => exact n12
    | 1, 3, _, _, _ => exact n13
    | 1, 4, _, _, _ => exact n14
    | 2, 0, _, _, _ => exact n02.symm
    | 2, 1, _, _, _ => exact n12.symm
    | 2, 2, _, _, h => exact absurd rfl h
    | 2, 3, _, _, _ => exact n23
    | 2, 4, _, _, _ => exact n24
    | 3, 0, _, _, _ => exact n03.symm
    | 3, 1, _, _, _ => exact n13.symm
    | 3, 2, _, _, _ => exact n23.symm
    | 3, 3, _, _, h => exact absurd rfl h
    | 3, 4, _, _, _ => exact n34
    | 4, 0, _, _, _ => exact n04.symm
    | 4, 1, _, _, _ => exact n14.symm
    | 4, 2, _, _, _ => exact n24.symm
    | 4, 3, _, _, _ => exact n34.symm
    | 4, 4, _, _, h => exact absurd rfl h

theorem iNextN (s : Int) (w : World) :
    Calls Tryd.prog 170 #[.int .u32 s] w fun e w' => e = .returned (.int .u32 (nxN s)) ∧ w = w' := by
  go_enter Tryd.func170, Tryd.ntmps170
  go_wp2
  go_ret
  exact ⟨rfl, rfl⟩

set_option maxRecDepth 100000 in
theorem iPart (w0 : World) (l : List (Nat × Array Value × TypeId)) (B st : Nat) (s : Int) (hst : amtB st = true) (w : World) (hk : Kept w0 ((B, #[.int .u32 s, .float .f32 st], 102) :: l) w) (hB : w0.heap.size ≤ B) (hne : ∀ x ∈ l, x.1 ≠ B) :
    Calls Tryd.prog 134 #[.pointer (some ⟨B, 0, none⟩)] w fun e w' => e = .returned (.float .f32 (nzW st (nxN s))) ∧ Kept w0 ((B, #[.int .u32 (nxN s), .float .f32 st], 102) :: l) w' := by
  obtain ⟨b0, b1⟩ := nxN_bnd s
  obtain ⟨q1, q2, _, _⟩ := noise_f hst ⟨b0, b1⟩
  have c0 : w.cell? ⟨B, 0, none⟩ = some (.int .u32 s) := (cell_of_row w B 0 _ _ _ (hk.at (x := (B, #[.int .u32 s, .float .f32 st], 102)) in0)).trans rfl
  have HK := hid hk
  have HB := hid hB
  have HNE := hid hne
  have d1 := fun w => run_float_arith (P := Tryd.prog) w .quo 22 .f32 _ _ _ q1
  have d2 := fun w => run_float_arith (P := Tryd.prog) w .mul 22 .f32 _ _ _ q2
  have cv : ∀ w : World, (convert 2 22 (.int .i64 (nxN s / 65536 - 32768))).run Tryd.prog w = .ok (.float .f32 (nzF (nxN s))) w := fun w => run_convert_int_float (P := Tryd.prog) w 2 22 .i64 .f32 _ (by rw [Tryd.underlying2]; rfl) Tryd.underlying22
  have HN := hid (fun w => iNextN s w)
  generalize nzW st (nxN s) = R at *
  generalize nzQ (nxN s) = q at *
  generalize nzF (nxN s) = f at *
  generalize nxN s = z at *
  have hw : IntKind.i64.wrap (z / 65536 - 32768) = z / 65536 - 32768 := by rw [IntKind.wrap_i64]; omega
  clear hk hB hne q1 q2 hst
  go_enter Tryd.func134, Tryd.ntmps134
  go_wp2_with fail
  refine (HN.out _).mono ?_
  rintro e u ⟨rfl, rfl⟩
  have tok1 : True := trivial
  go_wp2_with (have _t := tok1; clear tok1; refine store_at (by rfl) 37 _ _ (by rfl) (by kernel_rfl) B 0 (.int .u32 z) (.int .u32 s) #[.int .u32 s, .float .f32 st] #[.int .u32 z, .float .f32 st] (by rfl) (by rfl) (by rfl) (by rfl) HK.out (by rfl) (by rfl) HB.out HNE.out (fun w1 k1 => ?_); have e0 : w1.cell? ⟨B, 0, none⟩ = some (.int .u32 z) := (cell_of_row w1 B 0 _ _ _ (k1.at (x := (B, #[.int .u32 z, .float .f32 st], 102)) in0)).trans rfl; have e1 : w1.cell? ⟨B, 1, none⟩ = some (.float .f32 st) := (cell_of_row w1 B 1 _ _ _ (k1.at (x := (B, #[.int .u32 z, .float .f32 st], 102)) in0)).trans rfl; replace k1 := hid k1; clear HK c0)
  go_ret
  exact ⟨rfl, k1.out⟩

set_option maxRecDepth 100000 in
theorem iPulse (w0 : World) (l : List (Nat × Array Value × TypeId)) (B st : Nat) (s i : Int) (hst : amtB st = true) (w : World) (hk : Kept w0 ((B, #[.int .u32 s, .float .f32 st], 102) :: l) w) (hB : w0.heap.size ≤ B) (hne : ∀ x ∈ l, x.1 ≠ B) :
    Calls Tryd.prog 75 #[.pointer (some ⟨B, 0, none⟩), .int .i64 i] w fun e w' => e = .returned (.complex .f32 (nzW st (nxN s)) (nzW st (nxN (nxN s)))) ∧ Kept w0 ((B, #[.int .u32 (nxN (nxN s)), .float .f32 st], 102) :: l) w' := by
  have H1 := hid (iPart w0 l B st s hst w hk hB hne)
  have H2 := hid (fun w1 k1 => iPart w0 l B st (nxN s) hst w1 k1 hB hne)
  clear hk hB hne hst
  go_enter Tryd.func75, Tryd.ntmps75
  go_wp2_with fail
  refine H1.out.mono ?_
  rintro e u ⟨rfl, k1⟩
  go_wp2_with fail
  refine (H2.out _ k1).mono ?_
  rintro e v ⟨rfl, k2⟩
  have K2 := hid k2
  clear k1 k2 H1 H2
  go_wp2
  go_ret
  exact ⟨rfl, K2.out⟩

set_option maxRecDepth 100000 in
set_option maxHeartbeats 1000000 in
theorem iSeriesN (w0 : World) (l : List (Nat × Array Value × TypeId)) (B st : Nat) (s : Int) (hst : amtB st = true) (n : Nat) (hn : n ≤ 64) (w : World) (hk : Kept w0 ((B, #[.int .u32 s, .float .f32 st], 102) :: l) w) (hB : w0.heap.size ≤ B) (hne : ∀ x ∈ l, x.1 ≠ B) :
    Calls Tryd.prog 74 #[.int .i64 n, .func (.func 75) #[.pointer (some ⟨B, 0, none⟩)] #[]] w fun e w' =>
      ∃ C cs, e = .returned (.slice (some ⟨C, 0, none⟩) n n) ∧ w.heap.size ≤ C ∧ LvV cs n (nzV st s) ∧ Kept w0 ((C, cs, 91) :: (B, #[.int .u32 (sdN s (2 * n)), .float .f32 st], 102) :: l) w' := by
  have HN := hid hn
  have HB := hid hB
  have HNE := hid hne
  have HST := hid hst
  have hlt := hk.lt in0
  have hsz := hk.size
  have HFR := hid hk.fresh
  obtain ⟨cs0, L0, hmk⟩ := run_makeV (P := Tryd.prog) (t := 103) (e := 91) Tryd.underlying103 (.complex .f32 0 0) 8 rfl (by omega) infoz_cx (show n ≤ 1048576 by omega) w
  have k0 : Hid (∃ cs, LvV cs n (mrV (fun _ => .complex .f32 0 0) (nzV st s) 0) ∧ Kept w0 ((w.heap.size, cs, 91) :: (B, #[.int .u32 (sdN s (2 * 0)), .float .f32 st], 102) :: l) (w.alloc (.cells cs0 91))) := hid ⟨cs0, by rw [mrV_zero]; exact L0, hk.push _ _⟩
  clear hk hB hne hst L0 hn
  go_enter Tryd.func74, Tryd.ntmps74
  go_wp2_with fail
  go_loopw [11] (fun i wr => ∃ k : Nat, k ≤ n ∧ i = .int .i64 k ∧ Hid (∃ cs, LvV cs n (mrV (fun _ => .complex .f32 0 0) (nzV st s) k) ∧ Kept w0 ((w.heap.size, cs, 91) :: (B, #[.int .u32 (sdN s (2 * k)), .float .f32 st], 102) :: l) wr)) (fun i _ => n - (intOf i).toNat)
  case atStart => exact ⟨0, by omega, rfl, k0⟩
  case round =>
    obtain ⟨k, hk, rfl, h1⟩ := hrel
    clear k0 hmk
    by_cases hlt2 : k < n
    · have HL := hid hlt2
      have hn9 := HN.out
      have hk3 : (k : Int) < (n : Int) := by omega
      obtain ⟨cs, a1, a2⟩ := h1.out
      have hneC : w.heap.size ≠ B := by omega
      have HP := hid (iPulse w0 ((w.heap.size, cs, 91) :: l) B st (sdN s (2 * k)) k HST.out wr a2.swap HB.out (by
        intro x hx
        rcases List.mem_cons.1 hx with rfl | hx
        · exact hneC
        · exact HNE.out x hx))
      have i1 := fun w9 => run_indexAt (P := Tryd.prog) (t := 103) (e := 91) Tryd.underlying103 info_cx (b := w.heap.size) (o := 0) (n := n) (cap := n) (k := k) hlt2 w9
      simp only [Nat.zero_add, Nat.mul_one] at i1
      have A1 := hid a1
      clear h1 a1 a2 hlt2
      go_wp2_with fail
      refine HP.out.mono ?_
      rintro e w1 ⟨rfl, k1⟩
      have K1 := hid k1.swap
      clear k1 HP
      have tok1 : True := trivial
      go_wp2_with (have _t := tok1; clear tok1; refine store_lv1 rfl 91 _ _ rfl info_cx w.heap.size k (nzV st s k) rfl rfl rfl rfl K1.out A1.out HL.out hsz (by
        intro x hx
        rcases List.mem_cons.1 hx with rfl | hx
        · exact hneC.symm
        · exact HFR.out x (List.mem_cons_of_mem _ hx)) (fun w2 k2 v2 => ?_); replace k2 := hid k2; replace v2 := hid v2; clear K1 A1)
      have b3 : Hid (∃ cs, LvV cs n (mrV (fun _ => .complex .f32 0 0) (nzV st s) (k + 1)) ∧ Kept w0 ((w.heap.size, cs, 91) :: (B, #[.int .u32 (sdN s (2 * (k + 1))), .float .f32 st], 102) :: l) w2) := hid ⟨_, by have := v2.out; rw [mrV_step _ (nzV st s) k] at this; exact this, k2.out⟩
      clear k2 v2
      go_roundw
      case rel => exact ⟨k + 1, HL.out, by go_num, b3⟩
      case measure => have := HL.out; simp [intOf]; omega
    · obtain rfl : k = n := by omega
      have hk3 : ¬ (k : Int) < (k : Int) := by omega
      go_wp2
      go_ret
      obtain ⟨cs, a1, a2⟩ := h1.out
      have a3 := a1.ext (z := nzV st s) (fun j hj => if_pos hj)
      first | exact ⟨w.heap.size, cs, rfl, Nat.le_refl _, a3, a2⟩ | exact ⟨w.heap.size, rfl, Nat.le_refl _, cs, a3, a2⟩ | exact ⟨⟨w.heap.size, rfl, Nat.le_refl _⟩, cs, a3, a2⟩

set_option maxRecDepth 100000 in
theorem wpList_val {P : Program} {ops : Array Oper} {rest : List Oper} {o : Oper} {a : Act} {w : World} {Q : Exit → Act → World → Prop} (hg : o.guard = none) (v : Value) (hrun : (execOp a.eval o).run P w = .ok (.value v) w)
    (h : wpList P ops Q rest (a.put o.dst v) w) : wpList P ops Q (o :: rest) a w := by
  refine wpList_plain hg fun K hK => ?_
  unfold Oper.wp
  rw [hrun, Oper.upon_value]
  exact hK _ _ h

theorem keptDrawnC {w0 : World} {l : List (Nat × Array Value × TypeId)} {w : World} (k : Kept w0 l w) (n : Nat) : Kept w0 l (w.drewN n) := ⟨below_drewN k.1 n, fun x hx => k.2 x hx⟩

set_option maxRecDepth 100000 in
theorem iAll0 (w : World) :
    Calls Tryd.prog 131 #[.slice none 0 0, .func (.func 61) #[] #[]] w fun e w' => e = .returned (.bool true) ∧ w = w' := by
  go_enter Tryd.func131, Tryd.ntmps131
  go_wp2
  refine wp_loop_rounds 1 ?_
  rw [rounds_succ]
  go_wp2
  go_ret
  exact ⟨rfl, rfl⟩

theorem iCount_t (q : Int) (h : 1 ≤ q ∧ q ≤ 64) (w : World) : Calls Tryd.prog 133 #[.int .i64 q] w fun e w' => e = .returned (.bool true) ∧ w = w' := by
  obtain ⟨h1, h2⟩ := h
  go_enter Tryd.func133, Tryd.ntmps133
  go_wp2
  go_ret
  exact ⟨rfl, rfl⟩

theorem iCount_lo (q : Int) (h : ¬ 1 ≤ q) (w : World) : Calls Tryd.prog 133 #[.int .i64 q] w fun e w' => e = .returned (.bool false) ∧ w = w' := by
  go_enter Tryd.func133, Tryd.ntmps133
  go_wp2
  go_ret
  exact ⟨rfl, rfl⟩

theorem iCount_hi (q : Int) (h1 : 1 ≤ q) (h : ¬ q ≤ 64) (w : World) : Calls Tryd.prog 133 #[.int .i64 q] w fun e w' => e = .returned (.bool false) ∧ w = w' := by
  go_enter Tryd.func133, Tryd.ntmps133
  go_wp2
  go_ret
  exact ⟨rfl, rfl⟩

theorem iCount_f (q : Int) (h : ¬ (1 ≤ q ∧ q ≤ 64)) (w : World) : Calls Tryd.prog 133 #[.int .i64 q] w fun e w' => e = .returned (.bool false) ∧ w = w' := by
  by_cases h1 : 1 ≤ q
  · exact iCount_hi q h1 (fun h2 => h ⟨h1, h2⟩) w
  · exact iCount_lo q h1 w

theorem sCount_t (q : Int) (h : 1 ≤ q ∧ q ≤ 64) (w : World) : Calls Tryd.prog 72 #[.int .i64 q] w fun e w' => e = .returned (.bool true) ∧ w = w' := by
  have H := hid (fun w => l00In_t q 1 64 h.1 h.2 w)
  clear h
  go_enter Tryd.func72, Tryd.ntmps72
  go_wp2_with fail
  refine (H.out _).mono ?_
  rintro e u ⟨rfl, rfl⟩
  go_wp2
  go_ret
  exact ⟨rfl, rfl⟩

theorem sCount_f (q : Int) (h : ¬ (1 ≤ q ∧ q ≤ 64)) (w : World) : Calls Tryd.prog 72 #[.int .i64 q] w fun e w' => e = .returned (.bool false) ∧ w = w' := by
  have H := hid (fun w => l00In_f q 1 64 h w)
  clear h
  go_enter Tryd.func72, Tryd.ntmps72
  go_wp2_with fail
  refine (H.out _).mono ?_
  rintro e u ⟨rfl, rfl⟩
  go_wp2
  go_ret
  exact ⟨rfl, rfl⟩

set_option maxRecDepth 100000 in
theorem iMaking_t (st : Nat) (hst : amtB st = true) (q : Int) (hq : 1 ≤ q ∧ q ≤ 64) (w : World) :
    Calls Tryd.prog 73 #[.float .f32 st, .int .i64 q, .slice none 0 0] w fun e w' => e = .returned .nilIface ∧ w = w' := by
  have H1 := hid (fun w => isAmount_t st hst w)
  have H2 := hid (fun w => iCount_t q hq w)
  clear hst hq
  go_enter Tryd.func73, Tryd.ntmps73
  go_wp2_with fail
  refine (H1.out _).mono ?_
  rintro e u ⟨rfl, rfl⟩
  go_wp2_with fail
  refine (H2.out _).mono ?_
  rintro e u ⟨rfl, rfl⟩
  go_wp2_with fail
  refine (iAll0 _).mono ?_
  rintro e u ⟨rfl, rfl⟩
  go_wp2
  go_ret
  exact ⟨rfl, rfl⟩

set_option maxRecDepth 100000 in
theorem iMaking_s (A : Nat → Addr) (st : Nat) (hs : st < 4294967296) (hst : amtB st = false) (q : Int) (w : World) (hA : Sent w A) :
    Calls Tryd.prog 73 #[.float .f32 st, .int .i64 q, .slice none 0 0] w fun e w' => e = .returned (.iface 291 (.pointer (some (A 1)))) ∧ Below w.heap.size w w' := by
  have H1 := hid (fun w => isAmount_f st hs hst w)
  have HA := hid hA
  clear hst hs hA
  go_enter Tryd.func73, Tryd.ntmps73
  go_wp2_with fail
  refine (H1.out _).mono ?_
  rintro e u ⟨rfl, hb⟩
  have c1 := (HA.out.stay hb).c1
  have HB := hid hb
  clear hb HA
  go_wp2
  go_ret
  exact ⟨rfl, HB.out⟩

set_option maxRecDepth 100000 in
theorem iMaking_q (A : Nat → Addr) (st : Nat) (hst : amtB st = true) (q : Int) (hq : ¬ (1 ≤ q ∧ q ≤ 64)) (w : World) (hA : Sent w A) :
    Calls Tryd.prog 73 #[.float .f32 st, .int .i64 q, .slice none 0 0] w fun e w' => e = .returned (.iface 291 (.pointer (some (A 1)))) ∧ Below w.heap.size w w' := by
  have H1 := hid (fun w => isAmount_t st hst w)
  have H2 := hid (fun w => iCount_f q hq w)
  have c1 := hA.c1
  clear hst hq hA
  go_enter Tryd.func73, Tryd.ntmps73
  go_wp2_with fail
  refine (H1.out _).mono ?_
  rintro e u ⟨rfl, rfl⟩
  go_wp2_with fail
  refine (H2.out _).mono ?_
  rintro e u ⟨rfl, rfl⟩
  go_wp2
  go_ret
  exact ⟨rfl, Below.refl _ _⟩

set_option maxRecDepth 100000 in
theorem iNoise_bad (A : Nat → Addr) (s : Int) (st : Nat) (q : Int) (w : World) (hA : Sent w A)
    (hM : Calls Tryd.prog 73 #[.float .f32 st, .int .i64 q, .slice none 0 0] w fun e w' => e = .returned (.iface 291 (.pointer (some (A 1)))) ∧ Below w.heap.size w w') :
    Calls Tryd.prog 25 #[.int .u32 s, .float .f32 st, .int .i64 q] w fun e w' => ∃ p k, e = .returned (.tuple #[.slice p 0 k, .int .u32 0, .int .i64 2]) ∧ Below w.heap.size w w' := by
  have HM := hid hM
  have HA := hid hA
  clear hM hA
  go_enter Tryd.func25, Tryd.ntmps25
  go_wp2_with fail
  refine HM.out.mono ?_
  rintro e u ⟨rfl, hb⟩
  have HB := hid hb
  have HC := hid (code_1 A u (HA.out.stay hb))
  clear hb HM HA
  go_wp2_with fail
  refine HC.out.mono ?_
  rintro e v ⟨rfl, rfl⟩
  go_wp2
  go_ret3
  exact ⟨_, _, rfl, HB.out⟩

set_option maxRecDepth 100000 in
set_option maxHeartbeats 1000000 in
theorem iNoise_ok (s : Int) (st : Nat) (hst : amtB st = true) (n : Nat) (h0 : 1 ≤ n) (hn : n ≤ 64) (w : World) :
    Calls Tryd.prog 25 #[.int .u32 s, .float .f32 st, .int .i64 n] w fun e w' => ∃ v, e = .returned (.tuple #[v, .int .u32 (sdN s (2 * n)), .int .i64 0]) ∧ MadeC n (nzV st s) w v w' := by
  have H1 := hid (fun w => iMaking_t st hst n (by omega) w)
  have k1 : Hid (Kept w [(w.heap.size, #[.int .u32 s, .float .f32 st], 102)] (w.alloc (.cells #[.int .u32 s, .float .f32 st] 102))) := hid ((Kept.nil w).push _ _)
  have H2 := hid (iSeriesN w [] w.heap.size st s hst n hn _ k1.out (Nat.le_refl _) ne0)
  clear hst h0 hn
  go_enter Tryd.func25, Tryd.ntmps25
  go_wp2_with fail
  refine (H1.out _).mono ?_
  rintro e u ⟨rfl, rfl⟩
  go_wp2_with fail
  refine H2.out.mono ?_
  rintro e u ⟨C, cs, rfl, hC, L, k2⟩
  have e0 : u.cell? ⟨w.heap.size, 0, none⟩ = some (.int .u32 (sdN s (2 * n))) := (cell_of_row u w.heap.size 0 _ _ _ (k2.at (x := (w.heap.size, #[.int .u32 (sdN s (2 * n)), .float .f32 st], 102)) in1)).trans rfl
  have M := hid (fun m => show MadeC n (nzV st s) w (.slice (some ⟨C, 0, none⟩) n n) (u.drewN m) from ⟨C, cs, n, rfl, Nat.le_trans k1.out.size hC, L, keptDrawnC (k2.sub (by intro y hy; rw [List.mem_singleton.1 hy]; exact in0)) m⟩)
  clear hC L k2 H1 H2 k1
  go_wp2_with fail
  go_quiet (fail)
  go_wp2
  go_ret3
  exact ⟨.slice (some ⟨C, 0, none⟩) n n, rfl, M.out _⟩

set_option maxRecDepth 100000 in
theorem sNoise_s (s : Int) (st : Nat) (hs : st < 4294967296) (hst : amtB st = false) (q : Int) (w : World) :
    Calls Tryd.prog 24 #[.int .u32 s, .float .f32 st, .int .i64 q] w fun e w' => ∃ p k, e = .returned (.tuple #[.slice p 0 k, .int .u32 0, .int .i64 2]) ∧ Below w.heap.size w w' := by
  have H1 := hid (fun w => sAmount_f st hs hst w)
  clear hst hs
  go_enter Tryd.func24, Tryd.ntmps24
  go_wp2_with fail
  refine (H1.out _).mono ?_
  rintro e u ⟨rfl, hb⟩
  have HB := hid (hb.alloc hb.size (.cells #[] 91))
  clear hb
  go_wp2
  go_ret3
  exact ⟨_, _, rfl, HB.out⟩

set_option maxRecDepth 100000 in
theorem sNoise_q (s : Int) (st : Nat) (hst : amtB st = true) (q : Int) (hq : ¬ (1 ≤ q ∧ q ≤ 64)) (w : World) :
    Calls Tryd.prog 24 #[.int .u32 s, .float .f32 st, .int .i64 q] w fun e w' => ∃ p k, e = .returned (.tuple #[.slice p 0 k, .int .u32 0, .int .i64 2]) ∧ Below w.heap.size w w' := by
  have H1 := hid (fun w => sAmount_t st hst w)
  have H2 := hid (fun w => sCount_f q hq w)
  clear hst hq
  have HB := hid ((Below.refl w.heap.size w).alloc (Nat.le_refl _) (.cells #[] 91))
  go_enter Tryd.func24, Tryd.ntmps24
  go_wp2_with fail
  refine (H1.out _).mono ?_
  rintro e u ⟨rfl, rfl⟩
  go_wp2_with fail
  refine (H2.out _).mono ?_
  rintro e u ⟨rfl, rfl⟩
  go_wp2
  go_ret3
  exact ⟨_, _, rfl, HB.out⟩

set_option maxRecDepth 100000 in
set_option maxHeartbeats 4000000 in
theorem sNoise_ok (s : Int) (hs : 0 ≤ s ∧ s < 4294967296) (st : Nat) (hst : amtB st = true) (n : Nat) (h0 : 1 ≤ n) (hn : n ≤ 64) (w : World) :
    Calls Tryd.prog 24 #[.int .u32 s, .float .f32 st, .int .i64 n] w fun e w' => ∃ v, e = .returned (.tuple #[v, .int .u32 (sdN s (2 * n)), .int .i64 0]) ∧ MadeC n (nzV st s) w v w' := by
  have H1 := hid (fun w => sAmount_t st hst w)
  have H2 := hid (fun w => sCount_t n (by omega) w)
  have HST := hid hst
  have HS := hid hs
  have H0 := hid (show 0 < n by omega)
  have HN := hid hn
  have k0 : Hid ((w.alloc (.cells #[] 91)).ownsRow w.heap.size 91 1 (.slice (some ⟨w.heap.size, 0, none⟩) 0 0) 0 (wdv (nzV st s) 0)) := hid (World.ownsRow_made w #[] 0 (Nat.le_refl _) (by decide) rfl)
  have b1 : Hid (Below w.heap.size w (w.alloc (.cells #[] 91))) := hid ((Below.refl w.heap.size w).alloc (Nat.le_refl _) (.cells #[] 91))
  clear hst hs h0 hn
  go_enter Tryd.func24, Tryd.ntmps24
  go_wp2_with fail
  refine (H1.out _).mono ?_
  rintro e u ⟨rfl, rfl⟩
  go_wp2_with fail
  refine (H2.out _).mono ?_
  rintro e u ⟨rfl, rfl⟩
  go_wp2_with fail
  go_loopw [10, 9, 0] (fun i v u wr => ∃ k : Nat, k ≤ n ∧ i = .int .i64 k ∧ u = .int .u32 (sdN s (2 * k)) ∧ Hid (wr.ownsRow w.heap.size 91 1 v k (wdv (nzV st s) k)) ∧ Hid (Below w.heap.size w wr)) (fun i _ _ _ => n - (intOf i).toNat)
  case atStart => exact ⟨0, by omega, rfl, rfl, k0, b1⟩
  case round =>
    obtain ⟨k, hk, rfl, rfl, hO, hB⟩ := hrel
    clear k0 b1
    by_cases hlt : k < n
    · have HK := hid hlt
      have hk3 : (k : Int) < (n : Int) := by omega
      have hn9 := HN.out
      obtain ⟨z0, z1⟩ := sdN_bnd HS.out (2 * k + 1)
      obtain ⟨y0, y1⟩ := sdN_bnd HS.out (2 * k + 2)
      obtain ⟨p1, p2, _, _⟩ := noise_f HST.out ⟨z0, z1⟩
      obtain ⟨r1, r2, _, _⟩ := noise_f HST.out ⟨y0, y1⟩
      have d1 := fun w => run_float_arith (P := Tryd.prog) w .quo 22 .f32 _ _ _ p1
      have d2 := fun w => run_float_arith (P := Tryd.prog) w .mul 22 .f32 _ _ _ p2
      have d3 := fun w => run_float_arith (P := Tryd.prog) w .quo 22 .f32 _ _ _ r1
      have d4 := fun w => run_float_arith (P := Tryd.prog) w .mul 22 .f32 _ _ _ r2
      have cv1 : ∀ w : World, (convert 2 22 (.int .i64 (sdN s (2 * k + 1) / 65536 - 32768))).run Tryd.prog w = .ok (.float .f32 (nzF (sdN s (2 * k + 1)))) w := fun w => run_convert_int_float (P := Tryd.prog) w 2 22 .i64 .f32 _ (by rw [Tryd.underlying2]; rfl) Tryd.underlying22
      have cv2 : ∀ w : World, (convert 2 22 (.int .i64 (sdN s (2 * k + 2) / 65536 - 32768))).run Tryd.prog w = .ok (.float .f32 (nzF (sdN s (2 * k + 2)))) w := fun w => run_convert_int_float (P := Tryd.prog) w 2 22 .i64 .f32 _ (by rw [Tryd.underlying2]; rfl) Tryd.underlying22
      have g1 : (1664525 * sdN s (2 * k) % 4294967296 + 1013904223) % 4294967296 = sdN s (2 * k + 1) := rfl
      have g2 : (1664525 * sdN s (2 * k + 1) % 4294967296 + 1013904223) % 4294967296 = sdN s (2 * k + 2) := rfl
      have m1 : ∀ w : World, (binOp .add 37 (.int .u32 (1664525 * sdN s (2 * k) % 4294967296)) (.int .u32 1013904223)).run Tryd.prog w = .ok (.int .u32 (sdN s (2 * k + 1))) w := fun w => by rw [← g1]; go_simp; rfl
      have m2 : ∀ w : World, (binOp .add 37 (.int .u32 (1664525 * sdN s (2 * k + 1) % 4294967296)) (.int .u32 1013904223)).run Tryd.prog w = .ok (.int .u32 (sdN s (2 * k + 2))) w := fun w => by rw [← g2]; go_simp; rfl
      have P0 := hid (show nzV st s k = .complex .f32 (nzW st (sdN s (2 * k + 1))) (nzW st (sdN s (2 * k + 2))) from rfl)
      clear g1 g2 p1 p2 r1 r2
      generalize nzW st (sdN s (2 * k + 1)) = R1 at *
      generalize nzQ (sdN s (2 * k + 1)) = Q1 at *
      generalize nzF (sdN s (2 * k + 1)) = F1 at *
      generalize nzW st (sdN s (2 * k + 2)) = R2 at *
      generalize nzQ (sdN s (2 * k + 2)) = Q2 at *
      generalize nzF (sdN s (2 * k + 2)) = F2 at *
      generalize sdN s (2 * k + 1) = Z1 at *
      generalize hZ2 : sdN s (2 * k + 2) = Z2 at *
      have HZ2 := hid hZ2
      clear hZ2
      generalize sdN s (2 * k) = Z0 at *
      have hw1 : IntKind.i64.wrap (Z1 / 65536 - 32768) = Z1 / 65536 - 32768 := by rw [IntKind.wrap_i64]; omega
      have hw2 : IntKind.i64.wrap (Z2 / 65536 - 32768) = Z2 / 65536 - 32768 := by rw [IntKind.wrap_i64]; omega
      have tok1 : True := trivial
      go_wp2_with (first | (have _t := tok1; clear tok1; refine wpList_val rfl (.int .u32 Z1) (run_binop_val _ _ _ _ (by rfl) (by rfl) (by simp [eqGuard]) (m1 _)) ?_; have tok2 : True := trivial) | (have _t := tok2; clear tok2; refine wpList_val rfl (.int .u32 Z2) (run_binop_val _ _ _ _ (by rfl) (by rfl) (by simp [eqGuard]) (m2 _)) ?_; have tok3 : True := trivial) | (have _t := tok3; clear tok3; refine append_one (w0 := w) rfl _ _ 38 rfl 91 Tryd.underlying38 (.complex .f32 0 0) 8 rfl (by omega) infoz_cx u9 k (nzV st s) rfl (hO.out.alloc _) (hB.out.alloc hB.out.size _) (wr.heap.size) (.complex .f32 R1 R2) P0.out rfl rfl (heap_alloc_new _ _) (by omega) (fun v9 w9 O9 B9 => ?_); replace O9 := hid O9; replace B9 := hid B9))
      go_roundw
      case rel => exact ⟨k + 1, by omega, by go_num, by rw [← HZ2.out]; rfl, O9, B9⟩
      case measure => simp [intOf]; omega
    · obtain rfl : k = n := by omega
      obtain ⟨B, cs, cap, rfl, hB1, L1, K1⟩ := own_keptV H0.out hO.out hB.out
      have E := hid (show MadeC k (nzV st s) w (.slice (some ⟨B, 0, none⟩) k cap) wr from ⟨B, cs, cap, rfl, hB1, L1, K1⟩)
      clear hB1 L1 K1
      go_wp2
      go_ret3
      exact ⟨_, rfl, E.out⟩

theorem words_cons : ∀ (v : List Char) (r : List Char), (∀ c ∈ v, c ≠ Char.ofNat 32) → wordsSigns (v ++ Char.ofNat 32 :: r) = v :: wordsSigns r
  | [], r, _ => rfl
  | c :: v, r, h => by
    have ih := words_cons v r (fun x hx => h x (by simp [hx]))
    have hc : c ≠ Char.ofNat 32 := h c (by simp)
    show wordsSigns (c :: (v ++ Char.ofNat 32 :: r)) = _
    rw [wordsSigns.eq_3 _ _ (fun e => hc e), ih]

def w0 : List Nat := [104, 97, 114, 110, 101, 115, 115]

def w1 : List Nat := [54, 55, 54, 48, 57, 49, 98, 54, 50, 51, 48, 54, 102, 51, 102, 102, 57, 52, 48, 49, 101, 52, 54, 56, 56, 98, 52, 53, 52, 100, 48, 49, 52, 54, 53, 57, 51, 99, 48, 50, 48, 101, 98, 101, 98, 54, 52, 50, 100, 56, 102, 100, 97, 51, 49, 101, 100, 97, 48, 54, 51, 98, 51, 53]

def w2 : List Nat := [99, 117, 116]

def w3 : List Nat := [97, 116, 32, 108, 111, 111, 112, 46, 101, 120, 97, 109, 112, 108, 101, 47, 103, 48, 49, 50, 50, 52, 47, 108, 97, 119, 115, 46, 70, 110, 69, 120, 97, 99, 116, 83, 112, 111, 116, 79, 102, 32, 108, 111, 111, 112, 46, 101, 120, 97, 109, 112, 108, 101, 47, 103, 48, 49, 50, 50, 52, 47, 108, 97, 119, 115, 46, 70, 110, 69, 120, 97, 99, 116, 85, 110, 102, 111, 108, 100, 83, 112, 101, 101, 100, 115, 32, 108, 111, 111, 112, 46, 101, 120, 97, 109, 112, 108, 101, 47, 103, 48, 49, 50, 50, 52, 47, 108, 97, 119, 115, 46, 70, 110, 69, 120, 97, 99, 116, 78, 111, 105, 115, 101, 80, 117, 108, 115, 101, 115, 32, 108, 111, 111, 112, 46, 101, 120, 97, 109, 112, 108, 101, 47, 103, 48, 49, 50, 50, 52, 47, 108, 97, 119, 115, 46, 70, 110, 69, 120, 97, 99, 116, 80, 117, 108, 115, 101, 115, 79, 102, 32, 108, 111, 111, 112, 46, 101, 120, 97, 109, 112, 108, 101, 47, 103, 48, 49, 50, 50, 52, 47, 108, 97, 119, 115, 46, 70, 110, 69, 120, 97, 99, 116, 65, 100, 100, 66, 101, 97, 109, 32, 108, 111, 111, 112, 46, 101, 120, 97, 109, 112, 108, 101, 47, 103, 48, 49, 50, 50, 52, 47, 108, 97, 119, 115, 46, 70, 110, 69, 120, 97, 99, 116, 68, 101, 101, 100, 84, 101, 120, 116, 32, 108, 111, 111, 112, 46, 101, 120, 97, 109, 112, 108, 101, 47, 103, 48, 49, 50, 50, 52, 47, 108, 97, 119, 115, 46, 70, 110, 69, 120, 97, 99, 116, 82, 101, 97, 100, 68, 101, 101, 100, 32, 108, 111, 111, 112, 46, 101, 120, 97, 109, 112, 108, 101, 47, 103, 48, 49, 50, 50, 52, 47, 108, 97, 119, 115, 46, 70, 110, 69, 120, 97, 99, 116, 65, 99, 116, 84, 101, 120, 116, 32, 108, 111, 111, 112, 46, 101, 120, 97, 109, 112, 108, 101, 47, 103, 48, 49, 50, 50, 52, 47, 108, 97, 119, 115, 46, 70, 110, 69, 120, 97, 99, 116, 78, 117, 109, 98, 101, 114, 84, 101, 120, 116, 32, 108, 111, 111, 112, 46, 101, 120, 97, 109, 112, 108, 101, 47, 103, 48, 49, 50, 50, 52, 47, 108, 97, 119, 115, 46, 70, 110, 69, 120, 97, 99, 116, 82, 101, 97, 100, 78, 117, 109, 98, 101, 114, 32, 108, 111, 111, 112, 46, 101, 120, 97, 109, 112, 108, 101, 47, 103, 48, 49, 50, 50, 52, 47, 108, 97, 119, 115, 46, 70, 110, 69, 120, 97, 99, 116, 83, 105, 122, 101, 115, 84, 101, 120, 116, 32, 108, 111, 111, 112, 46, 101, 120, 97, 109, 112, 108, 101, 47, 103, 48, 49, 50, 50, 52, 47, 108, 97, 119, 115, 46, 70, 110, 69, 120, 97, 99, 116, 82, 101, 97, 100, 83, 105, 122, 101, 115]

def letters (l : List Nat) : List Char := l.map Char.ofNat

theorem head_reads : Tryd.prog.initOrder = String.ofList (letters w0 ++ Char.ofNat 32 :: (letters w1 ++ Char.ofNat 32 :: (letters w2 ++ Char.ofNat 32 :: letters w3))) := by kernel_rfl

theorem no_blank {l : List Nat} (h : l.all (fun n => Char.ofNat n != Char.ofNat 32) = true) : ∀ c ∈ letters l, c ≠ Char.ofNat 32 := by
  intro c hc
  obtain ⟨n, hn, rfl⟩ := List.mem_map.1 hc
  have := List.all_eq_true.1 h n hn
  simpa using this

theorem h0 : letters w0 = "harness".toList := by kernel_rfl

theorem h2 : letters w2 = "cut".toList := by kernel_rfl

theorem sums : isSumSigns (letters w1) = true := by kernel_rfl

theorem words : wordsSigns Tryd.prog.initOrder.toList = "harness".toList :: letters w1 :: "cut".toList :: wordsSigns (letters w3) := by
  rw [head_reads, String.toList_ofList, words_cons _ _ (no_blank (by decide +kernel)), words_cons _ _ (no_blank (by decide +kernel)), words_cons _ _ (no_blank (by decide +kernel)), h0, h2]

theorem behind : ∃ r, behindMainWord (wordsSigns Tryd.prog.initOrder.toList) = "cut".toList :: r := by
  refine ⟨wordsSigns (letters w3), ?_⟩
  rw [words]
  generalize wordsSigns (letters w3) = r
  have hs := sums
  generalize letters w1 = v at hs
  unfold behindMainWord
  simp [hs]

theorem not_later : Tryd.prog.laysLater = false := by kernel_rfl

theorem no_reflect : Tryd.prog.bearsReflect = false := by kernel_rfl

theorem no_doors : Tryd.prog.doorFits [] = true := by kernel_rfl

theorem strips (r : List (List Char)) : stripLifts liftWords ("cut".toList :: r) = ([], "cut".toList :: r) := by kernel_rfl

theorem may_enter_of (P : Program) (r : List (List Char)) (h : behindMainWord (wordsSigns P.initOrder.toList) = "cut".toList :: r) (h1 : P.laysLater = false) (h2 : P.bearsReflect = false) (h3 : P.doorFits [] = true) : P.mayEnter = true := by
  unfold Program.mayEnter
  rw [h]
  dsimp only
  rw [strips, h1, h2, h3]
  kernel_rfl

theorem lifts_final_of (P : Program) (r : List (List Char)) (h : behindMainWord (wordsSigns P.initOrder.toList) = "cut".toList :: r) : P.liftsFinal = false := by
  unfold Program.liftsFinal Program.headLifts
  rw [h]
  dsimp only
  rw [strips]
  kernel_rfl

theorem made_of (P : Program) (r : List (List Char)) (h : behindMainWord (wordsSigns P.initOrder.toList) = "cut".toList :: r) : P.make = some .cut := by
  unfold Program.make
  rw [h]
  kernel_rfl

theorem may_enter : Tryd.prog.mayEnter = true := let ⟨r, h⟩ := behind; may_enter_of _ r h not_later no_reflect no_doors

theorem lifts_final : Tryd.prog.liftsFinal = false := let ⟨r, h⟩ := behind; lifts_final_of _ r h

theorem made : Tryd.prog.make = some .cut := let ⟨r, h⟩ := behind; made_of _ r h

theorem laid : laidOutB Tryd.prog = true := by kernel_rfl

theorem rowed : mapsRowed Tryd.prog = true := by kernel_rfl

theorem no_stops : Tryd.prog.stops = [] := by kernel_rfl

theorem no_knobs : Tryd.prog.stopKnobs = [] := by kernel_rfl

theorem plain_keys : Tryd.prog.plainKeys = false := by kernel_rfl

theorem stops_heard : Tryd.prog.stopsHeard = true := by kernel_rfl

theorem arr3 {α : Type} {cs : Array α} (h : cs.size = 3) : ∃ c0 c1 c2, cs = #[c0, c1, c2] := by
  obtain ⟨l⟩ := cs
  match l, h with
  | [a, b, c], _ => exact ⟨a, b, c, rfl⟩

theorem own : ownKnob Tryd.prog.godebug = none := by kernel_rfl

theorem rdf : Tryd.prog.readableRec 22 = true ∧ 22 < Tryd.prog.types.size := ⟨by kernel_rfl, of_decide_eq_true (by kernel_rfl)⟩

theorem rdi : Tryd.prog.readableRec 2 = true ∧ 2 < Tryd.prog.types.size := ⟨by kernel_rfl, of_decide_eq_true (by kernel_rfl)⟩

theorem open_u32 {P : Program} {w : World} {r : Reach} {b0 : Nat} {t : TypeId} {v : Value} (ht : P.underlying t = some (.int .u32)) (h : Value.okWide P w r b0 t v) :
    ∃ n, v = .int .u32 n ∧ 0 ≤ n ∧ n ≤ 4294967295 := by
  simp only [Value.okWide, ht, Cell.okWide] at h
  cases v <;> simp [Cell.ok, ht] at h
  obtain ⟨rfl, hb⟩ := h
  exact ⟨_, rfl, by simpa [IntKind.has, IntKind.min, IntKind.max, IntKind.signed, IntKind.bits] using hb⟩

theorem rdu : Tryd.prog.readableRec 37 = true ∧ 37 < Tryd.prog.types.size := ⟨by kernel_rfl, of_decide_eq_true (by kernel_rfl)⟩

set_option maxRecDepth 100000 in
set_option maxHeartbeats 4000000 in
theorem coreNoisePulsesOk (s : Int) (st : Nat) (q z : Int) (n : Nat) (hn : n ≤ 64) (y : Nat → Value) (hy : ∀ k, k < n → CxFin (y k)) (w : World)
    (hS : ∀ w, Calls Tryd.prog 24 #[.int .u32 s, .float .f32 st, .int .i64 q] w fun e w' => ∃ v, e = .returned (.tuple #[v, .int .u32 z, .int .i64 0]) ∧ MadeC n y w v w')
    (hI : ∀ w1, Below w.heap.size w w1 → Calls Tryd.prog 25 #[.int .u32 s, .float .f32 st, .int .i64 q] w1 fun e w' => ∃ v, e = .returned (.tuple #[v, .int .u32 z, .int .i64 0]) ∧ MadeC n y w1 v w') :
    Calls Tryd.prog 5 #[.int .u32 s, .float .f32 st, .int .i64 q] w fun e w' => e = .returned (.bool true) ∧ Below w.heap.size w w' := by
  have HS := hid hS
  have HI := hid hI
  have k0 : Hid (Kept w [] w) := hid (Kept.nil w)
  have HN := hid (show n ≤ 1048576 by omega)
  have HM := hid hn
  have HY := hid hy
  have hneg1 : ¬ (1 + (n : Int) < 0) := by omega
  clear hn hy
  clear hS hI
  go_enter Tryd.func5, Tryd.ntmps5
  go_wp2_with fail
  refine (HS.out _).mono ?_
  rintro e u1 ⟨_, rfl, D, csD, capD, rfl, hBD, LD, KD⟩
  have hwD := Nat.le_trans k0.out.size hBD
  have k1 : Hid (Kept w [(D, csD, 91)] u1) := hid (k0.out.join KD)
  have vD := hid LD
  clear KD LD hBD
  go_wp2_with fail
  refine (HI.out _ k1.out.1).mono ?_
  rintro e u2 ⟨_, rfl, G, csG, capG, rfl, hBG, LG, KG⟩
  have h0G : D < G := Nat.lt_of_lt_of_le (k1.out.lt (x := (D, csD, 91)) (by simp)) hBG
  have hwG := Nat.le_trans k1.out.size hBG
  have k2 : Hid (Kept w [(G, csG, 91), (D, csD, 91)] u2) := hid (k1.out.join KG)
  have vG := hid LG
  clear KG LG hBG
  go_wp2_with fail
  refine (eqCxs _ _ n y HY.out _ (Kept.rdV (T := 91) k2.out vG.out (by simp) capG) (Kept.rdV (T := 91) k2.out vD.out (by simp) capD) HN.out).mono ?_
  rintro e u3 ⟨rfl, hb3⟩
  have k3 : Hid (Kept w [(G, csG, 91), (D, csD, 91)] u3) := hid (k2.out.stay hb3)
  clear hb3
  go_wp2_with fail
  refine (markCxs w _ G n capG csG _ _ k3.out hwG (by intro z hz; simp at hz; rcases hz with rfl; simp; omega) vG.out HM.out).mono ?_
  rintro e u4 ⟨rfl, csM, wM, kk⟩
  have k4 : Hid (Kept w [(G, csM, 91), (D, csD, 91)] u4) := hid kk
  replace vG := hid wM
  clear kk wM
  go_wp2_with fail
  refine (heldCxs _ n _ (Kept.rdV (T := 91) k4.out vG.out (by simp) capG) HM.out).mono ?_
  rintro e z2 ⟨rfl, rfl⟩
  go_wp2_with fail
  refine (HI.out _ k4.out.1).mono ?_
  rintro e u5 ⟨_, rfl, H, csH, capH, rfl, hBH, LH, KH⟩
  have h0H : G < H := Nat.lt_of_lt_of_le (k4.out.lt (x := (G, csM, 91)) (by simp)) hBH
  have h1H : D < H := Nat.lt_of_lt_of_le (k4.out.lt (x := (D, csD, 91)) (by simp)) hBH
  have hwH := Nat.le_trans k4.out.size hBH
  have k5 : Hid (Kept w [(H, csH, 91), (G, csM, 91), (D, csD, 91)] u5) := hid (k4.out.join KH)
  have vH := hid LH
  clear KH LH hBH
  go_wp2_with fail
  refine (eqCxs _ _ n y HY.out _ (Kept.rdV (T := 91) k5.out vH.out (by simp) capH) (Kept.rdV (T := 91) k5.out vD.out (by simp) capD) HN.out).mono ?_
  rintro e u6 ⟨rfl, hb6⟩
  have k6 : Hid (Kept w [(H, csH, 91), (G, csM, 91), (D, csD, 91)] u6) := hid (k5.out.stay hb6)
  clear hb6
  go_wp2_with fail
  refine (heldCxs _ n _ (Kept.rdV (T := 91) k6.out vG.out (by simp) capG) HM.out).mono ?_
  rintro e z2 ⟨rfl, rfl⟩
  go_wp2
  go_ret
  exact ⟨rfl, k6.out.1⟩

set_option maxRecDepth 100000 in
set_option maxHeartbeats 4000000 in
theorem coreNoisePulsesErr (s : Int) (st : Nat) (q z : Int) (c : Int) (w : World)
    (hS : ∀ w, Calls Tryd.prog 24 #[.int .u32 s, .float .f32 st, .int .i64 q] w fun e w' => ∃ p k, e = .returned (.tuple #[.slice p 0 k, .int .u32 z, .int .i64 c]) ∧ Below w.heap.size w w')
    (hI : ∀ w1, Below w.heap.size w w1 → Calls Tryd.prog 25 #[.int .u32 s, .float .f32 st, .int .i64 q] w1 fun e w' => ∃ p k, e = .returned (.tuple #[.slice p 0 k, .int .u32 z, .int .i64 c]) ∧ Below w1.heap.size w1 w') :
    Calls Tryd.prog 5 #[.int .u32 s, .float .f32 st, .int .i64 q] w fun e w' => e = .returned (.bool true) ∧ Below w.heap.size w w' := by
  have HS := hid hS
  have HI := hid hI
  have k0 : Hid (Kept w [] w) := hid (Kept.nil w)
  clear hS hI
  go_enter Tryd.func5, Tryd.ntmps5
  go_wp2_with fail
  refine (HS.out _).mono ?_
  rintro e u1 ⟨p0, p0c, rfl, hb1⟩
  have k1 : Hid (Kept w [] u1) := hid (k0.out.stay hb1)
  clear hb1
  go_wp2_with fail
  refine (HI.out _ k1.out.1).mono ?_
  rintro e u2 ⟨p1, p1c, rfl, hb2⟩
  have k2 : Hid (Kept w [] u2) := hid (k1.out.stay hb2)
  clear hb2
  go_wp2_with fail
  refine (eqCxs _ _ 0 (fun _ => .nilIface) (fun _ h => absurd h (Nat.not_lt_zero _)) _ (RdV.zero _ _ _ _) (RdV.zero _ _ _ _) (by omega)).mono ?_
  rintro e u3 ⟨rfl, hb3⟩
  have k3 : Hid (Kept w [] u3) := hid (k2.out.stay hb3)
  clear hb3
  go_wp2_with fail
  refine (mark0C _ _ _).mono ?_
  rintro e z1 ⟨rfl, rfl⟩
  go_wp2_with fail
  refine (held0C _ _ _).mono ?_
  rintro e z2 ⟨rfl, rfl⟩
  go_wp2_with fail
  refine (HI.out _ k3.out.1).mono ?_
  rintro e u4 ⟨p2, p2c, rfl, hb4⟩
  have k4 : Hid (Kept w [] u4) := hid (k3.out.stay hb4)
  clear hb4
  go_wp2_with fail
  refine (eqCxs _ _ 0 (fun _ => .nilIface) (fun _ h => absurd h (Nat.not_lt_zero _)) _ (RdV.zero _ _ _ _) (RdV.zero _ _ _ _) (by omega)).mono ?_
  rintro e u5 ⟨rfl, hb5⟩
  have k5 : Hid (Kept w [] u5) := hid (k4.out.stay hb5)
  clear hb5
  go_wp2_with fail
  refine (held0C _ _ _).mono ?_
  rintro e z2 ⟨rfl, rfl⟩
  go_wp2
  go_ret
  exact ⟨rfl, k5.out.1⟩

theorem nzV_fin {st : Nat} {s : Int} (hst : amtB st = true) (hs : 0 ≤ s ∧ s < 4294967296) (k : Nat) : CxFin (nzV st s k) := by
  obtain ⟨_, _, a1, a2⟩ := noise_f hst (sdN_bnd hs (2 * k + 1))
  obtain ⟨_, _, b1, b2⟩ := noise_f hst (sdN_bnd hs (2 * k + 2))
  exact ⟨_, _, rfl, a1, b1, a2, b2⟩

theorem lawNoisePulses (A : Nat → Addr) (s : Int) (s0 : 0 ≤ s) (s1 : s ≤ 4294967295) (st : Nat) (hs : st < 4294967296) (q : Int) {w : World} (hA : Sent w A) :
    Calls Tryd.prog 5 #[.int .u32 s, .float .f32 st, .int .i64 q] w fun e w' => e = .returned (.bool true) ∧ Below w.heap.size w w' := by
  rcases ha : amtB st with _ | _
  · exact coreNoisePulsesErr s st q 0 2 w (sNoise_s s st hs ha q) fun w1 b => iNoise_bad A s st q w1 (hA.stay b) (iMaking_s A st hs ha q w1 (hA.stay b))
  · by_cases hq : 1 ≤ q ∧ q ≤ 64
    · obtain ⟨n, rfl⟩ := Int.eq_ofNat_of_zero_le (show 0 ≤ q by omega)
      have hn : n ≤ 64 := by omega
      have h1 : 1 ≤ n := by omega
      exact coreNoisePulsesOk s st _ (sdN s (2 * n)) n hn (nzV st s) (fun k _ => nzV_fin ha ⟨s0, by omega⟩ k) w (sNoise_ok s ⟨s0, by omega⟩ st ha n h1 hn) fun w1 _ => iNoise_ok s st ha n h1 hn w1
    · exact coreNoisePulsesErr s st q 0 2 w (sNoise_q s st ha q hq) fun w1 b => iNoise_bad A s st q w1 (hA.stay b) (iMaking_q A st ha q hq w1 (hA.stay b))

/-- The door's own heap meets the rows' condition. -/
theorem door_met (os : Os) (args : Array Value) : laidMetH Tryd.prog Rows.fnExactSpotOfRow.laid ((World.doorLaid Tryd.prog 400 os).forCall (fun _ _ => 0) ⟨#[], args, []⟩).memory :=
  laidMetH_of_parts3 (fuel := 8) (laidMet_of_run' 8 (by kernel_rfl) (by kernel_rfl)) (by kernel_rfl) (by kernel_rfl)

/-- A variable of the five, as a reading of it wants. -/
theorem var_is {W : World} {n : String} {g : Nat} {a : Addr} (hg : Tryd.prog.globalNamed n = some g) (ht : (Tryd.prog.globals[g]?).map (·.type) = some 90) (h : W.var? Tryd.prog n = some #[.iface 291 (.pointer (some a))]) :
    ∃ g ti ms, Tryd.prog.globalNamed n = some g ∧ (Tryd.prog.globals[g]?).map (·.type) = some ti ∧ Tryd.prog.underlying ti = some (.interface ms) ∧ W.var? Tryd.prog n = some #[.iface 291 (.pointer (some a))] ∧ IsIface (.iface 291 (.pointer (some a))) :=
  ⟨g, _, _, hg, ht, Tryd.underlying90, h, trivial⟩
end Go.Proofs.YthpimindkmmkjaaDoor

namespace Go.Proofs.YthpimindkmmkjaaDoor.fnExactNoisePulses
open Go.RowKit Go.Fl Go.ChangeShapes Go.WideShapes Go.ChangeAt

set_option maxHeartbeats 2000000 in
theorem closed : joinedFacts Tryd.prog 5 Tryd.f5 Rows.fnExactNoisePulsesSpec Rows.fnExactNoisePulsesRow = true := by
  unfold joinedFacts
  simp only [Bool.and_eq_true]
  exact ⟨⟨⟨⟨⟨⟨⟨⟨⟨⟨⟨⟨⟨⟨⟨⟨⟨⟨⟨⟨⟨⟨⟨⟨⟨⟨⟨⟨⟨⟨⟨(by as_aux_lemma => kernel_rfl),
    laid⟩,
    rowed⟩,
    (by as_aux_lemma => kernel_rfl)⟩,
    (by as_aux_lemma => kernel_rfl)⟩,
    (by as_aux_lemma => kernel_rfl)⟩,
    (by rw [no_stops]; rfl)⟩,
    (by as_aux_lemma => kernel_rfl)⟩,
    (by rw [no_knobs]; rfl)⟩,
    (by as_aux_lemma => kernel_rfl)⟩,
    (by as_aux_lemma => kernel_rfl)⟩,
    (by as_aux_lemma => kernel_rfl)⟩,
    (by as_aux_lemma => kernel_rfl)⟩,
    (by as_aux_lemma => kernel_rfl)⟩,
    (by as_aux_lemma => kernel_rfl)⟩,
    (by as_aux_lemma => kernel_rfl)⟩,
    (by as_aux_lemma => kernel_rfl)⟩,
    (by as_aux_lemma => kernel_rfl)⟩,
    (by as_aux_lemma => kernel_rfl)⟩,
    (by as_aux_lemma => kernel_rfl)⟩,
    (by as_aux_lemma => kernel_rfl)⟩,
    (by as_aux_lemma => kernel_rfl)⟩,
    (show (Rows.fnExactNoisePulsesRow.plainKeys == Tryd.prog.plainKeys) = true by rw [plain_keys]; rfl)⟩,
    (by as_aux_lemma => kernel_rfl)⟩,
    stops_heard⟩,
    may_enter⟩,
    (show (Rows.fnExactNoisePulsesRow.lifted == Tryd.prog.liftsFinal) = true by rw [lifts_final]; rfl)⟩,
    (show (Tryd.prog.make == some Rows.fnExactNoisePulsesRow.make) = true by rw [made]; rfl)⟩,
    (by as_aux_lemma => kernel_rfl)⟩,
    (by as_aux_lemma => kernel_rfl)⟩,
    (by as_aux_lemma => kernel_rfl)⟩,
    (by as_aux_lemma => kernel_rfl)⟩

set_option maxRecDepth 100000 in
theorem lifted (os : Os) (started : os.Started) (H : Type) (enc : TypeId × Value → H) :
    ReturnsInHanded {} Tryd.checked os 5 .any (fun w args => (Rows.fnExactNoisePulsesSpec.pre enc Tryd.prog Tryd.f5 Rows.fnExactNoisePulsesRow.domain false w args ∧ laidMetH Tryd.prog Rows.fnExactNoisePulsesRow.laid w) ∧ sizedMet enc Tryd.prog Tryd.f5 (OpenSpec.ofChange Rows.fnExactNoisePulsesSpec) false w args) (Rows.fnExactNoisePulsesSpec.post enc Tryd.prog Tryd.f5 false true false false) := by
  refine LawFrame.lifted_vars (C := Tryd.checked) (fn := Tryd.f5) (n := 3) (tb := 4) (laidL := Rows.fnExactNoisePulsesRow.laid) started own (by kernel_rfl) Tryd.func5 laid ?_ rfl ?_ rfl Tryd.underlying4 ?_
    (ChangeSpec.witness_shaped (enc := enc) (C := Tryd.checked) (os := os) (X := fun w _ => laidMetH Tryd.prog Rows.fnExactNoisePulsesRow.laid w) false (World.doorLaid Tryd.prog 400 os) #[.int .u32 0, .float .f32 0, .int .i64 0] 8 rfl (World.shaped_of_RefB (by kernel_rfl) (by kernel_rfl)) (by kernel_rfl) (by kernel_rfl) (by kernel_rfl) (door_met os _)) ?_
  · intro t ht
    simp only [Tryd.params5, List.mem_cons, List.not_mem_nil, or_false] at ht
    rcases ht with rfl | rfl | rfl <;> first | exact rdf | exact rdi | exact rdu
  · intro ds gs hd hg
    match ds, gs, hd, hg with
    | [d0, d1, d2], [g0, g1, g2, g3, g4], _, _ => rfl
  · intro W hL
    obtain ⟨A, -, v0, v1, v2, v3, v4⟩ := sent_of hL
    exact ⟨[.iface 291 (.pointer (some (A 1))), .iface 291 (.pointer (some (A 0))), .iface 291 (.pointer (some (A 2))), .iface 291 (.pointer (some (A 3))), .iface 291 (.pointer (some (A 4)))], var_is (g := 0) (by kernel_rfl) (by kernel_rfl) v1, var_is (g := 2) (by kernel_rfl) (by kernel_rfl) v0, var_is (g := 1) (by kernel_rfl) (by kernel_rfl) v2, var_is (g := 3) (by kernel_rfl) (by kernel_rfl) v3, var_is (g := 4) (by kernel_rfl) (by kernel_rfl) v4, trivial⟩
  · intro W base args ds ps hval hn hT hL
    obtain ⟨v0, v1, v2, rfl⟩ : ∃ v0 v1 v2, args = #[v0, v1, v2] := arr3 hn
    simp only [Tryd.params5] at hT
    obtain ⟨A, hA, -⟩ := sent_of hL
    obtain ⟨c0, rfl, hb0, hc0⟩ := open_u32 Tryd.underlying37 (hval 0 37 v0 rfl rfl)
    obtain ⟨c1, rfl, hb1⟩ := open_f32 Tryd.underlying22 (hval 1 22 v1 rfl rfl)
    obtain ⟨c2, rfl, hb2, hc2⟩ := open_i64 Tryd.underlying2 (hval 2 2 v2 rfl rfl)
    exact lawNoisePulses A c0 hb0 hc0 c1 hb1 c2 hA

theorem over : Rows.fnExactNoisePulsesRow.holds Tryd.pinned (OpenSpec.ofChange Rows.fnExactNoisePulsesSpec) :=
  OpenClaim.holds_of_wide 5 Tryd.f5 rfl rfl rfl rfl rfl rfl rfl ⟨rfl, rfl, rfl, rfl, rfl⟩ rfl rfl rfl rfl rfl (by kernel_rfl) Tryd.func5 closed
    (of_decide_eq_true (by kernel_rfl)) (by unfold Func.isWrapper; rw [if_neg (by decide +kernel)]; exact ⟨rfl, rfl⟩)
    (fun os started H enc _ => lifted os started H enc)

theorem named : Tryd.prog.funcNamed "loop.example/g01224/laws.FnExactNoisePulses" = some 5 := by kernel_rfl
theorem c_wf : Rows.fnExactNoisePulsesRow.wfByText (OpenSpec.ofChange Rows.fnExactNoisePulsesSpec) = true := by kernel_rfl
theorem c_main : Tryd.pinned.checked.prog.mainIs = some (true, "676091b62306f3ff9401e4688b454d0146593c020ebeb642d8fda31eda063b35".toList) := by kernel_rfl
theorem c_looks : true = Tryd.pinned.checked.prog.looks [] := by kernel_rfl
theorem c_goes : false = Rows.fnExactNoisePulsesRow.goesBy Tryd.pinned.checked.prog := by kernel_rfl
theorem proved : Rows.FnExactNoisePulsesCardSaid :=
  Claim7.holds_tied_plain_at .later [] [.sentinel, .sentinel, .sentinel, .sentinel, .sentinel] true (true, "676091b62306f3ff9401e4688b454d0146593c020ebeb642d8fda31eda063b35") true
    over (fun _ h => by cases h) c_wf (fun _ h => by cases h) fnExactNoisePulses_row_tie rfl ⟨rfl, rfl⟩ c_main rfl
    (fun f fn hf hfn => by
      obtain rfl : f = 5 := Option.some.inj (named.symm.trans hf) |>.symm
      obtain rfl : fn = Tryd.f5 := (Option.some.inj (Tryd.func5.symm.trans hfn)).symm
      exact ⟨c_looks, fun j t ht => by
        have hm := Array.mem_of_getElem? ht
        rw [Tryd.params5] at hm
        simp only [List.mem_toArray, List.mem_cons, List.not_mem_nil, or_false] at hm
        rcases hm with rfl | rfl | rfl
        · exact (show Tryd.prog.wantsStandIn 37 = false by kernel_rfl)
        · exact (show Tryd.prog.wantsStandIn 22 = false by kernel_rfl)
        · exact (show Tryd.prog.wantsStandIn 2 = false by kernel_rfl)⟩)
    c_goes
#print axioms proved
end Go.Proofs.YthpimindkmmkjaaDoor.fnExactNoisePulses
