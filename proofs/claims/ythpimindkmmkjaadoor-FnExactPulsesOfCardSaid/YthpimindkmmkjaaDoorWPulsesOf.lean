import Derived.Test.YthpimindkmmkjaaDoorEPulsesOf
import Derived.Test.YthpimindkmmkjaaDoorChecked
import Derived.Test.YthpimindkmmkjaaDoorRows
import Derived.Test.YthpimindkmmkjaaDoorCards
import Derived.Test.YthpimindkmmkjaaDoorTie
import Derived.Laws.FloatArith
import Derived.ProofKit
import Derived.WalkKit
import Derived.WalkLawsBesides
import Derived.WalkSpells
import Derived.Deep.QuietTactic
import Derived.BigQuiet
import Derived.Deep.RegionHeld3
import Derived.ChangeKeysEq
import Derived.Laws.BitsAllLaws
import Derived.Deep.MidRow
import Derived.Deep.WholeRow
import Derived.StillTailTactics
import Derived.Deep.Slices
import Derived.ChangeSame
import Derived.OrdersIn
import Derived.ControlIn
import Derived.RangeFuncSeq
import Derived.RangeFuncNested
import Derived.ArgAppend
import Derived.OwnWalkIn
import Derived.TacticsInMore
import Derived.Laws.ComplexArith
import Derived.Below
import Derived.Laws.AppendOwn
import Derived.Deep.Strs
import Derived.LaidEql
import Derived.Stop.Asserts
import Derived.RowKitTokens
import Derived.RangeFuncLeaves
import Derived.RangeFuncBox
import Derived.LoopNIn
import Derived.LoopIn
import Derived.Shelf.Abstract
import Derived.OpenShut
import Derived.Stop.LaidErr
import Derived.LaidMore
import Derived.Handed
import Derived.LaidHandle
import Derived.Stop.Joined
import Derived.MakeChecks
import Derived.MapKept
import Derived.StillTail
import Derived.ScopeJumps
import Derived.SevenTiedAt
/- The tied card of FnExactPulsesOf. -/
namespace Go.Proofs.YthpimindkmmkjaaDoor
open Go.RowKit Go.Fl

@[go_sem] theorem ext_f64bits (y : Nat) (w : World) : (callFunc 197 #[.float .f64 y]).run Tryd.prog w = .ok (.value (.int .u64 y)) w := by
  rw [run_callFunc_extern Tryd.func197 (by kernel_rfl) (by kernel_rfl) (by kernel_rfl) (e := Extern.MathFloatBits.float64bits) (by kernel_rfl)]
  rfl

@[go_sem] theorem ext_f64from (n : Int) (w : World) : (callFunc 169 #[.int .u64 n]).run Tryd.prog w = .ok (.value (.float .f64 n.toNat)) w := by
  rw [run_callFunc_extern Tryd.func169 (by kernel_rfl) (by kernel_rfl) (by kernel_rfl) (e := Extern.MathFloatBits.float64frombits) (by kernel_rfl)]
  rfl

theorem hid {p : Prop} (h : p) : Hid p := h

theorem clear_sign (y : Nat) (h : y < 18446744073709551616) : (bits BinOp.andNot IntKind.u64 (y : Int) 9223372036854775808).toNat = y % 9223372036854775808 := by
  rw [u64_andNot _ _ (by omega) (by omega) (by omega) (by omega)]
  rw [Int.toNat_natCast, Int.toNat_natCast]
  exact Nat.and_two_pow_sub_one_eq_mod y 63

theorem abs_f64 (y : Nat) (h : y < 18446744073709551616) (w : World) :
    Calls Tryd.prog 166 #[.float .f64 y] w fun e w' => e = .returned (.float .f64 (y % 9223372036854775808)) ∧ w = w' := by
  have hc := hid (clear_sign y h)
  clear h
  go_enter Tryd.func166, Tryd.ntmps166
  go_wp2
  go_ret
  exact ⟨by simp [hc.out], rfl⟩

theorem isNaN_f64 (y : Nat) (w : World) :
    Calls Tryd.prog 124 #[.float .f64 y] w fun e w' => e = .returned (.bool (FloatKind.f64.format.order y y != some .eq)) ∧ w = w' := by
  go_enter Tryd.func124, Tryd.ntmps124
  go_wp2
  go_ret
  exact ⟨rfl, rfl⟩

theorem isInf_f64 (y : Nat) (h : y < 18446744073709551616) (w : World) :
    Calls Tryd.prog 125 #[.float .f64 y, .int .i64 0] w fun e w' => e = .returned (.bool (FloatKind.f64.format.order (y % 9223372036854775808) 9218868437227405311 == some .gt)) ∧ w = w' := by
  have hc := hid h
  clear h
  go_enter Tryd.func125, Tryd.ntmps125
  go_wp2_with (go_at_call 166; refine (abs_f64 y hc.out _).mono ?_; rintro e w' ⟨rfl, rfl⟩)
  go_ret
  exact ⟨rfl, rfl⟩

theorem isFinite_t (x : Nat) (hx : x < 4294967296) (h : finB x = true) (w : World) :
    Calls Tryd.prog 61 #[.float .f32 x] w fun e w' => e = .returned (.bool true) ∧ w = w' := by
  rw [finB_iff] at h
  have hc := fun w => run_conv_wid (P := Tryd.prog) w 22 77 x hx Tryd.underlying22 Tryd.underlying77 h
  obtain ⟨a, b, m, e, hr⟩ := read_wid_fin hx h
  have hn : (FloatKind.f64.format.order (wid x) (wid x) != some .eq) = false := by
    show (D.order (wid x) (wid x) != some .eq) = false
    rw [order_self hr]; rfl
  have hi : (FloatKind.f64.format.order (wid x % 9223372036854775808) 9218868437227405311 == some .gt) = false := by
    show (D.order (wid x % 9223372036854775808) 9218868437227405311 == some .gt) = false
    rw [b, order_ltD a (by decide)]
    rw [DINF_val] at a
    have hle : wid (mg x) ≤ 9218868437227405311 := by omega
    rcases Nat.lt_or_eq_of_le hle with h' | h'
    · rw [Nat.compare_eq_lt.2 h']; rfl
    · rw [Nat.compare_eq_eq.2 h']; rfl
  have hw : wid x < 18446744073709551616 := D.write_lt _
  have Hn := hid hn
  have Hi := hid hi
  have Hw := hid hw
  clear hn hi hw hr a b h hx
  go_enter Tryd.func61, Tryd.ntmps61
  go_wp2_with (first | (go_at_call 124; refine (isNaN_f64 (wid x) _).mono ?_; rintro e w' ⟨rfl, rfl⟩; rw [Hn.out]) | (go_at_call 125; refine (isInf_f64 (wid x) Hw.out _).mono ?_; rintro e w' ⟨rfl, rfl⟩; rw [Hi.out]))
  go_ret
  exact ⟨rfl, rfl⟩

theorem isFinite_f (x : Nat) (hx : x < 4294967296) (h : finB x = false) (w : World) :
    Calls Tryd.prog 61 #[.float .f32 x] w fun e w' => e = .returned (.bool false) ∧ Below w.heap.size w w' := by
  rw [finB_iff'] at h
  rcases Nat.lt_or_eq_of_le h with h | h
  · obtain ⟨z, hc, h1, _⟩ := run_conv_nan (P := Tryd.prog) w 22 77 x Tryd.underlying22 Tryd.underlying77 h
    obtain ⟨s, t, hr⟩ := read_nanD h1
    have Hn := hid (show (FloatKind.f64.format.order z z != some .eq) = true by
      show (D.order z z != some .eq) = true
      rw [order_nan hr]; rfl)
    clear h h1 hr hx
    go_enter Tryd.func61, Tryd.ntmps61
    go_wp2_with (go_at_call 124; refine (isNaN_f64 z _).mono ?_; rintro e w' ⟨rfl, rfl⟩; rw [Hn.out])
    go_ret
    exact ⟨rfl, (Below.refl _ _).drew⟩
  · obtain ⟨z, hc, h1, h2⟩ := run_conv_inf (P := Tryd.prog) w 22 77 x hx Tryd.underlying22 Tryd.underlying77 h.symm
    have hr : D.read z = .infinity (decide (9223372036854775808 ≤ z)) := by rw [read_signD h2, h1, read_DINF]
    have Hn := hid (show (FloatKind.f64.format.order z z != some .eq) = false by
      show (D.order z z != some .eq) = false
      rw [order_inf hr]; rfl)
    have Hi := hid (show (FloatKind.f64.format.order (z % 9223372036854775808) 9218868437227405311 == some .gt) = true by
      rw [h1]; decide)
    have H2 := hid h2
    clear h h1 hr hx h2
    go_enter Tryd.func61, Tryd.ntmps61
    go_wp2_with (first | (go_at_call 124; refine (isNaN_f64 z _).mono ?_; rintro e w' ⟨rfl, rfl⟩; rw [Hn.out]) | (go_at_call 125; refine (isInf_f64 z H2.out _).mono ?_; rintro e w' ⟨rfl, rfl⟩; rw [Hi.out]))
    go_ret
    exact ⟨rfl, Below.refl _ _⟩

theorem signbit_f64 (y : Nat) (w : World) :
    Calls Tryd.prog 165 #[.float .f64 y] w fun e w' => e = .returned (.bool (decide (wrap64 (y : Int) < 0))) ∧ w = w' := by
  go_enter Tryd.func165, Tryd.ntmps165
  go_wp2
  go_ret
  exact ⟨rfl, rfl⟩

theorem and_sign (y : Nat) (h : y < 18446744073709551616) : (decide (wrap64 (y : Int) < 0)) = decide (9223372036854775808 ≤ y) := by
  unfold wrap64
  by_cases h' : 9223372036854775808 ≤ y
  · rw [decide_eq_true h']; simp; omega
  · rw [decide_eq_false h']; simp; omega

theorem isAmount_t (x : Nat) (h : amtB x = true) (w : World) :
    Calls Tryd.prog 123 #[.float .f32 x] w fun e w' => e = .returned (.bool true) ∧ w = w' := by
  have hf := amt_fin h
  rw [amtB_iff, INF_val] at h
  have hx : x < 4294967296 := by omega
  have hc := fun w => run_conv_wid (P := Tryd.prog) w 22 77 x hx Tryd.underlying22 Tryd.underlying77 (finB_iff.1 hf)
  have hw : wid x < 18446744073709551616 := D.write_lt _
  have Hs := hid (show (decide (wrap64 (wid x : Int) < 0)) = false by
    rw [and_sign _ hw]
    have := (wid_val (x := x) (by rw [INF_val]; omega)).1
    rw [DINF_val] at this
    simp; omega)
  have Hx := hid hx
  have Hf := hid hf
  clear h hf hx hw
  go_enter Tryd.func123, Tryd.ntmps123
  go_wp2_with (first | (go_at_call 61; refine (isFinite_t x Hx.out Hf.out _).mono ?_; rintro e w' ⟨rfl, rfl⟩) | (go_at_call 165; refine (signbit_f64 (wid x) _).mono ?_; rintro e w' ⟨rfl, rfl⟩; rw [Hs.out]))
  go_ret
  exact ⟨rfl, rfl⟩

theorem isAmount_f (x : Nat) (hx : x < 4294967296) (h : amtB x = false) (w : World) :
    Calls Tryd.prog 123 #[.float .f32 x] w fun e w' => e = .returned (.bool false) ∧ Below w.heap.size w w' := by
  rcases hf : finB x with _ | _
  · have Hx := hid hx
    have Hf := hid hf
    clear h hf hx
    go_enter Tryd.func123, Tryd.ntmps123
    go_wp2_with (go_at_call 61; refine (isFinite_f x Hx.out Hf.out _).mono ?_; rintro e w' ⟨rfl, hb⟩)
    go_ret
    exact ⟨rfl, hb⟩
  · have hc := fun w => run_conv_wid (P := Tryd.prog) w 22 77 x hx Tryd.underlying22 Tryd.underlying77 (finB_iff.1 hf)
    have hw : wid x < 18446744073709551616 := D.write_lt _
    have Hs := hid (show (decide (wrap64 (wid x : Int) < 0)) = true by
      rw [and_sign _ hw, wid_fin hx (finB_iff.1 hf)]
      rw [amtB_iff', INF_val] at h
      rw [finB_iff, INF_val] at hf
      unfold mg at hf ⊢
      rw [if_pos (by omega)]
      simp)
    have Hx := hid hx
    have Hf := hid hf
    clear h hf hx hw
    go_enter Tryd.func123, Tryd.ntmps123
    go_wp2_with (first | (go_at_call 61; refine (isFinite_t x Hx.out Hf.out _).mono ?_; rintro e w' ⟨rfl, rfl⟩) | (go_at_call 165; refine (signbit_f64 (wid x) _).mono ?_; rintro e w' ⟨rfl, rfl⟩; rw [Hs.out]))
    go_ret
    exact ⟨rfl, Below.refl _ _⟩

@[go_sem] theorem ext_f32bits (y : Nat) (w : World) : (callFunc 132 #[.float .f32 y]).run Tryd.prog w = .ok (.value (.int .u32 y)) w := by
  rw [run_callFunc_extern Tryd.func132 (by kernel_rfl) (by kernel_rfl) (by kernel_rfl) (e := Extern.MathFloatBits.float32bits) (by kernel_rfl)]
  rfl

theorem sFinite_t (x : Nat) (hx : x < 4294967296) (h : finB x = true) (w : World) :
    Calls Tryd.prog 58 #[.float .f32 x] w fun e w' => e = .returned (.bool true) ∧ w = w' := by
  have hr := fun w => run_float_arith (P := Tryd.prog) w .sub 22 .f32 x x 0 (sub_self_fin hx h)
  clear h hx
  go_enter Tryd.func58, Tryd.ntmps58
  go_wp2
  go_ret
  exact ⟨rfl, rfl⟩

theorem sFinite_f (x : Nat) (hx : x < 4294967296) (h : finB x = false) (w : World) :
    Calls Tryd.prog 58 #[.float .f32 x] w fun e w' => e = .returned (.bool false) ∧ Below w.heap.size w w' := by
  obtain ⟨z, hr, h1, _⟩ := run_arith_nan (P := Tryd.prog) w .sub (by simp) 22 x x (sub_self_none hx h)
  have Hn := hid (show (FloatKind.f32.format.order z 0 == some .eq) = false by
    show (S.order z 0 == some .eq) = false
    rw [order_nan32 h1]; rfl)
  clear h hx h1
  go_enter Tryd.func58, Tryd.ntmps58
  go_wp2
  go_ret
  exact ⟨by simp [Hn.out], (Below.refl _ _).drew⟩

theorem sAmount_t (x : Nat) (h : amtB x = true) (w : World) :
    Calls Tryd.prog 71 #[.float .f32 x] w fun e w' => e = .returned (.bool true) ∧ w = w' := by
  have hf := amt_fin h
  have h' := amtB_iff.1 h
  have hx : x < 4294967296 := by rw [INF_val] at h'; omega
  have Hx := hid hx
  have Hf := hid hf
  by_cases h0 : x = 0
  · subst h0
    clear h hf h' hx
    go_enter Tryd.func71, Tryd.ntmps71
    go_wp2_with (go_at_call 58; refine (sFinite_t 0 Hx.out Hf.out _).mono ?_; rintro e w' ⟨rfl, rfl⟩)
    go_ret
    exact ⟨rfl, rfl⟩
  · have hg : (FloatKind.f32.format.order x 0 == some .gt) = true := by
      show (S.order x 0 == some .gt) = true
      rw [order_zero_pos h', Nat.compare_eq_gt.2 (by omega)]; rfl
    clear h hf h' hx h0
    go_enter Tryd.func71, Tryd.ntmps71
    go_wp2_with (go_at_call 58; refine (sFinite_t x Hx.out Hf.out _).mono ?_; rintro e w' ⟨rfl, rfl⟩)
    go_ret
    exact ⟨rfl, rfl⟩

theorem sAmount_f (x : Nat) (hx : x < 4294967296) (h : amtB x = false) (w : World) :
    Calls Tryd.prog 71 #[.float .f32 x] w fun e w' => e = .returned (.bool false) ∧ Below w.heap.size w w' := by
  rcases hf : finB x with _ | _
  · have Hx := hid hx
    have Hf := hid hf
    clear h hf hx
    go_enter Tryd.func71, Tryd.ntmps71
    go_wp2_with (go_at_call 58; refine (sFinite_f x Hx.out Hf.out _).mono ?_; rintro e w' ⟨rfl, hb⟩)
    go_ret
    exact ⟨rfl, hb⟩
  · have hs : 2147483648 ≤ x := by
      rw [amtB_iff', INF_val] at h
      have := finB_iff.1 hf
      rw [INF_val] at this
      unfold mg at this
      omega
    have hg : (FloatKind.f32.format.order x 0 == some .gt) = false := order_neg_zero hx hf hs
    have hb : ((x : Int) == 0) = false := by simp; omega
    have Hx := hid hx
    have Hf := hid hf
    clear h hf hx hs
    go_enter Tryd.func71, Tryd.ntmps71
    go_wp2_with (go_at_call 58; refine (sFinite_t x Hx.out Hf.out _).mono ?_; rintro e w' ⟨rfl, rfl⟩)
    go_ret
    exact ⟨rfl, Below.refl _ _⟩

theorem l00In_t (n a b : Int) (h1 : a ≤ n) (h2 : n ≤ b) (w : World) :
    Calls Tryd.prog 59 #[.int .i64 n, .int .i64 a, .int .i64 b] w fun e w' => e = .returned (.bool true) ∧ w = w' := by
  go_enter Tryd.func59, Tryd.ntmps59
  go_wp2
  go_ret
  exact ⟨by first | rfl | (simp; done) | (simp; omega), rfl⟩

theorem l00In_f (n a b : Int) (hn : ¬ (a ≤ n ∧ n ≤ b)) (w : World) :
    Calls Tryd.prog 59 #[.int .i64 n, .int .i64 a, .int .i64 b] w fun e w' => e = .returned (.bool false) ∧ w = w' := by
  by_cases h0 : a ≤ n
  · have h3 : b < n := by omega
    clear hn
    go_enter Tryd.func59, Tryd.ntmps59
    go_wp2
    go_ret
    exact ⟨by first | rfl | (simp; done) | (simp; omega), rfl⟩
  · have h3 : n < a := by omega
    have h4 : decide (a ≤ n) = false := by simp; omega
    clear hn h0
    go_enter Tryd.func59, Tryd.ntmps59
    go_wp2
    go_ret
    exact ⟨by simp, rfl⟩

theorem round_even (X K : Nat) (h : D.write ((D.read X).integral .even) = K) (hn : ∃ s m e, D.read X = .number s m e) (w : World) : (callFunc 129 #[.float .f64 X]).run Tryd.prog w = .ok (.value (.float .f64 K)) w := by
  rw [run_callFunc_extern Tryd.func129 (by kernel_rfl) (by kernel_rfl) (by kernel_rfl) (e := Extern.MathFloor.toIntegral "math.RoundToEven" .even) (by kernel_rfl)]
  obtain ⟨s, m, e, hr⟩ := hn
  have hr' : FloatKind.f64.decode X = .number s m e := hr
  rw [hr] at h
  have h' : FloatKind.f64.encode ((Ieee.Datum.number s m e).integral .even) = K := h
  have e2 : (Extern.MathFloor.toIntegral "math.RoundToEven" .even #[.float .f64 X]).run Tryd.prog w = .ok (.float .f64 K) w := by
    rw [← h']
    show Sem.run _ (match FloatKind.f64.decode X with | .nan _ _ => _ | d => (pure (Value.float .f64 (FloatKind.f64.encode (d.integral .even))) : Sem Value)) w = _
    rw [hr']
    rfl
  rw [e2]
  rfl

theorem iNearest_z (X K : Nat) (hx : ∀ w, (callFunc 129 #[.float .f64 X]).run Tryd.prog w = .ok (.value (.float .f64 K)) w) (ho : (FloatKind.f64.format.order K 0 == some .eq) = true) (w : World) :
    Calls Tryd.prog 128 #[.float .f64 X] w fun e w' => e = .returned (.float .f64 0) ∧ w = w' := by
  go_enter Tryd.func128, Tryd.ntmps128
  go_wp2
  go_ret
  exact ⟨rfl, rfl⟩

theorem iNearest_n (X K : Nat) (hx : ∀ w, (callFunc 129 #[.float .f64 X]).run Tryd.prog w = .ok (.value (.float .f64 K)) w) (ho : (FloatKind.f64.format.order K 0 == some .eq) = false) (w : World) :
    Calls Tryd.prog 128 #[.float .f64 X] w fun e w' => e = .returned (.float .f64 K) ∧ w = w' := by
  go_enter Tryd.func128, Tryd.ntmps128
  go_wp2
  go_ret
  exact ⟨rfl, rfl⟩

theorem iNearest (s : Bool) (m n : Nat) (hm : m < DINF) (hn : n < DINF) (he : D.write ((D.read (sgD s m)).integral .even) = sgD s n) (w : World) :
    Calls Tryd.prog 128 #[.float .f64 (sgD s m)] w fun e w' => e = .returned (.float .f64 (if n = 0 then 0 else sgD s n)) ∧ w = w' := by
  obtain ⟨M, e, h1, h2⟩ := read_sgD (s := s) hm
  have hx := fun w => round_even (sgD s m) (sgD s n) he ⟨_, _, _, h2⟩ w
  have ho : (FloatKind.f64.format.order (sgD s n) 0 == some .eq) = decide (n = 0) := order_zeroD hn
  by_cases h : n = 0
  · rw [decide_eq_true h] at ho
    rw [if_pos h]
    exact iNearest_z _ _ hx ho w
  · rw [decide_eq_false h] at ho
    rw [if_neg h]
    exact iNearest_n _ _ hx ho w

@[go_sem] theorem ext_nanWord (w : World) : (callFunc 169 #[.int .u64 9221120237041090561]).run Tryd.prog w = .ok (.value (.float .f64 9221120237041090561)) w := by
  rw [run_callFunc_extern Tryd.func169 (by kernel_rfl) (by kernel_rfl) (by kernel_rfl) (e := Extern.MathFloatBits.float64frombits) (by kernel_rfl)]
  rfl

theorem iNaN (w : World) : Calls Tryd.prog 127 #[] w fun e w' => e = .returned (.float .f64 9221120237041090561) ∧ w = w' := by
  go_enter Tryd.func127, Tryd.ntmps127
  go_wp2
  go_ret
  exact ⟨rfl, rfl⟩

theorem iUnit_nan (x : Nat) (hx : x < 4294967296) (hf : finB x = false) (w : World) :
    Calls Tryd.prog 63 #[.float .f32 x] w fun e w' => (∃ z, e = .returned (.complex .f32 z z) ∧ INF < mg z ∧ z < 4294967296) ∧ Below w.heap.size w w' := by
  have Hx := hid hx
  have Hf := hid hf
  clear hx hf
  go_enter Tryd.func63, Tryd.ntmps63
  go_wp2_with fail
  refine (isFinite_f x Hx.out Hf.out _).mono ?_
  rintro e w1 ⟨rfl, hb1⟩
  go_wp2_with fail
  refine (iNaN _).mono ?_
  rintro e w2 ⟨rfl, rfl⟩
  obtain ⟨z, hz, z1, z2⟩ := run_narrow_nan (P := Tryd.prog) w1 77 22 9221120237041090561 Tryd.underlying77 Tryd.underlying22 (by decide)
  have ZZ := hid (And.intro z1 z2)
  clear z1 z2
  go_wp2_with fail
  go_ret
  exact ⟨⟨z, rfl, ZZ.out⟩, hb1.drew⟩

theorem sUnit_nan (x : Nat) (hx : x < 4294967296) (hf : finB x = false) (w : World) :
    Calls Tryd.prog 77 #[.float .f32 x] w fun e w' => (∃ z, e = .returned (.complex .f32 z z) ∧ INF < mg z ∧ z < 4294967296) ∧ Below w.heap.size w w' := by
  have Hx := hid hx
  have Hf := hid hf
  clear hx hf
  go_enter Tryd.func77, Tryd.ntmps77
  go_wp2_with fail
  refine (sFinite_f x Hx.out Hf.out _).mono ?_
  rintro e w1 ⟨rfl, hb1⟩
  go_wp2_with fail
  refine (iNaN _).mono ?_
  rintro e w2 ⟨rfl, rfl⟩
  obtain ⟨z, hz, z1, z2⟩ := run_narrow_nan (P := Tryd.prog) w1 77 22 9221120237041090561 Tryd.underlying77 Tryd.underlying22 (by decide)
  have ZZ := hid (And.intro z1 z2)
  clear z1 z2
  go_wp2_with fail
  go_ret
  exact ⟨⟨z, rfl, ZZ.out⟩, hb1.drew⟩

set_option maxHeartbeats 1000000 in
set_option maxRecDepth 100000 in
theorem iUnit_fin (x : Nat) (hx : x < 4294967296) (hf : finB x = true) {s : Bool} {m n g X y a b p : Nat} (hu : UnitF x s m n g X y a b p) (w : World) :
    Calls Tryd.prog 63 #[.float .f32 x] w fun e w' => e = .returned (.complex .f32 a b) ∧ w = w' := by
  have U := hid hu
  have Hx := hid hx
  have Hf := hid hf
  have cw := fun w => run_conv_wid (P := Tryd.prog) w 22 77 x hx Tryd.underlying22 Tryd.underlying77 (finB_iff.1 hf)
  rw [hu.wide] at cw
  have m1 := fun w => run_float_arith (P := Tryd.prog) w .mul 77 .f64 _ _ _ hu.mul
  rw [show TAU = 4618760256179416344 from rfl] at m1
  have m2 := fun w => run_float_arith (P := Tryd.prog) w .mul 77 .f64 _ _ _ hu.sq
  have s1 : ∀ w, (binOp .sub 77 (.float .f64 (sgD s m)) (.float .f64 (if n = 0 then 0 else sgD s n))).run Tryd.prog w = .ok (.float .f64 g) w := by
    intro w
    by_cases h : n = 0
    · rw [if_pos h]; exact run_float_arith (P := Tryd.prog) w .sub 77 .f64 _ _ _ (hu.g0 h).2
    · rw [if_neg h]; exact run_float_arith (P := Tryd.prog) w .sub 77 .f64 _ _ _ (hu.g1 h)
  have hN := hid (fun w => iNearest s m n hu.hm hu.hn hu.he w)
  clear hx hf hu
  generalize (if n = 0 then 0 else sgD s n) = K at s1 hN
  go_enter Tryd.func63, Tryd.ntmps63
  go_wp2_with fail
  refine (isFinite_t x Hx.out Hf.out _).mono ?_
  rintro e w1 ⟨rfl, rfl⟩
  go_wp2_with fail
  refine (hN.out _).mono ?_
  rintro e w2 ⟨rfl, rfl⟩
  go_wp2_with fail
  clear cw m1 m2 s1
  go_loop [9, 7, 8] (fun i C Z => ∃ m : Nat, m ≤ 14 ∧ i = .int .i64 (m : Int) ∧ C = .float .f64 (cosF y (14 - m)) ∧ Z = .float .f64 (sinF y (14 - m))) (fun i _ _ => (intOf i).toNat)
  case atStart => exact ⟨14, by omega, rfl, rfl, rfl⟩
  case round =>
    obtain ⟨m, hm1, rfl, rfl, rfl⟩ := hrel
    by_cases hm0 : 1 ≤ m
    · have hm3 : (1 : Int) ≤ (m : Int) := by omega
      have hM := hid hm1
      have c1 := (cosF_mg U.out.hy U.out.hv (14 - m) (by omega))
      obtain ⟨⟨ka, kb, kcc, kd⟩, ⟨a1, ea1, eb1⟩, ⟨a2, ea2, eb2⟩⟩ := con_facts (m := m) hm0 (by omega)
      obtain ⟨q1, r1, e1, e2, e3, _⟩ := step_unit U.out.hy U.out.hv ka kb c1.1 (by omega)
      obtain ⟨q2, r2, f1, f2, f3, _⟩ := step_unit U.out.hy U.out.hv kcc kd c1.2 (by omega)
      have n1 : stepD (kc m) y (cosF y (14 - m)) = cosF y (14 - (m - 1)) := by rw [show 14 - (m - 1) = (14 - m) + 1 by omega]; show _ = stepD (kc (14 - (14 - m))) y (cosF y (14 - m)); rw [show 14 - (14 - m) = m by omega]
      have n2 : stepD (ks m) y (sinF y (14 - m)) = sinF y (14 - (m - 1)) := by rw [show 14 - (m - 1) = (14 - m) + 1 by omega]; show _ = stepD (ks (14 - (14 - m))) y (sinF y (14 - m)); rw [show 14 - (14 - m) = m by omega]
      rw [n1] at e3
      rw [n2] at f3
      have d1 := fun w => run_float_arith (P := Tryd.prog) w .quo 77 .f64 _ _ _ e1
      have d2 := fun w => run_float_arith (P := Tryd.prog) w .mul 77 .f64 _ _ _ e2
      have d3 := fun w => run_float_arith (P := Tryd.prog) w .sub 77 .f64 _ _ _ e3
      have d4 := fun w => run_float_arith (P := Tryd.prog) w .quo 77 .f64 _ _ _ f1
      have d5 := fun w => run_float_arith (P := Tryd.prog) w .mul 77 .f64 _ _ _ f2
      have d6 := fun w => run_float_arith (P := Tryd.prog) w .sub 77 .f64 _ _ _ f3
      clear e1 e2 e3 f1 f2 f3 n1 n2 c1 ka kb kcc kd
      have cv1 : ∀ w, (convert 3 77 (.int .i64 ((2 * (m : Int) - 1) * (2 * (m : Int))))).run Tryd.prog w = .ok (.float .f64 (kc m)) w := fun w => rfl
      have cv2 : ∀ w, (convert 3 77 (.int .i64 ((2 * (m : Int)) * (2 * (m : Int) + 1)))).run Tryd.prog w = .ok (.float .f64 (ks m)) w := fun w => rfl
      have hr : 0 ≤ (2 * (m : Int) - 1) * (2 * (m : Int)) ∧ (2 * (m : Int) - 1) * (2 * (m : Int)) ≤ 1000 ∧ 0 ≤ (2 * (m : Int)) * (2 * (m : Int) + 1) ∧ (2 * (m : Int)) * (2 * (m : Int) + 1) ≤ 1000 := by
        have H : m = 1 ∨ m = 2 ∨ m = 3 ∨ m = 4 ∨ m = 5 ∨ m = 6 ∨ m = 7 ∨ m = 8 ∨ m = 9 ∨ m = 10 ∨ m = 11 ∨ m = 12 ∨ m = 13 ∨ m = 14 := by omega
        rcases H with rfl | rfl | rfl | rfl | rfl | rfl | rfl | rfl | rfl | rfl | rfl | rfl | rfl | rfl <;> decide
      have w1 : IntKind.i64.wrap ((2 * (m : Int) - 1) * (2 * (m : Int))) = (2 * (m : Int) - 1) * (2 * (m : Int)) := by rw [IntKind.wrap_i64]; omega
      have w2 : IntKind.i64.wrap ((2 * (m : Int)) * (2 * (m : Int) + 1)) = (2 * (m : Int)) * (2 * (m : Int) + 1) := by rw [IntKind.wrap_i64]; omega
      clear hr
      clear ea1 eb1 ea2 eb2
      go_wp2_with fail
      go_round
      case rel => exact ⟨m - 1, by omega, by first | go_num | (congr 1; omega), rfl, rfl⟩
      case measure => simp [intOf]; omega
    · obtain rfl : m = 0 := by omega
      have p1 := fun w => run_float_arith (P := Tryd.prog) w .mul 77 .f64 _ _ _ U.out.pr
      have z1 := fun w => run_convert_float_float (P := Tryd.prog) w 77 22 .f64 .f32 _ _ (by rw [Tryd.underlying77]; rfl) Tryd.underlying22 U.out.ca
      have z2 := fun w => run_convert_float_float (P := Tryd.prog) w 77 22 .f64 .f32 _ _ (by rw [Tryd.underlying77]; rfl) Tryd.underlying22 U.out.cb
      go_wp2_with fail
      go_ret
      exact ⟨rfl, rfl⟩

set_option maxHeartbeats 1000000 in
set_option maxRecDepth 100000 in
theorem sUnit_fin (x : Nat) (hx : x < 4294967296) (hf : finB x = true) {s : Bool} {m n g X y a b p : Nat} (hu : UnitF x s m n g X y a b p) (w : World) :
    Calls Tryd.prog 77 #[.float .f32 x] w fun e w' => e = .returned (.complex .f32 a b) ∧ w = w' := by
  have U := hid hu
  have Hx := hid hx
  have Hf := hid hf
  have cw := fun w => run_conv_wid (P := Tryd.prog) w 22 77 x hx Tryd.underlying22 Tryd.underlying77 (finB_iff.1 hf)
  rw [hu.wide] at cw
  have m1 := fun w => run_float_arith (P := Tryd.prog) w .mul 77 .f64 _ _ _ hu.mul
  rw [show TAU = 4618760256179416344 from rfl] at m1
  have m2 := fun w => run_float_arith (P := Tryd.prog) w .mul 77 .f64 _ _ _ hu.sq
  obtain ⟨M, E, hr1, hr2⟩ := read_sgD (s := s) hu.hm
  have hR := fun w => round_even (sgD s m) (sgD s n) hu.he ⟨_, _, _, hr2⟩ w
  have ho : (FloatKind.f64.format.order (sgD s n) 0 == some .eq) = decide (n = 0) := order_zeroD hu.hn
  have ho2 : (FloatKind.f64.format.order (sgD s n) 0 != some .eq) = !decide (n = 0) := by rw [← ho]; rfl
  clear hr1 hr2
  by_cases hn : n = 0
  · have eg := (hu.g0 hn).1
    rw [← eg] at cw hR
    have hq : (FloatKind.f64.format.order (sgD s n) 0 != some .eq) = false := by rw [ho2, decide_eq_true hn]; rfl
    clear hx hf hu ho ho2 eg hn
    generalize sgD s n = K at hR hq
    go_enter Tryd.func77, Tryd.ntmps77
    go_wp2_with fail
    refine (sFinite_t x Hx.out Hf.out _).mono ?_
    rintro e w1 ⟨rfl, rfl⟩
    go_wp2_with fail
    clear cw m1 m2 hR hq
    go_loop [11, 9, 10] (fun i C Z => ∃ m : Nat, m ≤ 14 ∧ i = .int .i64 (m : Int) ∧ C = .float .f64 (cosF y (14 - m)) ∧ Z = .float .f64 (sinF y (14 - m))) (fun i _ _ => (intOf i).toNat)
    case atStart => exact ⟨14, by omega, rfl, rfl, rfl⟩
    case round =>
      obtain ⟨m, hm1, rfl, rfl, rfl⟩ := hrel
      by_cases hm0 : 1 ≤ m
      · have hm3 : (1 : Int) ≤ (m : Int) := by omega
        have hM := hid hm1
        have c1 := (cosF_mg U.out.hy U.out.hv (14 - m) (by omega))
        obtain ⟨⟨ka, kb, kcc, kd⟩, ⟨a1, ea1, eb1⟩, ⟨a2, ea2, eb2⟩⟩ := con_facts (m := m) hm0 (by omega)
        obtain ⟨q1, r1, e1, e2, e3, _⟩ := step_unit U.out.hy U.out.hv ka kb c1.1 (by omega)
        obtain ⟨q2, r2, f1, f2, f3, _⟩ := step_unit U.out.hy U.out.hv kcc kd c1.2 (by omega)
        have n1 : stepD (kc m) y (cosF y (14 - m)) = cosF y (14 - (m - 1)) := by rw [show 14 - (m - 1) = (14 - m) + 1 by omega]; show _ = stepD (kc (14 - (14 - m))) y (cosF y (14 - m)); rw [show 14 - (14 - m) = m by omega]
        have n2 : stepD (ks m) y (sinF y (14 - m)) = sinF y (14 - (m - 1)) := by rw [show 14 - (m - 1) = (14 - m) + 1 by omega]; show _ = stepD (ks (14 - (14 - m))) y (sinF y (14 - m)); rw [show 14 - (14 - m) = m by omega]
        rw [n1] at e3
        rw [n2] at f3
        have d1 := fun w => run_float_arith (P := Tryd.prog) w .quo 77 .f64 _ _ _ e1
        have d2 := fun w => run_float_arith (P := Tryd.prog) w .mul 77 .f64 _ _ _ e2
        have d3 := fun w => run_float_arith (P := Tryd.prog) w .sub 77 .f64 _ _ _ e3
        have d4 := fun w => run_float_arith (P := Tryd.prog) w .quo 77 .f64 _ _ _ f1
        have d5 := fun w => run_float_arith (P := Tryd.prog) w .mul 77 .f64 _ _ _ f2
        have d6 := fun w => run_float_arith (P := Tryd.prog) w .sub 77 .f64 _ _ _ f3
        clear e1 e2 e3 f1 f2 f3 n1 n2 c1 ka kb kcc kd
        have cv1 : ∀ w, (convert 3 77 (.int .i64 (2 * (m : Int)))).run Tryd.prog w = .ok (.float .f64 (k2 m)) w := fun w => rfl
        have d7 := fun w => run_float_arith (P := Tryd.prog) w .sub 77 .f64 _ _ _ ea1
        have d8 := fun w => run_float_arith (P := Tryd.prog) w .mul 77 .f64 _ _ _ eb1
        have d9 := fun w => run_float_arith (P := Tryd.prog) w .add 77 .f64 _ _ _ ea2
        have dA := fun w => run_float_arith (P := Tryd.prog) w .mul 77 .f64 _ _ _ eb2
        clear ea1 eb1 ea2 eb2
        go_wp2_with fail
        go_round
        case rel => exact ⟨m - 1, by omega, by first | go_num | (congr 1; omega), rfl, rfl⟩
        case measure => simp [intOf]; omega
      · obtain rfl : m = 0 := by omega
        have p1 := fun w => run_float_arith (P := Tryd.prog) w .mul 77 .f64 _ _ _ U.out.pr
        have z1 := fun w => run_convert_float_float (P := Tryd.prog) w 77 22 .f64 .f32 _ _ (by rw [Tryd.underlying77]; rfl) Tryd.underlying22 U.out.ca
        have z2 := fun w => run_convert_float_float (P := Tryd.prog) w 77 22 .f64 .f32 _ _ (by rw [Tryd.underlying77]; rfl) Tryd.underlying22 U.out.cb
        go_wp2_with fail
        go_ret
        exact ⟨rfl, rfl⟩

  · have e1 := hu.g1 hn
    have s1 := fun w => run_float_arith (P := Tryd.prog) w .sub 77 .f64 _ _ _ e1
    have hq : (FloatKind.f64.format.order (sgD s n) 0 != some .eq) = true := by rw [ho2, decide_eq_false hn]; rfl
    clear hx hf hu ho ho2 e1 hn
    generalize sgD s n = K at hR hq s1
    generalize sgD s m = V at hR s1 cw
    go_enter Tryd.func77, Tryd.ntmps77
    go_wp2_with fail
    refine (sFinite_t x Hx.out Hf.out _).mono ?_
    rintro e w1 ⟨rfl, rfl⟩
    go_wp2_with fail
    clear cw m1 m2 s1 hR hq
    go_loop [11, 9, 10] (fun i C Z => ∃ m : Nat, m ≤ 14 ∧ i = .int .i64 (m : Int) ∧ C = .float .f64 (cosF y (14 - m)) ∧ Z = .float .f64 (sinF y (14 - m))) (fun i _ _ => (intOf i).toNat)
    case atStart => exact ⟨14, by omega, rfl, rfl, rfl⟩
    case round =>
      obtain ⟨m, hm1, rfl, rfl, rfl⟩ := hrel
      by_cases hm0 : 1 ≤ m
      · have hm3 : (1 : Int) ≤ (m : Int) := by omega
        have hM := hid hm1
        have c1 := (cosF_mg U.out.hy U.out.hv (14 - m) (by omega))
        obtain ⟨⟨ka, kb, kcc, kd⟩, ⟨a1, ea1, eb1⟩, ⟨a2, ea2, eb2⟩⟩ := con_facts (m := m) hm0 (by omega)
        obtain ⟨q1, r1, e1, e2, e3, _⟩ := step_unit U.out.hy U.out.hv ka kb c1.1 (by omega)
        obtain ⟨q2, r2, f1, f2, f3, _⟩ := step_unit U.out.hy U.out.hv kcc kd c1.2 (by omega)
        have n1 : stepD (kc m) y (cosF y (14 - m)) = cosF y (14 - (m - 1)) := by rw [show 14 - (m - 1) = (14 - m) + 1 by omega]; show _ = stepD (kc (14 - (14 - m))) y (cosF y (14 - m)); rw [show 14 - (14 - m) = m by omega]
        have n2 : stepD (ks m) y (sinF y (14 - m)) = sinF y (14 - (m - 1)) := by rw [show 14 - (m - 1) = (14 - m) + 1 by omega]; show _ = stepD (ks (14 - (14 - m))) y (sinF y (14 - m)); rw [show 14 - (14 - m) = m by omega]
        rw [n1] at e3
        rw [n2] at f3
        have d1 := fun w => run_float_arith (P := Tryd.prog) w .quo 77 .f64 _ _ _ e1
        have d2 := fun w => run_float_arith (P := Tryd.prog) w .mul 77 .f64 _ _ _ e2
        have d3 := fun w => run_float_arith (P := Tryd.prog) w .sub 77 .f64 _ _ _ e3
        have d4 := fun w => run_float_arith (P := Tryd.prog) w .quo 77 .f64 _ _ _ f1
        have d5 := fun w => run_float_arith (P := Tryd.prog) w .mul 77 .f64 _ _ _ f2
        have d6 := fun w => run_float_arith (P := Tryd.prog) w .sub 77 .f64 _ _ _ f3
        clear e1 e2 e3 f1 f2 f3 n1 n2 c1 ka kb kcc kd
        have cv1 : ∀ w, (convert 3 77 (.int .i64 (2 * (m : Int)))).run Tryd.prog w = .ok (.float .f64 (k2 m)) w := fun w => rfl
        have d7 := fun w => run_float_arith (P := Tryd.prog) w .sub 77 .f64 _ _ _ ea1
        have d8 := fun w => run_float_arith (P := Tryd.prog) w .mul 77 .f64 _ _ _ eb1
        have d9 := fun w => run_float_arith (P := Tryd.prog) w .add 77 .f64 _ _ _ ea2
        have dA := fun w => run_float_arith (P := Tryd.prog) w .mul 77 .f64 _ _ _ eb2
        clear ea1 eb1 ea2 eb2
        go_wp2_with fail
        go_round
        case rel => exact ⟨m - 1, by omega, by first | go_num | (congr 1; omega), rfl, rfl⟩
        case measure => simp [intOf]; omega
      · obtain rfl : m = 0 := by omega
        have p1 := fun w => run_float_arith (P := Tryd.prog) w .mul 77 .f64 _ _ _ U.out.pr
        have z1 := fun w => run_convert_float_float (P := Tryd.prog) w 77 22 .f64 .f32 _ _ (by rw [Tryd.underlying77]; rfl) Tryd.underlying22 U.out.ca
        have z2 := fun w => run_convert_float_float (P := Tryd.prog) w 77 22 .f64 .f32 _ _ (by rw [Tryd.underlying77]; rfl) Tryd.underlying22 U.out.cb
        go_wp2_with fail
        go_ret
        exact ⟨rfl, rfl⟩

theorem sameFloat2 (a b : Nat) (h : Same2 a b) (w : World) :
    Calls Tryd.prog 51 #[.float .f64 a, .float .f64 b] w fun e w' => e = .returned (.bool true) ∧ w = w' := by
  obtain ⟨h1, h2⟩ := h
  rcases h1 with ⟨h1, rfl⟩ | ⟨h1, h3, h4, h5⟩
  · have hn : (FloatKind.f64.format.order a a != some .eq) = false := by
      show (Ieee.Format.order D a a != some .eq) = false
      rw [h1]; rfl
    have hq : (FloatKind.f64.format.order a a == some .eq) = true := by
      show (Ieee.Format.order D a a == some .eq) = true
      rw [h1]; rfl
    rcases hz : (FloatKind.f64.format.order a 0 == some .eq) with _ | _
    · clear h1 h2
      go_enter Tryd.func51, Tryd.ntmps51
      go_wp2
      go_ret
      exact ⟨by simp, rfl⟩
    · obtain ⟨q, hd⟩ := h2 h1 (beq_iff_eq.1 hz)
      have hdiv := fun w => run_float_arith (P := Tryd.prog) w .quo 77 .f64 4607182418800017408 a q hd
      clear h1 h2 hd
      go_enter Tryd.func51, Tryd.ntmps51
      go_wp2
      go_ret
      exact ⟨by simp, rfl⟩
  · have hn : (FloatKind.f64.format.order a a != some .eq) = true := by
      show (Ieee.Format.order D a a != some .eq) = true
      rw [h1]; rfl
    have hm : (FloatKind.f64.format.order b b != some .eq) = true := by
      show (Ieee.Format.order D b b != some .eq) = true
      rw [h3]; rfl
    clear h1 h2 h3 h4 h5
    go_enter Tryd.func51, Tryd.ntmps51
    go_wp2
    go_ret
    exact ⟨by simp, rfl⟩

theorem sameCx (a b c d : Nat) (h1 : Same2 a c) (h2 : Same2 b d) (w : World) :
    Calls Tryd.prog 76 #[.complex .f64 a b, .complex .f64 c d] w fun e w' => e = .returned (.bool true) ∧ w = w' := by
  have H1 := hid h1
  have H2 := hid h2
  clear h1 h2
  go_enter Tryd.func76, Tryd.ntmps76
  go_wp2_with fail
  refine (sameFloat2 a c H1.out _).mono ?_
  rintro e w1 ⟨rfl, rfl⟩
  go_wp2_with fail
  refine (sameFloat2 b d H2.out _).mono ?_
  rintro e w2 ⟨rfl, rfl⟩
  go_wp2
  go_ret
  exact ⟨rfl, rfl⟩

theorem info_cx : (Tryd.prog.info? 91).map (·.size) = some 1 := by kernel_rfl

theorem infoz_cx : (Tryd.prog.info? 91).map (fun i => (i.zero, i.size, i.bytes)) = some (some (.complex .f32 0 0), 1, 8) := by kernel_rfl

/-- The parts of a complex number of finite words. -/
def CxFin (v : Value) : Prop := ∃ a b, v = .complex .f32 a b ∧ a < 4294967296 ∧ b < 4294967296 ∧ finB a = true ∧ finB b = true

set_option maxRecDepth 100000 in
set_option maxHeartbeats 1000000 in
theorem eqCxs (s t : Value) (n : Nat) (y : Nat → Value) (hy : ∀ k, k < n → CxFin (y k)) (w : World) (hs : RdV w s n y) (ht : RdV w t n y) (hn : n ≤ 1048576) :
    Calls Tryd.prog 26 #[s, t] w fun e w' => e = .returned (.bool true) ∧ Below w.heap.size w w' := by
  obtain ⟨p, cap, rfl, hc⟩ := hs
  obtain ⟨p2, cap2, rfl, hc2⟩ := ht
  have HC := hid hc
  have HD := hid hc2
  have HN := hid hn
  have HY := hid hy
  clear hc hc2 hn hy
  go_enter Tryd.func26, Tryd.ntmps26
  go_wp2_with fail
  go_loopw [5] (fun i wr => ∃ k : Nat, k ≤ n ∧ i = .int .i64 k ∧ Hid (Kept w [] wr)) (fun i _ => n - (intOf i).toNat)
  case atStart => exact ⟨0, by omega, rfl, hid (Kept.nil w)⟩
  case round =>
    obtain ⟨k, hk, rfl, h0⟩ := hrel
    by_cases hlt : k < n
    · have hn9 := HN.out
      have hk3 : (k : Int) < (n : Int) := by omega
      obtain ⟨b, o, rfl, hcell⟩ := HC.out (by omega)
      obtain ⟨b2, o2, rfl, hcell2⟩ := HD.out (by omega)
      obtain ⟨z1, z2, hz, l1, l2, f1, f2⟩ := HY.out k hlt
      have cv := fun w => conv_complex_fin (P := Tryd.prog) 91 107 Tryd.underlying91 Tryd.underlying107 l1 f1 l2 f2 w
      have HK := hid hlt
      have R1 := hid (fun wq (hb : Below w.heap.size w wq) => show wq.cell? ⟨b, o + k, none⟩ = some (.complex .f32 z1 z2) from by have h1 := hcell k HK.out; rw [hb.cell (block_lt_of_cell h1), h1, hz])
      have R2 := hid (fun wq (hb : Below w.heap.size w wq) => show wq.cell? ⟨b2, o2 + k, none⟩ = some (.complex .f32 z1 z2) from by have h1 := hcell2 k HK.out; rw [hb.cell (block_lt_of_cell h1), h1, hz])
      have S1 := hid (sameCx (wid z1) (wid z2) (wid z1) (wid z2) (same2_fin l1 f1) (same2_fin l2 f2))
      have j1 : ∀ w, (Instr.indexAt 38 (.slice (some ⟨b, o, none⟩) n cap) (.int .i64 (k : Int))).run Tryd.prog w = .ok (.pointer (some ⟨b, o + k, none⟩)) w := fun w => by have := run_indexAt (P := Tryd.prog) (t := 38) (e := 91) Tryd.underlying38 info_cx (b := b) (o := o) (n := n) (cap := cap) (k := k) HK.out w; simpa using this
      have j2 : ∀ w, (Instr.indexAt 38 (.slice (some ⟨b2, o2, none⟩) n cap2) (.int .i64 (k : Int))).run Tryd.prog w = .ok (.pointer (some ⟨b2, o2 + k, none⟩)) w := fun w => by have := run_indexAt (P := Tryd.prog) (t := 38) (e := 91) Tryd.underlying38 info_cx (b := b2) (o := o2) (n := n) (cap := cap2) (k := k) HK.out w; simpa using this
      clear hcell hcell2 hz l1 l2 f1 f2
      go_wp2_with fail
      refine region_kept (w0 := w) (l := []) 12 #[false, false, false, false, false, false, false, false, false, false, false, false] (by kernel_rfl) rfl rfl ?_
      have kd := h0.out.drew
      generalize World.drew _ = wd at kd ⊢
      refine take_val 0 _ _ (.slice (some ⟨b, o, none⟩) n cap) rfl (by rfl) (by kernel_rfl) (by kernel_rfl) (by kernel_rfl) (fun w => by rfl) rfl rfl kd ?_
      simp only [Act.put, List.setIfInBounds_toArray, List.set_cons_zero, List.set_cons_succ]
      refine take_val 1 _ _ (.int .i64 (k : Int)) rfl (by rfl) (by kernel_rfl) (by kernel_rfl) (by kernel_rfl) (fun w => by rfl) rfl rfl kd ?_
      simp only [Act.put, List.setIfInBounds_toArray, List.set_cons_zero, List.set_cons_succ]
      refine take_val 2 _ _ (.pointer (some ⟨b, o + k, none⟩)) rfl (by rfl) (by kernel_rfl) (by kernel_rfl) (by kernel_rfl) (fun w => run_index_op _ _ rfl rfl (j1 w)) rfl rfl kd ?_
      simp only [Act.put, List.setIfInBounds_toArray, List.set_cons_zero, List.set_cons_succ]
      refine take_cell 3 _ _ (.complex .f32 z1 z2) rfl (by rfl) (by kernel_rfl) (by kernel_rfl) (by kernel_rfl) (fun wq hS => by have hcell : wq.cell? ⟨b, o + k, none⟩ = some (.complex .f32 z1 z2) := R1.out _ hS.1; clear hS; unfold execOp; go_simp) rfl rfl kd ?_
      simp only [Act.put, List.setIfInBounds_toArray, List.set_cons_zero, List.set_cons_succ]
      refine take_val 4 _ _ (.complex .f64 (wid z1) (wid z2)) rfl (by rfl) (by kernel_rfl) (by kernel_rfl) (by kernel_rfl) (fun w => by have := cv w; unfold execOp; go_simp) rfl rfl kd ?_
      simp only [Act.put, List.setIfInBounds_toArray, List.set_cons_zero, List.set_cons_succ]
      refine take_val 5 _ _ (.slice (some ⟨b2, o2, none⟩) n cap2) rfl (by rfl) (by kernel_rfl) (by kernel_rfl) (by kernel_rfl) (fun w => by rfl) rfl rfl kd ?_
      simp only [Act.put, List.setIfInBounds_toArray, List.set_cons_zero, List.set_cons_succ]
      refine take_val 6 _ _ (.int .i64 (k : Int)) rfl (by rfl) (by kernel_rfl) (by kernel_rfl) (by kernel_rfl) (fun w => by rfl) rfl rfl kd ?_
      simp only [Act.put, List.setIfInBounds_toArray, List.set_cons_zero, List.set_cons_succ]
      refine take_val 7 _ _ (.pointer (some ⟨b2, o2 + k, none⟩)) rfl (by rfl) (by kernel_rfl) (by kernel_rfl) (by kernel_rfl) (fun w => run_index_op _ _ rfl rfl (j2 w)) rfl rfl kd ?_
      simp only [Act.put, List.setIfInBounds_toArray, List.set_cons_zero, List.set_cons_succ]
      refine take_cell 8 _ _ (.complex .f32 z1 z2) rfl (by rfl) (by kernel_rfl) (by kernel_rfl) (by kernel_rfl) (fun wq hS => by have hcell : wq.cell? ⟨b2, o2 + k, none⟩ = some (.complex .f32 z1 z2) := R2.out _ hS.1; clear hS; unfold execOp; go_simp) rfl rfl kd ?_
      simp only [Act.put, List.setIfInBounds_toArray, List.set_cons_zero, List.set_cons_succ]
      refine take_val 9 _ _ (.complex .f64 (wid z1) (wid z2)) rfl (by rfl) (by kernel_rfl) (by kernel_rfl) (by kernel_rfl) (fun w => by have := cv w; unfold execOp; go_simp) rfl rfl kd ?_
      simp only [Act.put, List.setIfInBounds_toArray, List.set_cons_zero, List.set_cons_succ]
      refine wpAnyH_ready (rs := [10]) (by kernel_rfl) (by simp) ?_
      refine callK 10 _ _ (.bool true) kd rfl (by rfl) 76 #[.complex .f64 (wid z1) (wid z2), .complex .f64 (wid z1) (wid z2)] (fun w => by unfold execOp; go_simp) rfl rfl ?hc1 (fun w1 k1 => ?_) AllReadyH.nil
      case hc1 => exact (S1.out _).mono fun e w' h => ⟨h.1, h.2 ▸ Below.refl _ _⟩
      refine ⟨k1, ?_⟩
      simp only [Act.put, List.setIfInBounds_toArray, List.set_cons_zero, List.set_cons_succ]
      refine take_val 11 _ _ (.bool false) rfl (by rfl) (by kernel_rfl) (by kernel_rfl) (by kernel_rfl) (fun w => by unfold execOp; go_simp) rfl rfl k1 ?_
      simp only [Act.put, List.setIfInBounds_toArray, List.set_cons_zero, List.set_cons_succ]
      refine wpAnyH_done (by kernel_rfl) (NoPanic.normal ?_) _
      go_wp2
      go_roundw
      case rel => exact ⟨k + 1, by omega, by go_num, hid k1⟩
      case measure => simp [intOf]; omega
    · obtain rfl : k = n := by omega
      go_wp2
      go_ret
      exact ⟨rfl, h0.out.1⟩

set_option maxRecDepth 100000 in
set_option maxHeartbeats 2000000 in
theorem markCxs (w0 : World) (l : List (Nat × Array Value × TypeId)) (B n cap : Nat) (cs : Array Value) (y : Nat → Value) (w : World) (hk : Kept w0 ((B, cs, 91) :: l) w) (hB : w0.heap.size ≤ B) (hne : ∀ x ∈ l, x.1 ≠ B) (h : LvV cs n y) (hn : n ≤ 64) :
    Calls Tryd.prog 27 #[.slice (some ⟨B, 0, none⟩) n cap, .int .i64 1] w fun e w' => e = .returned (.int .i64 (1 + n)) ∧ ∃ cs', LvV cs' n (fun k => ckV (k + 1)) ∧ Kept w0 ((B, cs', 91) :: l) w' := by
  have HN := hid hn
  have HNE := hid hne
  have HBB := hid hB
  have h0 : Hid (∃ cs', LvV cs' n (mrV y (fun k => ckV (k + 1)) 0) ∧ Kept w0 ((B, cs', 91) :: l) w) := hid ⟨cs, by rw [mrV_zero]; exact h, hk⟩
  clear hk h hn hB hne
  go_enter Tryd.func27, Tryd.ntmps27
  go_wp2_with fail
  go_loopw [1, 5] (fun u i wr => ∃ k : Nat, k ≤ n ∧ i = .int .i64 k ∧ u = .int .i64 (1 + k) ∧ Hid (∃ cs', LvV cs' n (mrV y (fun k => ckV (k + 1)) k) ∧ Kept w0 ((B, cs', 91) :: l) wr)) (fun _ i _ => n - (intOf i).toNat)
  case atStart => exact ⟨0, by omega, rfl, by simp, h0⟩
  case round =>
    obtain ⟨k, hk, rfl, rfl, h1⟩ := hrel
    clear h0
    by_cases hlt : k < n
    · have HL := hid hlt
      have hn9 := HN.out
      have hk3 : (k : Int) < (n : Int) := by omega
      obtain ⟨cs', a1, a2⟩ := h1.out
      have i1 := fun w => run_indexAt (P := Tryd.prog) (t := 38) (e := 91) Tryd.underlying38 info_cx (b := B) (o := 0) (n := n) (cap := cap) (k := k) hlt w
      simp only [Nat.zero_add, Nat.mul_one] at i1
      obtain ⟨q1, _⟩ := ck_one (k := k + 1) (by omega)
      have cv1 : ∀ w : World, (convert 3 77 (.int .i64 (1 + (k : Int)))).run Tryd.prog w = .ok (.float .f64 (floatOfInt .f64 ((k + 1 : Nat) : Int))) w := fun w => by
        have := run_convert_int_float (P := Tryd.prog) w 3 77 .i64 .f64 (1 + (k : Int)) (by rw [Tryd.underlying3]; rfl) Tryd.underlying77
        rw [show ((k + 1 : Nat) : Int) = 1 + (k : Int) by omega]; exact this
      have cv2 : ∀ w : World, (convert 107 91 (.complex .f64 (floatOfInt .f64 ((k + 1 : Nat) : Int)) 4607182418800017408)).run Tryd.prog w = .ok (ckV (k + 1)) w := fun w => run_convert_complex (P := Tryd.prog) w 107 91 .f64 .f32 _ _ _ _ (by rw [Tryd.underlying107]; rfl) Tryd.underlying91 q1
      generalize floatOfInt .f64 ((k + 1 : Nat) : Int) = fk at cv1 cv2
      have A1 := hid a1
      have A2 := hid a2
      clear h1 a1 a2 q1
      have tok1 : True := trivial
      go_wp2_with (have _t := tok1; clear tok1; refine store_lv1 rfl 91 _ _ rfl info_cx B k (ckV (k + 1)) rfl rfl rfl rfl A2.out A1.out HL.out HBB.out HNE.out (fun w1 k1 v1 => ?_); replace k1 := hid k1; replace v1 := hid v1; clear A1 A2)
      have b3 : Hid (∃ cs', LvV cs' n (mrV y (fun k => ckV (k + 1)) (k + 1)) ∧ Kept w0 ((B, cs', 91) :: l) w1) := hid ⟨_, by have := v1.out; rw [mrV_step y (fun k => ckV (k + 1)) k] at this; exact this, k1.out⟩
      clear k1 v1 cv1 cv2
      have hw9 : wrap64 ((k : Int) + 1) = (k : Int) + 1 := by unfold wrap64; omega
      have hw8 : IntKind.i64.wrap (1 + (k : Int) + 1) = 1 + (k : Int) + 1 := by rw [IntKind.wrap_i64]; omega
      go_roundw
      case rel => exact ⟨k + 1, by have := HL.out; omega, by go_num, by first | (congr 1; omega) | (simp; omega), b3⟩
      case measure => have := HL.out; simp [intOf]; omega
    · obtain rfl : k = n := by omega
      have hk3 : ¬ (k : Int) < (k : Int) := by omega
      go_wp2
      go_ret
      obtain ⟨cs', a1, a2⟩ := h1.out
      exact ⟨rfl, cs', a1.ext (fun j hj => if_pos hj), a2⟩

set_option maxRecDepth 100000 in
set_option maxHeartbeats 2000000 in
theorem heldCxs (s : Value) (n : Nat) (w : World) (hs : RdV w s n (fun k => ckV (k + 1))) (hn : n ≤ 64) :
    Calls Tryd.prog 28 #[s, .int .i64 1] w fun e w' => e = .returned (.int .i64 (1 + n)) ∧ w = w' := by
  obtain ⟨p, cap, rfl, hc⟩ := hs
  have HC := hid hc
  have HN := hid hn
  clear hc hn
  go_enter Tryd.func28, Tryd.ntmps28
  go_wp2_with fail
  go_loopw [1, 5] (fun u i wr => ∃ k : Nat, k ≤ n ∧ i = .int .i64 k ∧ u = .int .i64 (1 + k) ∧ w = wr) (fun _ i _ => n - (intOf i).toNat)
  case atStart => exact ⟨0, by omega, rfl, by simp, rfl⟩
  case round =>
    obtain ⟨k, hk, rfl, rfl, rfl⟩ := hrel
    by_cases hlt : k < n
    · have HL := hid hlt
      have hn9 := HN.out
      have hk3 : (k : Int) < (n : Int) := by omega
      obtain ⟨b, o, rfl, hcell⟩ := HC.out (by omega)
      have c0 : w.cell? ⟨b, o + k, none⟩ = some (.complex .f32 (wS (k + 1)) 1065353216) := hcell k hlt
      have i1 := fun w => run_indexAt (P := Tryd.prog) (t := 38) (e := 91) Tryd.underlying38 info_cx (b := b) (o := o) (n := n) (cap := cap) (k := k) hlt w
      simp only [Nat.mul_one] at i1
      obtain ⟨q1, q2⟩ := ck_one (k := k + 1) (by omega)
      have cv1 : ∀ w : World, (convert 3 77 (.int .i64 (1 + (k : Int)))).run Tryd.prog w = .ok (.float .f64 (floatOfInt .f64 ((k + 1 : Nat) : Int))) w := fun w => by
        have := run_convert_int_float (P := Tryd.prog) w 3 77 .i64 .f64 (1 + (k : Int)) (by rw [Tryd.underlying3]; rfl) Tryd.underlying77
        rw [show ((k + 1 : Nat) : Int) = 1 + (k : Int) by omega]; exact this
      have cv2 : ∀ w : World, (convert 107 91 (.complex .f64 (floatOfInt .f64 ((k + 1 : Nat) : Int)) 4607182418800017408)).run Tryd.prog w = .ok (.complex .f32 (wS (k + 1)) 1065353216) w := fun w => run_convert_complex (P := Tryd.prog) w 107 91 .f64 .f32 _ _ _ _ (by rw [Tryd.underlying107]; rfl) Tryd.underlying91 q1
      have q3 : (FloatKind.f32.format.order 1065353216 1065353216 == some .eq) = true := by decide +kernel
      generalize floatOfInt .f64 ((k + 1 : Nat) : Int) = fk at cv1 cv2
      generalize wS (k + 1) = wk at cv2 q2 c0
      clear hcell q1
      go_wp2
      have hw9 : wrap64 ((k : Int) + 1) = (k : Int) + 1 := by unfold wrap64; omega
      go_roundw
      case rel => exact ⟨k + 1, by have := HL.out; omega, by go_num, by first | (congr 1; omega) | (simp; omega), trivial⟩
      case measure => have := HL.out; simp [intOf]; omega
    · obtain rfl : k = n := by omega
      have hk3 : ¬ (k : Int) < (k : Int) := by omega
      go_wp2
      go_ret
      exact ⟨rfl, rfl⟩

theorem held0C (p : Option Addr) (c : Nat) (w : World) : Calls Tryd.prog 28 #[.slice p 0 c, .int .i64 1] w fun e w' => e = .returned (.int .i64 1) ∧ w = w' := by
  have := heldCxs (.slice p 0 c) 0 w (RdV.zero w p c _) (by omega)
  simpa using this

theorem mark0C (p : Option Addr) (c : Nat) (w : World) : Calls Tryd.prog 27 #[.slice p 0 c, .int .i64 1] w fun e w' => e = .returned (.int .i64 1) ∧ w = w' := by
  go_enter Tryd.func27, Tryd.ntmps27
  go_wp2_with fail
  go_loopw [1, 5] (fun u i wr => i = .int .i64 0 ∧ u = .int .i64 1 ∧ w = wr) (fun _ _ _ => 0)
  case atStart => exact ⟨rfl, rfl, rfl⟩
  case round =>
    obtain ⟨rfl, rfl, rfl⟩ := hrel
    go_wp2
    go_ret
    exact ⟨rfl, rfl⟩

/-- A slice of n complex numbers that a call made. -/
def MadeC (n : Nat) (y : Nat → Value) (w : World) (v : Value) (w' : World) : Prop := ∃ B cs cap, v = .slice (some ⟨B, 0, none⟩) n cap ∧ w.heap.size ≤ B ∧ LvV cs n y ∧ Kept w [(B, cs, 91)] w'

theorem isTypeOf (v : Value) (w : World) : (Extern.ReflectliteType.typeOf #[.iface 291 v]).run Tryd.prog w = .ok (.iface 245 (.agg #[.pointer (some ⟨15, 291, none⟩)])) w := by kernel_rfl

theorem isComparable (w : World) : ((Extern.ReflectliteType.method fun t => do Extern.Rtype.noPackHeld "Comparable" t; pure (.bool (← typeInfo t).comparable)) #[.agg #[.pointer (some ⟨15, 291, none⟩)]]).run Tryd.prog w = .ok (.bool true) w := by kernel_rfl

theorem isCompCall (w : World) : (callFunc 271 #[.agg #[.pointer (some ⟨15, 291, none⟩)]]).run Tryd.prog w = .ok (Next.value (.bool true)) w := by
  have h32 := @run_callFunc_extern Tryd.prog 271 _ (Extern.ReflectliteType.method fun t => do Extern.Rtype.noPackHeld "Comparable" t; pure (.bool (← typeInfo t).comparable)) Tryd.func271 (by kernel_rfl) (by kernel_rfl) (by kernel_rfl) (by kernel_rfl)
  rw [h32, isComparable]
  rfl

theorem isMethodComparable (v : Value) (w : World) : (Go.method 435 245 v "Comparable").run Tryd.prog w = .ok (271, v) w := by kernel_rfl

theorem isComp : (Tryd.prog.info? 291).map (·.comparable) = some true := by kernel_rfl

theorem isSize : (Tryd.prog.info? 293).map (·.size) = some 1 := by kernel_rfl

theorem noIsE (v : Value) (xT : TypeId) (w : World) : (Instr.typeAssert (.iface 291 v) xT 247 true).run Tryd.prog w = .ok (.tuple #[.nilIface, .bool false]) w := run_typeAssert_lacksB Tryd.underlying247 (by kernel_rfl) (by kernel_rfl) v xT w

theorem noUnwrapE (v : Value) (xT : TypeId) (w : World) : (Instr.typeAssert (.iface 291 v) xT 250 true).run Tryd.prog w = .ok (.tuple #[.nilIface, .bool false]) w := run_typeAssert_lacksB Tryd.underlying250 (by kernel_rfl) (by kernel_rfl) v xT w

theorem noUnwrapsE (v : Value) (xT : TypeId) (w : World) : (Instr.typeAssert (.iface 291 v) xT 252 true).run Tryd.prog w = .ok (.tuple #[.nilIface, .bool false]) w := run_typeAssert_lacksB Tryd.underlying252 (by kernel_rfl) (by kernel_rfl) v xT w

set_option maxRecDepth 100000 in
/-- errors.Is(x, x), x a pointer to an errors.errorString. -/
theorem is_same (a : Addr) (w : World) :
    Calls Tryd.prog 126 #[.iface 291 (.pointer (some a)), .iface 291 (.pointer (some a))] w fun e w' => e = .returned (.bool true) ∧ w' = w := by
  obtain ⟨i, hi, hcmp⟩ := Option.map_eq_some_iff.1 isComp
  obtain ⟨j, hj, hjs⟩ := Option.map_eq_some_iff.1 isSize
  have h8 := @run_callFunc_extern Tryd.prog 167 _ Extern.ReflectliteType.typeOf Tryd.func167 (by kernel_rfl) (by kernel_rfl) (by kernel_rfl) (by kernel_rfl)
  have tT := isTypeOf
  have cT := isCompCall
  have mR := isMethodComparable
  have heq := run_eql_iface_ptr_same (P := Tryd.prog) w a Tryd.underlying90 Tryd.underlying291 hi hcmp hj
  go_enter Tryd.func126, Tryd.ntmps126
  go_wp2
  refine wp_loop_rounds 1 ?_
  rw [rounds_succ]
  go_wp2
  go_ret
  exact ⟨rfl, rfl⟩

set_option maxRecDepth 100000 in
/-- errors.Is(x, y), two different pointers to errors.errorString. -/
theorem is_other (a b : Addr) (ca cb : Array Value) (ta tb : TypeId) (w : World) (hne : a ≠ b) (ha : w.heap[a.block]? = some (.cells ca ta (0, 0))) (hb : w.heap[b.block]? = some (.cells cb tb (0, 0))) :
    Calls Tryd.prog 126 #[.iface 291 (.pointer (some a)), .iface 291 (.pointer (some b))] w fun e w' => e = .returned (.bool false) ∧ w' = w := by
  obtain ⟨i, hi, hcmp⟩ := Option.map_eq_some_iff.1 isComp
  obtain ⟨j, hj, hjs⟩ := Option.map_eq_some_iff.1 isSize
  have h8 := @run_callFunc_extern Tryd.prog 167 _ Extern.ReflectliteType.typeOf Tryd.func167 (by kernel_rfl) (by kernel_rfl) (by kernel_rfl) (by kernel_rfl)
  have tT := isTypeOf
  have cT := isCompCall
  have mR := isMethodComparable
  have nE := noIsE
  have uE := noUnwrapE
  have vE := noUnwrapsE
  have heq := run_eql_iface_ptr_other (P := Tryd.prog) w Tryd.underlying90 Tryd.underlying291 hi hcmp hj (by rw [hjs]; decide) hne ha hb
  go_enter Tryd.func126, Tryd.ntmps126
  go_wp2
  refine wp_loop_rounds 1 ?_
  rw [rounds_succ]
  go_wp2
  go_ret
  exact ⟨rfl, rfl⟩

@[go_sem] theorem semAtSome (l : Nat) (ρ : Operand → Value) (o : Oper) (h : ∀ c, o.op ≠ .defer c) : Oper.semAt (some l) ρ o = execOp ρ o := Oper.semAt_some l ρ o h

/-- The errors that are variables: each points to a cell of its own. -/
structure Sent (w : World) (A : Nat → Addr) : Prop where
  c0 : w.cell? ⟨2, 0, none⟩ = some (.iface 291 (.pointer (some (A 0))))
  c1 : w.cell? ⟨0, 0, none⟩ = some (.iface 291 (.pointer (some (A 1))))
  c2 : w.cell? ⟨1, 0, none⟩ = some (.iface 291 (.pointer (some (A 2))))
  c3 : w.cell? ⟨3, 0, none⟩ = some (.iface 291 (.pointer (some (A 3))))
  c4 : w.cell? ⟨4, 0, none⟩ = some (.iface 291 (.pointer (some (A 4))))
  b : ∀ i, i < 5 → ∃ c t, w.heap[(A i).block]? = some (.cells c t (0, 0))
  ne : ∀ i j, i < 5 → j < 5 → i ≠ j → A i ≠ A j

theorem cell_below {w w' : World} {a : Addr} {v : Value} (h : w.cell? a = some v) (hb : Below w.heap.size w w') : w'.cell? a = some v := by
  have hlt : a.block < w.heap.size := by
    rcases Nat.lt_or_ge a.block w.heap.size with h' | h'
    · exact h'
    · simp [World.cell?, Array.getElem?_eq_none h'] at h
  unfold World.cell? at h ⊢
  rw [hb.block _ hlt]
  exact h

theorem Sent.stay {w w' : World} {A : Nat → Addr} (h : Sent w A) (hb : Below w.heap.size w w') : Sent w' A :=
  ⟨cell_below h.c0 hb, cell_below h.c1 hb, cell_below h.c2 hb, cell_below h.c3 hb, cell_below h.c4 hb, fun i hi => by
    obtain ⟨c, t, e⟩ := h.b i hi
    exact ⟨c, t, by rw [hb.block _ (lt_of_block e)]; exact e⟩, h.ne⟩

theorem code_1 (A : Nat → Addr) (w : World) (S : Sent w A) : Calls Tryd.prog 62 #[.iface 291 (.pointer (some (A 1)))] w fun e w' => e = .returned (.int .i64 2) ∧ w' = w := by
  have c0 := S.c0
  have c1 := S.c1
  have HS := hid S
  clear S
  go_enter Tryd.func62, Tryd.ntmps62
  go_wp2_with fail
  refine (is_other (A 1) (A 0) _ _ _ _ _ (HS.out.ne 1 0 (by omega) (by omega) (by omega)) (HS.out.b 1 (by omega)).choose_spec.choose_spec (HS.out.b 0 (by omega)).choose_spec.choose_spec).mono ?_
  rintro e0 u0 ⟨rfl, rfl⟩
  go_wp2_with fail
  refine (is_same (A 1) _).mono ?_
  rintro e9 u9 ⟨rfl, rfl⟩
  go_wp2
  go_ret
  exact ⟨rfl, rfl⟩

theorem err_star : "*" ++ "errors.errorString" = "*errors.errorString" := by decide

theorem row_err (u : TypeId) (h : Tryd.prog.typeName? 3 u = some "*errors.errorString") : u = 291 :=
  typeName_ptr_named (nm := "errors.errorString") (by rw [err_star]; kernel_rfl) (by kernel_rfl) (by decide) u (by rw [err_star]; exact h)

theorem iCount_t (q : Int) (h : 1 ≤ q ∧ q ≤ 64) (w : World) : Calls Tryd.prog 133 #[.int .i64 q] w fun e w' => e = .returned (.bool true) ∧ w = w' := by
  obtain ⟨h1, h2⟩ := h
  go_enter Tryd.func133, Tryd.ntmps133
  go_wp2
  go_ret
  exact ⟨rfl, rfl⟩

theorem iCount_lo (q : Int) (h : ¬ 1 ≤ q) (w : World) : Calls Tryd.prog 133 #[.int .i64 q] w fun e w' => e = .returned (.bool false) ∧ w = w' := by
  go_enter Tryd.func133, Tryd.ntmps133
  go_wp2
  go_ret
  exact ⟨rfl, rfl⟩

theorem iCount_hi (q : Int) (h1 : 1 ≤ q) (h : ¬ q ≤ 64) (w : World) : Calls Tryd.prog 133 #[.int .i64 q] w fun e w' => e = .returned (.bool false) ∧ w = w' := by
  go_enter Tryd.func133, Tryd.ntmps133
  go_wp2
  go_ret
  exact ⟨rfl, rfl⟩

theorem iCount_f (q : Int) (h : ¬ (1 ≤ q ∧ q ≤ 64)) (w : World) : Calls Tryd.prog 133 #[.int .i64 q] w fun e w' => e = .returned (.bool false) ∧ w = w' := by
  by_cases h1 : 1 ≤ q
  · exact iCount_hi q h1 (fun h2 => h ⟨h1, h2⟩) w
  · exact iCount_lo q h1 w

theorem sCount_t (q : Int) (h : 1 ≤ q ∧ q ≤ 64) (w : World) : Calls Tryd.prog 72 #[.int .i64 q] w fun e w' => e = .returned (.bool true) ∧ w = w' := by
  have H := hid (fun w => l00In_t q 1 64 h.1 h.2 w)
  clear h
  go_enter Tryd.func72, Tryd.ntmps72
  go_wp2_with fail
  refine (H.out _).mono ?_
  rintro e u ⟨rfl, rfl⟩
  go_wp2
  go_ret
  exact ⟨rfl, rfl⟩

theorem sCount_f (q : Int) (h : ¬ (1 ≤ q ∧ q ≤ 64)) (w : World) : Calls Tryd.prog 72 #[.int .i64 q] w fun e w' => e = .returned (.bool false) ∧ w = w' := by
  have H := hid (fun w => l00In_f q 1 64 h w)
  clear h
  go_enter Tryd.func72, Tryd.ntmps72
  go_wp2_with fail
  refine (H.out _).mono ?_
  rintro e u ⟨rfl, rfl⟩
  go_wp2
  go_ret
  exact ⟨rfl, rfl⟩

theorem info_f1 : (Tryd.prog.info? 22).map (·.size) = some 1 := by kernel_rfl

/-- The errors that are variables, with the sixth. -/
structure Sent6 (w : World) (A : Nat → Addr) : Prop where
  s5 : Sent w A
  c5 : w.cell? ⟨5, 0, none⟩ = some (.iface 291 (.pointer (some (A 5))))
  b5 : ∃ c t, w.heap[(A 5).block]? = some (.cells c t (0, 0))
  n5 : ∀ j, j < 5 → A 5 ≠ A j

theorem Sent6.stay {w w' : World} {A : Nat → Addr} (h : Sent6 w A) (hb : Below w.heap.size w w') : Sent6 w' A :=
  ⟨h.s5.stay hb, cell_below h.c5 hb, by
    obtain ⟨c, t, e⟩ := h.b5
    exact ⟨c, t, by rw [hb.block _ (lt_of_block e)]; exact e⟩, h.n5⟩

theorem code_5 (A : Nat → Addr) (w : World) (S : Sent6 w A) : Calls Tryd.prog 62 #[.iface 291 (.pointer (some (A 5)))] w fun e w' => e = .returned (.int .i64 4) ∧ w' = w := by
  have c0 := S.s5.c0
  have c1 := S.s5.c1
  have c2 := S.s5.c2
  have c3 := S.s5.c3
  have c4 := S.s5.c4
  have HS := hid S
  clear S
  go_enter Tryd.func62, Tryd.ntmps62
  go_wp2_with fail
  refine (is_other (A 5) (A 0) _ _ _ _ _ (HS.out.n5 0 (by omega)) HS.out.b5.choose_spec.choose_spec (HS.out.s5.b 0 (by omega)).choose_spec.choose_spec).mono ?_
  rintro e0 u0 ⟨rfl, rfl⟩
  go_wp2_with fail
  refine (is_other (A 5) (A 1) _ _ _ _ _ (HS.out.n5 1 (by omega)) HS.out.b5.choose_spec.choose_spec (HS.out.s5.b 1 (by omega)).choose_spec.choose_spec).mono ?_
  rintro e1 u1 ⟨rfl, rfl⟩
  go_wp2_with fail
  refine (is_other (A 5) (A 2) _ _ _ _ _ (HS.out.n5 2 (by omega)) HS.out.b5.choose_spec.choose_spec (HS.out.s5.b 2 (by omega)).choose_spec.choose_spec).mono ?_
  rintro e2 u2 ⟨rfl, rfl⟩
  go_wp2_with fail
  refine (is_other (A 5) (A 3) _ _ _ _ _ (HS.out.n5 3 (by omega)) HS.out.b5.choose_spec.choose_spec (HS.out.s5.b 3 (by omega)).choose_spec.choose_spec).mono ?_
  rintro e3 u3 ⟨rfl, rfl⟩
  go_wp2_with fail
  refine (is_other (A 5) (A 4) _ _ _ _ _ (HS.out.n5 4 (by omega)) HS.out.b5.choose_spec.choose_spec (HS.out.s5.b 4 (by omega)).choose_spec.choose_spec).mono ?_
  rintro e4 u4 ⟨rfl, rfl⟩
  go_wp2
  go_ret
  exact ⟨rfl, rfl⟩

/-- What the rows' condition says of the six variables. -/
theorem sent6_of {W : World} (h : laidMetH Tryd.prog Rows.fnExactUnfoldSpeedsRow.laid W) : ∃ A, Sent6 W A ∧ (W.var? Tryd.prog "loop.example/g01224/impl.errUnfit" = some #[.iface 291 (.pointer (some (A 0)))] ∧ W.var? Tryd.prog "loop.example/g01224/impl.errBeyond" = some #[.iface 291 (.pointer (some (A 1)))] ∧ W.var? Tryd.prog "loop.example/g01224/impl.errCrowded" = some #[.iface 291 (.pointer (some (A 2)))] ∧ W.var? Tryd.prog "loop.example/g01224/impl.errNoText" = some #[.iface 291 (.pointer (some (A 3)))] ∧ W.var? Tryd.prog "loop.example/g01224/impl.errNowhere" = some #[.iface 291 (.pointer (some (A 4)))] ∧ W.var? Tryd.prog "loop.example/g01224/impl.errNoAnswer" = some #[.iface 291 (.pointer (some (A 5)))]) := by
  rw [MakeChecks.laidMetH_plain _ _ _ (by kernel_rfl)] at h
  obtain ⟨a0, a1, a2, a5, a3, a4, ⟨v0, v1, v2, v5, v3, v4⟩, ⟨b0, b1, b2, b5, b3, b4⟩, n01, n02, n05, n03, n04, n12, n15, n13, n14, n25, n23, n24, n53, n54, n34⟩ := laid_six (tp := 291) h
    (g0 := 2) (by kernel_rfl) (by kernel_rfl)
    (g1 := 0) (by kernel_rfl) (by kernel_rfl)
    (g2 := 1) (by kernel_rfl) (by kernel_rfl)
    (g3 := 5) (by kernel_rfl) (by kernel_rfl)
    (g4 := 3) (by kernel_rfl) (by kernel_rfl)
    (g5 := 4) (by kernel_rfl) (by kernel_rfl)
    Tryd.underlying90 row_err Tryd.underlying291 Tryd.underlying293 rfl rfl Tryd.underlying9 (by kernel_rfl) (by kernel_rfl)
  refine ⟨fun i => match i with | 0 => a0 | 1 => a1 | 2 => a2 | 3 => a3 | 4 => a4 | _ => a5, ⟨⟨?_, ?_, ?_, ?_, ?_, ?_, ?_⟩, ?_, b5, ?_⟩, v0, v1, v2, v3, v4, v5⟩
  · simpa using World.var?_cell (g := 2) (by kernel_rfl) v0 0
  · simpa using World.var?_cell (g := 0) (by kernel_rfl) v1 0
  · simpa using World.var?_cell (g := 1) (by kernel_rfl) v2 0
  · simpa using World.var?_cell (g := 3) (by kernel_rfl) v3 0
  · simpa using World.var?_cell (g := 4) (by kernel_rfl) v4 0
  · intro i hi
    match i, hi with
    | 0, _ => exact b0
    | 1, _ => exact b1
    | 2, _ => exact b2
    | 3, _ => exact b3
    | 4, _ => exact b4
  · intro i j hi hj hne
    match i, j, hi, hj, hne with
    | 0, 0, _, _, h => exact absurd rfl h
    | 0, 1, _, _, _ => exact n01
    | 0, 2, _, _, _ => exact n02
    | 0, 3, _, _, _ => exact n03
    | 0, 4, _, _, _ => exact n04
    | 1, 0, _, _, _ => exact n01.symm
    | 1, 1, _, _, h => exact absurd rfl h
    | 1, 2, _, _, _ => exact n12
    | 1, 3, _, _, _ => exact n13
    | 1, 4, _, _, _ => exact n14
    | 2, 0, _, _, _ => exact n02.symm
    | 2, 1, _, _, _ => exact n12.symm
    | 2, 2, _, _, h => exact absurd rfl h
    | 2, 3, _, _, _ => exact n23
    | 2, 4, _, _, _ => exact n24
    | 3, 0, _, _, _ => exact n03.symm
    | 3, 1, _, _, _ => exact n13.symm
    | 3, 2, _, _, _ => exact n23.symm
    | 3, 3, _, _, h => exact absurd rfl h
    | 3, 4, _, _, _ => exact n34
    | 4, 0, _, _, _ => exact n04.symm
    | 4, 1, _, _, _ => exact n14.symm
    | 4, 2, _, _, _ => exact n24.symm
    | 4, 3, _, _, _ => exact n34.symm
    | 4, 4, _, _, h => exact absurd rfl h
  · simpa using World.var?_cell (g := 5) (by kernel_rfl) v5 0
  · intro j hj
    match j, hj with
    | 0, _ => exact n05.symm
    | 1, _ => exact n15.symm
    | 2, _ => exact n25.symm
    | 3, _ => exact n53
    | 4, _ => exact n54

set_option maxRecDepth 100000 in
set_option maxHeartbeats 1000000 in
theorem iAllN_t (s : Value) (n : Nat) (x : Nat → Nat) (hx : ∀ k, k < n → x k < 4294967296) (hf : ∀ k, k < n → finB (x k) = true) (w : World) (hs : RdV w s n (flV x)) (hn : n ≤ 1048576) :
    Calls Tryd.prog 131 #[s, .func (.func 61) #[] #[]] w fun e w' => e = .returned (.bool true) ∧ Below w.heap.size w w' := by
  obtain ⟨p, cap, rfl, hc⟩ := hs
  have HC := hid hc
  have HN := hid hn
  have HX := hid hx
  have HF := hid hf
  clear hc hn hx hf
  go_enter Tryd.func131, Tryd.ntmps131
  go_wp2_with fail
  go_loopw [9] (fun i wr => ∃ k : Nat, k ≤ n ∧ i = .int .i64 k ∧ Hid (Below w.heap.size w wr)) (fun i _ => n - (intOf i).toNat)
  case atStart => exact ⟨0, by omega, rfl, hid (Below.refl _ _)⟩
  case round =>
    obtain ⟨k, hk, rfl, h0⟩ := hrel
    by_cases hlt : k < n
    · have HK := hid hlt
      have hn9 := HN.out
      have hkn : k < n := by omega
      have hk3 : (k : Int) < (n : Int) := by omega
      obtain ⟨b, o, rfl, hcell⟩ := HC.out (by omega)
      have c0 : wr.cell? ⟨b, o + k, none⟩ = some (.float .f32 (x k)) := by have h9 := hcell k hkn; rw [h0.out.cell (block_lt_of_cell h9)]; exact h9
      have i1 := fun w => run_indexAt (P := Tryd.prog) (t := 96) (e := 22) Tryd.underlying96 info_f1 (b := b) (o := o) (n := n) (cap := cap) (k := k) hkn w
      simp only [Nat.mul_one] at i1
      have KN := hid hkn
      have FX := hid (HF.out k hkn)
      clear hcell
      go_wp2_with fail
      refine (isFinite_t (x k) (HX.out k KN.out) FX.out _).mono ?_
      rintro e u ⟨rfl, rfl⟩
      clear c0
      have hw9 : wrap64 ((k : Int) + 1) = (k : Int) + 1 := by unfold wrap64; omega
      go_wp2
      go_roundw
      case rel => exact ⟨k + 1, by have := HK.out; omega, by go_num, h0⟩
      case measure => have := KN.out; simp [intOf]; omega
    · obtain rfl : k = n := by omega
      have hk3 : ¬ (k : Int) < (k : Int) := by omega
      go_wp2
      go_ret
      exact ⟨rfl, h0.out⟩

set_option maxRecDepth 100000 in
set_option maxHeartbeats 1000000 in
theorem iAllN_f (s : Value) (n : Nat) (x : Nat → Nat) (hx : ∀ k, k < n → x k < 4294967296) (hf : ¬ ∀ k, k < n → finB (x k) = true) (w : World) (hs : RdV w s n (flV x)) (hn : n ≤ 1048576) :
    Calls Tryd.prog 131 #[s, .func (.func 61) #[] #[]] w fun e w' => e = .returned (.bool false) ∧ Below w.heap.size w w' := by
  obtain ⟨p, cap, rfl, hc⟩ := hs
  have HC := hid hc
  have HN := hid hn
  have HX := hid hx
  have HF := hid hf
  obtain ⟨j, hj, hb, hg⟩ := first_bad (p := fun k => finB (x k)) hf
  have HJ := hid hj
  have HB := hid hb
  have HG := hid hg
  clear hb hg
  clear hc hn hx hf
  go_enter Tryd.func131, Tryd.ntmps131
  go_wp2_with fail
  go_loopw [9] (fun i wr => ∃ k : Nat, k ≤ j ∧ i = .int .i64 k ∧ Hid (Below w.heap.size w wr)) (fun i _ => n - (intOf i).toNat)
  case atStart => exact ⟨0, by omega, rfl, hid (Below.refl _ _)⟩
  case round =>
    obtain ⟨k, hk, rfl, h0⟩ := hrel
    by_cases hlt : k < j
    · have HK := hid hlt
      have hn9 := HN.out
      have hkn : k < n := by omega
      have hk3 : (k : Int) < (n : Int) := by omega
      obtain ⟨b, o, rfl, hcell⟩ := HC.out (by omega)
      have c0 : wr.cell? ⟨b, o + k, none⟩ = some (.float .f32 (x k)) := by have h9 := hcell k hkn; rw [h0.out.cell (block_lt_of_cell h9)]; exact h9
      have i1 := fun w => run_indexAt (P := Tryd.prog) (t := 96) (e := 22) Tryd.underlying96 info_f1 (b := b) (o := o) (n := n) (cap := cap) (k := k) hkn w
      simp only [Nat.mul_one] at i1
      have KN := hid hkn
      have FX := hid (HG.out k hlt)
      clear hcell
      go_wp2_with fail
      refine (isFinite_t (x k) (HX.out k KN.out) FX.out _).mono ?_
      rintro e u ⟨rfl, rfl⟩
      clear c0
      have hw9 : wrap64 ((k : Int) + 1) = (k : Int) + 1 := by unfold wrap64; omega
      go_wp2
      go_roundw
      case rel => exact ⟨k + 1, by have := HK.out; omega, by go_num, h0⟩
      case measure => have := KN.out; simp [intOf]; omega
    · obtain rfl : k = j := by omega
      have hn9 := HN.out
      have hk3 : (k : Int) < (n : Int) := by omega
      obtain ⟨b, o, rfl, hcell⟩ := HC.out (by omega)
      have c0 : wr.cell? ⟨b, o + k, none⟩ = some (.float .f32 (x k)) := by have h9 := hcell k hj; rw [h0.out.cell (block_lt_of_cell h9)]; exact h9
      have i1 := fun w => run_indexAt (P := Tryd.prog) (t := 96) (e := 22) Tryd.underlying96 info_f1 (b := b) (o := o) (n := n) (cap := cap) (k := k) hj w
      simp only [Nat.mul_one] at i1
      clear hcell
      go_wp2_with fail
      refine (isFinite_f (x k) (HX.out k HJ.out) HB.out _).mono ?_
      rintro e u ⟨rfl, b2⟩
      have B2 := hid (h0.out.trans (b2.mono h0.out.size))
      clear b2 c0
      go_wp2
      go_ret
      exact ⟨rfl, B2.out⟩

/-- Whether both parts of a complex number are finite. -/
def cxB : Value → Bool
  | .complex .f32 a b => finB a && finB b
  | _ => false

/-- A complex number of any two words. -/
def CxW (v : Value) : Prop := ∃ a b, v = .complex .f32 a b ∧ a < 4294967296 ∧ b < 4294967296

theorem iParts_t (a b : Nat) (ha : a < 4294967296) (hb : b < 4294967296) (hf : (finB a && finB b) = true) (w : World) : Calls Tryd.prog 85 #[.complex .f32 a b] w fun e w' => e = .returned (.bool true) ∧ w = w' := by
  rw [Bool.and_eq_true] at hf
  have H1 := hid (fun w => isFinite_t a ha hf.1 w)
  have H2 := hid (fun w => isFinite_t b hb hf.2 w)
  clear ha hb hf
  go_enter Tryd.func85, Tryd.ntmps85
  go_wp2_with fail
  refine (H1.out _).mono ?_
  rintro e u ⟨rfl, rfl⟩
  go_wp2_with fail
  refine (H2.out _).mono ?_
  rintro e u ⟨rfl, rfl⟩
  go_wp2
  go_ret
  exact ⟨rfl, rfl⟩

theorem iParts_f (a b : Nat) (ha : a < 4294967296) (hb : b < 4294967296) (hf : (finB a && finB b) = false) (w : World) : Calls Tryd.prog 85 #[.complex .f32 a b] w fun e w' => e = .returned (.bool false) ∧ Below w.heap.size w w' := by
  cases h1 : finB a with
  | false =>
    have H1 := hid (fun w => isFinite_f a ha h1 w)
    clear ha hb hf h1
    go_enter Tryd.func85, Tryd.ntmps85
    go_wp2_with fail
    refine (H1.out _).mono ?_
    rintro e u ⟨rfl, hb1⟩
    have B := hid hb1
    clear hb1
    go_wp2
    go_ret
    exact ⟨rfl, B.out⟩
  | true =>
    have H1 := hid (fun w => isFinite_t a ha h1 w)
    have H2 := hid (fun w => isFinite_f b hb (by rw [h1, Bool.true_and] at hf; exact hf) w)
    clear ha hb hf h1
    go_enter Tryd.func85, Tryd.ntmps85
    go_wp2_with fail
    refine (H1.out _).mono ?_
    rintro e u ⟨rfl, rfl⟩
    go_wp2_with fail
    refine (H2.out _).mono ?_
    rintro e u ⟨rfl, hb1⟩
    have B := hid hb1
    clear hb1
    go_wp2
    go_ret
    exact ⟨rfl, B.out⟩

set_option maxRecDepth 100000 in
set_option maxHeartbeats 1000000 in
theorem iAllC_t (s : Value) (n : Nat) (x : Nat → Value) (hx : ∀ k, k < n → CxW (x k)) (hf : ∀ k, k < n → cxB (x k) = true) (w : World) (hs : RdV w s n (x)) (hn : n ≤ 1048576) :
    Calls Tryd.prog 138 #[s, .func (.func 85) #[] #[]] w fun e w' => e = .returned (.bool true) ∧ Below w.heap.size w w' := by
  obtain ⟨p, cap, rfl, hc⟩ := hs
  have HC := hid hc
  have HN := hid hn
  have HX := hid hx
  have HF := hid hf
  clear hc hn hx hf
  go_enter Tryd.func138, Tryd.ntmps138
  go_wp2_with fail
  go_loopw [9] (fun i wr => ∃ k : Nat, k ≤ n ∧ i = .int .i64 k ∧ Hid (Below w.heap.size w wr)) (fun i _ => n - (intOf i).toNat)
  case atStart => exact ⟨0, by omega, rfl, hid (Below.refl _ _)⟩
  case round =>
    obtain ⟨k, hk, rfl, h0⟩ := hrel
    by_cases hlt : k < n
    · have HK := hid hlt
      have hn9 := HN.out
      have hkn : k < n := by omega
      have hk3 : (k : Int) < (n : Int) := by omega
      obtain ⟨b, o, rfl, hcell⟩ := HC.out (by omega)
      obtain ⟨za, zb, ez, la, lb⟩ := HX.out k hkn
      have c0 : wr.cell? ⟨b, o + k, none⟩ = some (.complex .f32 za zb) := by have h9 := hcell k hkn; rw [h0.out.cell (block_lt_of_cell h9), h9, ez]
      have LA := hid la
      have LB := hid lb
      have i1 := fun w => run_indexAt (P := Tryd.prog) (t := 103) (e := 91) Tryd.underlying103 info_cx (b := b) (o := o) (n := n) (cap := cap) (k := k) hkn w
      simp only [Nat.mul_one] at i1
      have KN := hid hkn
      have FX := hid (show (finB za && finB zb) = true from by have := HF.out k hkn; rw [ez] at this; exact this)
      clear hcell la lb ez
      go_wp2_with fail
      refine (iParts_t za zb LA.out LB.out FX.out _).mono ?_
      rintro e u ⟨rfl, rfl⟩
      clear c0
      have hw9 : wrap64 ((k : Int) + 1) = (k : Int) + 1 := by unfold wrap64; omega
      go_wp2
      go_roundw
      case rel => exact ⟨k + 1, by have := HK.out; omega, by go_num, h0⟩
      case measure => have := KN.out; simp [intOf]; omega
    · obtain rfl : k = n := by omega
      have hk3 : ¬ (k : Int) < (k : Int) := by omega
      go_wp2
      go_ret
      exact ⟨rfl, h0.out⟩

set_option maxRecDepth 100000 in
set_option maxHeartbeats 1000000 in
theorem iAllC_f (s : Value) (n : Nat) (x : Nat → Value) (hx : ∀ k, k < n → CxW (x k)) (hf : ¬ ∀ k, k < n → cxB (x k) = true) (w : World) (hs : RdV w s n (x)) (hn : n ≤ 1048576) :
    Calls Tryd.prog 138 #[s, .func (.func 85) #[] #[]] w fun e w' => e = .returned (.bool false) ∧ Below w.heap.size w w' := by
  obtain ⟨p, cap, rfl, hc⟩ := hs
  have HC := hid hc
  have HN := hid hn
  have HX := hid hx
  have HF := hid hf
  obtain ⟨j, hj, hb, hg⟩ := first_bad (p := fun k => cxB (x k)) hf
  have HJ := hid hj
  have HB := hid hb
  have HG := hid hg
  clear hb hg
  clear hc hn hx hf
  go_enter Tryd.func138, Tryd.ntmps138
  go_wp2_with fail
  go_loopw [9] (fun i wr => ∃ k : Nat, k ≤ j ∧ i = .int .i64 k ∧ Hid (Below w.heap.size w wr)) (fun i _ => n - (intOf i).toNat)
  case atStart => exact ⟨0, by omega, rfl, hid (Below.refl _ _)⟩
  case round =>
    obtain ⟨k, hk, rfl, h0⟩ := hrel
    by_cases hlt : k < j
    · have HK := hid hlt
      have hn9 := HN.out
      have hkn : k < n := by omega
      have hk3 : (k : Int) < (n : Int) := by omega
      obtain ⟨b, o, rfl, hcell⟩ := HC.out (by omega)
      obtain ⟨za, zb, ez, la, lb⟩ := HX.out k hkn
      have c0 : wr.cell? ⟨b, o + k, none⟩ = some (.complex .f32 za zb) := by have h9 := hcell k hkn; rw [h0.out.cell (block_lt_of_cell h9), h9, ez]
      have LA := hid la
      have LB := hid lb
      have i1 := fun w => run_indexAt (P := Tryd.prog) (t := 103) (e := 91) Tryd.underlying103 info_cx (b := b) (o := o) (n := n) (cap := cap) (k := k) hkn w
      simp only [Nat.mul_one] at i1
      have KN := hid hkn
      have FX := hid (show (finB za && finB zb) = true from by have := HG.out k hlt; rw [ez] at this; exact this)
      clear hcell la lb ez
      go_wp2_with fail
      refine (iParts_t za zb LA.out LB.out FX.out _).mono ?_
      rintro e u ⟨rfl, rfl⟩
      clear c0
      have hw9 : wrap64 ((k : Int) + 1) = (k : Int) + 1 := by unfold wrap64; omega
      go_wp2
      go_roundw
      case rel => exact ⟨k + 1, by have := HK.out; omega, by go_num, h0⟩
      case measure => have := KN.out; simp [intOf]; omega
    · obtain rfl : k = j := by omega
      have hn9 := HN.out
      have hk3 : (k : Int) < (n : Int) := by omega
      obtain ⟨b, o, rfl, hcell⟩ := HC.out (by omega)
      obtain ⟨za, zb, ez, la, lb⟩ := HX.out k hj
      have c0 : wr.cell? ⟨b, o + k, none⟩ = some (.complex .f32 za zb) := by have h9 := hcell k hj; rw [h0.out.cell (block_lt_of_cell h9), h9, ez]
      have LA := hid la
      have LB := hid lb
      have i1 := fun w => run_indexAt (P := Tryd.prog) (t := 103) (e := 91) Tryd.underlying103 info_cx (b := b) (o := o) (n := n) (cap := cap) (k := k) hj w
      simp only [Nat.mul_one] at i1
      have FX := hid (show (finB za && finB zb) = false from by have := HB.out; rw [ez] at this; exact this)
      clear hcell la lb ez
      go_wp2_with fail
      refine (iParts_f za zb LA.out LB.out FX.out _).mono ?_
      rintro e u ⟨rfl, b2⟩
      have B2 := hid (h0.out.trans (b2.mono h0.out.size))
      clear b2 c0
      go_wp2
      go_ret
      exact ⟨rfl, B2.out⟩

theorem iScaled (p q st : Nat) (w : World) : Calls Tryd.prog 83 #[.complex .f32 p q, .float .f32 st] w fun e w' => ∃ a b, e = .returned (.complex .f32 a b) ∧ Mu p st a ∧ Mu q st b ∧ Below w.heap.size w w' := by
  obtain ⟨a, wa, a1, a2, a3, a4, a5⟩ := arith_is (P := Tryd.prog) .mul (.inr (.inr (.inl rfl))) 22 p st w
  obtain ⟨b, wb, b1, b2, b3, b4, b5⟩ := arith_is (P := Tryd.prog) .mul (.inr (.inr (.inl rfl))) 22 q st wa
  have B := hid (show Below w.heap.size w wb from below_wf (below_wf (Below.refl _ _) a2) b2)
  have MA := hid (show Mu p st a from ⟨a4, a5, a3⟩)
  have MB := hid (show Mu q st b from ⟨b4, b5, b3⟩)
  clear a2 a3 a4 a5 b2 b3 b4 b5
  go_enter Tryd.func83, Tryd.ntmps83
  go_wp2
  go_ret
  exact ⟨a, b, rfl, MA.out, MB.out, B.out⟩

theorem iAngleP (first turns : Nat) (hf : FW first) (ht : FW turns) (k : Nat) (hk : k ≤ 200) (w : World) : Calls Tryd.prog 80 #[.agg #[.float .f32 first, .float .f32 turns], .int .i64 k] w fun e w' => e = .returned (.float .f32 (aW first turns k)) ∧ Below w.heap.size w w' := by
  obtain ⟨h1, h2, _⟩ := angle_nw hf ht hk
  have k0 : Hid (Kept w [(w.heap.size, #[.float .f32 first, .float .f32 turns], 112)] (w.alloc (.cells #[.float .f32 first, .float .f32 turns] 112))) := hid ((Kept.nil w).push _ _)
  have e0 : (w.alloc (.cells #[.float .f32 first, .float .f32 turns] 112)).cell? ⟨w.heap.size, 0, none⟩ = some (.float .f32 first) := (cell_of_row _ w.heap.size 0 _ _ _ (k0.out.at (x := (w.heap.size, #[.float .f32 first, .float .f32 turns], 112)) (by simp))).trans rfl
  have e1 : (w.alloc (.cells #[.float .f32 first, .float .f32 turns] 112)).cell? ⟨w.heap.size, 1, none⟩ = some (.float .f32 turns) := (cell_of_row _ w.heap.size 1 _ _ _ (k0.out.at (x := (w.heap.size, #[.float .f32 first, .float .f32 turns], 112)) (by simp))).trans rfl
  have m1 := fun w => run_float_arith (P := Tryd.prog) w .mul 22 .f32 _ _ _ h1
  have m2 := fun w => run_float_arith (P := Tryd.prog) w .add 22 .f32 _ _ _ h2
  have cv : ∀ w : World, (convert 2 22 (.int .i64 (k : Int))).run Tryd.prog w = .ok (.float .f32 (wS k)) w := fun w => run_convert_int_float (P := Tryd.prog) w 2 22 .i64 .f32 (k : Int) (by rw [Tryd.underlying2]; rfl) Tryd.underlying22
  clear hf ht hk h1 h2
  go_enter Tryd.func80, Tryd.ntmps80
  go_wp2
  go_ret
  exact ⟨rfl, k0.out.1⟩

set_option maxRecDepth 100000 in
set_option maxHeartbeats 2000000 in
theorem iSer1 (g : Nat) (El : Nat → Nat → Nat → Prop) (w0 : World) (l : List (Nat × Array Value × TypeId)) (n : Nat) (hn : n ≤ 64) (w : World) (hk : Kept w0 l w)
    (hcl : ∀ (k : Nat) w1, k < n → Kept w0 l w1 → Calls Tryd.prog 136 #[.int .i64 k, .pointer (some ⟨g, 0, none⟩)] w1 fun e w' => ∃ a b, e = .returned (.complex .f32 a b) ∧ a < 4294967296 ∧ b < 4294967296 ∧ El k a b ∧ Below w1.heap.size w1 w') :
    Calls Tryd.prog 74 #[.int .i64 n, .func (.func 136) #[] #[.pointer (some ⟨g, 0, none⟩)]] w fun e w' =>
      ∃ C cs y, e = .returned (.slice (some ⟨C, 0, none⟩) n n) ∧ w.heap.size ≤ C ∧ LvV cs n y ∧ (∀ k, k < n → ∃ a b, y k = .complex .f32 a b ∧ a < 4294967296 ∧ b < 4294967296 ∧ El k a b) ∧ Kept w0 ((C, cs, 91) :: l) w' := by
  have HN := hid hn
  have HCL := hid hcl
  have hsz := hk.size
  have HFR := hid hk.fresh
  obtain ⟨cs0, L0, hmk⟩ := run_makeV (P := Tryd.prog) (t := 103) (e := 91) Tryd.underlying103 (.complex .f32 0 0) 8 rfl (by omega) infoz_cx (show n ≤ 1048576 by omega) w
  have k0 : Hid (∃ cs y, LvV cs n y ∧ (∀ k, k < 0 → ∃ a b, y k = .complex .f32 a b ∧ a < 4294967296 ∧ b < 4294967296 ∧ El k a b) ∧ Kept w0 ((w.heap.size, cs, 91) :: l) (w.alloc (.cells cs0 91))) := hid ⟨cs0, _, L0, fun k h => absurd h (Nat.not_lt_zero _), hk.push _ _⟩
  clear hk hcl L0 hn
  go_enter Tryd.func74, Tryd.ntmps74
  go_wp2_with fail
  go_loopw [11] (fun i wr => ∃ k : Nat, k ≤ n ∧ i = .int .i64 k ∧ Hid (∃ cs y, LvV cs n y ∧ (∀ j, j < k → ∃ a b, y j = .complex .f32 a b ∧ a < 4294967296 ∧ b < 4294967296 ∧ El j a b) ∧ Kept w0 ((w.heap.size, cs, 91) :: l) wr)) (fun i _ => n - (intOf i).toNat)
  case atStart => exact ⟨0, by omega, rfl, k0⟩
  case round =>
    obtain ⟨k, hk, rfl, h1⟩ := hrel
    clear k0 hmk
    by_cases hlt2 : k < n
    · have HL := hid hlt2
      have hn9 := HN.out
      have hk3 : (k : Int) < (n : Int) := by omega
      obtain ⟨cs, y, a1, ae, a2⟩ := h1.out
      have HP := hid (HCL.out k wr hlt2 a2.tail)
      have i1 := fun w9 => run_indexAt (P := Tryd.prog) (t := 103) (e := 91) Tryd.underlying103 info_cx (b := w.heap.size) (o := 0) (n := n) (cap := n) (k := k) hlt2 w9
      simp only [Nat.zero_add, Nat.mul_one] at i1
      have A1 := hid a1
      have AE := hid ae
      have A2 := hid a2
      clear h1 a1 a2 ae hlt2
      go_wp2_with fail
      refine HP.out.mono ?_
      rintro e w1 ⟨a, b, rfl, la, lb, el, hb⟩
      have K1 := hid (A2.out.stay hb)
      have EL := hid (And.intro la (And.intro lb el))
      clear hb HP la lb el
      have tok1 : True := trivial
      go_wp2_with (have _t := tok1; clear tok1; refine store_lv1 rfl 91 _ _ rfl info_cx w.heap.size k (.complex .f32 a b) rfl rfl rfl rfl K1.out A1.out HL.out hsz (fun x hx => HFR.out x hx) (fun w2 k2 v2 => ?_); replace k2 := hid k2; replace v2 := hid v2; clear K1 A1 A2)
      have b3 : Hid (∃ cs y, LvV cs n y ∧ (∀ j, j < k + 1 → ∃ a b, y j = .complex .f32 a b ∧ a < 4294967296 ∧ b < 4294967296 ∧ El j a b) ∧ Kept w0 ((w.heap.size, cs, 91) :: l) w2) := hid ⟨_, _, v2.out, fun j hj => by
        unfold upV
        by_cases h : j = k
        · subst h; rw [if_pos rfl]; exact ⟨a, b, rfl, EL.out⟩
        · rw [if_neg h]; exact AE.out j (by omega), k2.out⟩
      clear k2 v2
      go_roundw
      case rel => exact ⟨k + 1, HL.out, by go_num, b3⟩
      case measure => have := HL.out; simp [intOf]; omega
    · obtain rfl : k = n := by omega
      have hk3 : ¬ (k : Int) < (k : Int) := by omega
      obtain ⟨cs, y, a1, ae, a2⟩ := h1.out
      have X := hid (show ∃ C cs y, (Ending.returned (.slice (some ⟨w.heap.size, 0, none⟩) k k)) = Ending.returned (.slice (some ⟨C, 0, none⟩) k k) ∧ w.heap.size ≤ C ∧ LvV cs k y ∧ (∀ j, j < k → ∃ a b, y j = .complex .f32 a b ∧ a < 4294967296 ∧ b < 4294967296 ∧ El j a b) ∧ Kept w0 ((C, cs, 91) :: l) wr from ⟨_, cs, y, rfl, Nat.le_refl _, a1, ae, a2⟩)
      have a1' := hid a1
      have ae' := hid ae
      have a2' := hid a2
      clear a1 ae a2
      go_wp2
      go_ret
      first | exact X.out | exact ⟨w.heap.size, cs, y, rfl, Nat.le_refl _, a1'.out, ae'.out, a2'.out⟩ | exact ⟨w.heap.size, rfl, Nat.le_refl _, cs, y, a1'.out, ae'.out, a2'.out⟩ | exact ⟨w.heap.size, rfl, Nat.le_refl _, cs, ⟨y, a1'.out, ae'.out⟩, a2'.out⟩ | exact ⟨w.heap.size, cs, rfl, Nat.le_refl _, ⟨y, a1'.out, ae'.out⟩, a2'.out⟩ | exact ⟨⟨w.heap.size, rfl, Nat.le_refl _⟩, cs, ⟨y, a1'.out, ae'.out⟩, a2'.out⟩

set_option maxRecDepth 100000 in
set_option maxHeartbeats 2000000 in
theorem iSer2 (g h : Nat) (El : Nat → Nat → Nat → Prop) (w0 : World) (l : List (Nat × Array Value × TypeId)) (n : Nat) (hn : n ≤ 64) (w : World) (hk : Kept w0 l w)
    (hcl : ∀ (k : Nat) w1, k < n → Kept w0 l w1 → Calls Tryd.prog 137 #[.int .i64 k, .pointer (some ⟨g, 0, none⟩), .pointer (some ⟨h, 0, none⟩)] w1 fun e w' => ∃ a b, e = .returned (.complex .f32 a b) ∧ a < 4294967296 ∧ b < 4294967296 ∧ El k a b ∧ Below w1.heap.size w1 w') :
    Calls Tryd.prog 74 #[.int .i64 n, .func (.func 137) #[] #[.pointer (some ⟨g, 0, none⟩), .pointer (some ⟨h, 0, none⟩)]] w fun e w' =>
      ∃ C cs y, e = .returned (.slice (some ⟨C, 0, none⟩) n n) ∧ w.heap.size ≤ C ∧ LvV cs n y ∧ (∀ k, k < n → ∃ a b, y k = .complex .f32 a b ∧ a < 4294967296 ∧ b < 4294967296 ∧ El k a b) ∧ Kept w0 ((C, cs, 91) :: l) w' := by
  have HN := hid hn
  have HCL := hid hcl
  have hsz := hk.size
  have HFR := hid hk.fresh
  obtain ⟨cs0, L0, hmk⟩ := run_makeV (P := Tryd.prog) (t := 103) (e := 91) Tryd.underlying103 (.complex .f32 0 0) 8 rfl (by omega) infoz_cx (show n ≤ 1048576 by omega) w
  have k0 : Hid (∃ cs y, LvV cs n y ∧ (∀ k, k < 0 → ∃ a b, y k = .complex .f32 a b ∧ a < 4294967296 ∧ b < 4294967296 ∧ El k a b) ∧ Kept w0 ((w.heap.size, cs, 91) :: l) (w.alloc (.cells cs0 91))) := hid ⟨cs0, _, L0, fun k h => absurd h (Nat.not_lt_zero _), hk.push _ _⟩
  clear hk hcl L0 hn
  go_enter Tryd.func74, Tryd.ntmps74
  go_wp2_with fail
  go_loopw [11] (fun i wr => ∃ k : Nat, k ≤ n ∧ i = .int .i64 k ∧ Hid (∃ cs y, LvV cs n y ∧ (∀ j, j < k → ∃ a b, y j = .complex .f32 a b ∧ a < 4294967296 ∧ b < 4294967296 ∧ El j a b) ∧ Kept w0 ((w.heap.size, cs, 91) :: l) wr)) (fun i _ => n - (intOf i).toNat)
  case atStart => exact ⟨0, by omega, rfl, k0⟩
  case round =>
    obtain ⟨k, hk, rfl, h1⟩ := hrel
    clear k0 hmk
    by_cases hlt2 : k < n
    · have HL := hid hlt2
      have hn9 := HN.out
      have hk3 : (k : Int) < (n : Int) := by omega
      obtain ⟨cs, y, a1, ae, a2⟩ := h1.out
      have HP := hid (HCL.out k wr hlt2 a2.tail)
      have i1 := fun w9 => run_indexAt (P := Tryd.prog) (t := 103) (e := 91) Tryd.underlying103 info_cx (b := w.heap.size) (o := 0) (n := n) (cap := n) (k := k) hlt2 w9
      simp only [Nat.zero_add, Nat.mul_one] at i1
      have A1 := hid a1
      have AE := hid ae
      have A2 := hid a2
      clear h1 a1 a2 ae hlt2
      go_wp2_with fail
      refine HP.out.mono ?_
      rintro e w1 ⟨a, b, rfl, la, lb, el, hb⟩
      have K1 := hid (A2.out.stay hb)
      have EL := hid (And.intro la (And.intro lb el))
      clear hb HP la lb el
      have tok1 : True := trivial
      go_wp2_with (have _t := tok1; clear tok1; refine store_lv1 rfl 91 _ _ rfl info_cx w.heap.size k (.complex .f32 a b) rfl rfl rfl rfl K1.out A1.out HL.out hsz (fun x hx => HFR.out x hx) (fun w2 k2 v2 => ?_); replace k2 := hid k2; replace v2 := hid v2; clear K1 A1 A2)
      have b3 : Hid (∃ cs y, LvV cs n y ∧ (∀ j, j < k + 1 → ∃ a b, y j = .complex .f32 a b ∧ a < 4294967296 ∧ b < 4294967296 ∧ El j a b) ∧ Kept w0 ((w.heap.size, cs, 91) :: l) w2) := hid ⟨_, _, v2.out, fun j hj => by
        unfold upV
        by_cases h : j = k
        · subst h; rw [if_pos rfl]; exact ⟨a, b, rfl, EL.out⟩
        · rw [if_neg h]; exact AE.out j (by omega), k2.out⟩
      clear k2 v2
      go_roundw
      case rel => exact ⟨k + 1, HL.out, by go_num, b3⟩
      case measure => have := HL.out; simp [intOf]; omega
    · obtain rfl : k = n := by omega
      have hk3 : ¬ (k : Int) < (k : Int) := by omega
      obtain ⟨cs, y, a1, ae, a2⟩ := h1.out
      have X := hid (show ∃ C cs y, (Ending.returned (.slice (some ⟨w.heap.size, 0, none⟩) k k)) = Ending.returned (.slice (some ⟨C, 0, none⟩) k k) ∧ w.heap.size ≤ C ∧ LvV cs k y ∧ (∀ j, j < k → ∃ a b, y j = .complex .f32 a b ∧ a < 4294967296 ∧ b < 4294967296 ∧ El j a b) ∧ Kept w0 ((C, cs, 91) :: l) wr from ⟨_, cs, y, rfl, Nat.le_refl _, a1, ae, a2⟩)
      have a1' := hid a1
      have ae' := hid ae
      have a2' := hid a2
      clear a1 ae a2
      go_wp2
      go_ret
      first | exact X.out | exact ⟨w.heap.size, cs, y, rfl, Nat.le_refl _, a1'.out, ae'.out, a2'.out⟩ | exact ⟨w.heap.size, rfl, Nat.le_refl _, cs, y, a1'.out, ae'.out, a2'.out⟩ | exact ⟨w.heap.size, rfl, Nat.le_refl _, cs, ⟨y, a1'.out, ae'.out⟩, a2'.out⟩ | exact ⟨w.heap.size, cs, rfl, Nat.le_refl _, ⟨y, a1'.out, ae'.out⟩, a2'.out⟩ | exact ⟨⟨w.heap.size, rfl, Nat.le_refl _⟩, cs, ⟨y, a1'.out, ae'.out⟩, a2'.out⟩

theorem iU1 (first turns : Nat) (hf : FW first) (ht : FW turns) (n : Nat) (hn : n ≤ 64) (UR : Nat → Nat → Nat → Prop) (hU : ∀ (k : Nat) w1, k < n → Calls Tryd.prog 63 #[.float .f32 (aW first turns k)] w1 fun e w' => ∃ p q, e = .returned (.complex .f32 p q) ∧ p < 4294967296 ∧ q < 4294967296 ∧ UR k p q ∧ Below w1.heap.size w1 w') (g : Nat) (k : Nat) (hk : k < n) (w : World) (hc : w.cell? ⟨g, 0, none⟩ = some (.func (.func 80) #[.agg #[.float .f32 first, .float .f32 turns]] #[])) :
    Calls Tryd.prog 136 #[.int .i64 k, .pointer (some ⟨g, 0, none⟩)] w fun e w' => ∃ p q, e = .returned (.complex .f32 p q) ∧ p < 4294967296 ∧ q < 4294967296 ∧ UR k p q ∧ Below w.heap.size w w' := by
  have HA := hid (fun w => iAngleP first turns hf ht k (by omega) w)
  have HU := hid (fun w => hU k w hk)
  clear hf ht hU hk hn
  go_enter Tryd.func136, Tryd.ntmps136
  go_wp2_with fail
  refine (HA.out _).mono ?_
  rintro e u ⟨rfl, hb⟩
  have B := hid hb
  clear hb
  go_wp2_with fail
  refine (HU.out _).mono ?_
  rintro e u2 ⟨p, q, rfl, lp, lq, hu, hb⟩
  have X := hid (And.intro lp (And.intro lq (And.intro hu (B.out.trans (hb.mono B.out.size)))))
  clear hb hu lp lq
  go_wp2
  go_ret
  exact ⟨p, q, rfl, X.out⟩

set_option maxRecDepth 100000 in
theorem iUnits (first turns : Nat) (hf : FW first) (ht : FW turns) (n : Nat) (hn : n ≤ 64) (UR : Nat → Nat → Nat → Prop) (hU : ∀ (k : Nat) w1, k < n → Calls Tryd.prog 63 #[.float .f32 (aW first turns k)] w1 fun e w' => ∃ p q, e = .returned (.complex .f32 p q) ∧ p < 4294967296 ∧ q < 4294967296 ∧ UR k p q ∧ Below w1.heap.size w1 w') (w : World) :
    Calls Tryd.prog 79 #[.int .i64 n, .func (.func 80) #[.agg #[.float .f32 first, .float .f32 turns]] #[]] w fun e w' => ∃ C cs y, e = .returned (.slice (some ⟨C, 0, none⟩) n n) ∧ w.heap.size ≤ C ∧ LvV cs n y ∧ (∀ k, k < n → ∃ a b, y k = .complex .f32 a b ∧ a < 4294967296 ∧ b < 4294967296 ∧ UR k a b) ∧ Kept w [(C, cs, 91)] w' := by
  have k0 : Hid (Kept w [(w.heap.size, #[.func (.func 80) #[.agg #[.float .f32 first, .float .f32 turns]] #[]], 110)] (w.alloc (.cells #[.func (.func 80) #[.agg #[.float .f32 first, .float .f32 turns]] #[]] 110))) := hid ((Kept.nil w).push _ _)
  have HS := hid (iSer1 w.heap.size UR w [(w.heap.size, #[.func (.func 80) #[.agg #[.float .f32 first, .float .f32 turns]] #[]], 110)] n hn _ k0.out (fun k w1 hk hK => iU1 first turns hf ht n hn UR hU w.heap.size k hk w1 ((cell_of_row _ w.heap.size 0 _ _ _ (hK.at (x := (w.heap.size, #[.func (.func 80) #[.agg #[.float .f32 first, .float .f32 turns]] #[]], 110)) (by simp))).trans rfl)))
  clear hf ht hU hn
  go_enter Tryd.func79, Tryd.ntmps79
  go_wp2_with fail
  refine HS.out.mono ?_
  rintro e u ⟨C, cs, y, rfl, hC, hL, hE, hK⟩
  have X := hid (show ∃ C' cs y, Ending.returned (.slice (some ⟨C, 0, none⟩) n n) = Ending.returned (.slice (some ⟨C', 0, none⟩) n n) ∧ w.heap.size ≤ C' ∧ LvV cs n y ∧ (∀ k, k < n → ∃ a b, y k = .complex .f32 a b ∧ a < 4294967296 ∧ b < 4294967296 ∧ UR k a b) ∧ Kept w [(C', cs, 91)] u from ⟨C, cs, y, rfl, Nat.le_trans (by simp) hC, hL, hE, hK.sub (by simp)⟩)
  clear hC hL hE hK
  go_wp2
  go_ret
  exact X.out

theorem iP1 (p q st gs : Nat) (w : World) (hc : w.cell? ⟨gs, 0, none⟩ = some (.float .f32 st)) : Calls Tryd.prog 82 #[.complex .f32 p q, .pointer (some ⟨gs, 0, none⟩)] w fun e w' => ∃ a b, e = .returned (.complex .f32 a b) ∧ Mu p st a ∧ Mu q st b ∧ Below w.heap.size w w' := by
  go_enter Tryd.func82, Tryd.ntmps82
  go_wp2_with fail
  refine (iScaled p q st _).mono ?_
  rintro e u ⟨a, b, rfl, ma, mb, hb⟩
  have X := hid (And.intro ma (And.intro mb hb))
  clear ma mb hb
  go_wp2
  go_ret
  exact ⟨a, b, rfl, X.out⟩

set_option maxRecDepth 100000 in
theorem iE1 (n : Nat) (y : Nat → Value) (UR : Nat → Nat → Nat → Prop) (hy : ∀ k, k < n → ∃ a b, y k = .complex .f32 a b ∧ a < 4294967296 ∧ b < 4294967296 ∧ UR k a b) (st gs g h C : Nat) (cs : Array Value) (hL : LvV cs n y) (k : Nat) (hk : k < n) (w : World)
    (hK : Kept w [(gs, #[.float .f32 st], 22), (g, #[.func (.func 82) #[] #[.pointer (some ⟨gs, 0, none⟩)]], 115), (h, #[.slice (some ⟨C, 0, none⟩) n n], 103), (C, cs, 91)] w) :
    Calls Tryd.prog 137 #[.int .i64 k, .pointer (some ⟨g, 0, none⟩), .pointer (some ⟨h, 0, none⟩)] w fun e w' => ∃ a b, e = .returned (.complex .f32 a b) ∧ a < 4294967296 ∧ b < 4294967296 ∧ (∃ p q, UR k p q ∧ Mu p st a ∧ Mu q st b) ∧ Below w.heap.size w w' := by
  obtain ⟨p, q, ey, lp, lq, hu⟩ := hy k hk
  have j1 : ∀ w, (Instr.indexAt 103 (.slice (some ⟨C, 0, none⟩) n n) (.int .i64 (k : Int))).run Tryd.prog w = .ok (.pointer (some ⟨C, k, none⟩)) w := fun w => by have := run_indexAt (P := Tryd.prog) (t := 103) (e := 91) Tryd.underlying103 info_cx (b := C) (o := 0) (n := n) (cap := n) (k := k) hk w; simpa using this
  have R1 := hid (fun wq (hq : Kept w [(gs, #[.float .f32 st], 22), (g, #[.func (.func 82) #[] #[.pointer (some ⟨gs, 0, none⟩)]], 115), (h, #[.slice (some ⟨C, 0, none⟩) n n], 103), (C, cs, 91)] wq) => show wq.cell? ⟨g, 0, none⟩ = some (.func (.func 82) #[] #[.pointer (some ⟨gs, 0, none⟩)]) from (cell_of_row _ g 0 _ _ _ (hq.at (x := (g, #[.func (.func 82) #[] #[.pointer (some ⟨gs, 0, none⟩)]], 115)) (by simp))).trans rfl)
  have R2 := hid (fun wq (hq : Kept w [(gs, #[.float .f32 st], 22), (g, #[.func (.func 82) #[] #[.pointer (some ⟨gs, 0, none⟩)]], 115), (h, #[.slice (some ⟨C, 0, none⟩) n n], 103), (C, cs, 91)] wq) => show wq.cell? ⟨h, 0, none⟩ = some (.slice (some ⟨C, 0, none⟩) n n) from (cell_of_row _ h 0 _ _ _ (hq.at (x := (h, #[.slice (some ⟨C, 0, none⟩) n n], 103)) (by simp))).trans rfl)
  have R3 := hid (fun wq (hq : Kept w [(gs, #[.float .f32 st], 22), (g, #[.func (.func 82) #[] #[.pointer (some ⟨gs, 0, none⟩)]], 115), (h, #[.slice (some ⟨C, 0, none⟩) n n], 103), (C, cs, 91)] wq) => show wq.cell? ⟨C, k, none⟩ = some (.complex .f32 p q) from by rw [hL.cell (hq.at (x := (C, cs, 91)) (by simp)) hk, ey])
  have R4 := hid (fun wq (hq : Kept w [(gs, #[.float .f32 st], 22), (g, #[.func (.func 82) #[] #[.pointer (some ⟨gs, 0, none⟩)]], 115), (h, #[.slice (some ⟨C, 0, none⟩) n n], 103), (C, cs, 91)] wq) => show wq.cell? ⟨gs, 0, none⟩ = some (.float .f32 st) from (cell_of_row _ gs 0 _ _ _ (hq.at (x := (gs, #[.float .f32 st], 22)) (by simp))).trans rfl)
  have HU := hid hu
  have HK := hid hK
  clear hL hy ey lp lq hu hK hk
  go_enter Tryd.func137, Tryd.ntmps137
  go_wp2_with fail
  refine region_kept (w0 := w) (l := [(gs, #[.float .f32 st], 22), (g, #[.func (.func 82) #[] #[.pointer (some ⟨gs, 0, none⟩)]], 115), (h, #[.slice (some ⟨C, 0, none⟩) n n], 103), (C, cs, 91)]) 7 #[false, false, false, false, false, false, false] (by kernel_rfl) rfl rfl ?_
  have kd := HK.out.drew
  generalize World.drew _ = wd at kd ⊢
  refine take_cell 0 _ _ (.func (.func 82) #[] #[.pointer (some ⟨gs, 0, none⟩)]) rfl (by rfl) (by kernel_rfl) (by kernel_rfl) (by kernel_rfl) (fun wq hS => by have hcell : wq.cell? ⟨g, 0, none⟩ = some (.func (.func 82) #[] #[.pointer (some ⟨gs, 0, none⟩)]) := (R1.out wq hS); clear hS; unfold execOp; go_simp) rfl rfl kd ?_
  simp only [Act.put, List.setIfInBounds_toArray, List.set_cons_zero, List.set_cons_succ]
  refine take_cell 1 _ _ (.slice (some ⟨C, 0, none⟩) n n) rfl (by rfl) (by kernel_rfl) (by kernel_rfl) (by kernel_rfl) (fun wq hS => by have hcell : wq.cell? ⟨h, 0, none⟩ = some (.slice (some ⟨C, 0, none⟩) n n) := (R2.out wq hS); clear hS; unfold execOp; go_simp) rfl rfl kd ?_
  simp only [Act.put, List.setIfInBounds_toArray, List.set_cons_zero, List.set_cons_succ]
  refine take_val 2 _ _ (.int .i64 (k : Int)) rfl (by rfl) (by kernel_rfl) (by kernel_rfl) (by kernel_rfl) (fun w => by rfl) rfl rfl kd ?_
  simp only [Act.put, List.setIfInBounds_toArray, List.set_cons_zero, List.set_cons_succ]
  refine take_val 3 _ _ (.pointer (some ⟨C, k, none⟩)) rfl (by rfl) (by kernel_rfl) (by kernel_rfl) (by kernel_rfl) (fun w => run_index_op _ _ rfl rfl (j1 w)) rfl rfl kd ?_
  simp only [Act.put, List.setIfInBounds_toArray, List.set_cons_zero, List.set_cons_succ]
  refine take_cell 4 _ _ (.complex .f32 p q) rfl (by rfl) (by kernel_rfl) (by kernel_rfl) (by kernel_rfl) (fun wq hS => by have hcell : wq.cell? ⟨C, k, none⟩ = some (.complex .f32 p q) := (R3.out wq hS); clear hS; unfold execOp; go_simp) rfl rfl kd ?_
  simp only [Act.put, List.setIfInBounds_toArray, List.set_cons_zero, List.set_cons_succ]
  refine wpAnyH_ready (rs := [5]) (by kernel_rfl) (by simp) ?_
  refine callKQ 5 _ (fun v _ => ∃ a b, v = .complex .f32 a b ∧ Mu p st a ∧ Mu q st b) kd rfl (by rfl) 82 #[.complex .f32 p q, .pointer (some ⟨gs, 0, none⟩)] (fun w => by unfold execOp; go_simp) rfl ?hc1 (fun v w1 hv k1 hbl => ?_) AllReadyH.nil
  case hc1 => exact (iP1 p q st gs wd (R4.out _ kd)).mono fun e w' ⟨a, b, e1, e2, e3, e4⟩ => ⟨_, ⟨a, b, rfl, e2, e3⟩, e1, e4⟩
  obtain ⟨a, b, rfl, ma, mb⟩ := hv
  refine ⟨k1, ?_⟩
  simp only [Act.put, List.setIfInBounds_toArray, List.set_cons_zero, List.set_cons_succ]
  refine take_val 6 _ _ (.complex .f32 a b) rfl (by rfl) (by kernel_rfl) (by kernel_rfl) (by kernel_rfl) (fun w => by rfl) rfl rfl k1 ?_
  simp only [Act.put, List.setIfInBounds_toArray, List.set_cons_zero, List.set_cons_succ]
  refine wpAnyH_done (by kernel_rfl) (NoPanic.normal ?_) _
  have X := hid (show a < 4294967296 ∧ b < 4294967296 ∧ (∃ p q, UR k p q ∧ Mu p st a ∧ Mu q st b) ∧ Below w.heap.size w w1 from ⟨ma.lz, mb.lz, ⟨p, q, HU.out, ma, mb⟩, k1.1⟩)
  clear ma mb k1 hbl kd
  go_wp2
  go_ret
  exact ⟨a, b, rfl, X.out⟩

theorem keptHere {w0 w : World} {l : List (Nat × Array Value × TypeId)} (h : Kept w0 l w) : Kept w l w := ⟨Below.refl _ _, h.2⟩

set_option maxRecDepth 100000 in
theorem iEach (n : Nat) (hn : n ≤ 64) (y : Nat → Value) (UR : Nat → Nat → Nat → Prop) (hy : ∀ k, k < n → ∃ a b, y k = .complex .f32 a b ∧ a < 4294967296 ∧ b < 4294967296 ∧ UR k a b) (st gs C : Nat) (cs : Array Value) (hL : LvV cs n y) (w0 w : World)
    (hK : Kept w0 [(gs, #[.float .f32 st], 22), (C, cs, 91)] w) :
    Calls Tryd.prog 81 #[.slice (some ⟨C, 0, none⟩) n n, .func (.func 82) #[] #[.pointer (some ⟨gs, 0, none⟩)]] w fun e w' => ∃ D cs y, e = .returned (.slice (some ⟨D, 0, none⟩) n n) ∧ w.heap.size ≤ D ∧ LvV cs n y ∧ (∀ k, k < n → ∃ a b, y k = .complex .f32 a b ∧ a < 4294967296 ∧ b < 4294967296 ∧ ∃ p q, UR k p q ∧ Mu p st a ∧ Mu q st b) ∧ Kept w0 [(D, cs, 91)] w' := by
  have k0 : Hid (Kept w0 [(w.heap.size + 1, #[.func (.func 82) #[] #[.pointer (some ⟨gs, 0, none⟩)]], 115), (w.heap.size, #[.slice (some ⟨C, 0, none⟩) n n], 103), (gs, #[.float .f32 st], 22), (C, cs, 91)] ((w.alloc (.cells #[.slice (some ⟨C, 0, none⟩) n n] 103)).alloc (.cells #[.func (.func 82) #[] #[.pointer (some ⟨gs, 0, none⟩)]] 115))) := hid (((hK.push _ _).push _ _).sub (by simp))
  have e0 : ((w.alloc (.cells #[.slice (some ⟨C, 0, none⟩) n n] 103)).alloc (.cells #[.func (.func 82) #[] #[.pointer (some ⟨gs, 0, none⟩)]] 115)).cell? ⟨w.heap.size, 0, none⟩ = some (.slice (some ⟨C, 0, none⟩) n n) := (cell_of_row _ w.heap.size 0 _ _ _ (k0.out.at (x := (w.heap.size, #[.slice (some ⟨C, 0, none⟩) n n], 103)) (by simp))).trans rfl
  have HS := hid (iSer2 (w.heap.size + 1) w.heap.size (fun k a b => ∃ p q, UR k p q ∧ Mu p st a ∧ Mu q st b) w0 _ n hn _ k0.out (fun k w1 hk hK9 => iE1 n y UR hy st gs (w.heap.size + 1) w.heap.size C cs hL k hk w1 (keptHere (hK9.sub (by simp)))))
  clear hL hy hK hn
  go_enter Tryd.func81, Tryd.ntmps81
  go_wp2_with fail
  refine HS.out.mono ?_
  rintro e u ⟨D, cs2, y2, rfl, hD, hL2, hE, hK2⟩
  have X := hid (show ∃ D' cs y, Ending.returned (.slice (some ⟨D, 0, none⟩) n n) = Ending.returned (.slice (some ⟨D', 0, none⟩) n n) ∧ w.heap.size ≤ D' ∧ LvV cs n y ∧ (∀ k, k < n → ∃ a b, y k = .complex .f32 a b ∧ a < 4294967296 ∧ b < 4294967296 ∧ ∃ p q, UR k p q ∧ Mu p st a ∧ Mu q st b) ∧ Kept w0 [(D', cs, 91)] u from ⟨D, cs2, y2, rfl, Nat.le_trans (by simp; omega) hD, hL2, hE, hK2.sub (by simp)⟩)
  clear hD hL2 hE hK2
  go_wp2
  go_ret
  exact X.out

set_option maxRecDepth 100000 in
theorem iResultC_t (s : Value) (n : Nat) (y : Nat → Value) (hx : ∀ k, k < n → CxW (y k)) (hf : ∀ k, k < n → cxB (y k) = true) (w : World) (hs : RdV w s n y) (hn : n ≤ 1048576) :
    Calls Tryd.prog 84 #[s, .func (.func 85) #[] #[]] w fun e w' => e = .returned (.tuple #[s, .int .i64 0]) ∧ Below w.heap.size w w' := by
  have HA := hid (fun w hs => iAllC_t s n y hx hf w hs hn)
  have RS := hid hs
  obtain ⟨p, cap, rfl, _⟩ := hs
  clear hx hf hn
  go_enter Tryd.func84, Tryd.ntmps84
  go_wp2_with fail
  refine (HA.out _ RS.out).mono ?_
  rintro e u ⟨rfl, b⟩
  have B := hid b
  clear b
  go_wp2
  exact bodyPost_ret (results_tmp2 rfl _ _ _) rfl ⟨rfl, B.out⟩

set_option maxRecDepth 100000 in
theorem iResultC_f (A : Nat → Addr) (s : Value) (n : Nat) (y : Nat → Value) (hx : ∀ k, k < n → CxW (y k)) (hf : ¬ ∀ k, k < n → cxB (y k) = true) (w : World) (hs : RdV w s n y) (hn : n ≤ 1048576) (hA : Sent6 w A) :
    Calls Tryd.prog 84 #[s, .func (.func 85) #[] #[]] w fun e w' => e = .returned (.tuple #[.slice none 0 0, .int .i64 4]) ∧ Below w.heap.size w w' := by
  have HA := hid (fun w hs => iAllC_f s n y hx hf w hs hn)
  have RS := hid hs
  have SA := hid hA
  obtain ⟨p, cap, rfl, _⟩ := hs
  clear hx hf hn hA
  go_enter Tryd.func84, Tryd.ntmps84
  go_wp2_with fail
  refine (HA.out _ RS.out).mono ?_
  rintro e u ⟨rfl, b⟩
  have B := hid b
  have S2 := hid (SA.out.stay b)
  have c5 := S2.out.c5
  clear b
  go_wp2_with fail
  refine (code_5 A _ S2.out).mono ?_
  rintro e u2 ⟨rfl, rfl⟩
  go_wp2
  exact bodyPost_ret (results_tmp2 rfl _ _ _) rfl ⟨rfl, B.out⟩

set_option maxRecDepth 100000 in
theorem iMakingP_t (s : Value) (z : Nat → Nat) (hz : ∀ k, k < 2 → z k < 4294967296) (hf : ∀ k, k < 2 → finB (z k) = true) (st : Nat) (hst : amtB st = true) (q : Int) (hq : 1 ≤ q ∧ q ≤ 64) (w : World) (hs : RdV w s 2 (flV z)) :
    Calls Tryd.prog 73 #[.float .f32 st, .int .i64 q, s] w fun e w' => e = .returned .nilIface ∧ Below w.heap.size w w' := by
  have H1 := hid (fun w => isAmount_t st hst w)
  have H2 := hid (fun w => iCount_t q hq w)
  have H3 := hid (fun w hs => iAllN_t s 2 z hz hf w hs (by omega))
  have RS := hid hs
  obtain ⟨p, cap, rfl, _⟩ := hs
  clear hst hq hz hf
  go_enter Tryd.func73, Tryd.ntmps73
  go_wp2_with fail
  refine (H1.out _).mono ?_
  rintro e u ⟨rfl, rfl⟩
  go_wp2_with fail
  refine (H2.out _).mono ?_
  rintro e u ⟨rfl, rfl⟩
  go_wp2_with fail
  refine (H3.out _ RS.out).mono ?_
  rintro e u ⟨rfl, hb⟩
  have B := hid hb
  clear hb
  go_wp2
  go_ret
  exact ⟨rfl, B.out⟩

set_option maxRecDepth 100000 in
theorem iMakingP_a (A : Nat → Addr) (s : Value) (z : Nat → Nat) (hz : ∀ k, k < 2 → z k < 4294967296) (hf : ¬ ∀ k, k < 2 → finB (z k) = true) (st : Nat) (hst : amtB st = true) (q : Int) (hq : 1 ≤ q ∧ q ≤ 64) (w : World) (hs : RdV w s 2 (flV z)) (hA : Sent w A) :
    Calls Tryd.prog 73 #[.float .f32 st, .int .i64 q, s] w fun e w' => e = .returned (.iface 291 (.pointer (some (A 1)))) ∧ Below w.heap.size w w' := by
  have H1 := hid (fun w => isAmount_t st hst w)
  have H2 := hid (fun w => iCount_t q hq w)
  have H3 := hid (fun w hs => iAllN_f s 2 z hz hf w hs (by omega))
  have RS := hid hs
  have SA := hid hA
  obtain ⟨p, cap, rfl, _⟩ := hs
  clear hst hq hz hf hA
  go_enter Tryd.func73, Tryd.ntmps73
  go_wp2_with fail
  refine (H1.out _).mono ?_
  rintro e u ⟨rfl, rfl⟩
  go_wp2_with fail
  refine (H2.out _).mono ?_
  rintro e u ⟨rfl, rfl⟩
  go_wp2_with fail
  refine (H3.out _ RS.out).mono ?_
  rintro e u ⟨rfl, hb⟩
  have B := hid hb
  have c1 := (SA.out.stay hb).c1
  clear hb
  go_wp2
  go_ret
  exact ⟨rfl, B.out⟩

set_option maxRecDepth 100000 in
theorem iMakingP_s (A : Nat → Addr) (p : Option Addr) (n cap st : Nat) (hs : st < 4294967296) (hst : amtB st = false) (q : Int) (w : World) (hA : Sent w A) :
    Calls Tryd.prog 73 #[.float .f32 st, .int .i64 q, .slice p n cap] w fun e w' => e = .returned (.iface 291 (.pointer (some (A 1)))) ∧ Below w.heap.size w w' := by
  have H1 := hid (fun w => isAmount_f st hs hst w)
  have HA := hid hA
  clear hst hs hA
  go_enter Tryd.func73, Tryd.ntmps73
  go_wp2_with fail
  refine (H1.out _).mono ?_
  rintro e u ⟨rfl, hb⟩
  have c1 := (HA.out.stay hb).c1
  have HB := hid hb
  clear hb HA
  go_wp2
  go_ret
  exact ⟨rfl, HB.out⟩

set_option maxRecDepth 100000 in
theorem iMakingP_q (A : Nat → Addr) (p : Option Addr) (n cap st : Nat) (hst : amtB st = true) (q : Int) (hq : ¬ (1 ≤ q ∧ q ≤ 64)) (w : World) (hA : Sent w A) :
    Calls Tryd.prog 73 #[.float .f32 st, .int .i64 q, .slice p n cap] w fun e w' => e = .returned (.iface 291 (.pointer (some (A 1)))) ∧ Below w.heap.size w w' := by
  have H1 := hid (fun w => isAmount_t st hst w)
  have H2 := hid (fun w => iCount_f q hq w)
  have c1 := hA.c1
  clear hst hq hA
  go_enter Tryd.func73, Tryd.ntmps73
  go_wp2_with fail
  refine (H1.out _).mono ?_
  rintro e u ⟨rfl, rfl⟩
  go_wp2_with fail
  refine (H2.out _).mono ?_
  rintro e u ⟨rfl, rfl⟩
  go_wp2
  go_ret
  exact ⟨rfl, Below.refl _ _⟩

/-- The angles of a sweep, as they lie. -/
def twoW (first turns : Nat) (k : Nat) : Nat := if k = 0 then first else turns

theorem twoW_p {p : Nat → Prop} {first turns : Nat} (hf : p first) (ht : p turns) (k : Nat) : p (twoW first turns k) := by
  unfold twoW
  split
  · exact hf
  · exact ht

theorem two_rd {w : World} {B first turns : Nat} {T : TypeId} (h : w.heap[B]? = some (.cells #[.float .f32 first, .float .f32 turns] T (0, 0))) : RdV w (.slice (some ⟨B, 0, none⟩) 2 2) 2 (flV (twoW first turns)) :=
  LvV.rd (cs := #[.float .f32 first, .float .f32 turns]) ⟨by simp, fun k hk => by
    rcases (show k = 0 ∨ k = 1 by omega) with rfl | rfl <;> rfl⟩ h 2

set_option maxRecDepth 100000 in
theorem iPul_bad (A : Nat → Addr) (st first turns : Nat) (q : Int) (w : World) (hA : Sent w A)
    (hM : ∀ w1 B, Below w.heap.size w w1 → w1.heap[B]? = some (.cells #[.float .f32 first, .float .f32 turns] 22 (0, 0)) → Calls Tryd.prog 73 #[.float .f32 st, .int .i64 q, .slice (some ⟨B, 0, none⟩) 2 2] w1 fun e w' => e = .returned (.iface 291 (.pointer (some (A 1)))) ∧ Below w1.heap.size w1 w') :
    Calls Tryd.prog 30 #[.float .f32 st, .float .f32 first, .float .f32 turns, .int .i64 q] w fun e w' => ∃ p k, e = .returned (.tuple #[.slice p 0 k, .int .i64 2]) ∧ Below w.heap.size w w' := by
  have k0 : Hid (Kept w [(w.heap.size + 1, #[.float .f32 first, .float .f32 turns], 22), (w.heap.size, #[.float .f32 st], 22)] ((w.alloc (.cells #[.float .f32 st] 22)).alloc (.cells #[.float .f32 first, .float .f32 turns] 22))) := hid ((((Kept.nil w).push _ _).push _ _).sub (by simp))
  have e0 : (w.alloc (.cells #[.float .f32 st] 22)).cell? ⟨w.heap.size, 0, none⟩ = some (.float .f32 st) := (cell_of_row _ w.heap.size 0 _ _ _ (heap_alloc_new _ _)).trans rfl
  have HM := hid (hM _ (w.heap.size + 1) k0.out.1 (k0.out.at (x := (w.heap.size + 1, #[.float .f32 first, .float .f32 turns], 22)) (by simp)))
  have SA := hid hA
  clear hM hA
  go_enter Tryd.func30, Tryd.ntmps30
  go_wp2_with fail
  refine HM.out.mono ?_
  rintro e u ⟨rfl, hb⟩
  have B := hid (k0.out.stay hb).1
  have S2 := hid (SA.out.stay B.out)
  clear hb
  go_wp2_with fail
  refine (code_1 A _ S2.out).mono ?_
  rintro e u2 ⟨rfl, rfl⟩
  go_wp2
  first | exact ⟨_, _, rfl, B.out⟩ | exact B.out | exact bodyPost_ret (results_tmp2 rfl _ _ _) rfl ⟨_, _, rfl, B.out⟩ | exact bodyPost_ret (results_tmp2 rfl _ _ _) rfl ⟨⟨_, _, rfl⟩, B.out⟩ | exact bodyPost_ret (results_tmp2 rfl _ _ _) rfl B.out

set_option maxRecDepth 100000 in
set_option maxHeartbeats 1000000 in
theorem iPul_any (st first turns : Nat) (hst : amtB st = true) (hf : FW first) (ht : FW turns) (n : Nat) (h1 : 1 ≤ n) (hn : n ≤ 64) (UR : Nat → Nat → Nat → Prop) (hU : ∀ (k : Nat) w1, k < n → Calls Tryd.prog 63 #[.float .f32 (aW first turns k)] w1 fun e w' => ∃ p q, e = .returned (.complex .f32 p q) ∧ p < 4294967296 ∧ q < 4294967296 ∧ UR k p q ∧ Below w1.heap.size w1 w') (w : World) (R : Ending → World → Prop)
    (hR : ∀ y B cs wr, (∀ k, k < n → ∃ a b, y k = .complex .f32 a b ∧ a < 4294967296 ∧ b < 4294967296 ∧ ∃ p q, UR k p q ∧ Mu p st a ∧ Mu q st b) → w.heap.size ≤ B → LvV cs n y → Kept w [(B, cs, 91)] wr → Calls Tryd.prog 84 #[.slice (some ⟨B, 0, none⟩) n n, .func (.func 85) #[] #[]] wr fun e w' => ∃ u v, e = .returned (.tuple #[u, v]) ∧ R (.returned (.tuple #[u, v])) w') :
    Calls Tryd.prog 30 #[.float .f32 st, .float .f32 first, .float .f32 turns, .int .i64 n] w R := by
  have k0 : Hid (Kept w [(w.heap.size + 1, #[.float .f32 first, .float .f32 turns], 22), (w.heap.size, #[.float .f32 st], 22)] ((w.alloc (.cells #[.float .f32 st] 22)).alloc (.cells #[.float .f32 first, .float .f32 turns] 22))) := hid ((((Kept.nil w).push _ _).push _ _).sub (by simp))
  have e0 : (w.alloc (.cells #[.float .f32 st] 22)).cell? ⟨w.heap.size, 0, none⟩ = some (.float .f32 st) := (cell_of_row _ w.heap.size 0 _ _ _ (heap_alloc_new _ _)).trans rfl
  have HM := hid (iMakingP_t _ (twoW first turns) (fun k _ => twoW_p (p := fun z => z < 4294967296) hf.1 ht.1 k) (fun k _ => twoW_p (p := fun z => finB z = true) (finB_iff.2 hf.2) (finB_iff.2 ht.2) k) st hst n (by omega) _ (two_rd (k0.out.at (x := (w.heap.size + 1, #[.float .f32 first, .float .f32 turns], 22)) (by simp))))
  have HU := hid (fun w => iUnits first turns hf ht n hn UR hU w)
  have HR := hid hR
  have HN := hid hn
  clear hst hf ht h1 hn hU hR
  go_enter Tryd.func30, Tryd.ntmps30
  go_wp2_with fail
  refine HM.out.mono ?_
  rintro e u ⟨rfl, hb⟩
  have k1 := hid ((k0.out.stay hb).sub (l' := [(w.heap.size, #[.float .f32 st], 22)]) (by simp))
  clear hb e0
  go_wp2_with fail
  refine (HU.out _).mono ?_
  rintro e u2 ⟨C, cs, y, rfl, hC, hL, hE, hK⟩
  have k2 := hid ((k1.out.join hK).sub (l' := [(w.heap.size, #[.float .f32 st], 22), (C, cs, 91)]) (by simp))
  have HE := hid (iEach n HN.out y UR hE st w.heap.size C cs hL w u2 k2.out)
  have hz : w.heap.size ≤ u2.heap.size := k2.out.1.size
  clear hC hL hE hK
  go_wp2_with fail
  refine HE.out.mono ?_
  rintro e u3 ⟨D, cs2, y2, rfl, hD, hL2, hE2, hK2⟩
  have HRR := hid (HR.out y2 D cs2 u3 hE2 (Nat.le_trans hz hD) hL2 hK2)
  clear hD hL2 hE2 hK2 HE
  go_wp2_with fail
  refine HRR.out.mono ?_
  rintro e u4 ⟨v1, v2, rfl, hr⟩
  have HRF := hid hr
  clear hr
  go_wp2
  first | exact HRF.out | exact bodyPost_ret (results_tmp2 rfl _ _ _) rfl HRF.out

theorem sParts_t (a b : Nat) (ha : a < 4294967296) (hb : b < 4294967296) (hf : (finB a && finB b) = true) (w : World) : Calls Tryd.prog 135 #[.complex .f32 a b] w fun e w' => e = .returned (.bool true) ∧ w = w' := by
  rw [Bool.and_eq_true] at hf
  have H1 := hid (fun w => sFinite_t a ha hf.1 w)
  have H2 := hid (fun w => sFinite_t b hb hf.2 w)
  clear ha hb hf
  go_enter Tryd.func135, Tryd.ntmps135
  go_wp2_with fail
  refine (H1.out _).mono ?_
  rintro e u ⟨rfl, rfl⟩
  go_wp2_with fail
  refine (H2.out _).mono ?_
  rintro e u ⟨rfl, rfl⟩
  go_wp2
  go_ret
  exact ⟨rfl, rfl⟩

theorem sParts_f (a b : Nat) (ha : a < 4294967296) (hb : b < 4294967296) (hf : (finB a && finB b) = false) (w : World) : Calls Tryd.prog 135 #[.complex .f32 a b] w fun e w' => e = .returned (.bool false) ∧ Below w.heap.size w w' := by
  cases h1 : finB a with
  | false =>
    have H1 := hid (fun w => sFinite_f a ha h1 w)
    clear ha hb hf h1
    go_enter Tryd.func135, Tryd.ntmps135
    go_wp2_with fail
    refine (H1.out _).mono ?_
    rintro e u ⟨rfl, hb1⟩
    have B := hid hb1
    clear hb1
    go_wp2
    go_ret
    exact ⟨rfl, B.out⟩
  | true =>
    have H1 := hid (fun w => sFinite_t a ha h1 w)
    have H2 := hid (fun w => sFinite_f b hb (by rw [h1, Bool.true_and] at hf; exact hf) w)
    clear ha hb hf h1
    go_enter Tryd.func135, Tryd.ntmps135
    go_wp2_with fail
    refine (H1.out _).mono ?_
    rintro e u ⟨rfl, rfl⟩
    go_wp2_with fail
    refine (H2.out _).mono ?_
    rintro e u ⟨rfl, hb1⟩
    have B := hid hb1
    clear hb1
    go_wp2
    go_ret
    exact ⟨rfl, B.out⟩

set_option maxRecDepth 100000 in
set_option maxHeartbeats 1000000 in
theorem sTold (s : Value) (n : Nat) (y : Nat → Value) (hx : ∀ k, k < n → CxW (y k)) (w : World) (hs : RdV w s n y) (hn : n ≤ 1048576) (R : Ending → World → Prop)
    (hR1 : (∀ k, k < n → cxB (y k) = true) → ∀ w', Below w.heap.size w w' → R (.returned (.tuple #[s, .int .i64 0])) w')
    (hR2 : (¬ ∀ k, k < n → cxB (y k) = true) → ∀ p k w', Below w.heap.size w w' → R (.returned (.tuple #[.slice p 0 k, .int .i64 4])) w') :
    Calls Tryd.prog 78 #[s] w R := by
  obtain ⟨p, cap, rfl, hc⟩ := hs
  have HC := hid hc
  have HN := hid hn
  have HX := hid hx
  have HR1 := hid hR1
  have HR2 := hid hR2
  clear hc hn hx hR1 hR2
  go_enter Tryd.func78, Tryd.ntmps78
  go_wp2_with fail
  go_loopw [4] (fun i wr => ∃ k : Nat, k ≤ n ∧ i = .int .i64 k ∧ Hid (∀ j, j < k → cxB (y j) = true) ∧ Hid (Below w.heap.size w wr)) (fun i _ => n - (intOf i).toNat)
  case atStart => exact ⟨0, by omega, rfl, hid (fun j h => absurd h (Nat.not_lt_zero _)), hid (Below.refl _ _)⟩
  case round =>
    obtain ⟨k, hk, rfl, hA, h0⟩ := hrel
    by_cases hlt : k < n
    · have HK := hid hlt
      have hn9 := HN.out
      have hk3 : (k : Int) < (n : Int) := by omega
      obtain ⟨b, o, rfl, hcell⟩ := HC.out (by omega)
      obtain ⟨za, zb, ez, la, lb⟩ := HX.out k hlt
      have c0 : wr.cell? ⟨b, o + k, none⟩ = some (.complex .f32 za zb) := by have h9 := hcell k hlt; rw [h0.out.cell (block_lt_of_cell h9), h9, ez]
      have i1 := fun w => run_indexAt (P := Tryd.prog) (t := 38) (e := 91) Tryd.underlying38 info_cx (b := b) (o := o) (n := n) (cap := cap) (k := k) hlt w
      simp only [Nat.mul_one] at i1
      have LA := hid la
      have LB := hid lb
      have EZ := hid ez
      clear hcell la lb ez
      cases hfin : (finB za && finB zb) with
      | true =>
        have FX := hid hfin
        have AN := hid (show ∀ j, j < k + 1 → cxB (y j) = true from fun j hj => by
          by_cases h : j = k
          · subst h; rw [EZ.out]; exact hfin
          · exact hA.out j (by omega))
        clear hfin hA
        go_wp2_with fail
        refine (sParts_t za zb LA.out LB.out FX.out _).mono ?_
        rintro e u ⟨rfl, rfl⟩
        clear c0
        have hw9 : wrap64 ((k : Int) + 1) = (k : Int) + 1 := by unfold wrap64; omega
        go_wp2
        go_roundw
        case rel => exact ⟨k + 1, by have := HK.out; omega, by go_num, AN, h0⟩
        case measure => have := HK.out; simp [intOf]; omega
      | false =>
        have FX := hid hfin
        have NN := hid (show ¬ ∀ j, j < n → cxB (y j) = true from fun h => by have := h k HK.out; rw [EZ.out] at this; rw [show cxB (.complex .f32 za zb) = (finB za && finB zb) from rfl, hfin] at this; cases this)
        clear hfin hA
        go_wp2_with fail
        refine (sParts_f za zb LA.out LB.out FX.out _).mono ?_
        rintro e u ⟨rfl, b2⟩
        have B2 := hid (h0.out.trans (b2.mono h0.out.size))
        have B3 := hid (B2.out.alloc B2.out.size (.cells #[] 91))
        clear b2 c0
        go_wp2
        have HRF := hid (HR2.out NN.out (some ⟨u.heap.size, 0, none⟩) 0 _ B3.out)
        first | exact HRF.out | exact bodyPost_ret (results_tmp2 rfl _ _ _) rfl HRF.out
    · obtain rfl : k = n := by omega
      have hk3 : ¬ (k : Int) < (k : Int) := by omega
      have HRF := hid (HR1.out hA.out wr h0.out)
      go_wp2
      first | exact HRF.out | exact bodyPost_ret (results_tmp2 rfl _ _ _) rfl HRF.out

theorem wdv_upV (y : Nat → Value) (k : Nat) (v : Value) : wdv (upV y k v) k = wdv y k := by
  unfold wdv upV
  refine List.map_congr_left fun i hi => ?_
  rw [if_neg (by have := List.mem_range.1 hi; omega)]

set_option maxRecDepth 100000 in
set_option maxHeartbeats 4000000 in
theorem sPul_any (st first turns : Nat) (hst : amtB st = true) (hf : FW first) (ht : FW turns) (n : Nat) (h1 : 1 ≤ n) (hn : n ≤ 64) (UR : Nat → Nat → Nat → Prop) (hU : ∀ (k : Nat) w1, k < n → Calls Tryd.prog 77 #[.float .f32 (aW first turns k)] w1 fun e w' => ∃ p q, e = .returned (.complex .f32 p q) ∧ p < 4294967296 ∧ q < 4294967296 ∧ UR k p q ∧ Below w1.heap.size w1 w') (w : World) (R : Ending → World → Prop)
    (hR : ∀ y B cs cap wr, (∀ k, k < n → ∃ a b, y k = .complex .f32 a b ∧ a < 4294967296 ∧ b < 4294967296 ∧ ∃ p q, UR k p q ∧ Mu p st a ∧ Mu q st b) → w.heap.size ≤ B → LvV cs n y → Kept w [(B, cs, 91)] wr → Calls Tryd.prog 78 #[.slice (some ⟨B, 0, none⟩) n cap] wr fun e w' => ∃ u v, e = .returned (.tuple #[u, v]) ∧ R (.returned (.tuple #[u, v])) w') :
    Calls Tryd.prog 29 #[.float .f32 st, .float .f32 first, .float .f32 turns, .int .i64 n] w R := by
  have H1 := hid (fun w => sAmount_t st hst w)
  have H2 := hid (fun w => sCount_t n (by omega) w)
  have H3 := hid (fun w => sFinite_t first hf.1 (finB_iff.2 hf.2) w)
  have H4 := hid (fun w => sFinite_t turns ht.1 (finB_iff.2 ht.2) w)
  have HA := hid (fun k (hk : k ≤ 200) => angle_nw (k := k) hf ht hk)
  have HU := hid hU
  have HR := hid hR
  have H0 := hid (show 0 < n by omega)
  have HN := hid hn
  have k0 : Hid (∃ y, (w.alloc (.cells #[] 91)).ownsRow w.heap.size 91 1 (.slice (some ⟨w.heap.size, 0, none⟩) 0 0) 0 (wdv y 0) ∧ ∀ j, j < 0 → ∃ a b, y j = .complex .f32 a b ∧ a < 4294967296 ∧ b < 4294967296 ∧ ∃ p q, UR j p q ∧ Mu p st a ∧ Mu q st b) := hid ⟨fun _ => .nilIface, World.ownsRow_made w #[] 0 (Nat.le_refl _) (by decide) rfl, fun j h => absurd h (Nat.not_lt_zero _)⟩
  have b1 : Hid (Below w.heap.size w (w.alloc (.cells #[] 91))) := hid ((Below.refl w.heap.size w).alloc (Nat.le_refl _) (.cells #[] 91))
  clear hst hf ht h1 hn hU hR
  go_enter Tryd.func29, Tryd.ntmps29
  go_wp2_with fail
  refine (H1.out _).mono ?_
  rintro e u ⟨rfl, rfl⟩
  go_wp2_with fail
  refine (H3.out _).mono ?_
  rintro e u ⟨rfl, rfl⟩
  go_wp2_with fail
  refine (H4.out _).mono ?_
  rintro e u ⟨rfl, rfl⟩
  go_wp2_with fail
  refine (H2.out _).mono ?_
  rintro e u ⟨rfl, rfl⟩
  go_wp2_with fail
  go_loopw [11, 10] (fun i v wr => ∃ k : Nat, k ≤ n ∧ i = .int .i64 k ∧ Hid (∃ y, wr.ownsRow w.heap.size 91 1 v k (wdv y k) ∧ ∀ j, j < k → ∃ a b, y j = .complex .f32 a b ∧ a < 4294967296 ∧ b < 4294967296 ∧ ∃ p q, UR j p q ∧ Mu p st a ∧ Mu q st b) ∧ Hid (Below w.heap.size w wr)) (fun i _ _ => n - (intOf i).toNat)
  case atStart => exact ⟨0, by omega, rfl, k0, b1⟩
  case round =>
    obtain ⟨k, hk, rfl, hO, hB⟩ := hrel
    clear k0 b1
    by_cases hlt : k < n
    · have HK := hid hlt
      have hk3 : (k : Int) < (n : Int) := by omega
      have hn9 := HN.out
      obtain ⟨g1, g2, _⟩ := HA.out k (by omega)
      have m1 := fun w => run_float_arith (P := Tryd.prog) w .mul 22 .f32 _ _ _ g1
      have m2 := fun w => run_float_arith (P := Tryd.prog) w .add 22 .f32 _ _ _ g2
      have cv : ∀ w : World, (convert 2 22 (.int .i64 (k : Int))).run Tryd.prog w = .ok (.float .f32 (wS k)) w := fun w => run_convert_int_float (P := Tryd.prog) w 2 22 .i64 .f32 (k : Int) (by rw [Tryd.underlying2]; rfl) Tryd.underlying22
      obtain ⟨y, hOy, hEy⟩ := hO.out
      have OY := hid hOy
      have EY := hid hEy
      have HUK := hid (fun w => HU.out k w hlt)
      clear g1 g2 hOy hEy hO
      go_wp2_with fail
      refine (HUK.out _).mono ?_
      rintro e w1 ⟨p, q, rfl, lp, lq, hu, hb⟩
      obtain ⟨a, wa, a1, a2, a3, a4, a5⟩ := arith_is (P := Tryd.prog) .mul (.inr (.inr (.inl rfl))) 22 p st w1
      obtain ⟨b, wb, b1, b2, b3, b4, b5⟩ := arith_is (P := Tryd.prog) .mul (.inr (.inr (.inl rfl))) 22 q st wa
      have OW := hid (own_wf (own_wf (own_stayB OY.out hb) a2) b2)
      have BW := hid (below_wf (below_wf (hB.out.trans (hb.mono hB.out.size)) a2) b2)
      have EL := hid (show a < 4294967296 ∧ b < 4294967296 ∧ ∃ p q, UR k p q ∧ Mu p st a ∧ Mu q st b from ⟨a3, b3, p, q, hu, ⟨a4, a5, a3⟩, ⟨b4, b5, b3⟩⟩)
      clear lp lq hu hb a2 a3 a4 a5 b2 b3 b4 b5 OY m1 m2 cv
      have tok2 : True := trivial
      go_wp2_with (have _t := tok2; clear tok2; refine append_one (w0 := w) rfl _ _ 38 rfl 91 Tryd.underlying38 (.complex .f32 0 0) 8 rfl (by omega) infoz_cx u10 k (upV y k (.complex .f32 a b)) rfl (by rw [wdv_upV]; exact OW.out.alloc _) (BW.out.alloc BW.out.size _) (wb.heap.size) (.complex .f32 a b) (by unfold upV; rw [if_pos rfl]) rfl rfl (heap_alloc_new _ _) (by omega) (fun v9 w3 O9 B9 => ?_); replace O9 := hid O9; replace B9 := hid B9)
      have NX := hid (show ∃ y, w3.ownsRow w.heap.size 91 1 v9 (k + 1) (wdv y (k + 1)) ∧ ∀ j, j < k + 1 → ∃ a b, y j = .complex .f32 a b ∧ a < 4294967296 ∧ b < 4294967296 ∧ ∃ p q, UR j p q ∧ Mu p st a ∧ Mu q st b from ⟨_, O9.out, fun j hj => by
        unfold upV
        by_cases h : j = k
        · subst h; rw [if_pos rfl]; exact ⟨a, b, rfl, EL.out⟩
        · rw [if_neg h]; exact EY.out j (by omega)⟩)
      go_roundw
      case rel => exact ⟨k + 1, by have := HK.out; omega, by go_num, NX, B9⟩
      case measure => have := HK.out; simp [intOf]; omega
    · obtain rfl : k = n := by omega
      have hk3 : ¬ (k : Int) < (k : Int) := by omega
      obtain ⟨y, hOy, hEy⟩ := hO.out
      obtain ⟨B, cs, cap, rfl, hB1, L1, K1⟩ := own_keptV H0.out hOy hB.out
      have HRR := hid (HR.out y B cs cap wr hEy hB1 L1 K1)
      clear hB1 L1 K1 hOy hEy hO
      go_wp2_with fail
      refine HRR.out.mono ?_
      rintro e u4 ⟨v1, v2, rfl, hr⟩
      have HRF := hid hr
      clear hr
      go_wp2
      first | exact HRF.out | exact bodyPost_ret (results_tmp2 rfl _ _ _) rfl HRF.out

set_option maxRecDepth 100000 in
theorem sPul_s (st first turns : Nat) (q : Int) (ls : st < 4294967296) (hs : amtB st = false) (w : World) : Calls Tryd.prog 29 #[.float .f32 st, .float .f32 first, .float .f32 turns, .int .i64 q] w fun e w' => ∃ p k, e = .returned (.tuple #[.slice p 0 k, .int .i64 2]) ∧ Below w.heap.size w w' := by
  have H0 := hid (fun w => sAmount_f st ls hs w)
  have B0 := hid (Below.refl w.heap.size w)
  clear ls hs
  go_enter Tryd.func29, Tryd.ntmps29
  go_wp2_with fail
  refine (H0.out _).mono ?_
  rintro e u ⟨rfl, hb⟩
  have B1 := hid (B0.out.trans (hb.mono B0.out.size))
  clear hb
  have HB := hid (B1.out.alloc B1.out.size (.cells #[] 91))
  go_wp2
  first | exact ⟨_, _, rfl, HB.out⟩ | exact HB.out | exact bodyPost_ret (results_tmp2 rfl _ _ _) rfl ⟨_, _, rfl, HB.out⟩ | exact bodyPost_ret (results_tmp2 rfl _ _ _) rfl ⟨⟨_, _, rfl⟩, HB.out⟩ | exact bodyPost_ret (results_tmp2 rfl _ _ _) rfl HB.out

set_option maxRecDepth 100000 in
theorem sPul_1 (st first turns : Nat) (q : Int) (hs : amtB st = true) (l1 : first < 4294967296) (f1 : finB first = false) (w : World) : Calls Tryd.prog 29 #[.float .f32 st, .float .f32 first, .float .f32 turns, .int .i64 q] w fun e w' => ∃ p k, e = .returned (.tuple #[.slice p 0 k, .int .i64 2]) ∧ Below w.heap.size w w' := by
  have H0 := hid (fun w => sAmount_t st hs w)
  have H1 := hid (fun w => sFinite_f first l1 f1 w)
  have B0 := hid (Below.refl w.heap.size w)
  clear hs l1 f1
  go_enter Tryd.func29, Tryd.ntmps29
  go_wp2_with fail
  refine (H0.out _).mono ?_
  rintro e u ⟨rfl, rfl⟩
  go_wp2_with fail
  refine (H1.out _).mono ?_
  rintro e u ⟨rfl, hb⟩
  have B1 := hid (B0.out.trans (hb.mono B0.out.size))
  clear hb
  have HB := hid (B1.out.alloc B1.out.size (.cells #[] 91))
  go_wp2
  first | exact ⟨_, _, rfl, HB.out⟩ | exact HB.out | exact bodyPost_ret (results_tmp2 rfl _ _ _) rfl ⟨_, _, rfl, HB.out⟩ | exact bodyPost_ret (results_tmp2 rfl _ _ _) rfl ⟨⟨_, _, rfl⟩, HB.out⟩ | exact bodyPost_ret (results_tmp2 rfl _ _ _) rfl HB.out

set_option maxRecDepth 100000 in
theorem sPul_2 (st first turns : Nat) (q : Int) (hs : amtB st = true) (l1 : first < 4294967296) (f1 : finB first = true) (l2 : turns < 4294967296) (f2 : finB turns = false) (w : World) : Calls Tryd.prog 29 #[.float .f32 st, .float .f32 first, .float .f32 turns, .int .i64 q] w fun e w' => ∃ p k, e = .returned (.tuple #[.slice p 0 k, .int .i64 2]) ∧ Below w.heap.size w w' := by
  have H0 := hid (fun w => sAmount_t st hs w)
  have H1 := hid (fun w => sFinite_t first l1 f1 w)
  have H2 := hid (fun w => sFinite_f turns l2 f2 w)
  have B0 := hid (Below.refl w.heap.size w)
  clear hs l1 f1 l2 f2
  go_enter Tryd.func29, Tryd.ntmps29
  go_wp2_with fail
  refine (H0.out _).mono ?_
  rintro e u ⟨rfl, rfl⟩
  go_wp2_with fail
  refine (H1.out _).mono ?_
  rintro e u ⟨rfl, rfl⟩
  go_wp2_with fail
  refine (H2.out _).mono ?_
  rintro e u ⟨rfl, hb⟩
  have B1 := hid (B0.out.trans (hb.mono B0.out.size))
  clear hb
  have HB := hid (B1.out.alloc B1.out.size (.cells #[] 91))
  go_wp2
  first | exact ⟨_, _, rfl, HB.out⟩ | exact HB.out | exact bodyPost_ret (results_tmp2 rfl _ _ _) rfl ⟨_, _, rfl, HB.out⟩ | exact bodyPost_ret (results_tmp2 rfl _ _ _) rfl ⟨⟨_, _, rfl⟩, HB.out⟩ | exact bodyPost_ret (results_tmp2 rfl _ _ _) rfl HB.out

set_option maxRecDepth 100000 in
theorem sPul_q (st first turns : Nat) (q : Int) (hs : amtB st = true) (l1 : first < 4294967296) (f1 : finB first = true) (l2 : turns < 4294967296) (f2 : finB turns = true) (hq : ¬ (1 ≤ q ∧ q ≤ 64)) (w : World) : Calls Tryd.prog 29 #[.float .f32 st, .float .f32 first, .float .f32 turns, .int .i64 q] w fun e w' => ∃ p k, e = .returned (.tuple #[.slice p 0 k, .int .i64 2]) ∧ Below w.heap.size w w' := by
  have H0 := hid (fun w => sAmount_t st hs w)
  have H1 := hid (fun w => sFinite_t first l1 f1 w)
  have H2 := hid (fun w => sFinite_t turns l2 f2 w)
  have H3 := hid (fun w => sCount_f q hq w)
  have B0 := hid (Below.refl w.heap.size w)
  clear hs l1 f1 l2 f2 hq
  go_enter Tryd.func29, Tryd.ntmps29
  go_wp2_with fail
  refine (H0.out _).mono ?_
  rintro e u ⟨rfl, rfl⟩
  go_wp2_with fail
  refine (H1.out _).mono ?_
  rintro e u ⟨rfl, rfl⟩
  go_wp2_with fail
  refine (H2.out _).mono ?_
  rintro e u ⟨rfl, rfl⟩
  go_wp2_with fail
  refine (H3.out _).mono ?_
  rintro e u ⟨rfl, rfl⟩
  have HB := hid (B0.out.alloc B0.out.size (.cells #[] 91))
  go_wp2
  first | exact ⟨_, _, rfl, HB.out⟩ | exact HB.out | exact bodyPost_ret (results_tmp2 rfl _ _ _) rfl ⟨_, _, rfl, HB.out⟩ | exact bodyPost_ret (results_tmp2 rfl _ _ _) rfl ⟨⟨_, _, rfl⟩, HB.out⟩ | exact bodyPost_ret (results_tmp2 rfl _ _ _) rfl HB.out

theorem words_cons : ∀ (v : List Char) (r : List Char), (∀ c ∈ v, c ≠ Char.ofNat 32) → wordsSigns (v ++ Char.ofNat 32 :: r) = v :: wordsSigns r
  | [], r, _ => rfl
  | c :: v, r, h => by
    have ih := words_cons v r (fun x hx => h x (by simp [hx]))
    have hc : c ≠ Char.ofNat 32 := h c (by simp)
    show wordsSigns (c :: (v ++ Char.ofNat 32 :: r)) = _
    rw [wordsSigns.eq_3 _ _ (fun e => hc e), ih]

def w0 : List Nat := [104, 97, 114, 110, 101, 115, 115]

def w1 : List Nat := [54, 55, 54, 48, 57, 49, 98, 54, 50, 51, 48, 54, 102, 51, 102, 102, 57, 52, 48, 49, 101, 52, 54, 56, 56, 98, 52, 53, 52, 100, 48, 49, 52, 54, 53, 57, 51, 99, 48, 50, 48, 101, 98, 101, 98, 54, 52, 50, 100, 56, 102, 100, 97, 51, 49, 101, 100, 97, 48, 54, 51, 98, 51, 53]

def w2 : List Nat := [99, 117, 116]

def w3 : List Nat := [97, 116, 32, 108, 111, 111, 112, 46, 101, 120, 97, 109, 112, 108, 101, 47, 103, 48, 49, 50, 50, 52, 47, 108, 97, 119, 115, 46, 70, 110, 69, 120, 97, 99, 116, 83, 112, 111, 116, 79, 102, 32, 108, 111, 111, 112, 46, 101, 120, 97, 109, 112, 108, 101, 47, 103, 48, 49, 50, 50, 52, 47, 108, 97, 119, 115, 46, 70, 110, 69, 120, 97, 99, 116, 85, 110, 102, 111, 108, 100, 83, 112, 101, 101, 100, 115, 32, 108, 111, 111, 112, 46, 101, 120, 97, 109, 112, 108, 101, 47, 103, 48, 49, 50, 50, 52, 47, 108, 97, 119, 115, 46, 70, 110, 69, 120, 97, 99, 116, 78, 111, 105, 115, 101, 80, 117, 108, 115, 101, 115, 32, 108, 111, 111, 112, 46, 101, 120, 97, 109, 112, 108, 101, 47, 103, 48, 49, 50, 50, 52, 47, 108, 97, 119, 115, 46, 70, 110, 69, 120, 97, 99, 116, 80, 117, 108, 115, 101, 115, 79, 102, 32, 108, 111, 111, 112, 46, 101, 120, 97, 109, 112, 108, 101, 47, 103, 48, 49, 50, 50, 52, 47, 108, 97, 119, 115, 46, 70, 110, 69, 120, 97, 99, 116, 65, 100, 100, 66, 101, 97, 109, 32, 108, 111, 111, 112, 46, 101, 120, 97, 109, 112, 108, 101, 47, 103, 48, 49, 50, 50, 52, 47, 108, 97, 119, 115, 46, 70, 110, 69, 120, 97, 99, 116, 68, 101, 101, 100, 84, 101, 120, 116, 32, 108, 111, 111, 112, 46, 101, 120, 97, 109, 112, 108, 101, 47, 103, 48, 49, 50, 50, 52, 47, 108, 97, 119, 115, 46, 70, 110, 69, 120, 97, 99, 116, 82, 101, 97, 100, 68, 101, 101, 100, 32, 108, 111, 111, 112, 46, 101, 120, 97, 109, 112, 108, 101, 47, 103, 48, 49, 50, 50, 52, 47, 108, 97, 119, 115, 46, 70, 110, 69, 120, 97, 99, 116, 65, 99, 116, 84, 101, 120, 116, 32, 108, 111, 111, 112, 46, 101, 120, 97, 109, 112, 108, 101, 47, 103, 48, 49, 50, 50, 52, 47, 108, 97, 119, 115, 46, 70, 110, 69, 120, 97, 99, 116, 78, 117, 109, 98, 101, 114, 84, 101, 120, 116, 32, 108, 111, 111, 112, 46, 101, 120, 97, 109, 112, 108, 101, 47, 103, 48, 49, 50, 50, 52, 47, 108, 97, 119, 115, 46, 70, 110, 69, 120, 97, 99, 116, 82, 101, 97, 100, 78, 117, 109, 98, 101, 114, 32, 108, 111, 111, 112, 46, 101, 120, 97, 109, 112, 108, 101, 47, 103, 48, 49, 50, 50, 52, 47, 108, 97, 119, 115, 46, 70, 110, 69, 120, 97, 99, 116, 83, 105, 122, 101, 115, 84, 101, 120, 116, 32, 108, 111, 111, 112, 46, 101, 120, 97, 109, 112, 108, 101, 47, 103, 48, 49, 50, 50, 52, 47, 108, 97, 119, 115, 46, 70, 110, 69, 120, 97, 99, 116, 82, 101, 97, 100, 83, 105, 122, 101, 115]

def letters (l : List Nat) : List Char := l.map Char.ofNat

theorem head_reads : Tryd.prog.initOrder = String.ofList (letters w0 ++ Char.ofNat 32 :: (letters w1 ++ Char.ofNat 32 :: (letters w2 ++ Char.ofNat 32 :: letters w3))) := by kernel_rfl

theorem no_blank {l : List Nat} (h : l.all (fun n => Char.ofNat n != Char.ofNat 32) = true) : ∀ c ∈ letters l, c ≠ Char.ofNat 32 := by
  intro c hc
  obtain ⟨n, hn, rfl⟩ := List.mem_map.1 hc
  have := List.all_eq_true.1 h n hn
  simpa using this

theorem h0 : letters w0 = "harness".toList := by kernel_rfl

theorem h2 : letters w2 = "cut".toList := by kernel_rfl

theorem sums : isSumSigns (letters w1) = true := by kernel_rfl

theorem words : wordsSigns Tryd.prog.initOrder.toList = "harness".toList :: letters w1 :: "cut".toList :: wordsSigns (letters w3) := by
  rw [head_reads, String.toList_ofList, words_cons _ _ (no_blank (by decide +kernel)), words_cons _ _ (no_blank (by decide +kernel)), words_cons _ _ (no_blank (by decide +kernel)), h0, h2]

theorem behind : ∃ r, behindMainWord (wordsSigns Tryd.prog.initOrder.toList) = "cut".toList :: r := by
  refine ⟨wordsSigns (letters w3), ?_⟩
  rw [words]
  generalize wordsSigns (letters w3) = r
  have hs := sums
  generalize letters w1 = v at hs
  unfold behindMainWord
  simp [hs]

theorem not_later : Tryd.prog.laysLater = false := by kernel_rfl

theorem no_reflect : Tryd.prog.bearsReflect = false := by kernel_rfl

theorem no_doors : Tryd.prog.doorFits [] = true := by kernel_rfl

theorem strips (r : List (List Char)) : stripLifts liftWords ("cut".toList :: r) = ([], "cut".toList :: r) := by kernel_rfl

theorem may_enter_of (P : Program) (r : List (List Char)) (h : behindMainWord (wordsSigns P.initOrder.toList) = "cut".toList :: r) (h1 : P.laysLater = false) (h2 : P.bearsReflect = false) (h3 : P.doorFits [] = true) : P.mayEnter = true := by
  unfold Program.mayEnter
  rw [h]
  dsimp only
  rw [strips, h1, h2, h3]
  kernel_rfl

theorem lifts_final_of (P : Program) (r : List (List Char)) (h : behindMainWord (wordsSigns P.initOrder.toList) = "cut".toList :: r) : P.liftsFinal = false := by
  unfold Program.liftsFinal Program.headLifts
  rw [h]
  dsimp only
  rw [strips]
  kernel_rfl

theorem made_of (P : Program) (r : List (List Char)) (h : behindMainWord (wordsSigns P.initOrder.toList) = "cut".toList :: r) : P.make = some .cut := by
  unfold Program.make
  rw [h]
  kernel_rfl

theorem may_enter : Tryd.prog.mayEnter = true := let ⟨r, h⟩ := behind; may_enter_of _ r h not_later no_reflect no_doors

theorem lifts_final : Tryd.prog.liftsFinal = false := let ⟨r, h⟩ := behind; lifts_final_of _ r h

theorem made : Tryd.prog.make = some .cut := let ⟨r, h⟩ := behind; made_of _ r h

theorem laid : laidOutB Tryd.prog = true := by kernel_rfl

theorem rowed : mapsRowed Tryd.prog = true := by kernel_rfl

theorem no_stops : Tryd.prog.stops = [] := by kernel_rfl

theorem no_knobs : Tryd.prog.stopKnobs = [] := by kernel_rfl

theorem plain_keys : Tryd.prog.plainKeys = false := by kernel_rfl

theorem stops_heard : Tryd.prog.stopsHeard = true := by kernel_rfl

theorem own : ownKnob Tryd.prog.godebug = none := by kernel_rfl

theorem rdf : Tryd.prog.readableRec 22 = true ∧ 22 < Tryd.prog.types.size := ⟨by kernel_rfl, of_decide_eq_true (by kernel_rfl)⟩

theorem arr4 {α : Type} {cs : Array α} (h : cs.size = 4) : ∃ c0 c1 c2 c3, cs = #[c0, c1, c2, c3] := by
  obtain ⟨l⟩ := cs
  match l, h with
  | [a, b, c, d], _ => exact ⟨a, b, c, d, rfl⟩

theorem rdi : Tryd.prog.readableRec 2 = true ∧ 2 < Tryd.prog.types.size := ⟨by kernel_rfl, of_decide_eq_true (by kernel_rfl)⟩

set_option maxRecDepth 100000 in
set_option maxHeartbeats 4000000 in
theorem corePulsesOfOk (st first turns : Nat) (q : Int) (n : Nat) (hn : n ≤ 64) (y : Nat → Value) (hy : ∀ k, k < n → CxFin (y k)) (w : World)
    (hS : ∀ w, Calls Tryd.prog 29 #[.float .f32 st, .float .f32 first, .float .f32 turns, .int .i64 q] w fun e w' => ∃ v, e = .returned (.tuple #[v, .int .i64 0]) ∧ MadeC n y w v w')
    (hI : ∀ w1, Below w.heap.size w w1 → Calls Tryd.prog 30 #[.float .f32 st, .float .f32 first, .float .f32 turns, .int .i64 q] w1 fun e w' => ∃ v, e = .returned (.tuple #[v, .int .i64 0]) ∧ MadeC n y w1 v w') :
    Calls Tryd.prog 6 #[.float .f32 st, .float .f32 first, .float .f32 turns, .int .i64 q] w fun e w' => e = .returned (.bool true) ∧ Below w.heap.size w w' := by
  have HS := hid hS
  have HI := hid hI
  have k0 : Hid (Kept w [] w) := hid (Kept.nil w)
  have HN := hid (show n ≤ 1048576 by omega)
  have HM := hid hn
  have HY := hid hy
  have hneg1 : ¬ (1 + (n : Int) < 0) := by omega
  clear hn hy
  clear hS hI
  go_enter Tryd.func6, Tryd.ntmps6
  go_wp2_with fail
  refine (HS.out _).mono ?_
  rintro e u1 ⟨_, rfl, D, csD, capD, rfl, hBD, LD, KD⟩
  have hwD := Nat.le_trans k0.out.size hBD
  have k1 : Hid (Kept w [(D, csD, 91)] u1) := hid (k0.out.join KD)
  have vD := hid LD
  clear KD LD hBD
  go_wp2_with fail
  refine (HI.out _ k1.out.1).mono ?_
  rintro e u2 ⟨_, rfl, G, csG, capG, rfl, hBG, LG, KG⟩
  have h0G : D < G := Nat.lt_of_lt_of_le (k1.out.lt (x := (D, csD, 91)) (by simp)) hBG
  have hwG := Nat.le_trans k1.out.size hBG
  have k2 : Hid (Kept w [(G, csG, 91), (D, csD, 91)] u2) := hid (k1.out.join KG)
  have vG := hid LG
  clear KG LG hBG
  go_wp2_with fail
  refine (eqCxs _ _ n y HY.out _ (Kept.rdV (T := 91) k2.out vG.out (by simp) capG) (Kept.rdV (T := 91) k2.out vD.out (by simp) capD) HN.out).mono ?_
  rintro e u3 ⟨rfl, hb3⟩
  have k3 : Hid (Kept w [(G, csG, 91), (D, csD, 91)] u3) := hid (k2.out.stay hb3)
  clear hb3
  go_wp2_with fail
  refine (markCxs w _ G n capG csG _ _ k3.out hwG (by intro z hz; simp at hz; rcases hz with rfl; simp; omega) vG.out HM.out).mono ?_
  rintro e u4 ⟨rfl, csM, wM, kk⟩
  have k4 : Hid (Kept w [(G, csM, 91), (D, csD, 91)] u4) := hid kk
  replace vG := hid wM
  clear kk wM
  go_wp2_with fail
  refine (heldCxs _ n _ (Kept.rdV (T := 91) k4.out vG.out (by simp) capG) HM.out).mono ?_
  rintro e z2 ⟨rfl, rfl⟩
  go_wp2_with fail
  refine (HI.out _ k4.out.1).mono ?_
  rintro e u5 ⟨_, rfl, H, csH, capH, rfl, hBH, LH, KH⟩
  have h0H : G < H := Nat.lt_of_lt_of_le (k4.out.lt (x := (G, csM, 91)) (by simp)) hBH
  have h1H : D < H := Nat.lt_of_lt_of_le (k4.out.lt (x := (D, csD, 91)) (by simp)) hBH
  have hwH := Nat.le_trans k4.out.size hBH
  have k5 : Hid (Kept w [(H, csH, 91), (G, csM, 91), (D, csD, 91)] u5) := hid (k4.out.join KH)
  have vH := hid LH
  clear KH LH hBH
  go_wp2_with fail
  refine (eqCxs _ _ n y HY.out _ (Kept.rdV (T := 91) k5.out vH.out (by simp) capH) (Kept.rdV (T := 91) k5.out vD.out (by simp) capD) HN.out).mono ?_
  rintro e u6 ⟨rfl, hb6⟩
  have k6 : Hid (Kept w [(H, csH, 91), (G, csM, 91), (D, csD, 91)] u6) := hid (k5.out.stay hb6)
  clear hb6
  go_wp2_with fail
  refine (heldCxs _ n _ (Kept.rdV (T := 91) k6.out vG.out (by simp) capG) HM.out).mono ?_
  rintro e z2 ⟨rfl, rfl⟩
  go_wp2
  go_ret
  exact ⟨rfl, k6.out.1⟩

set_option maxRecDepth 100000 in
set_option maxHeartbeats 4000000 in
theorem corePulsesOfErr (st first turns : Nat) (q : Int) (c : Int) (w : World)
    (hS : ∀ w, Calls Tryd.prog 29 #[.float .f32 st, .float .f32 first, .float .f32 turns, .int .i64 q] w fun e w' => ∃ p k, e = .returned (.tuple #[.slice p 0 k, .int .i64 c]) ∧ Below w.heap.size w w')
    (hI : ∀ w1, Below w.heap.size w w1 → Calls Tryd.prog 30 #[.float .f32 st, .float .f32 first, .float .f32 turns, .int .i64 q] w1 fun e w' => ∃ p k, e = .returned (.tuple #[.slice p 0 k, .int .i64 c]) ∧ Below w1.heap.size w1 w') :
    Calls Tryd.prog 6 #[.float .f32 st, .float .f32 first, .float .f32 turns, .int .i64 q] w fun e w' => e = .returned (.bool true) ∧ Below w.heap.size w w' := by
  have HS := hid hS
  have HI := hid hI
  have k0 : Hid (Kept w [] w) := hid (Kept.nil w)
  clear hS hI
  go_enter Tryd.func6, Tryd.ntmps6
  go_wp2_with fail
  refine (HS.out _).mono ?_
  rintro e u1 ⟨p0, p0c, rfl, hb1⟩
  have k1 : Hid (Kept w [] u1) := hid (k0.out.stay hb1)
  clear hb1
  go_wp2_with fail
  refine (HI.out _ k1.out.1).mono ?_
  rintro e u2 ⟨p1, p1c, rfl, hb2⟩
  have k2 : Hid (Kept w [] u2) := hid (k1.out.stay hb2)
  clear hb2
  go_wp2_with fail
  refine (eqCxs _ _ 0 (fun _ => .nilIface) (fun _ h => absurd h (Nat.not_lt_zero _)) _ (RdV.zero _ _ _ _) (RdV.zero _ _ _ _) (by omega)).mono ?_
  rintro e u3 ⟨rfl, hb3⟩
  have k3 : Hid (Kept w [] u3) := hid (k2.out.stay hb3)
  clear hb3
  go_wp2_with fail
  refine (mark0C _ _ _).mono ?_
  rintro e z1 ⟨rfl, rfl⟩
  go_wp2_with fail
  refine (held0C _ _ _).mono ?_
  rintro e z2 ⟨rfl, rfl⟩
  go_wp2_with fail
  refine (HI.out _ k3.out.1).mono ?_
  rintro e u4 ⟨p2, p2c, rfl, hb4⟩
  have k4 : Hid (Kept w [] u4) := hid (k3.out.stay hb4)
  clear hb4
  go_wp2_with fail
  refine (eqCxs _ _ 0 (fun _ => .nilIface) (fun _ h => absurd h (Nat.not_lt_zero _)) _ (RdV.zero _ _ _ _) (RdV.zero _ _ _ _) (by omega)).mono ?_
  rintro e u5 ⟨rfl, hb5⟩
  have k5 : Hid (Kept w [] u5) := hid (k4.out.stay hb5)
  clear hb5
  go_wp2_with fail
  refine (held0C _ _ _).mono ?_
  rintro e z2 ⟨rfl, rfl⟩
  go_wp2
  go_ret
  exact ⟨rfl, k5.out.1⟩

/-- What both sides say of a unit: its parts, or no numbers. -/
def URp (F : Nat → Nat × Nat) (first turns : Nat) (k p q : Nat) : Prop := (finB (aW first turns k) = true → p = (F k).1 ∧ q = (F k).2) ∧ (finB (aW first turns k) = false → INF < mg p ∧ INF < mg q)

theorem unit_pair (x : Nat) (hx : x < 4294967296) : ∃ pq : Nat × Nat, FW pq.1 ∧ FW pq.2 ∧ (finB x = true → (∀ w, Calls Tryd.prog 63 #[.float .f32 x] w fun e w' => e = .returned (.complex .f32 pq.1 pq.2) ∧ w = w') ∧ ∀ w, Calls Tryd.prog 77 #[.float .f32 x] w fun e w' => e = .returned (.complex .f32 pq.1 pq.2) ∧ w = w') := by
  cases hf : finB x with
  | false => exact ⟨(0, 0), ⟨by decide, by decide⟩, ⟨by decide, by decide⟩, fun h => by cases h⟩
  | true =>
    obtain ⟨s, m, n, g, X, y, a, b, p, U⟩ := unit_f hx hf
    exact ⟨(a, b), ⟨U.la.1, finB_iff.1 U.la.2⟩, ⟨U.lb.1, finB_iff.1 U.lb.2⟩, fun _ => ⟨fun w => iUnit_fin x hx hf U w, fun w => sUnit_fin x hx hf U w⟩⟩

theorem nan_cx {p st a b : Nat} (h : Mu p st a) (hp : INF < mg p) : cxB (.complex .f32 a b) = false := by
  show (finB a && finB b) = false
  rw [nan_nfin (h.nan hp)]; rfl

theorem lawPulsesOf (A : Nat → Addr) (st first turns : Nat) (ls : st < 4294967296) (l1 : first < 4294967296) (l2 : turns < 4294967296) (q : Int) {w : World} (hA : Sent6 w A) :
    Calls Tryd.prog 6 #[.float .f32 st, .float .f32 first, .float .f32 turns, .int .i64 q] w fun e w' => e = .returned (.bool true) ∧ Below w.heap.size w w' := by
  rcases hs : amtB st with _ | _
  · exact corePulsesOfErr st first turns q 2 w (sPul_s st first turns q ls hs) fun w1 b => iPul_bad A st first turns q w1 (hA.s5.stay b) fun w2 B b2 _ => iMakingP_s A _ 2 2 st ls hs q w2 ((hA.s5.stay b).stay b2)
  · have bad : (¬ ∀ k, k < 2 → finB (twoW first turns k) = true) → ∀ w1, Below w.heap.size w w1 → Calls Tryd.prog 30 #[.float .f32 st, .float .f32 first, .float .f32 turns, .int .i64 q] w1 fun e w' => ∃ p k, e = .returned (.tuple #[.slice p 0 k, .int .i64 2]) ∧ Below w1.heap.size w1 w' := fun hf w1 b => by
      by_cases hq : 1 ≤ q ∧ q ≤ 64
      · exact iPul_bad A st first turns q w1 (hA.s5.stay b) fun w2 B b2 hB => iMakingP_a A _ (twoW first turns) (fun k _ => twoW_p (p := fun z => z < 4294967296) l1 l2 k) hf st hs q hq w2 (two_rd hB) ((hA.s5.stay b).stay b2)
      · exact iPul_bad A st first turns q w1 (hA.s5.stay b) fun w2 B b2 _ => iMakingP_q A _ 2 2 st hs q hq w2 ((hA.s5.stay b).stay b2)
    rcases h1 : finB first with _ | _
    · exact corePulsesOfErr st first turns q 2 w (sPul_1 st first turns q hs l1 h1) (bad fun h => by have := h 0 (by omega); rw [show twoW first turns 0 = first from rfl, h1] at this; cases this)
    · rcases h2 : finB turns with _ | _
      · exact corePulsesOfErr st first turns q 2 w (sPul_2 st first turns q hs l1 h1 l2 h2) (bad fun h => by have := h 1 (by omega); rw [show twoW first turns 1 = turns from rfl, h2] at this; cases this)
      · by_cases hq : 1 ≤ q ∧ q ≤ 64
        · obtain ⟨n, rfl⟩ := Int.eq_ofNat_of_zero_le (show 0 ≤ q by omega)
          have hn : n ≤ 64 := by omega
          have hn1 : 1 ≤ n := by omega
          have F1 : FW first := ⟨l1, finB_iff.1 h1⟩
          have F2 : FW turns := ⟨l2, finB_iff.1 h2⟩
          have FS : FW st := fw_amt hs
          obtain ⟨F, hF⟩ := Classical.axiomOfChoice (fun k : Nat => show ∃ pq : Nat × Nat, k < n → FW pq.1 ∧ FW pq.2 ∧ (finB (aW first turns k) = true → (∀ w, Calls Tryd.prog 63 #[.float .f32 (aW first turns k)] w fun e w' => e = .returned (.complex .f32 pq.1 pq.2) ∧ w = w') ∧ ∀ w, Calls Tryd.prog 77 #[.float .f32 (aW first turns k)] w fun e w' => e = .returned (.complex .f32 pq.1 pq.2) ∧ w = w') from by
            by_cases hk : k < n
            · obtain ⟨pq, h⟩ := unit_pair (aW first turns k) (angle_nw F1 F2 (show k ≤ 200 by omega)).2.2.1
              exact ⟨pq, fun _ => h⟩
            · exact ⟨(0, 0), fun h => absurd h hk⟩)
          have hUI : ∀ (k : Nat) w1, k < n → Calls Tryd.prog 63 #[.float .f32 (aW first turns k)] w1 fun e w' => ∃ p q, e = .returned (.complex .f32 p q) ∧ p < 4294967296 ∧ q < 4294967296 ∧ URp F first turns k p q ∧ Below w1.heap.size w1 w' := fun k w1 hk => by
            obtain ⟨f1, f2, hc⟩ := hF k hk
            cases hfa : finB (aW first turns k) with
            | true => exact ((hc hfa).1 w1).mono fun e w' ⟨e1, e2⟩ => ⟨_, _, e1, f1.1, f2.1, ⟨fun _ => ⟨rfl, rfl⟩, fun h => by rw [hfa] at h; cases h⟩, e2 ▸ Below.refl _ _⟩
            | false => exact (iUnit_nan _ (angle_nw F1 F2 (show k ≤ 200 by omega)).2.2.1 hfa w1).mono fun e w' ⟨⟨z, e1, z1, z2⟩, hb⟩ => ⟨z, z, e1, z2, z2, ⟨(fun h => by rw [hfa] at h; cases h), fun _ => ⟨z1, z1⟩⟩, hb⟩
          have hUS : ∀ (k : Nat) w1, k < n → Calls Tryd.prog 77 #[.float .f32 (aW first turns k)] w1 fun e w' => ∃ p q, e = .returned (.complex .f32 p q) ∧ p < 4294967296 ∧ q < 4294967296 ∧ URp F first turns k p q ∧ Below w1.heap.size w1 w' := fun k w1 hk => by
            obtain ⟨f1, f2, hc⟩ := hF k hk
            cases hfa : finB (aW first turns k) with
            | true => exact ((hc hfa).2 w1).mono fun e w' ⟨e1, e2⟩ => ⟨_, _, e1, f1.1, f2.1, ⟨fun _ => ⟨rfl, rfl⟩, fun h => by rw [hfa] at h; cases h⟩, e2 ▸ Below.refl _ _⟩
            | false => exact (sUnit_nan _ (angle_nw F1 F2 (show k ≤ 200 by omega)).2.2.1 hfa w1).mono fun e w' ⟨⟨z, e1, z1, z2⟩, hb⟩ => ⟨z, z, e1, z2, z2, ⟨(fun h => by rw [hfa] at h; cases h), fun _ => ⟨z1, z1⟩⟩, hb⟩
          have isY : ∀ k v, k < n → finB (aW first turns k) = true → (∃ a b, v = Value.complex .f32 a b ∧ a < 4294967296 ∧ b < 4294967296 ∧ ∃ p q, URp F first turns k p q ∧ Mu p st a ∧ Mu q st b) → v = .complex .f32 (fmul (F k).1 st) (fmul (F k).2 st) := fun k v hk hfa ⟨a, b, e, _, _, p, q, hu, ma, mb⟩ => by
            obtain ⟨f1, f2, _⟩ := hF k hk
            obtain ⟨rfl, rfl⟩ := hu.1 hfa
            rw [e, ma.fin f1 FS, mb.fin f2 FS]
          have cxw : ∀ {v k}, (∃ a b, v = Value.complex .f32 a b ∧ a < 4294967296 ∧ b < 4294967296 ∧ ∃ p q, URp F first turns k p q ∧ Mu p st a ∧ Mu q st b) → CxW v := fun ⟨a, b, e, la, lb, _⟩ => ⟨a, b, e, la, lb⟩
          by_cases hg : ∀ k, k < n → finB (aW first turns k) = true ∧ (finB (fmul (F k).1 st) && finB (fmul (F k).2 st)) = true
          · have hy : ∀ k, k < n → CxFin (.complex .f32 (fmul (F k).1 st) (fmul (F k).2 st)) := fun k hk => by
              obtain ⟨f1, f2, _⟩ := hF k hk
              have hb := (hg k hk).2
              rw [Bool.and_eq_true] at hb
              exact ⟨_, _, rfl, (mulF2 f1 FS).2.1, (mulF2 f2 FS).2.1, hb.1, hb.2⟩
            refine corePulsesOfOk st first turns n n hn (fun k => .complex .f32 (fmul (F k).1 st) (fmul (F k).2 st)) hy w (fun w1 => ?_) (fun w1 b => ?_)
            · refine sPul_any st first turns hs F1 F2 n hn1 hn _ hUS w1 _ (fun y B cs cap wr hE hB hL hK => ?_)
              refine sTold _ n y (fun k hk => cxw (hE k hk)) wr (Kept.rdV (T := 91) hK hL (by simp) cap) (by omega) _ (fun _ w' hb9 => ?_) (fun h => absurd (fun k hk => by rw [isY k _ hk (hg k hk).1 (hE k hk)]; exact (hg k hk).2) h)
              exact ⟨_, _, rfl, _, rfl, B, cs, cap, rfl, hB, hL.ext (fun k hk => isY k _ hk (hg k hk).1 (hE k hk)), hK.stay hb9⟩
            · refine iPul_any st first turns hs F1 F2 n hn1 hn _ hUI w1 _ (fun y B cs wr hE hB hL hK => ?_)
              refine (iResultC_t _ n y (fun k hk => cxw (hE k hk)) (fun k hk => by rw [isY k _ hk (hg k hk).1 (hE k hk)]; exact (hg k hk).2) wr (Kept.rdV (T := 91) hK hL (by simp) n) (by omega)).mono ?_
              rintro e w' ⟨rfl, hb9⟩
              exact ⟨_, _, rfl, _, rfl, B, cs, n, rfl, hB, hL.ext (fun k hk => isY k _ hk (hg k hk).1 (hE k hk)), hK.stay hb9⟩
          · have hbad : ∀ y : Nat → Value, (∀ k, k < n → ∃ a b, y k = .complex .f32 a b ∧ a < 4294967296 ∧ b < 4294967296 ∧ ∃ p q, URp F first turns k p q ∧ Mu p st a ∧ Mu q st b) → ¬ ∀ k, k < n → cxB (y k) = true := fun y hE hall => hg fun k hk => by
              have hc := hall k hk
              cases hfa : finB (aW first turns k) with
              | true => rw [isY k _ hk hfa (hE k hk)] at hc; exact ⟨rfl, hc⟩
              | false =>
                obtain ⟨a, b, e, _, _, p, q, hu, ma, _⟩ := hE k hk
                rw [e, nan_cx ma (hu.2 hfa).1] at hc
                cases hc
            refine corePulsesOfErr st first turns n 4 w (fun w1 => ?_) (fun w1 b => ?_)
            · refine sPul_any st first turns hs F1 F2 n hn1 hn _ hUS w1 _ (fun y B cs cap wr hE hB hL hK => ?_)
              refine sTold _ n y (fun k hk => cxw (hE k hk)) wr (Kept.rdV (T := 91) hK hL (by simp) cap) (by omega) _ (fun h => absurd h (hbad y hE)) (fun _ p k w' hb9 => ?_)
              exact ⟨_, _, rfl, p, k, rfl, (hK.stay hb9).1⟩
            · refine iPul_any st first turns hs F1 F2 n hn1 hn _ hUI w1 _ (fun y B cs wr hE hB hL hK => ?_)
              refine (iResultC_f A _ n y (fun k hk => cxw (hE k hk)) (hbad y hE) wr (Kept.rdV (T := 91) hK hL (by simp) n) (by omega) ((hA.stay b).stay hK.1)).mono ?_
              rintro e w' ⟨rfl, hb9⟩
              exact ⟨_, _, rfl, _, _, rfl, (hK.stay hb9).1⟩
        · exact corePulsesOfErr st first turns q 2 w (sPul_q st first turns q hs l1 h1 l2 h2 hq) fun w1 b => iPul_bad A st first turns q w1 (hA.s5.stay b) fun w2 B b2 _ => iMakingP_q A _ 2 2 st hs q hq w2 ((hA.s5.stay b).stay b2)

/-- A variable of the five, as a reading of it wants. -/
theorem var_is {W : World} {n : String} {g : Nat} {a : Addr} (hg : Tryd.prog.globalNamed n = some g) (ht : (Tryd.prog.globals[g]?).map (·.type) = some 90) (h : W.var? Tryd.prog n = some #[.iface 291 (.pointer (some a))]) :
    ∃ g ti ms, Tryd.prog.globalNamed n = some g ∧ (Tryd.prog.globals[g]?).map (·.type) = some ti ∧ Tryd.prog.underlying ti = some (.interface ms) ∧ W.var? Tryd.prog n = some #[.iface 291 (.pointer (some a))] ∧ IsIface (.iface 291 (.pointer (some a))) :=
  ⟨g, _, _, hg, ht, Tryd.underlying90, h, trivial⟩

/-- The door's own heap meets the condition of the rows with six variables. -/
theorem door_met6 (os : Os) (args : Array Value) : laidMetH Tryd.prog Rows.fnExactUnfoldSpeedsRow.laid ((World.doorLaid Tryd.prog 400 os).forCall (fun _ _ => 0) ⟨#[], args, []⟩).memory :=
  laidMetH_of_parts3 (fuel := 8) (laidMet_of_run' 8 (by kernel_rfl) (by kernel_rfl)) (by kernel_rfl) (by kernel_rfl)
end Go.Proofs.YthpimindkmmkjaaDoor

namespace Go.Proofs.YthpimindkmmkjaaDoor.fnExactPulsesOf
open Go.RowKit Go.Fl Go.ChangeShapes Go.WideShapes Go.ChangeAt

set_option maxHeartbeats 2000000 in
theorem closed : joinedFacts Tryd.prog 6 Tryd.f6 Rows.fnExactPulsesOfSpec Rows.fnExactPulsesOfRow = true := by
  unfold joinedFacts
  simp only [Bool.and_eq_true]
  exact ⟨⟨⟨⟨⟨⟨⟨⟨⟨⟨⟨⟨⟨⟨⟨⟨⟨⟨⟨⟨⟨⟨⟨⟨⟨⟨⟨⟨⟨⟨⟨(by as_aux_lemma => kernel_rfl),
    laid⟩,
    rowed⟩,
    (by as_aux_lemma => kernel_rfl)⟩,
    (by as_aux_lemma => kernel_rfl)⟩,
    (by as_aux_lemma => kernel_rfl)⟩,
    (by rw [no_stops]; rfl)⟩,
    (by as_aux_lemma => kernel_rfl)⟩,
    (by rw [no_knobs]; rfl)⟩,
    (by as_aux_lemma => kernel_rfl)⟩,
    (by as_aux_lemma => kernel_rfl)⟩,
    (by as_aux_lemma => kernel_rfl)⟩,
    (by as_aux_lemma => kernel_rfl)⟩,
    (by as_aux_lemma => kernel_rfl)⟩,
    (by as_aux_lemma => kernel_rfl)⟩,
    (by as_aux_lemma => kernel_rfl)⟩,
    (by as_aux_lemma => kernel_rfl)⟩,
    (by as_aux_lemma => kernel_rfl)⟩,
    (by as_aux_lemma => kernel_rfl)⟩,
    (by as_aux_lemma => kernel_rfl)⟩,
    (by as_aux_lemma => kernel_rfl)⟩,
    (by as_aux_lemma => kernel_rfl)⟩,
    (show (Rows.fnExactPulsesOfRow.plainKeys == Tryd.prog.plainKeys) = true by rw [plain_keys]; rfl)⟩,
    (by as_aux_lemma => kernel_rfl)⟩,
    stops_heard⟩,
    may_enter⟩,
    (show (Rows.fnExactPulsesOfRow.lifted == Tryd.prog.liftsFinal) = true by rw [lifts_final]; rfl)⟩,
    (show (Tryd.prog.make == some Rows.fnExactPulsesOfRow.make) = true by rw [made]; rfl)⟩,
    (by as_aux_lemma => kernel_rfl)⟩,
    (by as_aux_lemma => kernel_rfl)⟩,
    (by as_aux_lemma => kernel_rfl)⟩,
    (by as_aux_lemma => kernel_rfl)⟩

set_option maxRecDepth 100000 in
theorem lifted (os : Os) (started : os.Started) (H : Type) (enc : TypeId × Value → H) :
    ReturnsInHanded {} Tryd.checked os 6 .any (fun w args => (Rows.fnExactPulsesOfSpec.pre enc Tryd.prog Tryd.f6 Rows.fnExactPulsesOfRow.domain false w args ∧ laidMetH Tryd.prog Rows.fnExactPulsesOfRow.laid w) ∧ sizedMet enc Tryd.prog Tryd.f6 (OpenSpec.ofChange Rows.fnExactPulsesOfSpec) false w args) (Rows.fnExactPulsesOfSpec.post enc Tryd.prog Tryd.f6 false true false false) := by
  refine LawFrame.lifted_vars (C := Tryd.checked) (fn := Tryd.f6) (n := 4) (tb := 4) (laidL := Rows.fnExactPulsesOfRow.laid) started own (by kernel_rfl) Tryd.func6 laid ?_ rfl ?_ rfl Tryd.underlying4 ?_
    (ChangeSpec.witness_shaped (enc := enc) (C := Tryd.checked) (os := os) (X := fun w _ => laidMetH Tryd.prog Rows.fnExactPulsesOfRow.laid w) false (World.doorLaid Tryd.prog 400 os) #[.float .f32 0, .float .f32 0, .float .f32 0, .int .i64 0] 8 rfl (World.shaped_of_RefB (by kernel_rfl) (by kernel_rfl)) (by kernel_rfl) (by kernel_rfl) (by kernel_rfl) (door_met6 os _)) ?_
  · intro t ht
    simp only [Tryd.params6, List.mem_cons, List.not_mem_nil, or_false] at ht
    rcases ht with rfl | rfl | rfl | rfl <;> first | exact rdf | exact rdi
  · intro ds gs hd hg
    match ds, gs, hd, hg with
    | [d0, d1, d2, d3], [g0, g1, g2, g3, g4, g5], _, _ => rfl
  · intro W hL
    obtain ⟨A, -, v0, v1, v2, v3, v4, v5⟩ := sent6_of hL
    exact ⟨[.iface 291 (.pointer (some (A 1))), .iface 291 (.pointer (some (A 0))), .iface 291 (.pointer (some (A 2))), .iface 291 (.pointer (some (A 3))), .iface 291 (.pointer (some (A 4))), .iface 291 (.pointer (some (A 5)))], var_is (g := 0) (by kernel_rfl) (by kernel_rfl) v1, var_is (g := 2) (by kernel_rfl) (by kernel_rfl) v0, var_is (g := 1) (by kernel_rfl) (by kernel_rfl) v2, var_is (g := 3) (by kernel_rfl) (by kernel_rfl) v3, var_is (g := 4) (by kernel_rfl) (by kernel_rfl) v4, var_is (g := 5) (by kernel_rfl) (by kernel_rfl) v5, trivial⟩
  · intro W base args ds ps hval hn hT hL
    obtain ⟨v0, v1, v2, v3, rfl⟩ : ∃ v0 v1 v2 v3, args = #[v0, v1, v2, v3] := arr4 hn
    simp only [Tryd.params6] at hT
    obtain ⟨A, hA, -⟩ := sent6_of hL
    obtain ⟨c0, rfl, hb0⟩ := open_f32 Tryd.underlying22 (hval 0 22 v0 rfl rfl)
    obtain ⟨c1, rfl, hb1⟩ := open_f32 Tryd.underlying22 (hval 1 22 v1 rfl rfl)
    obtain ⟨c2, rfl, hb2⟩ := open_f32 Tryd.underlying22 (hval 2 22 v2 rfl rfl)
    obtain ⟨c3, rfl, hb3, hc3⟩ := open_i64 Tryd.underlying2 (hval 3 2 v3 rfl rfl)
    exact lawPulsesOf A c0 c1 c2 hb0 hb1 hb2 c3 hA

theorem over : Rows.fnExactPulsesOfRow.holds Tryd.pinned (OpenSpec.ofChange Rows.fnExactPulsesOfSpec) :=
  OpenClaim.holds_of_wide 6 Tryd.f6 rfl rfl rfl rfl rfl rfl rfl ⟨rfl, rfl, rfl, rfl, rfl⟩ rfl rfl rfl rfl rfl (by kernel_rfl) Tryd.func6 closed
    (of_decide_eq_true (by kernel_rfl)) (by unfold Func.isWrapper; rw [if_neg (by decide +kernel)]; exact ⟨rfl, rfl⟩)
    (fun os started H enc _ => lifted os started H enc)

theorem named : Tryd.prog.funcNamed "loop.example/g01224/laws.FnExactPulsesOf" = some 6 := by kernel_rfl
theorem c_wf : Rows.fnExactPulsesOfRow.wfByText (OpenSpec.ofChange Rows.fnExactPulsesOfSpec) = true := by kernel_rfl
theorem c_main : Tryd.pinned.checked.prog.mainIs = some (true, "676091b62306f3ff9401e4688b454d0146593c020ebeb642d8fda31eda063b35".toList) := by kernel_rfl
theorem c_looks : true = Tryd.pinned.checked.prog.looks [] := by kernel_rfl
theorem c_goes : false = Rows.fnExactPulsesOfRow.goesBy Tryd.pinned.checked.prog := by kernel_rfl
theorem proved : Rows.FnExactPulsesOfCardSaid :=
  Claim7.holds_tied_plain_at .later [] [.sentinel, .sentinel, .sentinel, .sentinel, .sentinel, .sentinel] true (true, "676091b62306f3ff9401e4688b454d0146593c020ebeb642d8fda31eda063b35") true
    over (fun _ h => by cases h) c_wf (fun _ h => by cases h) fnExactPulsesOf_row_tie rfl ⟨rfl, rfl⟩ c_main rfl
    (fun f fn hf hfn => by
      obtain rfl : f = 6 := Option.some.inj (named.symm.trans hf) |>.symm
      obtain rfl : fn = Tryd.f6 := (Option.some.inj (Tryd.func6.symm.trans hfn)).symm
      exact ⟨c_looks, fun j t ht => by
        have hm := Array.mem_of_getElem? ht
        rw [Tryd.params6] at hm
        simp only [List.mem_toArray, List.mem_cons, List.not_mem_nil, or_false] at hm
        rcases hm with rfl | rfl | rfl | rfl
        · exact (show Tryd.prog.wantsStandIn 22 = false by kernel_rfl)
        · exact (show Tryd.prog.wantsStandIn 22 = false by kernel_rfl)
        · exact (show Tryd.prog.wantsStandIn 22 = false by kernel_rfl)
        · exact (show Tryd.prog.wantsStandIn 2 = false by kernel_rfl)⟩)
    c_goes
#print axioms proved
end Go.Proofs.YthpimindkmmkjaaDoor.fnExactPulsesOf
