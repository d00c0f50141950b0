import Derived.Test.YtllkjockdogagaaCUnitAt
import Derived.Test.YtllkjockdogagaaChecked
import Derived.Test.YtllkjockdogagaaRows
import Derived.Laws.FloatArith
import Derived.ProofKit
import Derived.WalkKit
import Derived.WalkLawsBesides
import Derived.WalkSpells
import Derived.Deep.QuietTactic
import Derived.BigQuiet
import Derived.Deep.RegionHeld3
import Derived.ChangeKeysEq
import Derived.Laws.BitsAllLaws
import Derived.Deep.MidRow
import Derived.Deep.WholeRow
import Derived.StillTailTactics
import Derived.Deep.Slices
import Derived.ChangeSame
import Derived.OrdersIn
import Derived.ControlIn
import Derived.RangeFuncSeq
import Derived.RangeFuncNested
import Derived.ArgAppend
import Derived.OwnWalkIn
import Derived.TacticsInMore
import Derived.Laws.ComplexArith
import Derived.OpenShut
/- The law FnExactUnitAt of chapter 1: at every argument the call returns true, and what was there before it is as it was. -/
namespace Go.Proofs.Ytllkjockdogagaa
open Go.RowKit Go.Fl

@[go_sem] theorem ext_f64bits (y : Nat) (w : World) : (callFunc 217 #[.float .f64 y]).run Try.prog w = .ok (.value (.int .u64 y)) w := by
  rw [run_callFunc_extern Try.func217 (by kernel_rfl) (by kernel_rfl) (by kernel_rfl) (e := Extern.MathFloatBits.float64bits) (by kernel_rfl)]
  rfl

@[go_sem] theorem ext_f64from (n : Int) (w : World) : (callFunc 187 #[.int .u64 n]).run Try.prog w = .ok (.value (.float .f64 n.toNat)) w := by
  rw [run_callFunc_extern Try.func187 (by kernel_rfl) (by kernel_rfl) (by kernel_rfl) (e := Extern.MathFloatBits.float64frombits) (by kernel_rfl)]
  rfl

theorem hid {p : Prop} (h : p) : Hid p := h

theorem clear_sign (y : Nat) (h : y < 18446744073709551616) : (bits BinOp.andNot IntKind.u64 (y : Int) 9223372036854775808).toNat = y % 9223372036854775808 := by
  rw [u64_andNot _ _ (by omega) (by omega) (by omega) (by omega)]
  rw [Int.toNat_natCast, Int.toNat_natCast]
  exact Nat.and_two_pow_sub_one_eq_mod y 63

theorem abs_f64 (y : Nat) (h : y < 18446744073709551616) (w : World) :
    Calls Try.prog 224 #[.float .f64 y] w fun e w' => e = .returned (.float .f64 (y % 9223372036854775808)) ∧ w = w' := by
  have hc := hid (clear_sign y h)
  clear h
  go_enter Try.func224, Try.ntmps224
  go_wp2
  go_ret
  exact ⟨by simp [hc.out], rfl⟩

theorem isNaN_f64 (y : Nat) (w : World) :
    Calls Try.prog 185 #[.float .f64 y] w fun e w' => e = .returned (.bool (FloatKind.f64.format.order y y != some .eq)) ∧ w = w' := by
  go_enter Try.func185, Try.ntmps185
  go_wp2
  go_ret
  exact ⟨rfl, rfl⟩

theorem isInf_f64 (y : Nat) (h : y < 18446744073709551616) (w : World) :
    Calls Try.prog 186 #[.float .f64 y, .int .i64 0] w fun e w' => e = .returned (.bool (FloatKind.f64.format.order (y % 9223372036854775808) 9218868437227405311 == some .gt)) ∧ w = w' := by
  have hc := hid h
  clear h
  go_enter Try.func186, Try.ntmps186
  go_wp2_with (go_at_call 224; refine (abs_f64 y hc.out _).mono ?_; rintro e w' ⟨rfl, rfl⟩)
  go_ret
  exact ⟨rfl, rfl⟩

theorem isFinite_t (x : Nat) (hx : x < 4294967296) (h : finB x = true) (w : World) :
    Calls Try.prog 115 #[.float .f32 x] w fun e w' => e = .returned (.bool true) ∧ w = w' := by
  rw [finB_iff] at h
  have hc := fun w => run_conv_wid (P := Try.prog) w 22 53 x hx Try.underlying22 Try.underlying53 h
  obtain ⟨a, b, m, e, hr⟩ := read_wid_fin hx h
  have hn : (FloatKind.f64.format.order (wid x) (wid x) != some .eq) = false := by
    show (D.order (wid x) (wid x) != some .eq) = false
    rw [order_self hr]; rfl
  have hi : (FloatKind.f64.format.order (wid x % 9223372036854775808) 9218868437227405311 == some .gt) = false := by
    show (D.order (wid x % 9223372036854775808) 9218868437227405311 == some .gt) = false
    rw [b, order_ltD a (by decide)]
    rw [DINF_val] at a
    have hle : wid (mg x) ≤ 9218868437227405311 := by omega
    rcases Nat.lt_or_eq_of_le hle with h' | h'
    · rw [Nat.compare_eq_lt.2 h']; rfl
    · rw [Nat.compare_eq_eq.2 h']; rfl
  have hw : wid x < 18446744073709551616 := D.write_lt _
  have Hn := hid hn
  have Hi := hid hi
  have Hw := hid hw
  clear hn hi hw hr a b h hx
  go_enter Try.func115, Try.ntmps115
  go_wp2_with (first | (go_at_call 185; refine (isNaN_f64 (wid x) _).mono ?_; rintro e w' ⟨rfl, rfl⟩; rw [Hn.out]) | (go_at_call 186; refine (isInf_f64 (wid x) Hw.out _).mono ?_; rintro e w' ⟨rfl, rfl⟩; rw [Hi.out]))
  go_ret
  exact ⟨rfl, rfl⟩

theorem isFinite_f (x : Nat) (hx : x < 4294967296) (h : finB x = false) (w : World) :
    Calls Try.prog 115 #[.float .f32 x] w fun e w' => e = .returned (.bool false) ∧ Below w.heap.size w w' := by
  rw [finB_iff'] at h
  rcases Nat.lt_or_eq_of_le h with h | h
  · obtain ⟨z, hc, h1, _⟩ := run_conv_nan (P := Try.prog) w 22 53 x Try.underlying22 Try.underlying53 h
    obtain ⟨s, t, hr⟩ := read_nanD h1
    have Hn := hid (show (FloatKind.f64.format.order z z != some .eq) = true by
      show (D.order z z != some .eq) = true
      rw [order_nan hr]; rfl)
    clear h h1 hr hx
    go_enter Try.func115, Try.ntmps115
    go_wp2_with (go_at_call 185; refine (isNaN_f64 z _).mono ?_; rintro e w' ⟨rfl, rfl⟩; rw [Hn.out])
    go_ret
    exact ⟨rfl, (Below.refl _ _).drew⟩
  · obtain ⟨z, hc, h1, h2⟩ := run_conv_inf (P := Try.prog) w 22 53 x hx Try.underlying22 Try.underlying53 h.symm
    have hr : D.read z = .infinity (decide (9223372036854775808 ≤ z)) := by rw [read_signD h2, h1, read_DINF]
    have Hn := hid (show (FloatKind.f64.format.order z z != some .eq) = false by
      show (D.order z z != some .eq) = false
      rw [order_inf hr]; rfl)
    have Hi := hid (show (FloatKind.f64.format.order (z % 9223372036854775808) 9218868437227405311 == some .gt) = true by
      rw [h1]; decide)
    have H2 := hid h2
    clear h h1 hr hx h2
    go_enter Try.func115, Try.ntmps115
    go_wp2_with (first | (go_at_call 185; refine (isNaN_f64 z _).mono ?_; rintro e w' ⟨rfl, rfl⟩; rw [Hn.out]) | (go_at_call 186; refine (isInf_f64 z H2.out _).mono ?_; rintro e w' ⟨rfl, rfl⟩; rw [Hi.out]))
    go_ret
    exact ⟨rfl, Below.refl _ _⟩

@[go_sem] theorem ext_f32bits (y : Nat) (w : World) : (callFunc 195 #[.float .f32 y]).run Try.prog w = .ok (.value (.int .u32 y)) w := by
  rw [run_callFunc_extern Try.func195 (by kernel_rfl) (by kernel_rfl) (by kernel_rfl) (e := Extern.MathFloatBits.float32bits) (by kernel_rfl)]
  rfl

theorem sFinite_t (x : Nat) (hx : x < 4294967296) (h : finB x = true) (w : World) :
    Calls Try.prog 107 #[.float .f32 x] w fun e w' => e = .returned (.bool true) ∧ w = w' := by
  have hr := fun w => run_float_arith (P := Try.prog) w .sub 22 .f32 x x 0 (sub_self_fin hx h)
  clear h hx
  go_enter Try.func107, Try.ntmps107
  go_wp2
  go_ret
  exact ⟨rfl, rfl⟩

theorem sFinite_f (x : Nat) (hx : x < 4294967296) (h : finB x = false) (w : World) :
    Calls Try.prog 107 #[.float .f32 x] w fun e w' => e = .returned (.bool false) ∧ Below w.heap.size w w' := by
  obtain ⟨z, hr, h1, _⟩ := run_arith_nan (P := Try.prog) w .sub (by simp) 22 x x (sub_self_none hx h)
  have Hn := hid (show (FloatKind.f32.format.order z 0 == some .eq) = false by
    show (S.order z 0 == some .eq) = false
    rw [order_nan32 h1]; rfl)
  clear h hx h1
  go_enter Try.func107, Try.ntmps107
  go_wp2
  go_ret
  exact ⟨by simp [Hn.out], (Below.refl _ _).drew⟩

theorem round_even (X K : Nat) (h : D.write ((D.read X).integral .even) = K) (hn : ∃ s m e, D.read X = .number s m e) (w : World) : (callFunc 184 #[.float .f64 X]).run Try.prog w = .ok (.value (.float .f64 K)) w := by
  rw [run_callFunc_extern Try.func184 (by kernel_rfl) (by kernel_rfl) (by kernel_rfl) (e := Extern.MathFloor.toIntegral "math.RoundToEven" .even) (by kernel_rfl)]
  obtain ⟨s, m, e, hr⟩ := hn
  have hr' : FloatKind.f64.decode X = .number s m e := hr
  rw [hr] at h
  have h' : FloatKind.f64.encode ((Ieee.Datum.number s m e).integral .even) = K := h
  have e2 : (Extern.MathFloor.toIntegral "math.RoundToEven" .even #[.float .f64 X]).run Try.prog w = .ok (.float .f64 K) w := by
    rw [← h']
    show Sem.run _ (match FloatKind.f64.decode X with | .nan _ _ => _ | d => (pure (Value.float .f64 (FloatKind.f64.encode (d.integral .even))) : Sem Value)) w = _
    rw [hr']
    rfl
  rw [e2]
  rfl

theorem iNearest_z (X K : Nat) (hx : ∀ w, (callFunc 184 #[.float .f64 X]).run Try.prog w = .ok (.value (.float .f64 K)) w) (ho : (FloatKind.f64.format.order K 0 == some .eq) = true) (w : World) :
    Calls Try.prog 117 #[.float .f64 X] w fun e w' => e = .returned (.float .f64 0) ∧ w = w' := by
  go_enter Try.func117, Try.ntmps117
  go_wp2
  go_ret
  exact ⟨rfl, rfl⟩

theorem iNearest_n (X K : Nat) (hx : ∀ w, (callFunc 184 #[.float .f64 X]).run Try.prog w = .ok (.value (.float .f64 K)) w) (ho : (FloatKind.f64.format.order K 0 == some .eq) = false) (w : World) :
    Calls Try.prog 117 #[.float .f64 X] w fun e w' => e = .returned (.float .f64 K) ∧ w = w' := by
  go_enter Try.func117, Try.ntmps117
  go_wp2
  go_ret
  exact ⟨rfl, rfl⟩

theorem iNearest (s : Bool) (m n : Nat) (hm : m < DINF) (hn : n < DINF) (he : D.write ((D.read (sgD s m)).integral .even) = sgD s n) (w : World) :
    Calls Try.prog 117 #[.float .f64 (sgD s m)] w fun e w' => e = .returned (.float .f64 (if n = 0 then 0 else sgD s n)) ∧ w = w' := by
  obtain ⟨M, e, h1, h2⟩ := read_sgD (s := s) hm
  have hx := fun w => round_even (sgD s m) (sgD s n) he ⟨_, _, _, h2⟩ w
  have ho : (FloatKind.f64.format.order (sgD s n) 0 == some .eq) = decide (n = 0) := order_zeroD hn
  by_cases h : n = 0
  · rw [decide_eq_true h] at ho
    rw [if_pos h]
    exact iNearest_z _ _ hx ho w
  · rw [decide_eq_false h] at ho
    rw [if_neg h]
    exact iNearest_n _ _ hx ho w

@[go_sem] theorem ext_nanWord (w : World) : (callFunc 187 #[.int .u64 9221120237041090561]).run Try.prog w = .ok (.value (.float .f64 9221120237041090561)) w := by
  rw [run_callFunc_extern Try.func187 (by kernel_rfl) (by kernel_rfl) (by kernel_rfl) (e := Extern.MathFloatBits.float64frombits) (by kernel_rfl)]
  rfl

theorem iNaN (w : World) : Calls Try.prog 116 #[] w fun e w' => e = .returned (.float .f64 9221120237041090561) ∧ w = w' := by
  go_enter Try.func116, Try.ntmps116
  go_wp2
  go_ret
  exact ⟨rfl, rfl⟩

theorem iUnit_nan (x : Nat) (hx : x < 4294967296) (hf : finB x = false) (w : World) :
    Calls Try.prog 50 #[.float .f32 x] w fun e w' => (∃ z, e = .returned (.complex .f32 z z) ∧ INF < mg z ∧ z < 4294967296) ∧ Below w.heap.size w w' := by
  have Hx := hid hx
  have Hf := hid hf
  clear hx hf
  go_enter Try.func50, Try.ntmps50
  go_wp2_with fail
  refine (isFinite_f x Hx.out Hf.out _).mono ?_
  rintro e w1 ⟨rfl, hb1⟩
  go_wp2_with fail
  refine (iNaN _).mono ?_
  rintro e w2 ⟨rfl, rfl⟩
  obtain ⟨z, hz, z1, z2⟩ := run_narrow_nan (P := Try.prog) w1 53 22 9221120237041090561 Try.underlying53 Try.underlying22 (by decide)
  have ZZ := hid (And.intro z1 z2)
  clear z1 z2
  go_wp2_with fail
  go_ret
  exact ⟨⟨z, rfl, ZZ.out⟩, hb1.drew⟩

theorem sUnit_nan (x : Nat) (hx : x < 4294967296) (hf : finB x = false) (w : World) :
    Calls Try.prog 114 #[.float .f32 x] w fun e w' => (∃ z, e = .returned (.complex .f32 z z) ∧ INF < mg z ∧ z < 4294967296) ∧ Below w.heap.size w w' := by
  have Hx := hid hx
  have Hf := hid hf
  clear hx hf
  go_enter Try.func114, Try.ntmps114
  go_wp2_with fail
  refine (sFinite_f x Hx.out Hf.out _).mono ?_
  rintro e w1 ⟨rfl, hb1⟩
  go_wp2_with fail
  refine (iNaN _).mono ?_
  rintro e w2 ⟨rfl, rfl⟩
  obtain ⟨z, hz, z1, z2⟩ := run_narrow_nan (P := Try.prog) w1 53 22 9221120237041090561 Try.underlying53 Try.underlying22 (by decide)
  have ZZ := hid (And.intro z1 z2)
  clear z1 z2
  go_wp2_with fail
  go_ret
  exact ⟨⟨z, rfl, ZZ.out⟩, hb1.drew⟩

set_option maxHeartbeats 1000000 in
set_option maxRecDepth 100000 in
theorem iUnit_fin (x : Nat) (hx : x < 4294967296) (hf : finB x = true) {s : Bool} {m n g X y a b p : Nat} (hu : UnitF x s m n g X y a b p) (w : World) :
    Calls Try.prog 50 #[.float .f32 x] w fun e w' => e = .returned (.complex .f32 a b) ∧ w = w' := by
  have U := hid hu
  have Hx := hid hx
  have Hf := hid hf
  have cw := fun w => run_conv_wid (P := Try.prog) w 22 53 x hx Try.underlying22 Try.underlying53 (finB_iff.1 hf)
  rw [hu.wide] at cw
  have m1 := fun w => run_float_arith (P := Try.prog) w .mul 53 .f64 _ _ _ hu.mul
  rw [show TAU = 4618760256179416344 from rfl] at m1
  have m2 := fun w => run_float_arith (P := Try.prog) w .mul 53 .f64 _ _ _ hu.sq
  have s1 : ∀ w, (binOp .sub 53 (.float .f64 (sgD s m)) (.float .f64 (if n = 0 then 0 else sgD s n))).run Try.prog w = .ok (.float .f64 g) w := by
    intro w
    by_cases h : n = 0
    · rw [if_pos h]; exact run_float_arith (P := Try.prog) w .sub 53 .f64 _ _ _ (hu.g0 h).2
    · rw [if_neg h]; exact run_float_arith (P := Try.prog) w .sub 53 .f64 _ _ _ (hu.g1 h)
  have hN := hid (fun w => iNearest s m n hu.hm hu.hn hu.he w)
  clear hx hf hu
  generalize (if n = 0 then 0 else sgD s n) = K at s1 hN
  go_enter Try.func50, Try.ntmps50
  go_wp2_with fail
  refine (isFinite_t x Hx.out Hf.out _).mono ?_
  rintro e w1 ⟨rfl, rfl⟩
  go_wp2_with fail
  refine (hN.out _).mono ?_
  rintro e w2 ⟨rfl, rfl⟩
  go_wp2_with fail
  clear cw m1 m2 s1
  go_loop [9, 7, 8] (fun i C Z => ∃ m : Nat, m ≤ 14 ∧ i = .int .i64 (m : Int) ∧ C = .float .f64 (cosF y (14 - m)) ∧ Z = .float .f64 (sinF y (14 - m))) (fun i _ _ => (intOf i).toNat)
  case atStart => exact ⟨14, by omega, rfl, rfl, rfl⟩
  case round =>
    obtain ⟨m, hm1, rfl, rfl, rfl⟩ := hrel
    by_cases hm0 : 1 ≤ m
    · have hm3 : (1 : Int) ≤ (m : Int) := by omega
      have hM := hid hm1
      have c1 := (cosF_mg U.out.hy U.out.hv (14 - m) (by omega))
      obtain ⟨⟨ka, kb, kcc, kd⟩, ⟨a1, ea1, eb1⟩, ⟨a2, ea2, eb2⟩⟩ := con_facts (m := m) hm0 (by omega)
      obtain ⟨q1, r1, e1, e2, e3, _⟩ := step_unit U.out.hy U.out.hv ka kb c1.1 (by omega)
      obtain ⟨q2, r2, f1, f2, f3, _⟩ := step_unit U.out.hy U.out.hv kcc kd c1.2 (by omega)
      have n1 : stepD (kc m) y (cosF y (14 - m)) = cosF y (14 - (m - 1)) := by rw [show 14 - (m - 1) = (14 - m) + 1 by omega]; show _ = stepD (kc (14 - (14 - m))) y (cosF y (14 - m)); rw [show 14 - (14 - m) = m by omega]
      have n2 : stepD (ks m) y (sinF y (14 - m)) = sinF y (14 - (m - 1)) := by rw [show 14 - (m - 1) = (14 - m) + 1 by omega]; show _ = stepD (ks (14 - (14 - m))) y (sinF y (14 - m)); rw [show 14 - (14 - m) = m by omega]
      rw [n1] at e3
      rw [n2] at f3
      have d1 := fun w => run_float_arith (P := Try.prog) w .quo 53 .f64 _ _ _ e1
      have d2 := fun w => run_float_arith (P := Try.prog) w .mul 53 .f64 _ _ _ e2
      have d3 := fun w => run_float_arith (P := Try.prog) w .sub 53 .f64 _ _ _ e3
      have d4 := fun w => run_float_arith (P := Try.prog) w .quo 53 .f64 _ _ _ f1
      have d5 := fun w => run_float_arith (P := Try.prog) w .mul 53 .f64 _ _ _ f2
      have d6 := fun w => run_float_arith (P := Try.prog) w .sub 53 .f64 _ _ _ f3
      clear e1 e2 e3 f1 f2 f3 n1 n2 c1 ka kb kcc kd
      have cv1 : ∀ w, (convert 3 53 (.int .i64 ((2 * (m : Int) - 1) * (2 * (m : Int))))).run Try.prog w = .ok (.float .f64 (kc m)) w := fun w => rfl
      have cv2 : ∀ w, (convert 3 53 (.int .i64 ((2 * (m : Int)) * (2 * (m : Int) + 1)))).run Try.prog w = .ok (.float .f64 (ks m)) w := fun w => rfl
      have hr : 0 ≤ (2 * (m : Int) - 1) * (2 * (m : Int)) ∧ (2 * (m : Int) - 1) * (2 * (m : Int)) ≤ 1000 ∧ 0 ≤ (2 * (m : Int)) * (2 * (m : Int) + 1) ∧ (2 * (m : Int)) * (2 * (m : Int) + 1) ≤ 1000 := by
        have H : m = 1 ∨ m = 2 ∨ m = 3 ∨ m = 4 ∨ m = 5 ∨ m = 6 ∨ m = 7 ∨ m = 8 ∨ m = 9 ∨ m = 10 ∨ m = 11 ∨ m = 12 ∨ m = 13 ∨ m = 14 := by omega
        rcases H with rfl | rfl | rfl | rfl | rfl | rfl | rfl | rfl | rfl | rfl | rfl | rfl | rfl | rfl <;> decide
      have w1 : IntKind.i64.wrap ((2 * (m : Int) - 1) * (2 * (m : Int))) = (2 * (m : Int) - 1) * (2 * (m : Int)) := by rw [IntKind.wrap_i64]; omega
      have w2 : IntKind.i64.wrap ((2 * (m : Int)) * (2 * (m : Int) + 1)) = (2 * (m : Int)) * (2 * (m : Int) + 1) := by rw [IntKind.wrap_i64]; omega
      clear hr
      clear ea1 eb1 ea2 eb2
      go_wp2_with fail
      go_round
      case rel => exact ⟨m - 1, by omega, by first | go_num | (congr 1; omega), rfl, rfl⟩
      case measure => simp [intOf]; omega
    · obtain rfl : m = 0 := by omega
      have p1 := fun w => run_float_arith (P := Try.prog) w .mul 53 .f64 _ _ _ U.out.pr
      have z1 := fun w => run_convert_float_float (P := Try.prog) w 53 22 .f64 .f32 _ _ (by rw [Try.underlying53]; rfl) Try.underlying22 U.out.ca
      have z2 := fun w => run_convert_float_float (P := Try.prog) w 53 22 .f64 .f32 _ _ (by rw [Try.underlying53]; rfl) Try.underlying22 U.out.cb
      go_wp2_with fail
      go_ret
      exact ⟨rfl, rfl⟩

set_option maxHeartbeats 1000000 in
set_option maxRecDepth 100000 in
theorem sUnit_fin (x : Nat) (hx : x < 4294967296) (hf : finB x = true) {s : Bool} {m n g X y a b p : Nat} (hu : UnitF x s m n g X y a b p) (w : World) :
    Calls Try.prog 114 #[.float .f32 x] w fun e w' => e = .returned (.complex .f32 a b) ∧ w = w' := by
  have U := hid hu
  have Hx := hid hx
  have Hf := hid hf
  have cw := fun w => run_conv_wid (P := Try.prog) w 22 53 x hx Try.underlying22 Try.underlying53 (finB_iff.1 hf)
  rw [hu.wide] at cw
  have m1 := fun w => run_float_arith (P := Try.prog) w .mul 53 .f64 _ _ _ hu.mul
  rw [show TAU = 4618760256179416344 from rfl] at m1
  have m2 := fun w => run_float_arith (P := Try.prog) w .mul 53 .f64 _ _ _ hu.sq
  obtain ⟨M, E, hr1, hr2⟩ := read_sgD (s := s) hu.hm
  have hR := fun w => round_even (sgD s m) (sgD s n) hu.he ⟨_, _, _, hr2⟩ w
  have ho : (FloatKind.f64.format.order (sgD s n) 0 == some .eq) = decide (n = 0) := order_zeroD hu.hn
  have ho2 : (FloatKind.f64.format.order (sgD s n) 0 != some .eq) = !decide (n = 0) := by rw [← ho]; rfl
  clear hr1 hr2
  by_cases hn : n = 0
  · have eg := (hu.g0 hn).1
    rw [← eg] at cw hR
    have hq : (FloatKind.f64.format.order (sgD s n) 0 != some .eq) = false := by rw [ho2, decide_eq_true hn]; rfl
    clear hx hf hu ho ho2 eg hn
    generalize sgD s n = K at hR hq
    go_enter Try.func114, Try.ntmps114
    go_wp2_with fail
    refine (sFinite_t x Hx.out Hf.out _).mono ?_
    rintro e w1 ⟨rfl, rfl⟩
    go_wp2_with fail
    clear cw m1 m2 hR hq
    go_loop [11, 9, 10] (fun i C Z => ∃ m : Nat, m ≤ 14 ∧ i = .int .i64 (m : Int) ∧ C = .float .f64 (cosF y (14 - m)) ∧ Z = .float .f64 (sinF y (14 - m))) (fun i _ _ => (intOf i).toNat)
    case atStart => exact ⟨14, by omega, rfl, rfl, rfl⟩
    case round =>
      obtain ⟨m, hm1, rfl, rfl, rfl⟩ := hrel
      by_cases hm0 : 1 ≤ m
      · have hm3 : (1 : Int) ≤ (m : Int) := by omega
        have hM := hid hm1
        have c1 := (cosF_mg U.out.hy U.out.hv (14 - m) (by omega))
        obtain ⟨⟨ka, kb, kcc, kd⟩, ⟨a1, ea1, eb1⟩, ⟨a2, ea2, eb2⟩⟩ := con_facts (m := m) hm0 (by omega)
        obtain ⟨q1, r1, e1, e2, e3, _⟩ := step_unit U.out.hy U.out.hv ka kb c1.1 (by omega)
        obtain ⟨q2, r2, f1, f2, f3, _⟩ := step_unit U.out.hy U.out.hv kcc kd c1.2 (by omega)
        have n1 : stepD (kc m) y (cosF y (14 - m)) = cosF y (14 - (m - 1)) := by rw [show 14 - (m - 1) = (14 - m) + 1 by omega]; show _ = stepD (kc (14 - (14 - m))) y (cosF y (14 - m)); rw [show 14 - (14 - m) = m by omega]
        have n2 : stepD (ks m) y (sinF y (14 - m)) = sinF y (14 - (m - 1)) := by rw [show 14 - (m - 1) = (14 - m) + 1 by omega]; show _ = stepD (ks (14 - (14 - m))) y (sinF y (14 - m)); rw [show 14 - (14 - m) = m by omega]
        rw [n1] at e3
        rw [n2] at f3
        have d1 := fun w => run_float_arith (P := Try.prog) w .quo 53 .f64 _ _ _ e1
        have d2 := fun w => run_float_arith (P := Try.prog) w .mul 53 .f64 _ _ _ e2
        have d3 := fun w => run_float_arith (P := Try.prog) w .sub 53 .f64 _ _ _ e3
        have d4 := fun w => run_float_arith (P := Try.prog) w .quo 53 .f64 _ _ _ f1
        have d5 := fun w => run_float_arith (P := Try.prog) w .mul 53 .f64 _ _ _ f2
        have d6 := fun w => run_float_arith (P := Try.prog) w .sub 53 .f64 _ _ _ f3
        clear e1 e2 e3 f1 f2 f3 n1 n2 c1 ka kb kcc kd
        have cv1 : ∀ w, (convert 3 53 (.int .i64 (2 * (m : Int)))).run Try.prog w = .ok (.float .f64 (k2 m)) w := fun w => rfl
        have d7 := fun w => run_float_arith (P := Try.prog) w .sub 53 .f64 _ _ _ ea1
        have d8 := fun w => run_float_arith (P := Try.prog) w .mul 53 .f64 _ _ _ eb1
        have d9 := fun w => run_float_arith (P := Try.prog) w .add 53 .f64 _ _ _ ea2
        have dA := fun w => run_float_arith (P := Try.prog) w .mul 53 .f64 _ _ _ eb2
        clear ea1 eb1 ea2 eb2
        go_wp2_with fail
        go_round
        case rel => exact ⟨m - 1, by omega, by first | go_num | (congr 1; omega), rfl, rfl⟩
        case measure => simp [intOf]; omega
      · obtain rfl : m = 0 := by omega
        have p1 := fun w => run_float_arith (P := Try.prog) w .mul 53 .f64 _ _ _ U.out.pr
        have z1 := fun w => run_convert_float_float (P := Try.prog) w 53 22 .f64 .f32 _ _ (by rw [Try.underlying53]; rfl) Try.underlying22 U.out.ca
        have z2 := fun w => run_convert_float_float (P := Try.prog) w 53 22 .f64 .f32 _ _ (by rw [Try.underlying53]; rfl) Try.underlying22 U.out.cb
        go_wp2_with fail
        go_ret
        exact ⟨rfl, rfl⟩

  · have e1 := hu.g1 hn
    have s1 := fun w => run_float_arith (P := Try.prog) w .sub 53 .f64 _ _ _ e1
    have hq : (FloatKind.f64.format.order (sgD s n) 0 != some .eq) = true := by rw [ho2, decide_eq_false hn]; rfl
    clear hx hf hu ho ho2 e1 hn
    generalize sgD s n = K at hR hq s1
    generalize sgD s m = V at hR s1 cw
    go_enter Try.func114, Try.ntmps114
    go_wp2_with fail
    refine (sFinite_t x Hx.out Hf.out _).mono ?_
    rintro e w1 ⟨rfl, rfl⟩
    go_wp2_with fail
    clear cw m1 m2 s1 hR hq
    go_loop [11, 9, 10] (fun i C Z => ∃ m : Nat, m ≤ 14 ∧ i = .int .i64 (m : Int) ∧ C = .float .f64 (cosF y (14 - m)) ∧ Z = .float .f64 (sinF y (14 - m))) (fun i _ _ => (intOf i).toNat)
    case atStart => exact ⟨14, by omega, rfl, rfl, rfl⟩
    case round =>
      obtain ⟨m, hm1, rfl, rfl, rfl⟩ := hrel
      by_cases hm0 : 1 ≤ m
      · have hm3 : (1 : Int) ≤ (m : Int) := by omega
        have hM := hid hm1
        have c1 := (cosF_mg U.out.hy U.out.hv (14 - m) (by omega))
        obtain ⟨⟨ka, kb, kcc, kd⟩, ⟨a1, ea1, eb1⟩, ⟨a2, ea2, eb2⟩⟩ := con_facts (m := m) hm0 (by omega)
        obtain ⟨q1, r1, e1, e2, e3, _⟩ := step_unit U.out.hy U.out.hv ka kb c1.1 (by omega)
        obtain ⟨q2, r2, f1, f2, f3, _⟩ := step_unit U.out.hy U.out.hv kcc kd c1.2 (by omega)
        have n1 : stepD (kc m) y (cosF y (14 - m)) = cosF y (14 - (m - 1)) := by rw [show 14 - (m - 1) = (14 - m) + 1 by omega]; show _ = stepD (kc (14 - (14 - m))) y (cosF y (14 - m)); rw [show 14 - (14 - m) = m by omega]
        have n2 : stepD (ks m) y (sinF y (14 - m)) = sinF y (14 - (m - 1)) := by rw [show 14 - (m - 1) = (14 - m) + 1 by omega]; show _ = stepD (ks (14 - (14 - m))) y (sinF y (14 - m)); rw [show 14 - (14 - m) = m by omega]
        rw [n1] at e3
        rw [n2] at f3
        have d1 := fun w => run_float_arith (P := Try.prog) w .quo 53 .f64 _ _ _ e1
        have d2 := fun w => run_float_arith (P := Try.prog) w .mul 53 .f64 _ _ _ e2
        have d3 := fun w => run_float_arith (P := Try.prog) w .sub 53 .f64 _ _ _ e3
        have d4 := fun w => run_float_arith (P := Try.prog) w .quo 53 .f64 _ _ _ f1
        have d5 := fun w => run_float_arith (P := Try.prog) w .mul 53 .f64 _ _ _ f2
        have d6 := fun w => run_float_arith (P := Try.prog) w .sub 53 .f64 _ _ _ f3
        clear e1 e2 e3 f1 f2 f3 n1 n2 c1 ka kb kcc kd
        have cv1 : ∀ w, (convert 3 53 (.int .i64 (2 * (m : Int)))).run Try.prog w = .ok (.float .f64 (k2 m)) w := fun w => rfl
        have d7 := fun w => run_float_arith (P := Try.prog) w .sub 53 .f64 _ _ _ ea1
        have d8 := fun w => run_float_arith (P := Try.prog) w .mul 53 .f64 _ _ _ eb1
        have d9 := fun w => run_float_arith (P := Try.prog) w .add 53 .f64 _ _ _ ea2
        have dA := fun w => run_float_arith (P := Try.prog) w .mul 53 .f64 _ _ _ eb2
        clear ea1 eb1 ea2 eb2
        go_wp2_with fail
        go_round
        case rel => exact ⟨m - 1, by omega, by first | go_num | (congr 1; omega), rfl, rfl⟩
        case measure => simp [intOf]; omega
      · obtain rfl : m = 0 := by omega
        have p1 := fun w => run_float_arith (P := Try.prog) w .mul 53 .f64 _ _ _ U.out.pr
        have z1 := fun w => run_convert_float_float (P := Try.prog) w 53 22 .f64 .f32 _ _ (by rw [Try.underlying53]; rfl) Try.underlying22 U.out.ca
        have z2 := fun w => run_convert_float_float (P := Try.prog) w 53 22 .f64 .f32 _ _ (by rw [Try.underlying53]; rfl) Try.underlying22 U.out.cb
        go_wp2_with fail
        go_ret
        exact ⟨rfl, rfl⟩

theorem sameFloat2 (a b : Nat) (h : Same2 a b) (w : World) :
    Calls Try.prog 41 #[.float .f64 a, .float .f64 b] w fun e w' => e = .returned (.bool true) ∧ w = w' := by
  obtain ⟨h1, h2⟩ := h
  rcases h1 with ⟨h1, rfl⟩ | ⟨h1, h3, h4, h5⟩
  · have hn : (FloatKind.f64.format.order a a != some .eq) = false := by
      show (Ieee.Format.order D a a != some .eq) = false
      rw [h1]; rfl
    have hq : (FloatKind.f64.format.order a a == some .eq) = true := by
      show (Ieee.Format.order D a a == some .eq) = true
      rw [h1]; rfl
    rcases hz : (FloatKind.f64.format.order a 0 == some .eq) with _ | _
    · clear h1 h2
      go_enter Try.func41, Try.ntmps41
      go_wp2
      go_ret
      exact ⟨by simp, rfl⟩
    · obtain ⟨q, hd⟩ := h2 h1 (beq_iff_eq.1 hz)
      have hdiv := fun w => run_float_arith (P := Try.prog) w .quo 53 .f64 4607182418800017408 a q hd
      clear h1 h2 hd
      go_enter Try.func41, Try.ntmps41
      go_wp2
      go_ret
      exact ⟨by simp, rfl⟩
  · have hn : (FloatKind.f64.format.order a a != some .eq) = true := by
      show (Ieee.Format.order D a a != some .eq) = true
      rw [h1]; rfl
    have hm : (FloatKind.f64.format.order b b != some .eq) = true := by
      show (Ieee.Format.order D b b != some .eq) = true
      rw [h3]; rfl
    clear h1 h2 h3 h4 h5
    go_enter Try.func41, Try.ntmps41
    go_wp2
    go_ret
    exact ⟨by simp, rfl⟩

theorem sameCx (a b c d : Nat) (h1 : Same2 a c) (h2 : Same2 b d) (w : World) :
    Calls Try.prog 51 #[.complex .f64 a b, .complex .f64 c d] w fun e w' => e = .returned (.bool true) ∧ w = w' := by
  have H1 := hid h1
  have H2 := hid h2
  clear h1 h2
  go_enter Try.func51, Try.ntmps51
  go_wp2_with fail
  refine (sameFloat2 a c H1.out _).mono ?_
  rintro e w1 ⟨rfl, rfl⟩
  go_wp2_with fail
  refine (sameFloat2 b d H2.out _).mono ?_
  rintro e w2 ⟨rfl, rfl⟩
  go_wp2
  go_ret
  exact ⟨rfl, rfl⟩

theorem sUnitAt_fin (x a b : Nat) (h : ∀ w, Calls Try.prog 114 #[.float .f32 x] w fun e w' => e = .returned (.complex .f32 a b) ∧ w = w') (w : World) :
    Calls Try.prog 49 #[.float .f32 x] w fun e w' => e = .returned (.complex .f32 a b) ∧ w = w' := by
  have H := hid h
  clear h
  go_enter Try.func49, Try.ntmps49
  go_wp2_with fail
  refine (H.out _).mono ?_
  rintro e w1 ⟨rfl, rfl⟩
  go_wp2
  go_ret
  exact ⟨rfl, rfl⟩

theorem sUnitAt_nan (x : Nat) (hx : x < 4294967296) (hf : finB x = false) (w : World) :
    Calls Try.prog 49 #[.float .f32 x] w fun e w' => (∃ z, e = .returned (.complex .f32 z z) ∧ INF < mg z ∧ z < 4294967296) ∧ Below w.heap.size w w' := by
  have Hx := hid hx
  have Hf := hid hf
  clear hx hf
  go_enter Try.func49, Try.ntmps49
  go_wp2_with fail
  refine (sUnit_nan x Hx.out Hf.out _).mono ?_
  rintro e w1 ⟨⟨z, rfl, hz⟩, hb1⟩
  have HZ := hid hz
  clear hz
  go_wp2
  go_ret
  exact ⟨⟨z, rfl, HZ.out⟩, hb1⟩

theorem lawUnitAt (x : Nat) (hx : x < 4294967296) (w : World) :
    Calls Try.prog 14 #[.float .f32 x] w fun e w' => e = .returned (.bool true) ∧ Below w.heap.size w w' := by
  rcases hf : finB x with _ | _
  · have Hx := hid hx
    have Hf := hid hf
    clear hx hf
    go_enter Try.func14, Try.ntmps14
    go_wp2_with fail
    refine (sUnitAt_nan x Hx.out Hf.out _).mono ?_
    rintro e w1 ⟨⟨z, rfl, hz⟩, hb1⟩
    have HZ := hid hz
    clear hz
    go_wp2_with fail
    refine (iUnit_nan x Hx.out Hf.out _).mono ?_
    rintro e w2 ⟨⟨y, rfl, hy⟩, hb2⟩
    obtain ⟨c1, d1, q1, n1, n2⟩ := conv_complex_nan (P := Try.prog) 62 65 Try.underlying62 Try.underlying65 hy.1 hy.1 w2
    obtain ⟨c2, d2, q2, n3, n4⟩ := conv_complex_nan (P := Try.prog) 62 65 Try.underlying62 Try.underlying65 HZ.out.1 HZ.out.1 w2.drew.drew
    have HS := hid (And.intro (same2_nan n1 n3) (same2_nan n2 n4))
    clear n1 n2 n3 n4 hy
    go_wp2_with fail
    refine (sameCx c1 d1 c2 d2 HS.out.1 HS.out.2 _).mono ?_
    rintro e w3 ⟨rfl, rfl⟩
    go_wp2
    go_ret
    exact ⟨rfl, ((((stp hb1 (Nat.le_refl _) hb2).drew).drew).drew).drew⟩
  · obtain ⟨s, m, n, g, X, y, a, b, p, U⟩ := unit_f hx hf
    have hI := hid (fun w => iUnit_fin x hx hf U w)
    have hS := hid (fun w => sUnitAt_fin x a b (fun w => sUnit_fin x hx hf U w) w)
    have q1 := fun w => conv_complex_fin (P := Try.prog) 62 65 Try.underlying62 Try.underlying65 U.la.1 U.la.2 U.lb.1 U.lb.2 w
    have HS := hid (And.intro (same2_fin U.la.1 U.la.2) (same2_fin U.lb.1 U.lb.2))
    clear U hx hf
    go_enter Try.func14, Try.ntmps14
    go_wp2_with fail
    refine (hS.out _).mono ?_
    rintro e w1 ⟨rfl, rfl⟩
    go_wp2_with fail
    refine (hI.out _).mono ?_
    rintro e w2 ⟨rfl, rfl⟩
    go_wp2_with fail
    refine (sameCx _ _ _ _ HS.out.1 HS.out.2 _).mono ?_
    rintro e w3 ⟨rfl, rfl⟩
    go_wp2
    go_ret
    exact ⟨rfl, Below.refl _ _⟩

theorem words_cons : ∀ (v : List Char) (r : List Char), (∀ c ∈ v, c ≠ Char.ofNat 32) → wordsSigns (v ++ Char.ofNat 32 :: r) = v :: wordsSigns r
  | [], r, _ => rfl
  | c :: v, r, h => by
    have ih := words_cons v r (fun x hx => h x (by simp [hx]))
    have hc : c ≠ Char.ofNat 32 := h c (by simp)
    show wordsSigns (c :: (v ++ Char.ofNat 32 :: r)) = _
    rw [wordsSigns.eq_3 _ _ (fun e => hc e), ih]

def w0 : List Nat := [104, 97, 114, 110, 101, 115, 115]

def w1 : List Nat := [53, 97, 52, 54, 101, 53, 53, 98, 52, 48, 102, 99, 98, 48, 100, 53, 101, 48, 49, 101, 56, 48, 53, 99, 49, 55, 97, 101, 51, 99, 102, 101, 51, 57, 102, 97, 57, 48, 50, 97, 52, 102, 51, 54, 53, 53, 99, 101, 97, 98, 98, 53, 98, 48, 101, 56, 48, 101, 102, 55, 55, 99, 53, 48]

def w2 : List Nat := [99, 117, 116]

def w3 : List Nat := [97, 116, 32, 108, 111, 111, 112, 46, 101, 120, 97, 109, 112, 108, 101, 47, 103, 48, 49, 50, 50, 52, 47, 108, 97, 119, 115, 46, 70, 110, 69, 120, 97, 99, 116, 86, 97, 108, 105, 100, 67, 111, 108, 117, 109, 110, 32, 108, 111, 111, 112, 46, 101, 120, 97, 109, 112, 108, 101, 47, 103, 48, 49, 50, 50, 52, 47, 108, 97, 119, 115, 46, 70, 110, 69, 120, 97, 99, 116, 83, 97, 109, 101, 67, 111, 108, 117, 109, 110, 32, 108, 111, 111, 112, 46, 101, 120, 97, 109, 112, 108, 101, 47, 103, 48, 49, 50, 50, 52, 47, 108, 97, 119, 115, 46, 70, 110, 69, 120, 97, 99, 116, 83, 116, 105, 108, 108, 67, 111, 108, 117, 109, 110, 32, 108, 111, 111, 112, 46, 101, 120, 97, 109, 112, 108, 101, 47, 103, 48, 49, 50, 50, 52, 47, 108, 97, 119, 115, 46, 70, 110, 69, 120, 97, 99, 116, 70, 97, 108, 108, 83, 104, 97, 114, 101, 115, 32, 108, 111, 111, 112, 46, 101, 120, 97, 109, 112, 108, 101, 47, 103, 48, 49, 50, 50, 52, 47, 108, 97, 119, 115, 46, 70, 110, 69, 120, 97, 99, 116, 83, 101, 116, 116, 108, 101, 79, 110, 99, 101, 32, 108, 111, 111, 112, 46, 101, 120, 97, 109, 112, 108, 101, 47, 103, 48, 49, 50, 50, 52, 47, 108, 97, 119, 115, 46, 70, 110, 69, 120, 97, 99, 116, 71, 114, 111, 119, 67, 111, 108, 117, 109, 110, 32, 108, 111, 111, 112, 46, 101, 120, 97, 109, 112, 108, 101, 47, 103, 48, 49, 50, 50, 52, 47, 108, 97, 119, 115, 46, 70, 110, 69, 120, 97, 99, 116, 83, 116, 105, 114, 67, 111, 108, 117, 109, 110, 32, 108, 111, 111, 112, 46, 101, 120, 97, 109, 112, 108, 101, 47, 103, 48, 49, 50, 50, 52, 47, 108, 97, 119, 115, 46, 70, 110, 69, 120, 97, 99, 116, 87, 97, 116, 101, 114, 79, 102, 67, 111, 108, 117, 109, 110, 32, 108, 111, 111, 112, 46, 101, 120, 97, 109, 112, 108, 101, 47, 103, 48, 49, 50, 50, 52, 47, 108, 97, 119, 115, 46, 70, 110, 69, 120, 97, 99, 116, 82, 97, 105, 110, 79, 102, 32, 108, 111, 111, 112, 46, 101, 120, 97, 109, 112, 108, 101, 47, 103, 48, 49, 50, 50, 52, 47, 108, 97, 119, 115, 46, 70, 110, 69, 120, 97, 99, 116, 67, 108, 111, 117, 100, 66, 97, 115, 101, 32, 108, 111, 111, 112, 46, 101, 120, 97, 109, 112, 108, 101, 47, 103, 48, 49, 50, 50, 52, 47, 108, 97, 119, 115, 46, 70, 110, 69, 120, 97, 99, 116, 86, 97, 108, 105, 100, 65, 99, 116, 32, 108, 111, 111, 112, 46, 101, 120, 97, 109, 112, 108, 101, 47, 103, 48, 49, 50, 50, 52, 47, 108, 97, 119, 115, 46, 70, 110, 69, 120, 97, 99, 116, 85, 110, 105, 116, 65, 116, 32, 108, 111, 111, 112, 46, 101, 120, 97, 109, 112, 108, 101, 47, 103, 48, 49, 50, 50, 52, 47, 108, 97, 119, 115, 46, 70, 110, 69, 120, 97, 99, 116, 67, 111, 108, 108, 105, 100, 101, 80, 97, 105, 114, 115, 32, 108, 111, 111, 112, 46, 101, 120, 97, 109, 112, 108, 101, 47, 103, 48, 49, 50, 50, 52, 47, 108, 97, 119, 115, 46, 70, 110, 69, 120, 97, 99, 116, 71, 114, 111, 119, 79, 110, 99, 101, 32, 108, 111, 111, 112, 46, 101, 120, 97, 109, 112, 108, 101, 47, 103, 48, 49, 50, 50, 52, 47, 108, 97, 119, 115, 46, 70, 110, 69, 120, 97, 99, 116, 71, 114, 111, 119, 83, 116, 101, 112, 115, 32, 108, 111, 111, 112, 46, 101, 120, 97, 109, 112, 108, 101, 47, 103, 48, 49, 50, 50, 52, 47, 108, 97, 119, 115, 46, 70, 110, 69, 120, 97, 99, 116, 83, 116, 101, 112, 115, 84, 111, 68, 114, 121, 32, 108, 111, 111, 112, 46, 101, 120, 97, 109, 112, 108, 101, 47, 103, 48, 49, 50, 50, 52, 47, 108, 97, 119, 115, 46, 70, 110, 69, 120, 97, 99, 116, 83, 116, 101, 97, 100, 121, 83, 111, 117, 110, 100, 105, 110, 103, 32, 108, 111, 111, 112, 46, 101, 120, 97, 109, 112, 108, 101, 47, 103, 48, 49, 50, 50, 52, 47, 108, 97, 119, 115, 46, 70, 110, 69, 120, 97, 99, 116, 82, 105, 115, 101, 73, 110, 32, 108, 111, 111, 112, 46, 101, 120, 97, 109, 112, 108, 101, 47, 103, 48, 49, 50, 50, 52, 47, 108, 97, 119, 115, 46, 70, 110, 69, 120, 97, 99, 116, 84, 104, 105, 114, 100, 82, 111, 111, 116]

def letters (l : List Nat) : List Char := l.map Char.ofNat

theorem head_reads : Try.prog.initOrder = String.ofList (letters w0 ++ Char.ofNat 32 :: (letters w1 ++ Char.ofNat 32 :: (letters w2 ++ Char.ofNat 32 :: letters w3))) := by kernel_rfl

theorem no_blank {l : List Nat} (h : l.all (fun n => Char.ofNat n != Char.ofNat 32) = true) : ∀ c ∈ letters l, c ≠ Char.ofNat 32 := by
  intro c hc
  obtain ⟨n, hn, rfl⟩ := List.mem_map.1 hc
  have := List.all_eq_true.1 h n hn
  simpa using this

theorem h0 : letters w0 = "harness".toList := by kernel_rfl

theorem h2 : letters w2 = "cut".toList := by kernel_rfl

theorem sums : isSumSigns (letters w1) = true := by kernel_rfl

theorem words : wordsSigns Try.prog.initOrder.toList = "harness".toList :: letters w1 :: "cut".toList :: wordsSigns (letters w3) := by
  rw [head_reads, String.toList_ofList, words_cons _ _ (no_blank (by decide +kernel)), words_cons _ _ (no_blank (by decide +kernel)), words_cons _ _ (no_blank (by decide +kernel)), h0, h2]

theorem behind : ∃ r, behindMainWord (wordsSigns Try.prog.initOrder.toList) = "cut".toList :: r := by
  refine ⟨wordsSigns (letters w3), ?_⟩
  rw [words]
  generalize wordsSigns (letters w3) = r
  have hs := sums
  generalize letters w1 = v at hs
  unfold behindMainWord
  simp [hs]

theorem not_later : Try.prog.laysLater = false := by kernel_rfl

theorem no_reflect : Try.prog.bearsReflect = false := by kernel_rfl

theorem no_doors : Try.prog.doorFits [] = true := by kernel_rfl

theorem strips (r : List (List Char)) : stripLifts liftWords ("cut".toList :: r) = ([], "cut".toList :: r) := by kernel_rfl

theorem may_enter_of (P : Program) (r : List (List Char)) (h : behindMainWord (wordsSigns P.initOrder.toList) = "cut".toList :: r) (h1 : P.laysLater = false) (h2 : P.bearsReflect = false) (h3 : P.doorFits [] = true) : P.mayEnter = true := by
  unfold Program.mayEnter
  rw [h]
  dsimp only
  rw [strips, h1, h2, h3]
  kernel_rfl

theorem lifts_final_of (P : Program) (r : List (List Char)) (h : behindMainWord (wordsSigns P.initOrder.toList) = "cut".toList :: r) : P.liftsFinal = false := by
  unfold Program.liftsFinal Program.headLifts
  rw [h]
  dsimp only
  rw [strips]
  kernel_rfl

theorem made_of (P : Program) (r : List (List Char)) (h : behindMainWord (wordsSigns P.initOrder.toList) = "cut".toList :: r) : P.make = some .cut := by
  unfold Program.make
  rw [h]
  kernel_rfl

theorem may_enter : Try.prog.mayEnter = true := let ⟨r, h⟩ := behind; may_enter_of _ r h not_later no_reflect no_doors

theorem lifts_final : Try.prog.liftsFinal = false := let ⟨r, h⟩ := behind; lifts_final_of _ r h

theorem made : Try.prog.make = some .cut := let ⟨r, h⟩ := behind; made_of _ r h

theorem laid : laidOutB Try.prog = true := by kernel_rfl

theorem rowed : mapsRowed Try.prog = true := by kernel_rfl

theorem no_stops : Try.prog.stops = [] := by kernel_rfl

theorem no_knobs : Try.prog.stopKnobs = [] := by kernel_rfl

theorem plain_keys : Try.prog.plainKeys = false := by kernel_rfl

theorem stops_heard : Try.prog.stopsHeard = true := by kernel_rfl

theorem arr1 {α : Type} {cs : Array α} (h : cs.size = 1) : ∃ c0, cs = #[c0] := by
  obtain ⟨l⟩ := cs
  match l, h with
  | [a], _ => exact ⟨a, rfl⟩

theorem own : ownKnob Try.prog.godebug = none := by kernel_rfl

theorem rdf : Try.prog.readableRec 22 = true ∧ 22 < Try.prog.types.size := ⟨by kernel_rfl, of_decide_eq_true (by kernel_rfl)⟩
end Go.Proofs.Ytllkjockdogagaa

namespace Go.Proofs.Ytllkjockdogagaa.fnExactUnitAt
open Go.RowKit Go.Fl Go.ChangeShapes Go.WideShapes Go.ChangeAt

set_option maxHeartbeats 2000000 in
theorem closed : joinedFacts Try.prog 14 Try.f14 Rows.fnExactUnitAtSpec Rows.fnExactUnitAtRow = true := by
  unfold joinedFacts
  simp only [Bool.and_eq_true]
  exact ⟨⟨⟨⟨⟨⟨⟨⟨⟨⟨⟨⟨⟨⟨⟨⟨⟨⟨⟨⟨⟨⟨⟨⟨⟨⟨⟨⟨⟨⟨⟨(by as_aux_lemma => kernel_rfl),
    laid⟩,
    rowed⟩,
    (by as_aux_lemma => kernel_rfl)⟩,
    (by as_aux_lemma => kernel_rfl)⟩,
    (by as_aux_lemma => kernel_rfl)⟩,
    (by rw [no_stops]; rfl)⟩,
    (by as_aux_lemma => kernel_rfl)⟩,
    (by rw [no_knobs]; rfl)⟩,
    (by as_aux_lemma => kernel_rfl)⟩,
    (by as_aux_lemma => kernel_rfl)⟩,
    (by as_aux_lemma => kernel_rfl)⟩,
    (by as_aux_lemma => kernel_rfl)⟩,
    (by as_aux_lemma => kernel_rfl)⟩,
    (by as_aux_lemma => kernel_rfl)⟩,
    (by as_aux_lemma => kernel_rfl)⟩,
    (by as_aux_lemma => kernel_rfl)⟩,
    (by as_aux_lemma => kernel_rfl)⟩,
    (by as_aux_lemma => kernel_rfl)⟩,
    (by as_aux_lemma => kernel_rfl)⟩,
    (by as_aux_lemma => kernel_rfl)⟩,
    (by as_aux_lemma => kernel_rfl)⟩,
    (show (Rows.fnExactUnitAtRow.plainKeys == Try.prog.plainKeys) = true by rw [plain_keys]; rfl)⟩,
    (by as_aux_lemma => kernel_rfl)⟩,
    stops_heard⟩,
    may_enter⟩,
    (show (Rows.fnExactUnitAtRow.lifted == Try.prog.liftsFinal) = true by rw [lifts_final]; rfl)⟩,
    (show (Try.prog.make == some Rows.fnExactUnitAtRow.make) = true by rw [made]; rfl)⟩,
    (by as_aux_lemma => kernel_rfl)⟩,
    (by as_aux_lemma => kernel_rfl)⟩,
    (by as_aux_lemma => kernel_rfl)⟩,
    (by as_aux_lemma => kernel_rfl)⟩

set_option maxRecDepth 100000 in
theorem lifted (os : Os) (started : os.Started) (H : Type) (enc : TypeId × Value → H) :
    ReturnsInHanded {} Try.checked os 14 .any (Rows.fnExactUnitAtSpec.pre6 enc Try.prog Try.f14 Rows.fnExactUnitAtRow.domain false) (Rows.fnExactUnitAtSpec.post enc Try.prog Try.f14 false true false false) := by
  refine LawFrame.lifted (C := Try.checked) (fn := Try.f14) (n := 1) (tb := 4) started own (by kernel_rfl) Try.func14 laid ?_ rfl rfl ?_ rfl Try.underlying4
    (ChangeSpec.witness6 (enc := enc) (C := Try.checked) false ⟨#[], #[.float .f32 0], []⟩ 8 (by kernel_rfl) (by kernel_rfl) (by kernel_rfl) (by kernel_rfl)) ?_
  · intro t ht
    simp only [Try.params14, List.mem_cons, List.not_mem_nil, or_false] at ht
    subst ht; exact rdf
  · intro ds hd
    match ds, hd with
    | [_], _ => rfl
  · intro W base args ds ps hval hn _
    obtain ⟨v0, rfl⟩ : ∃ v0, args = #[v0] := arr1 hn
    obtain ⟨c0, rfl, hb0⟩ := open_f32 Try.underlying22 (hval 0 22 v0 rfl rfl)
    exact lawUnitAt c0 hb0 W

theorem over : Rows.fnExactUnitAtRow.holds Try.pinned (OpenSpec.ofChange Rows.fnExactUnitAtSpec) :=
  OpenClaim.holds_of_wide 14 Try.f14 rfl rfl rfl rfl rfl rfl rfl ⟨rfl, rfl, rfl, rfl, rfl⟩ rfl rfl rfl rfl rfl (by kernel_rfl) Try.func14 closed
    (of_decide_eq_true (by kernel_rfl)) (by unfold Func.isWrapper; rw [if_neg (by decide +kernel)]; exact ⟨rfl, rfl⟩)
    (fun os started H enc _ => lifted os started H enc)

theorem proved : Rows.FnExactUnitAtSaid := over
#print axioms proved
end Go.Proofs.Ytllkjockdogagaa.fnExactUnitAt
