import Derived.Test.YthpimindkmmkjaaDoorCSpotOf
import Derived.Test.YthpimindkmmkjaaDoorChecked
import Derived.Test.YthpimindkmmkjaaDoorRows
import Derived.Test.YthpimindkmmkjaaDoorCards
import Derived.Test.YthpimindkmmkjaaDoorTie
import Derived.Laws.FloatArith
import Derived.ProofKit
import Derived.WalkKit
import Derived.WalkLawsBesides
import Derived.WalkSpells
import Derived.Deep.QuietTactic
import Derived.BigQuiet
import Derived.Deep.RegionHeld3
import Derived.ChangeKeysEq
import Derived.Laws.BitsAllLaws
import Derived.Deep.MidRow
import Derived.Deep.WholeRow
import Derived.StillTailTactics
import Derived.Deep.Slices
import Derived.ChangeSame
import Derived.OrdersIn
import Derived.ControlIn
import Derived.RangeFuncSeq
import Derived.RangeFuncNested
import Derived.ArgAppend
import Derived.OwnWalkIn
import Derived.TacticsInMore
import Derived.Laws.ComplexArith
import Derived.LaidEql
import Derived.Stop.Asserts
import Derived.RowKitTokens
import Derived.Below
import Derived.Laws.AppendOwn
import Derived.RangeFuncLeaves
import Derived.RangeFuncBox
import Derived.LoopNIn
import Derived.LoopIn
import Derived.Shelf.Abstract
import Derived.Deep.Strs
import Derived.OpenShut
import Derived.Stop.LaidErr
import Derived.LaidMore
import Derived.Handed
import Derived.LaidHandle
import Derived.Stop.Joined
import Derived.MakeChecks
import Derived.SevenTiedAt
/- The tied card of FnExactSpotOf. -/
namespace Go.Proofs.YthpimindkmmkjaaDoor
open Go.RowKit Go.Fl

@[go_sem] theorem ext_f64bits (y : Nat) (w : World) : (callFunc 197 #[.float .f64 y]).run Tryd.prog w = .ok (.value (.int .u64 y)) w := by
  rw [run_callFunc_extern Tryd.func197 (by kernel_rfl) (by kernel_rfl) (by kernel_rfl) (e := Extern.MathFloatBits.float64bits) (by kernel_rfl)]
  rfl

@[go_sem] theorem ext_f64from (n : Int) (w : World) : (callFunc 169 #[.int .u64 n]).run Tryd.prog w = .ok (.value (.float .f64 n.toNat)) w := by
  rw [run_callFunc_extern Tryd.func169 (by kernel_rfl) (by kernel_rfl) (by kernel_rfl) (e := Extern.MathFloatBits.float64frombits) (by kernel_rfl)]
  rfl

theorem hid {p : Prop} (h : p) : Hid p := h

theorem clear_sign (y : Nat) (h : y < 18446744073709551616) : (bits BinOp.andNot IntKind.u64 (y : Int) 9223372036854775808).toNat = y % 9223372036854775808 := by
  rw [u64_andNot _ _ (by omega) (by omega) (by omega) (by omega)]
  rw [Int.toNat_natCast, Int.toNat_natCast]
  exact Nat.and_two_pow_sub_one_eq_mod y 63

theorem abs_f64 (y : Nat) (h : y < 18446744073709551616) (w : World) :
    Calls Tryd.prog 166 #[.float .f64 y] w fun e w' => e = .returned (.float .f64 (y % 9223372036854775808)) ∧ w = w' := by
  have hc := hid (clear_sign y h)
  clear h
  go_enter Tryd.func166, Tryd.ntmps166
  go_wp2
  go_ret
  exact ⟨by simp [hc.out], rfl⟩

theorem isNaN_f64 (y : Nat) (w : World) :
    Calls Tryd.prog 124 #[.float .f64 y] w fun e w' => e = .returned (.bool (FloatKind.f64.format.order y y != some .eq)) ∧ w = w' := by
  go_enter Tryd.func124, Tryd.ntmps124
  go_wp2
  go_ret
  exact ⟨rfl, rfl⟩

theorem isInf_f64 (y : Nat) (h : y < 18446744073709551616) (w : World) :
    Calls Tryd.prog 125 #[.float .f64 y, .int .i64 0] w fun e w' => e = .returned (.bool (FloatKind.f64.format.order (y % 9223372036854775808) 9218868437227405311 == some .gt)) ∧ w = w' := by
  have hc := hid h
  clear h
  go_enter Tryd.func125, Tryd.ntmps125
  go_wp2_with (go_at_call 166; refine (abs_f64 y hc.out _).mono ?_; rintro e w' ⟨rfl, rfl⟩)
  go_ret
  exact ⟨rfl, rfl⟩

theorem isFinite_t (x : Nat) (hx : x < 4294967296) (h : finB x = true) (w : World) :
    Calls Tryd.prog 61 #[.float .f32 x] w fun e w' => e = .returned (.bool true) ∧ w = w' := by
  rw [finB_iff] at h
  have hc := fun w => run_conv_wid (P := Tryd.prog) w 22 77 x hx Tryd.underlying22 Tryd.underlying77 h
  obtain ⟨a, b, m, e, hr⟩ := read_wid_fin hx h
  have hn : (FloatKind.f64.format.order (wid x) (wid x) != some .eq) = false := by
    show (D.order (wid x) (wid x) != some .eq) = false
    rw [order_self hr]; rfl
  have hi : (FloatKind.f64.format.order (wid x % 9223372036854775808) 9218868437227405311 == some .gt) = false := by
    show (D.order (wid x % 9223372036854775808) 9218868437227405311 == some .gt) = false
    rw [b, order_ltD a (by decide)]
    rw [DINF_val] at a
    have hle : wid (mg x) ≤ 9218868437227405311 := by omega
    rcases Nat.lt_or_eq_of_le hle with h' | h'
    · rw [Nat.compare_eq_lt.2 h']; rfl
    · rw [Nat.compare_eq_eq.2 h']; rfl
  have hw : wid x < 18446744073709551616 := D.write_lt _
  have Hn := hid hn
  have Hi := hid hi
  have Hw := hid hw
  clear hn hi hw hr a b h hx
  go_enter Tryd.func61, Tryd.ntmps61
  go_wp2_with (first | (go_at_call 124; refine (isNaN_f64 (wid x) _).mono ?_; rintro e w' ⟨rfl, rfl⟩; rw [Hn.out]) | (go_at_call 125; refine (isInf_f64 (wid x) Hw.out _).mono ?_; rintro e w' ⟨rfl, rfl⟩; rw [Hi.out]))
  go_ret
  exact ⟨rfl, rfl⟩

theorem isFinite_f (x : Nat) (hx : x < 4294967296) (h : finB x = false) (w : World) :
    Calls Tryd.prog 61 #[.float .f32 x] w fun e w' => e = .returned (.bool false) ∧ Below w.heap.size w w' := by
  rw [finB_iff'] at h
  rcases Nat.lt_or_eq_of_le h with h | h
  · obtain ⟨z, hc, h1, _⟩ := run_conv_nan (P := Tryd.prog) w 22 77 x Tryd.underlying22 Tryd.underlying77 h
    obtain ⟨s, t, hr⟩ := read_nanD h1
    have Hn := hid (show (FloatKind.f64.format.order z z != some .eq) = true by
      show (D.order z z != some .eq) = true
      rw [order_nan hr]; rfl)
    clear h h1 hr hx
    go_enter Tryd.func61, Tryd.ntmps61
    go_wp2_with (go_at_call 124; refine (isNaN_f64 z _).mono ?_; rintro e w' ⟨rfl, rfl⟩; rw [Hn.out])
    go_ret
    exact ⟨rfl, (Below.refl _ _).drew⟩
  · obtain ⟨z, hc, h1, h2⟩ := run_conv_inf (P := Tryd.prog) w 22 77 x hx Tryd.underlying22 Tryd.underlying77 h.symm
    have hr : D.read z = .infinity (decide (9223372036854775808 ≤ z)) := by rw [read_signD h2, h1, read_DINF]
    have Hn := hid (show (FloatKind.f64.format.order z z != some .eq) = false by
      show (D.order z z != some .eq) = false
      rw [order_inf hr]; rfl)
    have Hi := hid (show (FloatKind.f64.format.order (z % 9223372036854775808) 9218868437227405311 == some .gt) = true by
      rw [h1]; decide)
    have H2 := hid h2
    clear h h1 hr hx h2
    go_enter Tryd.func61, Tryd.ntmps61
    go_wp2_with (first | (go_at_call 124; refine (isNaN_f64 z _).mono ?_; rintro e w' ⟨rfl, rfl⟩; rw [Hn.out]) | (go_at_call 125; refine (isInf_f64 z H2.out _).mono ?_; rintro e w' ⟨rfl, rfl⟩; rw [Hi.out]))
    go_ret
    exact ⟨rfl, Below.refl _ _⟩

@[go_sem] theorem ext_f32bits (y : Nat) (w : World) : (callFunc 132 #[.float .f32 y]).run Tryd.prog w = .ok (.value (.int .u32 y)) w := by
  rw [run_callFunc_extern Tryd.func132 (by kernel_rfl) (by kernel_rfl) (by kernel_rfl) (e := Extern.MathFloatBits.float32bits) (by kernel_rfl)]
  rfl

theorem sFinite_t (x : Nat) (hx : x < 4294967296) (h : finB x = true) (w : World) :
    Calls Tryd.prog 58 #[.float .f32 x] w fun e w' => e = .returned (.bool true) ∧ w = w' := by
  have hr := fun w => run_float_arith (P := Tryd.prog) w .sub 22 .f32 x x 0 (sub_self_fin hx h)
  clear h hx
  go_enter Tryd.func58, Tryd.ntmps58
  go_wp2
  go_ret
  exact ⟨rfl, rfl⟩

theorem sFinite_f (x : Nat) (hx : x < 4294967296) (h : finB x = false) (w : World) :
    Calls Tryd.prog 58 #[.float .f32 x] w fun e w' => e = .returned (.bool false) ∧ Below w.heap.size w w' := by
  obtain ⟨z, hr, h1, _⟩ := run_arith_nan (P := Tryd.prog) w .sub (by simp) 22 x x (sub_self_none hx h)
  have Hn := hid (show (FloatKind.f32.format.order z 0 == some .eq) = false by
    show (S.order z 0 == some .eq) = false
    rw [order_nan32 h1]; rfl)
  clear h hx h1
  go_enter Tryd.func58, Tryd.ntmps58
  go_wp2
  go_ret
  exact ⟨by simp [Hn.out], (Below.refl _ _).drew⟩

theorem l00In_t (n a b : Int) (h1 : a ≤ n) (h2 : n ≤ b) (w : World) :
    Calls Tryd.prog 59 #[.int .i64 n, .int .i64 a, .int .i64 b] w fun e w' => e = .returned (.bool true) ∧ w = w' := by
  go_enter Tryd.func59, Tryd.ntmps59
  go_wp2
  go_ret
  exact ⟨by first | rfl | (simp; done) | (simp; omega), rfl⟩

theorem l00In_f (n a b : Int) (hn : ¬ (a ≤ n ∧ n ≤ b)) (w : World) :
    Calls Tryd.prog 59 #[.int .i64 n, .int .i64 a, .int .i64 b] w fun e w' => e = .returned (.bool false) ∧ w = w' := by
  by_cases h0 : a ≤ n
  · have h3 : b < n := by omega
    clear hn
    go_enter Tryd.func59, Tryd.ntmps59
    go_wp2
    go_ret
    exact ⟨by first | rfl | (simp; done) | (simp; omega), rfl⟩
  · have h3 : n < a := by omega
    have h4 : decide (a ≤ n) = false := by simp; omega
    clear hn h0
    go_enter Tryd.func59, Tryd.ntmps59
    go_wp2
    go_ret
    exact ⟨by simp, rfl⟩

theorem round_even (X K : Nat) (h : D.write ((D.read X).integral .even) = K) (hn : ∃ s m e, D.read X = .number s m e) (w : World) : (callFunc 129 #[.float .f64 X]).run Tryd.prog w = .ok (.value (.float .f64 K)) w := by
  rw [run_callFunc_extern Tryd.func129 (by kernel_rfl) (by kernel_rfl) (by kernel_rfl) (e := Extern.MathFloor.toIntegral "math.RoundToEven" .even) (by kernel_rfl)]
  obtain ⟨s, m, e, hr⟩ := hn
  have hr' : FloatKind.f64.decode X = .number s m e := hr
  rw [hr] at h
  have h' : FloatKind.f64.encode ((Ieee.Datum.number s m e).integral .even) = K := h
  have e2 : (Extern.MathFloor.toIntegral "math.RoundToEven" .even #[.float .f64 X]).run Tryd.prog w = .ok (.float .f64 K) w := by
    rw [← h']
    show Sem.run _ (match FloatKind.f64.decode X with | .nan _ _ => _ | d => (pure (Value.float .f64 (FloatKind.f64.encode (d.integral .even))) : Sem Value)) w = _
    rw [hr']
    rfl
  rw [e2]
  rfl

theorem iNearest_z (X K : Nat) (hx : ∀ w, (callFunc 129 #[.float .f64 X]).run Tryd.prog w = .ok (.value (.float .f64 K)) w) (ho : (FloatKind.f64.format.order K 0 == some .eq) = true) (w : World) :
    Calls Tryd.prog 128 #[.float .f64 X] w fun e w' => e = .returned (.float .f64 0) ∧ w = w' := by
  go_enter Tryd.func128, Tryd.ntmps128
  go_wp2
  go_ret
  exact ⟨rfl, rfl⟩

theorem iNearest_n (X K : Nat) (hx : ∀ w, (callFunc 129 #[.float .f64 X]).run Tryd.prog w = .ok (.value (.float .f64 K)) w) (ho : (FloatKind.f64.format.order K 0 == some .eq) = false) (w : World) :
    Calls Tryd.prog 128 #[.float .f64 X] w fun e w' => e = .returned (.float .f64 K) ∧ w = w' := by
  go_enter Tryd.func128, Tryd.ntmps128
  go_wp2
  go_ret
  exact ⟨rfl, rfl⟩

theorem iNearest (s : Bool) (m n : Nat) (hm : m < DINF) (hn : n < DINF) (he : D.write ((D.read (sgD s m)).integral .even) = sgD s n) (w : World) :
    Calls Tryd.prog 128 #[.float .f64 (sgD s m)] w fun e w' => e = .returned (.float .f64 (if n = 0 then 0 else sgD s n)) ∧ w = w' := by
  obtain ⟨M, e, h1, h2⟩ := read_sgD (s := s) hm
  have hx := fun w => round_even (sgD s m) (sgD s n) he ⟨_, _, _, h2⟩ w
  have ho : (FloatKind.f64.format.order (sgD s n) 0 == some .eq) = decide (n = 0) := order_zeroD hn
  by_cases h : n = 0
  · rw [decide_eq_true h] at ho
    rw [if_pos h]
    exact iNearest_z _ _ hx ho w
  · rw [decide_eq_false h] at ho
    rw [if_neg h]
    exact iNearest_n _ _ hx ho w

@[go_sem] theorem ext_nanWord (w : World) : (callFunc 169 #[.int .u64 9221120237041090561]).run Tryd.prog w = .ok (.value (.float .f64 9221120237041090561)) w := by
  rw [run_callFunc_extern Tryd.func169 (by kernel_rfl) (by kernel_rfl) (by kernel_rfl) (e := Extern.MathFloatBits.float64frombits) (by kernel_rfl)]
  rfl

set_option maxHeartbeats 1000000 in
set_option maxRecDepth 100000 in
theorem iUnit_fin (x : Nat) (hx : x < 4294967296) (hf : finB x = true) {s : Bool} {m n g X y a b p : Nat} (hu : UnitF x s m n g X y a b p) (w : World) :
    Calls Tryd.prog 63 #[.float .f32 x] w fun e w' => e = .returned (.complex .f32 a b) ∧ w = w' := by
  have U := hid hu
  have Hx := hid hx
  have Hf := hid hf
  have cw := fun w => run_conv_wid (P := Tryd.prog) w 22 77 x hx Tryd.underlying22 Tryd.underlying77 (finB_iff.1 hf)
  rw [hu.wide] at cw
  have m1 := fun w => run_float_arith (P := Tryd.prog) w .mul 77 .f64 _ _ _ hu.mul
  rw [show TAU = 4618760256179416344 from rfl] at m1
  have m2 := fun w => run_float_arith (P := Tryd.prog) w .mul 77 .f64 _ _ _ hu.sq
  have s1 : ∀ w, (binOp .sub 77 (.float .f64 (sgD s m)) (.float .f64 (if n = 0 then 0 else sgD s n))).run Tryd.prog w = .ok (.float .f64 g) w := by
    intro w
    by_cases h : n = 0
    · rw [if_pos h]; exact run_float_arith (P := Tryd.prog) w .sub 77 .f64 _ _ _ (hu.g0 h).2
    · rw [if_neg h]; exact run_float_arith (P := Tryd.prog) w .sub 77 .f64 _ _ _ (hu.g1 h)
  have hN := hid (fun w => iNearest s m n hu.hm hu.hn hu.he w)
  clear hx hf hu
  generalize (if n = 0 then 0 else sgD s n) = K at s1 hN
  go_enter Tryd.func63, Tryd.ntmps63
  go_wp2_with fail
  refine (isFinite_t x Hx.out Hf.out _).mono ?_
  rintro e w1 ⟨rfl, rfl⟩
  go_wp2_with fail
  refine (hN.out _).mono ?_
  rintro e w2 ⟨rfl, rfl⟩
  go_wp2_with fail
  clear cw m1 m2 s1
  go_loop [9, 7, 8] (fun i C Z => ∃ m : Nat, m ≤ 14 ∧ i = .int .i64 (m : Int) ∧ C = .float .f64 (cosF y (14 - m)) ∧ Z = .float .f64 (sinF y (14 - m))) (fun i _ _ => (intOf i).toNat)
  case atStart => exact ⟨14, by omega, rfl, rfl, rfl⟩
  case round =>
    obtain ⟨m, hm1, rfl, rfl, rfl⟩ := hrel
    by_cases hm0 : 1 ≤ m
    · have hm3 : (1 : Int) ≤ (m : Int) := by omega
      have hM := hid hm1
      have c1 := (cosF_mg U.out.hy U.out.hv (14 - m) (by omega))
      obtain ⟨⟨ka, kb, kcc, kd⟩, ⟨a1, ea1, eb1⟩, ⟨a2, ea2, eb2⟩⟩ := con_facts (m := m) hm0 (by omega)
      obtain ⟨q1, r1, e1, e2, e3, _⟩ := step_unit U.out.hy U.out.hv ka kb c1.1 (by omega)
      obtain ⟨q2, r2, f1, f2, f3, _⟩ := step_unit U.out.hy U.out.hv kcc kd c1.2 (by omega)
      have n1 : stepD (kc m) y (cosF y (14 - m)) = cosF y (14 - (m - 1)) := by rw [show 14 - (m - 1) = (14 - m) + 1 by omega]; show _ = stepD (kc (14 - (14 - m))) y (cosF y (14 - m)); rw [show 14 - (14 - m) = m by omega]
      have n2 : stepD (ks m) y (sinF y (14 - m)) = sinF y (14 - (m - 1)) := by rw [show 14 - (m - 1) = (14 - m) + 1 by omega]; show _ = stepD (ks (14 - (14 - m))) y (sinF y (14 - m)); rw [show 14 - (14 - m) = m by omega]
      rw [n1] at e3
      rw [n2] at f3
      have d1 := fun w => run_float_arith (P := Tryd.prog) w .quo 77 .f64 _ _ _ e1
      have d2 := fun w => run_float_arith (P := Tryd.prog) w .mul 77 .f64 _ _ _ e2
      have d3 := fun w => run_float_arith (P := Tryd.prog) w .sub 77 .f64 _ _ _ e3
      have d4 := fun w => run_float_arith (P := Tryd.prog) w .quo 77 .f64 _ _ _ f1
      have d5 := fun w => run_float_arith (P := Tryd.prog) w .mul 77 .f64 _ _ _ f2
      have d6 := fun w => run_float_arith (P := Tryd.prog) w .sub 77 .f64 _ _ _ f3
      clear e1 e2 e3 f1 f2 f3 n1 n2 c1 ka kb kcc kd
      have cv1 : ∀ w, (convert 3 77 (.int .i64 ((2 * (m : Int) - 1) * (2 * (m : Int))))).run Tryd.prog w = .ok (.float .f64 (kc m)) w := fun w => rfl
      have cv2 : ∀ w, (convert 3 77 (.int .i64 ((2 * (m : Int)) * (2 * (m : Int) + 1)))).run Tryd.prog w = .ok (.float .f64 (ks m)) w := fun w => rfl
      have hr : 0 ≤ (2 * (m : Int) - 1) * (2 * (m : Int)) ∧ (2 * (m : Int) - 1) * (2 * (m : Int)) ≤ 1000 ∧ 0 ≤ (2 * (m : Int)) * (2 * (m : Int) + 1) ∧ (2 * (m : Int)) * (2 * (m : Int) + 1) ≤ 1000 := by
        have H : m = 1 ∨ m = 2 ∨ m = 3 ∨ m = 4 ∨ m = 5 ∨ m = 6 ∨ m = 7 ∨ m = 8 ∨ m = 9 ∨ m = 10 ∨ m = 11 ∨ m = 12 ∨ m = 13 ∨ m = 14 := by omega
        rcases H with rfl | rfl | rfl | rfl | rfl | rfl | rfl | rfl | rfl | rfl | rfl | rfl | rfl | rfl <;> decide
      have w1 : IntKind.i64.wrap ((2 * (m : Int) - 1) * (2 * (m : Int))) = (2 * (m : Int) - 1) * (2 * (m : Int)) := by rw [IntKind.wrap_i64]; omega
      have w2 : IntKind.i64.wrap ((2 * (m : Int)) * (2 * (m : Int) + 1)) = (2 * (m : Int)) * (2 * (m : Int) + 1) := by rw [IntKind.wrap_i64]; omega
      clear hr
      clear ea1 eb1 ea2 eb2
      go_wp2_with fail
      go_round
      case rel => exact ⟨m - 1, by omega, by first | go_num | (congr 1; omega), rfl, rfl⟩
      case measure => simp [intOf]; omega
    · obtain rfl : m = 0 := by omega
      have p1 := fun w => run_float_arith (P := Tryd.prog) w .mul 77 .f64 _ _ _ U.out.pr
      have z1 := fun w => run_convert_float_float (P := Tryd.prog) w 77 22 .f64 .f32 _ _ (by rw [Tryd.underlying77]; rfl) Tryd.underlying22 U.out.ca
      have z2 := fun w => run_convert_float_float (P := Tryd.prog) w 77 22 .f64 .f32 _ _ (by rw [Tryd.underlying77]; rfl) Tryd.underlying22 U.out.cb
      go_wp2_with fail
      go_ret
      exact ⟨rfl, rfl⟩

set_option maxHeartbeats 1000000 in
set_option maxRecDepth 100000 in
theorem sUnit_fin (x : Nat) (hx : x < 4294967296) (hf : finB x = true) {s : Bool} {m n g X y a b p : Nat} (hu : UnitF x s m n g X y a b p) (w : World) :
    Calls Tryd.prog 77 #[.float .f32 x] w fun e w' => e = .returned (.complex .f32 a b) ∧ w = w' := by
  have U := hid hu
  have Hx := hid hx
  have Hf := hid hf
  have cw := fun w => run_conv_wid (P := Tryd.prog) w 22 77 x hx Tryd.underlying22 Tryd.underlying77 (finB_iff.1 hf)
  rw [hu.wide] at cw
  have m1 := fun w => run_float_arith (P := Tryd.prog) w .mul 77 .f64 _ _ _ hu.mul
  rw [show TAU = 4618760256179416344 from rfl] at m1
  have m2 := fun w => run_float_arith (P := Tryd.prog) w .mul 77 .f64 _ _ _ hu.sq
  obtain ⟨M, E, hr1, hr2⟩ := read_sgD (s := s) hu.hm
  have hR := fun w => round_even (sgD s m) (sgD s n) hu.he ⟨_, _, _, hr2⟩ w
  have ho : (FloatKind.f64.format.order (sgD s n) 0 == some .eq) = decide (n = 0) := order_zeroD hu.hn
  have ho2 : (FloatKind.f64.format.order (sgD s n) 0 != some .eq) = !decide (n = 0) := by rw [← ho]; rfl
  clear hr1 hr2
  by_cases hn : n = 0
  · have eg := (hu.g0 hn).1
    rw [← eg] at cw hR
    have hq : (FloatKind.f64.format.order (sgD s n) 0 != some .eq) = false := by rw [ho2, decide_eq_true hn]; rfl
    clear hx hf hu ho ho2 eg hn
    generalize sgD s n = K at hR hq
    go_enter Tryd.func77, Tryd.ntmps77
    go_wp2_with fail
    refine (sFinite_t x Hx.out Hf.out _).mono ?_
    rintro e w1 ⟨rfl, rfl⟩
    go_wp2_with fail
    clear cw m1 m2 hR hq
    go_loop [11, 9, 10] (fun i C Z => ∃ m : Nat, m ≤ 14 ∧ i = .int .i64 (m : Int) ∧ C = .float .f64 (cosF y (14 - m)) ∧ Z = .float .f64 (sinF y (14 - m))) (fun i _ _ => (intOf i).toNat)
    case atStart => exact ⟨14, by omega, rfl, rfl, rfl⟩
    case round =>
      obtain ⟨m, hm1, rfl, rfl, rfl⟩ := hrel
      by_cases hm0 : 1 ≤ m
      · have hm3 : (1 : Int) ≤ (m : Int) := by omega
        have hM := hid hm1
        have c1 := (cosF_mg U.out.hy U.out.hv (14 - m) (by omega))
        obtain ⟨⟨ka, kb, kcc, kd⟩, ⟨a1, ea1, eb1⟩, ⟨a2, ea2, eb2⟩⟩ := con_facts (m := m) hm0 (by omega)
        obtain ⟨q1, r1, e1, e2, e3, _⟩ := step_unit U.out.hy U.out.hv ka kb c1.1 (by omega)
        obtain ⟨q2, r2, f1, f2, f3, _⟩ := step_unit U.out.hy U.out.hv kcc kd c1.2 (by omega)
        have n1 : stepD (kc m) y (cosF y (14 - m)) = cosF y (14 - (m - 1)) := by rw [show 14 - (m - 1) = (14 - m) + 1 by omega]; show _ = stepD (kc (14 - (14 - m))) y (cosF y (14 - m)); rw [show 14 - (14 - m) = m by omega]
        have n2 : stepD (ks m) y (sinF y (14 - m)) = sinF y (14 - (m - 1)) := by rw [show 14 - (m - 1) = (14 - m) + 1 by omega]; show _ = stepD (ks (14 - (14 - m))) y (sinF y (14 - m)); rw [show 14 - (14 - m) = m by omega]
        rw [n1] at e3
        rw [n2] at f3
        have d1 := fun w => run_float_arith (P := Tryd.prog) w .quo 77 .f64 _ _ _ e1
        have d2 := fun w => run_float_arith (P := Tryd.prog) w .mul 77 .f64 _ _ _ e2
        have d3 := fun w => run_float_arith (P := Tryd.prog) w .sub 77 .f64 _ _ _ e3
        have d4 := fun w => run_float_arith (P := Tryd.prog) w .quo 77 .f64 _ _ _ f1
        have d5 := fun w => run_float_arith (P := Tryd.prog) w .mul 77 .f64 _ _ _ f2
        have d6 := fun w => run_float_arith (P := Tryd.prog) w .sub 77 .f64 _ _ _ f3
        clear e1 e2 e3 f1 f2 f3 n1 n2 c1 ka kb kcc kd
        have cv1 : ∀ w, (convert 3 77 (.int .i64 (2 * (m : Int)))).run Tryd.prog w = .ok (.float .f64 (k2 m)) w := fun w => rfl
        have d7 := fun w => run_float_arith (P := Tryd.prog) w .sub 77 .f64 _ _ _ ea1
        have d8 := fun w => run_float_arith (P := Tryd.prog) w .mul 77 .f64 _ _ _ eb1
        have d9 := fun w => run_float_arith (P := Tryd.prog) w .add 77 .f64 _ _ _ ea2
        have dA := fun w => run_float_arith (P := Tryd.prog) w .mul 77 .f64 _ _ _ eb2
        clear ea1 eb1 ea2 eb2
        go_wp2_with fail
        go_round
        case rel => exact ⟨m - 1, by omega, by first | go_num | (congr 1; omega), rfl, rfl⟩
        case measure => simp [intOf]; omega
      · obtain rfl : m = 0 := by omega
        have p1 := fun w => run_float_arith (P := Tryd.prog) w .mul 77 .f64 _ _ _ U.out.pr
        have z1 := fun w => run_convert_float_float (P := Tryd.prog) w 77 22 .f64 .f32 _ _ (by rw [Tryd.underlying77]; rfl) Tryd.underlying22 U.out.ca
        have z2 := fun w => run_convert_float_float (P := Tryd.prog) w 77 22 .f64 .f32 _ _ (by rw [Tryd.underlying77]; rfl) Tryd.underlying22 U.out.cb
        go_wp2_with fail
        go_ret
        exact ⟨rfl, rfl⟩

  · have e1 := hu.g1 hn
    have s1 := fun w => run_float_arith (P := Tryd.prog) w .sub 77 .f64 _ _ _ e1
    have hq : (FloatKind.f64.format.order (sgD s n) 0 != some .eq) = true := by rw [ho2, decide_eq_false hn]; rfl
    clear hx hf hu ho ho2 e1 hn
    generalize sgD s n = K at hR hq s1
    generalize sgD s m = V at hR s1 cw
    go_enter Tryd.func77, Tryd.ntmps77
    go_wp2_with fail
    refine (sFinite_t x Hx.out Hf.out _).mono ?_
    rintro e w1 ⟨rfl, rfl⟩
    go_wp2_with fail
    clear cw m1 m2 s1 hR hq
    go_loop [11, 9, 10] (fun i C Z => ∃ m : Nat, m ≤ 14 ∧ i = .int .i64 (m : Int) ∧ C = .float .f64 (cosF y (14 - m)) ∧ Z = .float .f64 (sinF y (14 - m))) (fun i _ _ => (intOf i).toNat)
    case atStart => exact ⟨14, by omega, rfl, rfl, rfl⟩
    case round =>
      obtain ⟨m, hm1, rfl, rfl, rfl⟩ := hrel
      by_cases hm0 : 1 ≤ m
      · have hm3 : (1 : Int) ≤ (m : Int) := by omega
        have hM := hid hm1
        have c1 := (cosF_mg U.out.hy U.out.hv (14 - m) (by omega))
        obtain ⟨⟨ka, kb, kcc, kd⟩, ⟨a1, ea1, eb1⟩, ⟨a2, ea2, eb2⟩⟩ := con_facts (m := m) hm0 (by omega)
        obtain ⟨q1, r1, e1, e2, e3, _⟩ := step_unit U.out.hy U.out.hv ka kb c1.1 (by omega)
        obtain ⟨q2, r2, f1, f2, f3, _⟩ := step_unit U.out.hy U.out.hv kcc kd c1.2 (by omega)
        have n1 : stepD (kc m) y (cosF y (14 - m)) = cosF y (14 - (m - 1)) := by rw [show 14 - (m - 1) = (14 - m) + 1 by omega]; show _ = stepD (kc (14 - (14 - m))) y (cosF y (14 - m)); rw [show 14 - (14 - m) = m by omega]
        have n2 : stepD (ks m) y (sinF y (14 - m)) = sinF y (14 - (m - 1)) := by rw [show 14 - (m - 1) = (14 - m) + 1 by omega]; show _ = stepD (ks (14 - (14 - m))) y (sinF y (14 - m)); rw [show 14 - (14 - m) = m by omega]
        rw [n1] at e3
        rw [n2] at f3
        have d1 := fun w => run_float_arith (P := Tryd.prog) w .quo 77 .f64 _ _ _ e1
        have d2 := fun w => run_float_arith (P := Tryd.prog) w .mul 77 .f64 _ _ _ e2
        have d3 := fun w => run_float_arith (P := Tryd.prog) w .sub 77 .f64 _ _ _ e3
        have d4 := fun w => run_float_arith (P := Tryd.prog) w .quo 77 .f64 _ _ _ f1
        have d5 := fun w => run_float_arith (P := Tryd.prog) w .mul 77 .f64 _ _ _ f2
        have d6 := fun w => run_float_arith (P := Tryd.prog) w .sub 77 .f64 _ _ _ f3
        clear e1 e2 e3 f1 f2 f3 n1 n2 c1 ka kb kcc kd
        have cv1 : ∀ w, (convert 3 77 (.int .i64 (2 * (m : Int)))).run Tryd.prog w = .ok (.float .f64 (k2 m)) w := fun w => rfl
        have d7 := fun w => run_float_arith (P := Tryd.prog) w .sub 77 .f64 _ _ _ ea1
        have d8 := fun w => run_float_arith (P := Tryd.prog) w .mul 77 .f64 _ _ _ eb1
        have d9 := fun w => run_float_arith (P := Tryd.prog) w .add 77 .f64 _ _ _ ea2
        have dA := fun w => run_float_arith (P := Tryd.prog) w .mul 77 .f64 _ _ _ eb2
        clear ea1 eb1 ea2 eb2
        go_wp2_with fail
        go_round
        case rel => exact ⟨m - 1, by omega, by first | go_num | (congr 1; omega), rfl, rfl⟩
        case measure => simp [intOf]; omega
      · obtain rfl : m = 0 := by omega
        have p1 := fun w => run_float_arith (P := Tryd.prog) w .mul 77 .f64 _ _ _ U.out.pr
        have z1 := fun w => run_convert_float_float (P := Tryd.prog) w 77 22 .f64 .f32 _ _ (by rw [Tryd.underlying77]; rfl) Tryd.underlying22 U.out.ca
        have z2 := fun w => run_convert_float_float (P := Tryd.prog) w 77 22 .f64 .f32 _ _ (by rw [Tryd.underlying77]; rfl) Tryd.underlying22 U.out.cb
        go_wp2_with fail
        go_ret
        exact ⟨rfl, rfl⟩

theorem isTypeOf (v : Value) (w : World) : (Extern.ReflectliteType.typeOf #[.iface 291 v]).run Tryd.prog w = .ok (.iface 245 (.agg #[.pointer (some ⟨15, 291, none⟩)])) w := by kernel_rfl

theorem isComparable (w : World) : ((Extern.ReflectliteType.method fun t => do Extern.Rtype.noPackHeld "Comparable" t; pure (.bool (← typeInfo t).comparable)) #[.agg #[.pointer (some ⟨15, 291, none⟩)]]).run Tryd.prog w = .ok (.bool true) w := by kernel_rfl

theorem isCompCall (w : World) : (callFunc 271 #[.agg #[.pointer (some ⟨15, 291, none⟩)]]).run Tryd.prog w = .ok (Next.value (.bool true)) w := by
  have h32 := @run_callFunc_extern Tryd.prog 271 _ (Extern.ReflectliteType.method fun t => do Extern.Rtype.noPackHeld "Comparable" t; pure (.bool (← typeInfo t).comparable)) Tryd.func271 (by kernel_rfl) (by kernel_rfl) (by kernel_rfl) (by kernel_rfl)
  rw [h32, isComparable]
  rfl

theorem isMethodComparable (v : Value) (w : World) : (Go.method 435 245 v "Comparable").run Tryd.prog w = .ok (271, v) w := by kernel_rfl

theorem isComp : (Tryd.prog.info? 291).map (·.comparable) = some true := by kernel_rfl

theorem isSize : (Tryd.prog.info? 293).map (·.size) = some 1 := by kernel_rfl

theorem noIsE (v : Value) (xT : TypeId) (w : World) : (Instr.typeAssert (.iface 291 v) xT 247 true).run Tryd.prog w = .ok (.tuple #[.nilIface, .bool false]) w := run_typeAssert_lacksB Tryd.underlying247 (by kernel_rfl) (by kernel_rfl) v xT w

theorem noUnwrapE (v : Value) (xT : TypeId) (w : World) : (Instr.typeAssert (.iface 291 v) xT 250 true).run Tryd.prog w = .ok (.tuple #[.nilIface, .bool false]) w := run_typeAssert_lacksB Tryd.underlying250 (by kernel_rfl) (by kernel_rfl) v xT w

theorem noUnwrapsE (v : Value) (xT : TypeId) (w : World) : (Instr.typeAssert (.iface 291 v) xT 252 true).run Tryd.prog w = .ok (.tuple #[.nilIface, .bool false]) w := run_typeAssert_lacksB Tryd.underlying252 (by kernel_rfl) (by kernel_rfl) v xT w

set_option maxRecDepth 100000 in
/-- errors.Is(x, x), x a pointer to an errors.errorString. -/
theorem is_same (a : Addr) (w : World) :
    Calls Tryd.prog 126 #[.iface 291 (.pointer (some a)), .iface 291 (.pointer (some a))] w fun e w' => e = .returned (.bool true) ∧ w' = w := by
  obtain ⟨i, hi, hcmp⟩ := Option.map_eq_some_iff.1 isComp
  obtain ⟨j, hj, hjs⟩ := Option.map_eq_some_iff.1 isSize
  have h8 := @run_callFunc_extern Tryd.prog 167 _ Extern.ReflectliteType.typeOf Tryd.func167 (by kernel_rfl) (by kernel_rfl) (by kernel_rfl) (by kernel_rfl)
  have tT := isTypeOf
  have cT := isCompCall
  have mR := isMethodComparable
  have heq := run_eql_iface_ptr_same (P := Tryd.prog) w a Tryd.underlying90 Tryd.underlying291 hi hcmp hj
  go_enter Tryd.func126, Tryd.ntmps126
  go_wp2
  refine wp_loop_rounds 1 ?_
  rw [rounds_succ]
  go_wp2
  go_ret
  exact ⟨rfl, rfl⟩

set_option maxRecDepth 100000 in
/-- errors.Is(x, y), two different pointers to errors.errorString. -/
theorem is_other (a b : Addr) (ca cb : Array Value) (ta tb : TypeId) (w : World) (hne : a ≠ b) (ha : w.heap[a.block]? = some (.cells ca ta (0, 0))) (hb : w.heap[b.block]? = some (.cells cb tb (0, 0))) :
    Calls Tryd.prog 126 #[.iface 291 (.pointer (some a)), .iface 291 (.pointer (some b))] w fun e w' => e = .returned (.bool false) ∧ w' = w := by
  obtain ⟨i, hi, hcmp⟩ := Option.map_eq_some_iff.1 isComp
  obtain ⟨j, hj, hjs⟩ := Option.map_eq_some_iff.1 isSize
  have h8 := @run_callFunc_extern Tryd.prog 167 _ Extern.ReflectliteType.typeOf Tryd.func167 (by kernel_rfl) (by kernel_rfl) (by kernel_rfl) (by kernel_rfl)
  have tT := isTypeOf
  have cT := isCompCall
  have mR := isMethodComparable
  have nE := noIsE
  have uE := noUnwrapE
  have vE := noUnwrapsE
  have heq := run_eql_iface_ptr_other (P := Tryd.prog) w Tryd.underlying90 Tryd.underlying291 hi hcmp hj (by rw [hjs]; decide) hne ha hb
  go_enter Tryd.func126, Tryd.ntmps126
  go_wp2
  refine wp_loop_rounds 1 ?_
  rw [rounds_succ]
  go_wp2
  go_ret
  exact ⟨rfl, rfl⟩

theorem info_spot : (Tryd.prog.info? 25).map (·.size) = some 2 := by kernel_rfl

@[go_sem] theorem semAtSome (l : Nat) (ρ : Operand → Value) (o : Oper) (h : ∀ c, o.op ≠ .defer c) : Oper.semAt (some l) ρ o = execOp ρ o := Oper.semAt_some l ρ o h

theorem kept_drewK {w0 : World} {l : List (Nat × Array Value × TypeId)} {w : World} (k : Kept w0 l w) (n : Nat) : Kept w0 l (w.drewN n) := ⟨below_drewN k.1 n, fun x hx => k.2 x hx⟩

set_option maxRecDepth 100000 in
theorem eqSpot (a b : Int) (w : World) :
    Calls Tryd.prog 17 #[.agg #[.int .i16 a, .int .i16 b], .agg #[.int .i16 a, .int .i16 b]] w fun e w' => e = .returned (.bool true) ∧ Below w.heap.size w w' := by
  have k0 : Hid (Kept w [(w.heap.size + 1, #[.int .i16 a, .int .i16 b], 25), (w.heap.size, #[.int .i16 a, .int .i16 b], 25)] ((w.alloc (.cells #[.int .i16 a, .int .i16 b] 25)).alloc (.cells #[.int .i16 a, .int .i16 b] 25))) := hid ((((Kept.nil w).push _ _).push _ _).sub (by simp))
  go_enter Tryd.func17, Tryd.ntmps17
  go_wp2_with fail
  generalize ((w.alloc (.cells #[.int .i16 a, .int .i16 b] 25)).alloc (.cells #[.int .i16 a, .int .i16 b] 25)) = w1 at k0 ⊢
  go_loopw [5] (fun i wr => ((i = .int .i64 0) ∨ (i = .int .i64 1) ∨ (i = .int .i64 2)) ∧ Hid (Kept w [(w.heap.size + 1, #[.int .i16 a, .int .i16 b], 25), (w.heap.size, #[.int .i16 a, .int .i16 b], 25)] wr)) (fun i _ => 2 - (intOf i).toNat)
  case atStart => exact ⟨.inl rfl, k0⟩
  case round =>
    obtain ⟨hc, h0⟩ := hrel
    clear k0
    have ra := h0.out.at (x := (w.heap.size, #[.int .i16 a, .int .i16 b], 25)) (by simp)
    have rb := h0.out.at (x := (w.heap.size + 1, #[.int .i16 a, .int .i16 b], 25)) (by simp)
    have c0 : wr.cell? ⟨w.heap.size, 0, none⟩ = some (.int .i16 a) := (cell_of_row wr _ 0 _ _ _ ra).trans rfl
    have c1 : wr.cell? ⟨w.heap.size, 1, none⟩ = some (.int .i16 b) := (cell_of_row wr _ 1 _ _ _ ra).trans rfl
    have d0 : wr.cell? ⟨w.heap.size + 1, 0, none⟩ = some (.int .i16 a) := (cell_of_row wr _ 0 _ _ _ rb).trans rfl
    have d1 : wr.cell? ⟨w.heap.size + 1, 1, none⟩ = some (.int .i16 b) := (cell_of_row wr _ 1 _ _ _ rb).trans rfl
    clear ra rb
    rcases hc with rfl | rfl | rfl
    · go_wp2_with fail
      go_quiet (fail)
      go_wp2
      go_roundw
      case rel => exact ⟨.inr (.inl (by go_num)), hid (kept_drewK h0.out nq)⟩
      case measure => simp [intOf]
    · go_wp2_with fail
      go_quiet (fail)
      go_wp2
      go_roundw
      case rel => exact ⟨.inr (.inr (by go_num)), hid (kept_drewK h0.out nq)⟩
      case measure => simp [intOf]
    · go_wp2
      go_ret
      exact ⟨rfl, h0.out.1⟩

/-- The errors that are variables: each points to a cell of its own. -/
structure Sent (w : World) (A : Nat → Addr) : Prop where
  c0 : w.cell? ⟨2, 0, none⟩ = some (.iface 291 (.pointer (some (A 0))))
  c1 : w.cell? ⟨0, 0, none⟩ = some (.iface 291 (.pointer (some (A 1))))
  c2 : w.cell? ⟨1, 0, none⟩ = some (.iface 291 (.pointer (some (A 2))))
  c3 : w.cell? ⟨3, 0, none⟩ = some (.iface 291 (.pointer (some (A 3))))
  c4 : w.cell? ⟨4, 0, none⟩ = some (.iface 291 (.pointer (some (A 4))))
  b : ∀ i, i < 5 → ∃ c t, w.heap[(A i).block]? = some (.cells c t (0, 0))
  ne : ∀ i j, i < 5 → j < 5 → i ≠ j → A i ≠ A j

theorem cell_below {w w' : World} {a : Addr} {v : Value} (h : w.cell? a = some v) (hb : Below w.heap.size w w') : w'.cell? a = some v := by
  have hlt : a.block < w.heap.size := by
    rcases Nat.lt_or_ge a.block w.heap.size with h' | h'
    · exact h'
    · simp [World.cell?, Array.getElem?_eq_none h'] at h
  unfold World.cell? at h ⊢
  rw [hb.block _ hlt]
  exact h

theorem Sent.stay {w w' : World} {A : Nat → Addr} (h : Sent w A) (hb : Below w.heap.size w w') : Sent w' A :=
  ⟨cell_below h.c0 hb, cell_below h.c1 hb, cell_below h.c2 hb, cell_below h.c3 hb, cell_below h.c4 hb, fun i hi => by
    obtain ⟨c, t, e⟩ := h.b i hi
    exact ⟨c, t, by rw [hb.block _ (lt_of_block e)]; exact e⟩, h.ne⟩

theorem code_1 (A : Nat → Addr) (w : World) (S : Sent w A) : Calls Tryd.prog 62 #[.iface 291 (.pointer (some (A 1)))] w fun e w' => e = .returned (.int .i64 2) ∧ w' = w := by
  have c0 := S.c0
  have c1 := S.c1
  have HS := hid S
  clear S
  go_enter Tryd.func62, Tryd.ntmps62
  go_wp2_with fail
  refine (is_other (A 1) (A 0) _ _ _ _ _ (HS.out.ne 1 0 (by omega) (by omega) (by omega)) (HS.out.b 1 (by omega)).choose_spec.choose_spec (HS.out.b 0 (by omega)).choose_spec.choose_spec).mono ?_
  rintro e0 u0 ⟨rfl, rfl⟩
  go_wp2_with fail
  refine (is_same (A 1) _).mono ?_
  rintro e9 u9 ⟨rfl, rfl⟩
  go_wp2
  go_ret
  exact ⟨rfl, rfl⟩

theorem err_star : "*" ++ "errors.errorString" = "*errors.errorString" := by decide

theorem row_err (u : TypeId) (h : Tryd.prog.typeName? 3 u = some "*errors.errorString") : u = 291 :=
  typeName_ptr_named (nm := "errors.errorString") (by rw [err_star]; kernel_rfl) (by kernel_rfl) (by decide) u (by rw [err_star]; exact h)

/-- What the rows' condition says of the variables. -/
theorem sent_of {W : World} (h : laidMetH Tryd.prog Rows.fnExactSpotOfRow.laid W) : ∃ A, Sent W A ∧ (W.var? Tryd.prog "loop.example/g01224/impl.errUnfit" = some #[.iface 291 (.pointer (some (A 0)))] ∧ W.var? Tryd.prog "loop.example/g01224/impl.errBeyond" = some #[.iface 291 (.pointer (some (A 1)))] ∧ W.var? Tryd.prog "loop.example/g01224/impl.errCrowded" = some #[.iface 291 (.pointer (some (A 2)))] ∧ W.var? Tryd.prog "loop.example/g01224/impl.errNoText" = some #[.iface 291 (.pointer (some (A 3)))] ∧ W.var? Tryd.prog "loop.example/g01224/impl.errNowhere" = some #[.iface 291 (.pointer (some (A 4)))]) := by
  rw [MakeChecks.laidMetH_plain _ _ _ (by kernel_rfl)] at h
  obtain ⟨a0, a1, a2, a3, a4, ⟨v0, v1, v2, v3, v4⟩, ⟨b0, b1, b2, b3, b4⟩, n01, n02, n03, n04, n12, n13, n14, n23, n24, n34⟩ := laid_five (tp := 291) h
    (g0 := 2) (by kernel_rfl) (by kernel_rfl)
    (g1 := 0) (by kernel_rfl) (by kernel_rfl)
    (g2 := 1) (by kernel_rfl) (by kernel_rfl)
    (g3 := 3) (by kernel_rfl) (by kernel_rfl)
    (g4 := 4) (by kernel_rfl) (by kernel_rfl)
    Tryd.underlying90 row_err Tryd.underlying291 Tryd.underlying293 rfl rfl Tryd.underlying9 (by kernel_rfl) (by kernel_rfl)
  refine ⟨fun i => match i with | 0 => a0 | 1 => a1 | 2 => a2 | 3 => a3 | _ => a4, ⟨?_, ?_, ?_, ?_, ?_, ?_, ?_⟩, v0, v1, v2, v3, v4⟩
  · simpa using World.var?_cell (g := 2) (by kernel_rfl) v0 0
  · simpa using World.var?_cell (g := 0) (by kernel_rfl) v1 0
  · simpa using World.var?_cell (g := 1) (by kernel_rfl) v2 0
  · simpa using World.var?_cell (g := 3) (by kernel_rfl) v3 0
  · simpa using World.var?_cell (g := 4) (by kernel_rfl) v4 0
  · intro i hi
    match i, hi with
    | 0, _ => exact b0
    | 1, _ => exact b1
    | 2, _ => exact b2
    | 3, _ => exact b3
    | 4, _ => exact b4
  · intro i j hi hj hne
    match i, j, hi, hj, hne with
    | 0, 0, _, _, h => exact absurd rfl h
    | 0, 1, _, _, _ => exact n01
    | 0, 2, _, _, _ => exact n02
    | 0, 3, _, _, _ => exact n03
    | 0, 4, _, _, _ => exact n04
    | 1, 0, _, _, _ => exact n01.symm
    | 1, 1, _, _, h => exact absurd rfl h
    | 1, 2, _, _, _ => exact n12
    | 1, 3, _, _, _ => exact n13
    | 1, 4, _, _, _ => exact n14
    | 2, 0, _, _, _ => exact n02.symm
    | 2, 1, _, _, _ => exact n12.symm
    | 2, 2, _, _, h => exact absurd rfl h
    | 2, 3, _, _, _ => exact n23
    | 2, 4, _, _, _ => exact n24
    | 3, 0, _, _, _ => exact n03.symm
    | 3, 1, _, _, _ => exact n13.symm
    | 3, 2, _, _, _ => exact n23.symm
    | 3, 3, _, _, h => exact absurd rfl h
    | 3, 4, _, _, _ => exact n34
    | 4, 0, _, _, _ => exact n04.symm
    | 4, 1, _, _, _ => exact n14.symm
    | 4, 2, _, _, _ => exact n24.symm
    | 4, 3, _, _, _ => exact n34.symm
    | 4, 4, _, _, h => exact absurd rfl h

theorem gate_conv {N : Nat} (_hN : N ≤ 32) (w : World) : (convert 2 22 (.int .i64 (N : Int))).run Tryd.prog w = .ok (.float .f32 (wS N)) w :=
  run_convert_int_float (P := Tryd.prog) w 2 22 .i64 .f32 (N : Int) (by rw [Tryd.underlying2]; rfl) Tryd.underlying22

set_option maxRecDepth 100000 in
theorem iCoord_z {N a p : Nat} {s : Bool} {m K : Nat} (hN : N ≤ 32) (C : CoordF N a p s m K) (h0 : K = 0) (w : World) :
    Calls Tryd.prog 64 #[.int .i64 (N : Int), .float .f32 a] w fun e w' => e = .returned (.int .i16 (sgI s K)) ∧ w = w' := by
  have c1 := fun w => gate_conv hN w
  have c2 := fun w => run_float_arith (P := Tryd.prog) w .mul 22 .f32 _ _ _ C.mul
  have c3 := fun w => run_conv_wid (P := Tryd.prog) w 22 77 p C.lt Tryd.underlying22 Tryd.underlying77 C.fin
  have hr := fun w => round_even (sgD s m) _ C.even (by obtain ⟨M, e, _, h⟩ := read_sgD (s := s) C.hm; exact ⟨_, _, _, h⟩) w
  have ho : (FloatKind.f64.format.order (sgD s (iD K)) 0 == some .eq) = true := by
    subst h0
    show (D.order (sgD s (iD 0)) 0 == some .eq) = true
    rw [order_zeroD (iD_val (K := 0) (by omega)).2]
    exact decide_eq_true (by decide)
  have HI := hid (fun w => iNearest_z _ _ hr ho w)
  have c4 : ∀ w : World, (convert 77 23 (.float .f64 0)).run Tryd.prog w = .ok (.int .i16 0) w := fun w => run_convert_float_int (P := Tryd.prog) w 77 23 .f64 .i16 0 0 (by rw [Tryd.underlying77]; rfl) Tryd.underlying23 (by decide)
  have hs : sgI s K = 0 := by subst h0; cases s <;> rfl
  rw [C.wide] at c3
  rw [hs]
  clear hr ho C h0 hs hN
  go_enter Tryd.func64, Tryd.ntmps64
  go_wp2_with fail
  refine (HI.out _).mono ?_
  rintro e u ⟨rfl, rfl⟩
  go_wp2
  go_ret
  exact ⟨rfl, rfl⟩

theorem ord_iD {s : Bool} {K : Nat} (hK : K ≤ 10241) (h0 : K ≠ 0) : (FloatKind.f64.format.order (sgD s (iD K)) 0 == some .eq) = false := by
  obtain ⟨v, hW⟩ := iD_val hK
  have hz : iD K ≠ 0 := fun e => by
    rw [e, show valD 0 = 0 by decide] at v
    have := Nat.two_pow_pos VONED
    have h1 : 1 * 2 ^ VONED ≤ K * 2 ^ VONED := Nat.mul_le_mul_right _ (by omega)
    omega
  show (D.order (sgD s (iD K)) 0 == some .eq) = false
  rw [order_zeroD hW]
  exact decide_eq_false hz

set_option maxRecDepth 100000 in
theorem iCoord_n {N a p : Nat} {s : Bool} {m K : Nat} (hN : N ≤ 32) (C : CoordF N a p s m K) (h0 : K ≠ 0) (w : World) :
    Calls Tryd.prog 64 #[.int .i64 (N : Int), .float .f32 a] w fun e w' => e = .returned (.int .i16 (sgI s K)) ∧ w = w' := by
  have c1 := fun w => gate_conv hN w
  have c2 := fun w => run_float_arith (P := Tryd.prog) w .mul 22 .f32 _ _ _ C.mul
  have c3 := fun w => run_conv_wid (P := Tryd.prog) w 22 77 p C.lt Tryd.underlying22 Tryd.underlying77 C.fin
  have hr := fun w => round_even (sgD s m) _ C.even (by obtain ⟨M, e, _, h⟩ := read_sgD (s := s) C.hm; exact ⟨_, _, _, h⟩) w
  have HI := hid (fun w => iNearest_n _ _ hr (ord_iD C.hK h0) w)
  have c4 : ∀ w : World, (convert 77 23 (.float .f64 (sgD s (iD K)))).run Tryd.prog w = .ok (.int .i16 (sgI s K)) w := fun w => run_convert_float_int (P := Tryd.prog) w 77 23 .f64 .i16 _ _ (by rw [Tryd.underlying77]; rfl) Tryd.underlying23 (toI64 C.hK)
  rw [C.wide] at c3
  clear hr C h0 hN
  generalize sgD s (iD K) = D9 at *
  generalize sgI s K = I9 at *
  go_enter Tryd.func64, Tryd.ntmps64
  go_wp2_with fail
  refine (HI.out _).mono ?_
  rintro e u ⟨rfl, rfl⟩
  go_wp2
  go_ret
  exact ⟨rfl, rfl⟩

theorem iCoord {N a p : Nat} {s : Bool} {m K : Nat} (hN : N ≤ 32) (C : CoordF N a p s m K) (w : World) :
    Calls Tryd.prog 64 #[.int .i64 (N : Int), .float .f32 a] w fun e w' => e = .returned (.int .i16 (sgI s K)) ∧ w = w' := by
  by_cases h : K = 0
  · exact iCoord_z hN C h w
  · exact iCoord_n hN C h w

set_option maxRecDepth 100000 in
theorem sNearC {N a p : Nat} {s : Bool} {m K : Nat} (C : CoordF N a p s m K) (w : World) :
    Calls Tryd.prog 66 #[.float .f32 p] w fun e w' => e = .returned (.float .f32 (sgS s (iS K))) ∧ w = w' := by
  have c3 := fun w => run_conv_wid (P := Tryd.prog) w 22 77 p C.lt Tryd.underlying22 Tryd.underlying77 C.fin
  have hr := fun w => round_even (sgD s m) _ C.even (by obtain ⟨M, e, _, h⟩ := read_sgD (s := s) C.hm; exact ⟨_, _, _, h⟩) w
  have c4 : ∀ w : World, (convert 77 22 (.float .f64 (sgD s (iD K)))).run Tryd.prog w = .ok (.float .f32 (sgS s (iS K))) w := fun w => run_convert_float_float (P := Tryd.prog) w 77 22 .f64 .f32 _ _ (by rw [Tryd.underlying77]; rfl) Tryd.underlying22 (nar64 C.hK)
  rw [C.wide] at c3
  clear C
  generalize sgD s (iD K) = D9 at *
  generalize sgS s (iS K) = I9 at *
  go_enter Tryd.func66, Tryd.ntmps66
  go_wp2
  go_ret
  exact ⟨rfl, rfl⟩

set_option maxRecDepth 100000 in
theorem sSpot {x a b : Nat} (N : Nat) (hN : N ≤ 32) {p : Nat} {s : Bool} {m K p2 : Nat} {s2 : Bool} {m2 K2 : Nat} (C : CoordF N a p s m K) (C2 : CoordF N b p2 s2 m2 K2)
    (hu : ∀ w, Calls Tryd.prog 77 #[.float .f32 x] w fun e w' => e = .returned (.complex .f32 a b) ∧ w = w') (w : World) :
    Calls Tryd.prog 60 #[.float .f32 x, .int .i64 (N : Int)] w fun e w' => e = .returned (.agg #[.int .i16 (sgI s K), .int .i16 (sgI s2 K2)]) ∧ Below w.heap.size w w' := by
  have HU := hid hu
  have c1 := fun w => gate_conv hN w
  have c2 := fun w => run_float_arith (P := Tryd.prog) w .mul 22 .f32 _ _ _ C.mul
  have c3 := fun w => run_float_arith (P := Tryd.prog) w .mul 22 .f32 _ _ _ C2.mul
  have HC := hid (fun w => sNearC C w)
  have HD := hid (fun w => sNearC C2 w)
  have d1 : ∀ w : World, (convert 22 23 (.float .f32 (sgS s (iS K)))).run Tryd.prog w = .ok (.int .i16 (sgI s K)) w := fun w => run_convert_float_int (P := Tryd.prog) w 22 23 .f32 .i16 _ _ (by rw [Tryd.underlying22]; rfl) Tryd.underlying23 (toI32 C.hK)
  have d2 : ∀ w : World, (convert 22 23 (.float .f32 (sgS s2 (iS K2)))).run Tryd.prog w = .ok (.int .i16 (sgI s2 K2)) w := fun w => run_convert_float_int (P := Tryd.prog) w 22 23 .f32 .i16 _ _ (by rw [Tryd.underlying22]; rfl) Tryd.underlying23 (toI32 C2.hK)
  clear C C2 hu hN
  generalize sgS s (iS K) = f1 at *
  generalize sgS s2 (iS K2) = f2 at *
  generalize sgI s K = i1 at *
  generalize sgI s2 K2 = i2 at *
  have k0 : Hid (Kept w [(w.heap.size, #[.int .i16 i1, .int .i16 i2], 25)] (w.alloc (.cells #[.int .i16 i1, .int .i16 i2] 25))) := hid ((Kept.nil w).push _ _)
  go_enter Tryd.func60, Tryd.ntmps60
  go_wp2_with fail
  refine (HU.out _).mono ?_
  rintro e u ⟨rfl, rfl⟩
  go_wp2_with fail
  refine (HC.out _).mono ?_
  rintro e u ⟨rfl, rfl⟩
  go_wp2_with fail
  refine (HD.out _).mono ?_
  rintro e u ⟨rfl, rfl⟩
  go_wp2
  exact bodyPost_ret (results_cell_row rfl _ _ (w.heap.size) 25 #[.int .i16 i1, .int .i16 i2] (0, 0) _ rfl (k0.out.at (x := (w.heap.size, #[.int .i16 i1, .int .i16 i2], 25)) in0) Tryd.underlying25 rfl info_spot) rfl ⟨rfl, k0.out.1⟩

set_option maxRecDepth 100000 in
theorem iSpot_x (A : Nat → Addr) (x : Nat) (g : Int) (hx : x < 4294967296) (hf : finB x = false) (w : World) (hA : Sent w A) :
    Calls Tryd.prog 16 #[.float .f32 x, .int .i64 g] w fun e w' => e = .returned (.tuple #[.agg #[.int .i16 0, .int .i16 0], .int .i64 2]) ∧ Below w.heap.size w w' := by
  have k0 : Hid (Kept w [(w.heap.size, #[.int .i16 0, .int .i16 0], 25)] (w.alloc (.cells #[.int .i16 0, .int .i16 0] 25))) := hid ((Kept.nil w).push _ _)
  have HF := hid (fun w => isFinite_f x hx hf w)
  have HA := hid (hA.stay ((Below.refl w.heap.size w).alloc (Nat.le_refl _) (.cells #[.int .i16 0, .int .i16 0] 25)))
  clear hx hf hA
  go_enter Tryd.func16, Tryd.ntmps16
  go_wp2_with fail
  refine (HF.out _).mono ?_
  rintro e u ⟨rfl, hb⟩
  have k1 := hid (k0.out.stay hb)
  have A1 := hid (HA.out.stay hb)
  clear k0 hb HA
  have c1 := A1.out.c1
  go_wp2_with fail
  refine (code_1 A _ A1.out).mono ?_
  rintro e v ⟨rfl, rfl⟩
  have tok1 : True := trivial
  go_wp2_with (have _t := tok1; clear tok1; refine store_row (by rfl) 25 _ _ (by rfl) (w.heap.size) #[.int .i16 0, .int .i16 0] #[.int .i16 0, .int .i16 0] (by rfl) (by rfl) k1.out info_spot (by rfl) (by simp [Value.oneCell']) (Nat.le_refl _) ne0 ?_; intro wz kz; replace kz := hid kz)
  exact bodyPost_ret (results_row_tmp rfl _ _ (w.heap.size) 25 #[.int .i16 0, .int .i16 0] (0, 0) _ rfl (kz.out.at (x := (w.heap.size, #[.int .i16 0, .int .i16 0], 25)) in0) Tryd.underlying25 rfl info_spot) rfl ⟨rfl, kz.out.1⟩

set_option maxRecDepth 100000 in
theorem iSpot_lo (A : Nat → Addr) (x : Nat) (g : Int) (hx : x < 4294967296) (hf : finB x = true) (hg : g < 0) (w : World) (hA : Sent w A) :
    Calls Tryd.prog 16 #[.float .f32 x, .int .i64 g] w fun e w' => e = .returned (.tuple #[.agg #[.int .i16 0, .int .i16 0], .int .i64 2]) ∧ Below w.heap.size w w' := by
  have k0 : Hid (Kept w [(w.heap.size, #[.int .i16 0, .int .i16 0], 25)] (w.alloc (.cells #[.int .i16 0, .int .i16 0] 25))) := hid ((Kept.nil w).push _ _)
  have HF := hid (fun w => isFinite_t x hx hf w)
  have HA := hid (hA.stay ((Below.refl w.heap.size w).alloc (Nat.le_refl _) (.cells #[.int .i16 0, .int .i16 0] 25)))
  clear hx hf hA
  go_enter Tryd.func16, Tryd.ntmps16
  go_wp2_with fail
  refine (HF.out _).mono ?_
  rintro e u ⟨rfl, rfl⟩
  have k1 := k0
  have A1 := HA
  clear k0 HA
  have c1 := A1.out.c1
  go_wp2_with fail
  refine (code_1 A _ A1.out).mono ?_
  rintro e v ⟨rfl, rfl⟩
  have tok1 : True := trivial
  go_wp2_with (have _t := tok1; clear tok1; refine store_row (by rfl) 25 _ _ (by rfl) (w.heap.size) #[.int .i16 0, .int .i16 0] #[.int .i16 0, .int .i16 0] (by rfl) (by rfl) k1.out info_spot (by rfl) (by simp [Value.oneCell']) (Nat.le_refl _) ne0 ?_; intro wz kz; replace kz := hid kz)
  exact bodyPost_ret (results_row_tmp rfl _ _ (w.heap.size) 25 #[.int .i16 0, .int .i16 0] (0, 0) _ rfl (kz.out.at (x := (w.heap.size, #[.int .i16 0, .int .i16 0], 25)) in0) Tryd.underlying25 rfl info_spot) rfl ⟨rfl, kz.out.1⟩

set_option maxRecDepth 100000 in
theorem iSpot_hi (A : Nat → Addr) (x : Nat) (g : Int) (hx : x < 4294967296) (hf : finB x = true) (hg : ¬ g < 0) (hg2 : 32 < g) (w : World) (hA : Sent w A) :
    Calls Tryd.prog 16 #[.float .f32 x, .int .i64 g] w fun e w' => e = .returned (.tuple #[.agg #[.int .i16 0, .int .i16 0], .int .i64 2]) ∧ Below w.heap.size w w' := by
  have k0 : Hid (Kept w [(w.heap.size, #[.int .i16 0, .int .i16 0], 25)] (w.alloc (.cells #[.int .i16 0, .int .i16 0] 25))) := hid ((Kept.nil w).push _ _)
  have HF := hid (fun w => isFinite_t x hx hf w)
  have HA := hid (hA.stay ((Below.refl w.heap.size w).alloc (Nat.le_refl _) (.cells #[.int .i16 0, .int .i16 0] 25)))
  clear hx hf hA
  go_enter Tryd.func16, Tryd.ntmps16
  go_wp2_with fail
  refine (HF.out _).mono ?_
  rintro e u ⟨rfl, rfl⟩
  have k1 := k0
  have A1 := HA
  clear k0 HA
  have c1 := A1.out.c1
  go_wp2_with fail
  refine (code_1 A _ A1.out).mono ?_
  rintro e v ⟨rfl, rfl⟩
  have tok1 : True := trivial
  go_wp2_with (have _t := tok1; clear tok1; refine store_row (by rfl) 25 _ _ (by rfl) (w.heap.size) #[.int .i16 0, .int .i16 0] #[.int .i16 0, .int .i16 0] (by rfl) (by rfl) k1.out info_spot (by rfl) (by simp [Value.oneCell']) (Nat.le_refl _) ne0 ?_; intro wz kz; replace kz := hid kz)
  exact bodyPost_ret (results_row_tmp rfl _ _ (w.heap.size) 25 #[.int .i16 0, .int .i16 0] (0, 0) _ rfl (kz.out.at (x := (w.heap.size, #[.int .i16 0, .int .i16 0], 25)) in0) Tryd.underlying25 rfl info_spot) rfl ⟨rfl, kz.out.1⟩

set_option maxRecDepth 100000 in
theorem iSpot_ok (x : Nat) (hx : x < 4294967296) (hf : finB x = true) {a b : Nat} (N : Nat) (hN : N ≤ 32) {p : Nat} {s : Bool} {m K p2 : Nat} {s2 : Bool} {m2 K2 : Nat} (C : CoordF N a p s m K) (C2 : CoordF N b p2 s2 m2 K2)
    (hu : ∀ w, Calls Tryd.prog 63 #[.float .f32 x] w fun e w' => e = .returned (.complex .f32 a b) ∧ w = w') (w : World) :
    Calls Tryd.prog 16 #[.float .f32 x, .int .i64 (N : Int)] w fun e w' => e = .returned (.tuple #[.agg #[.int .i16 (sgI s K), .int .i16 (sgI s2 K2)], .int .i64 0]) ∧ Below w.heap.size w w' := by
  have k0 : Hid (Kept w [(w.heap.size, #[.int .i16 0, .int .i16 0], 25)] (w.alloc (.cells #[.int .i16 0, .int .i16 0] 25))) := hid ((Kept.nil w).push _ _)
  have HU := hid hu
  have HF := hid (fun w => isFinite_t x hx hf w)
  have HC := hid (fun w => iCoord hN C w)
  have HD := hid (fun w => iCoord hN C2 w)
  have h1 : ¬ (N : Int) < 0 := by omega
  have h2 : ¬ 32 < (N : Int) := by omega
  clear C C2 hu hN hx hf
  generalize sgI s K = i1 at *
  generalize sgI s2 K2 = i2 at *
  go_enter Tryd.func16, Tryd.ntmps16
  go_wp2_with fail
  refine (HF.out _).mono ?_
  rintro e u ⟨rfl, rfl⟩
  go_wp2_with fail
  refine (HU.out _).mono ?_
  rintro e u ⟨rfl, rfl⟩
  go_wp2_with fail
  refine (HC.out _).mono ?_
  rintro e u ⟨rfl, rfl⟩
  go_wp2_with fail
  refine (HD.out _).mono ?_
  rintro e u ⟨rfl, rfl⟩
  have tok1 : True := trivial
  go_wp2_with (have _t := tok1; clear tok1; refine store_row (by rfl) 25 _ _ (by rfl) (w.heap.size) #[.int .i16 i1, .int .i16 i2] #[.int .i16 0, .int .i16 0] (by rfl) (by rfl) k0.out info_spot (by rfl) (by simp [Value.oneCell']) (Nat.le_refl _) ne0 ?_; intro wz kz; replace kz := hid kz)
  exact bodyPost_ret (results_row_tmp rfl _ _ (w.heap.size) 25 #[.int .i16 i1, .int .i16 i2] (0, 0) _ rfl (kz.out.at (x := (w.heap.size, #[.int .i16 i1, .int .i16 i2], 25)) in0) Tryd.underlying25 rfl info_spot) rfl ⟨rfl, kz.out.1⟩

set_option maxRecDepth 100000 in
theorem sSpotOf_x (x : Nat) (g : Int) (hx : x < 4294967296) (hf : finB x = false) (w : World) :
    Calls Tryd.prog 15 #[.float .f32 x, .int .i64 g] w fun e w' => e = .returned (.tuple #[.agg #[.int .i16 0, .int .i16 0], .int .i64 2]) ∧ Below w.heap.size w w' := by
  have k0 : Hid (Kept w [(w.heap.size, #[.int .i16 0, .int .i16 0], 25)] (w.alloc (.cells #[.int .i16 0, .int .i16 0] 25))) := hid ((Kept.nil w).push _ _)
  have HF := hid (fun w => sFinite_f x hx hf w)
  clear hx hf
  go_enter Tryd.func15, Tryd.ntmps15
  go_wp2_with fail
  refine (HF.out _).mono ?_
  rintro e u ⟨rfl, hb⟩
  have k1 := hid (k0.out.stay hb)
  clear k0 hb
  have tok1 : True := trivial
  go_wp2_with (have _t := tok1; clear tok1; refine store_row (by rfl) 25 _ _ (by rfl) (w.heap.size) #[.int .i16 0, .int .i16 0] #[.int .i16 0, .int .i16 0] (by rfl) (by rfl) k1.out info_spot (by rfl) (by simp [Value.oneCell']) (Nat.le_refl _) ne0 ?_; intro wz kz; replace kz := hid kz)
  exact bodyPost_ret (results_row_tmp rfl _ _ (w.heap.size) 25 #[.int .i16 0, .int .i16 0] (0, 0) _ rfl (kz.out.at (x := (w.heap.size, #[.int .i16 0, .int .i16 0], 25)) in0) Tryd.underlying25 rfl info_spot) rfl ⟨rfl, kz.out.1⟩

set_option maxRecDepth 100000 in
theorem sSpotOf_g (x : Nat) (g : Int) (hx : x < 4294967296) (hf : finB x = true) (hg : ¬ (0 ≤ g ∧ g ≤ 32)) (w : World) :
    Calls Tryd.prog 15 #[.float .f32 x, .int .i64 g] w fun e w' => e = .returned (.tuple #[.agg #[.int .i16 0, .int .i16 0], .int .i64 2]) ∧ Below w.heap.size w w' := by
  have k0 : Hid (Kept w [(w.heap.size, #[.int .i16 0, .int .i16 0], 25)] (w.alloc (.cells #[.int .i16 0, .int .i16 0] 25))) := hid ((Kept.nil w).push _ _)
  have HF := hid (fun w => sFinite_t x hx hf w)
  clear hx hf
  go_enter Tryd.func15, Tryd.ntmps15
  go_wp2_with fail
  refine (HF.out _).mono ?_
  rintro e u ⟨rfl, rfl⟩
  have k1 := k0
  clear k0
  go_wp2_with fail
  refine (l00In_f g 0 32 hg _).mono ?_
  rintro e u0 ⟨rfl, rfl⟩
  have tok1 : True := trivial
  go_wp2_with (have _t := tok1; clear tok1; refine store_row (by rfl) 25 _ _ (by rfl) (w.heap.size) #[.int .i16 0, .int .i16 0] #[.int .i16 0, .int .i16 0] (by rfl) (by rfl) k1.out info_spot (by rfl) (by simp [Value.oneCell']) (Nat.le_refl _) ne0 ?_; intro wz kz; replace kz := hid kz)
  exact bodyPost_ret (results_row_tmp rfl _ _ (w.heap.size) 25 #[.int .i16 0, .int .i16 0] (0, 0) _ rfl (kz.out.at (x := (w.heap.size, #[.int .i16 0, .int .i16 0], 25)) in0) Tryd.underlying25 rfl info_spot) rfl ⟨rfl, kz.out.1⟩

set_option maxRecDepth 100000 in
theorem sSpotOf_ok (x : Nat) (hx : x < 4294967296) (hf : finB x = true) (N : Nat) (hN : N ≤ 32) (i1 i2 : Int)
    (hs : ∀ w, Calls Tryd.prog 60 #[.float .f32 x, .int .i64 (N : Int)] w fun e w' => e = .returned (.agg #[.int .i16 i1, .int .i16 i2]) ∧ Below w.heap.size w w') (w : World) :
    Calls Tryd.prog 15 #[.float .f32 x, .int .i64 (N : Int)] w fun e w' => e = .returned (.tuple #[.agg #[.int .i16 i1, .int .i16 i2], .int .i64 0]) ∧ Below w.heap.size w w' := by
  have k0 : Hid (Kept w [(w.heap.size, #[.int .i16 0, .int .i16 0], 25)] (w.alloc (.cells #[.int .i16 0, .int .i16 0] 25))) := hid ((Kept.nil w).push _ _)
  have HS := hid hs
  have HF := hid (fun w => sFinite_t x hx hf w)
  have h1 : (0 : Int) ≤ (N : Int) := by omega
  have h2 : (N : Int) ≤ 32 := by omega
  clear hs hN hx hf
  go_enter Tryd.func15, Tryd.ntmps15
  go_wp2_with fail
  refine (HF.out _).mono ?_
  rintro e u ⟨rfl, rfl⟩
  have k1 := k0
  clear k0
  go_wp2_with fail
  refine (l00In_t (N : Int) 0 32 h1 h2 _).mono ?_
  rintro e u0 ⟨rfl, rfl⟩
  go_wp2_with fail
  refine (HS.out _).mono ?_
  rintro e u ⟨rfl, hb⟩
  have k2 := hid (k1.out.stay hb)
  clear k1 hb
  have tok1 : True := trivial
  go_wp2_with (have _t := tok1; clear tok1; refine store_row (by rfl) 25 _ _ (by rfl) (w.heap.size) #[.int .i16 i1, .int .i16 i2] #[.int .i16 0, .int .i16 0] (by rfl) (by rfl) k2.out info_spot (by rfl) (by simp [Value.oneCell']) (Nat.le_refl _) ne0 ?_; intro wz kz; replace kz := hid kz)
  exact bodyPost_ret (results_row_tmp rfl _ _ (w.heap.size) 25 #[.int .i16 i1, .int .i16 i2] (0, 0) _ rfl (kz.out.at (x := (w.heap.size, #[.int .i16 i1, .int .i16 i2], 25)) in0) Tryd.underlying25 rfl info_spot) rfl ⟨rfl, kz.out.1⟩

set_option maxRecDepth 100000 in
set_option maxHeartbeats 1000000 in
theorem coreSpotOf (x : Nat) (g i1 i2 c : Int) (w : World)
    (hS : ∀ w, Calls Tryd.prog 15 #[.float .f32 x, .int .i64 g] w fun e w' => e = .returned (.tuple #[.agg #[.int .i16 i1, .int .i16 i2], .int .i64 c]) ∧ Below w.heap.size w w')
    (hI : ∀ w', Below w.heap.size w w' → Calls Tryd.prog 16 #[.float .f32 x, .int .i64 g] w' fun e w2 => e = .returned (.tuple #[.agg #[.int .i16 i1, .int .i16 i2], .int .i64 c]) ∧ Below w'.heap.size w' w2) :
    Calls Tryd.prog 3 #[.float .f32 x, .int .i64 g] w fun e w' => e = .returned (.bool true) ∧ Below w.heap.size w w' := by
  have HS := hid hS
  have HI := hid hI
  clear hS hI
  go_enter Tryd.func3, Tryd.ntmps3
  go_wp2_with fail
  refine (HS.out _).mono ?_
  rintro e u ⟨rfl, b⟩
  have k1 := hid ((Kept.nil w).stay b)
  have kN := hid (k1.out.push #[.int .i16 0, .int .i16 0] 25)
  have hs1 := k1.out.size
  clear b
  have tok1 : True := trivial
  go_wp2_with (have _t := tok1; clear tok1; refine store_row (by rfl) 25 _ _ (by rfl) (u.heap.size) #[.int .i16 i1, .int .i16 i2] #[.int .i16 0, .int .i16 0] (by rfl) (by rfl) kN.out info_spot (by rfl) (by simp [Value.oneCell']) hs1 ne0 ?_; intro w2 k2; replace k2 := hid k2; clear kN k1)
  refine (HI.out _ k2.out.1).mono ?_
  rintro e v ⟨rfl, b⟩
  have k3 := hid (k2.out.stay b)
  have kM := hid (k3.out.push #[.int .i16 0, .int .i16 0] 25)
  have hs3 := k3.out.size
  have f3 := k3.out.fresh
  clear k2 b
  have tok1 : True := trivial
  go_wp2_with (first | (have _t := tok1; clear tok1; refine store_row (by rfl) 25 _ _ (by rfl) (v.heap.size) #[.int .i16 i1, .int .i16 i2] #[.int .i16 0, .int .i16 0] (by rfl) (by rfl) kM.out info_spot (by rfl) (by simp [Value.oneCell']) hs3 f3 ?_; intro w3 k4; replace k4 := hid k4; clear kM k3 f3; have tok2 : True := trivial) | (have _t := tok2; clear tok2; refine wpList_load_row (by rfl) 25 _ (by rfl) (v.heap.size) (by rfl) 25 #[.int .i16 i1, .int .i16 i2] (0, 0) _ (k4.out.at (x := (v.heap.size, #[.int .i16 i1, .int .i16 i2], 25)) in0) Tryd.underlying25 (by rfl) info_spot ?_; have tok3 : True := trivial) | (have _t := tok3; clear tok3; refine wpList_load_row (by rfl) 25 _ (by rfl) (u.heap.size) (by rfl) 25 #[.int .i16 i1, .int .i16 i2] (0, 0) _ (k4.out.at (x := (u.heap.size, #[.int .i16 i1, .int .i16 i2], 25)) in1) Tryd.underlying25 (by rfl) info_spot ?_))
  refine (eqSpot i1 i2 _).mono ?_
  rintro e z ⟨rfl, hz⟩
  have k5 := hid (k4.out.stay hz)
  clear k4 hz
  go_wp2
  go_ret
  exact ⟨rfl, k5.out.1⟩

theorem lawSpotOf (A : Nat → Addr) (x : Nat) (hx : x < 4294967296) (g : Int) {w : World} (hA : Sent w A) :
    Calls Tryd.prog 3 #[.float .f32 x, .int .i64 g] w fun e w' => e = .returned (.bool true) ∧ Below w.heap.size w w' := by
  rcases hf : finB x with _ | _
  · exact coreSpotOf x g 0 0 2 w (sSpotOf_x x g hx hf) fun w' b => iSpot_x A x g hx hf w' (hA.stay b)
  · by_cases h0 : 0 ≤ g ∧ g ≤ 32
    · obtain ⟨N, rfl⟩ := Int.eq_ofNat_of_zero_le h0.1
      have hN : N ≤ 32 := by omega
      obtain ⟨us, um, un, ug, uX, uy, a, b, up, hu, ma, mb⟩ := unit_f2 hx hf
      obtain ⟨p, s, m, K, C⟩ := coord_f hN hu.la.1 ma
      obtain ⟨p2, s2, m2, K2, C2⟩ := coord_f hN hu.lb.1 mb
      exact coreSpotOf x N _ _ 0 w (sSpotOf_ok x hx hf N hN _ _ (sSpot N hN C C2 (sUnit_fin x hx hf hu))) fun w' _ => iSpot_ok x hx hf N hN C C2 (iUnit_fin x hx hf hu) w'
    · refine coreSpotOf x g 0 0 2 w (sSpotOf_g x g hx hf h0) fun w' b => ?_
      by_cases h1 : g < 0
      · exact iSpot_lo A x g hx hf h1 w' (hA.stay b)
      · exact iSpot_hi A x g hx hf h1 (by omega) w' (hA.stay b)

theorem words_cons : ∀ (v : List Char) (r : List Char), (∀ c ∈ v, c ≠ Char.ofNat 32) → wordsSigns (v ++ Char.ofNat 32 :: r) = v :: wordsSigns r
  | [], r, _ => rfl
  | c :: v, r, h => by
    have ih := words_cons v r (fun x hx => h x (by simp [hx]))
    have hc : c ≠ Char.ofNat 32 := h c (by simp)
    show wordsSigns (c :: (v ++ Char.ofNat 32 :: r)) = _
    rw [wordsSigns.eq_3 _ _ (fun e => hc e), ih]

def w0 : List Nat := [104, 97, 114, 110, 101, 115, 115]

def w1 : List Nat := [54, 55, 54, 48, 57, 49, 98, 54, 50, 51, 48, 54, 102, 51, 102, 102, 57, 52, 48, 49, 101, 52, 54, 56, 56, 98, 52, 53, 52, 100, 48, 49, 52, 54, 53, 57, 51, 99, 48, 50, 48, 101, 98, 101, 98, 54, 52, 50, 100, 56, 102, 100, 97, 51, 49, 101, 100, 97, 48, 54, 51, 98, 51, 53]

def w2 : List Nat := [99, 117, 116]

def w3 : List Nat := [97, 116, 32, 108, 111, 111, 112, 46, 101, 120, 97, 109, 112, 108, 101, 47, 103, 48, 49, 50, 50, 52, 47, 108, 97, 119, 115, 46, 70, 110, 69, 120, 97, 99, 116, 83, 112, 111, 116, 79, 102, 32, 108, 111, 111, 112, 46, 101, 120, 97, 109, 112, 108, 101, 47, 103, 48, 49, 50, 50, 52, 47, 108, 97, 119, 115, 46, 70, 110, 69, 120, 97, 99, 116, 85, 110, 102, 111, 108, 100, 83, 112, 101, 101, 100, 115, 32, 108, 111, 111, 112, 46, 101, 120, 97, 109, 112, 108, 101, 47, 103, 48, 49, 50, 50, 52, 47, 108, 97, 119, 115, 46, 70, 110, 69, 120, 97, 99, 116, 78, 111, 105, 115, 101, 80, 117, 108, 115, 101, 115, 32, 108, 111, 111, 112, 46, 101, 120, 97, 109, 112, 108, 101, 47, 103, 48, 49, 50, 50, 52, 47, 108, 97, 119, 115, 46, 70, 110, 69, 120, 97, 99, 116, 80, 117, 108, 115, 101, 115, 79, 102, 32, 108, 111, 111, 112, 46, 101, 120, 97, 109, 112, 108, 101, 47, 103, 48, 49, 50, 50, 52, 47, 108, 97, 119, 115, 46, 70, 110, 69, 120, 97, 99, 116, 65, 100, 100, 66, 101, 97, 109, 32, 108, 111, 111, 112, 46, 101, 120, 97, 109, 112, 108, 101, 47, 103, 48, 49, 50, 50, 52, 47, 108, 97, 119, 115, 46, 70, 110, 69, 120, 97, 99, 116, 68, 101, 101, 100, 84, 101, 120, 116, 32, 108, 111, 111, 112, 46, 101, 120, 97, 109, 112, 108, 101, 47, 103, 48, 49, 50, 50, 52, 47, 108, 97, 119, 115, 46, 70, 110, 69, 120, 97, 99, 116, 82, 101, 97, 100, 68, 101, 101, 100, 32, 108, 111, 111, 112, 46, 101, 120, 97, 109, 112, 108, 101, 47, 103, 48, 49, 50, 50, 52, 47, 108, 97, 119, 115, 46, 70, 110, 69, 120, 97, 99, 116, 65, 99, 116, 84, 101, 120, 116, 32, 108, 111, 111, 112, 46, 101, 120, 97, 109, 112, 108, 101, 47, 103, 48, 49, 50, 50, 52, 47, 108, 97, 119, 115, 46, 70, 110, 69, 120, 97, 99, 116, 78, 117, 109, 98, 101, 114, 84, 101, 120, 116, 32, 108, 111, 111, 112, 46, 101, 120, 97, 109, 112, 108, 101, 47, 103, 48, 49, 50, 50, 52, 47, 108, 97, 119, 115, 46, 70, 110, 69, 120, 97, 99, 116, 82, 101, 97, 100, 78, 117, 109, 98, 101, 114, 32, 108, 111, 111, 112, 46, 101, 120, 97, 109, 112, 108, 101, 47, 103, 48, 49, 50, 50, 52, 47, 108, 97, 119, 115, 46, 70, 110, 69, 120, 97, 99, 116, 83, 105, 122, 101, 115, 84, 101, 120, 116, 32, 108, 111, 111, 112, 46, 101, 120, 97, 109, 112, 108, 101, 47, 103, 48, 49, 50, 50, 52, 47, 108, 97, 119, 115, 46, 70, 110, 69, 120, 97, 99, 116, 82, 101, 97, 100, 83, 105, 122, 101, 115]

def letters (l : List Nat) : List Char := l.map Char.ofNat

theorem head_reads : Tryd.prog.initOrder = String.ofList (letters w0 ++ Char.ofNat 32 :: (letters w1 ++ Char.ofNat 32 :: (letters w2 ++ Char.ofNat 32 :: letters w3))) := by kernel_rfl

theorem no_blank {l : List Nat} (h : l.all (fun n => Char.ofNat n != Char.ofNat 32) = true) : ∀ c ∈ letters l, c ≠ Char.ofNat 32 := by
  intro c hc
  obtain ⟨n, hn, rfl⟩ := List.mem_map.1 hc
  have := List.all_eq_true.1 h n hn
  simpa using this

theorem h0 : letters w0 = "harness".toList := by kernel_rfl

theorem h2 : letters w2 = "cut".toList := by kernel_rfl

theorem sums : isSumSigns (letters w1) = true := by kernel_rfl

theorem words : wordsSigns Tryd.prog.initOrder.toList = "harness".toList :: letters w1 :: "cut".toList :: wordsSigns (letters w3) := by
  rw [head_reads, String.toList_ofList, words_cons _ _ (no_blank (by decide +kernel)), words_cons _ _ (no_blank (by decide +kernel)), words_cons _ _ (no_blank (by decide +kernel)), h0, h2]

theorem behind : ∃ r, behindMainWord (wordsSigns Tryd.prog.initOrder.toList) = "cut".toList :: r := by
  refine ⟨wordsSigns (letters w3), ?_⟩
  rw [words]
  generalize wordsSigns (letters w3) = r
  have hs := sums
  generalize letters w1 = v at hs
  unfold behindMainWord
  simp [hs]

theorem not_later : Tryd.prog.laysLater = false := by kernel_rfl

theorem no_reflect : Tryd.prog.bearsReflect = false := by kernel_rfl

theorem no_doors : Tryd.prog.doorFits [] = true := by kernel_rfl

theorem strips (r : List (List Char)) : stripLifts liftWords ("cut".toList :: r) = ([], "cut".toList :: r) := by kernel_rfl

theorem may_enter_of (P : Program) (r : List (List Char)) (h : behindMainWord (wordsSigns P.initOrder.toList) = "cut".toList :: r) (h1 : P.laysLater = false) (h2 : P.bearsReflect = false) (h3 : P.doorFits [] = true) : P.mayEnter = true := by
  unfold Program.mayEnter
  rw [h]
  dsimp only
  rw [strips, h1, h2, h3]
  kernel_rfl

theorem lifts_final_of (P : Program) (r : List (List Char)) (h : behindMainWord (wordsSigns P.initOrder.toList) = "cut".toList :: r) : P.liftsFinal = false := by
  unfold Program.liftsFinal Program.headLifts
  rw [h]
  dsimp only
  rw [strips]
  kernel_rfl

theorem made_of (P : Program) (r : List (List Char)) (h : behindMainWord (wordsSigns P.initOrder.toList) = "cut".toList :: r) : P.make = some .cut := by
  unfold Program.make
  rw [h]
  kernel_rfl

theorem may_enter : Tryd.prog.mayEnter = true := let ⟨r, h⟩ := behind; may_enter_of _ r h not_later no_reflect no_doors

theorem lifts_final : Tryd.prog.liftsFinal = false := let ⟨r, h⟩ := behind; lifts_final_of _ r h

theorem made : Tryd.prog.make = some .cut := let ⟨r, h⟩ := behind; made_of _ r h

theorem laid : laidOutB Tryd.prog = true := by kernel_rfl

theorem rowed : mapsRowed Tryd.prog = true := by kernel_rfl

theorem no_stops : Tryd.prog.stops = [] := by kernel_rfl

theorem no_knobs : Tryd.prog.stopKnobs = [] := by kernel_rfl

theorem plain_keys : Tryd.prog.plainKeys = false := by kernel_rfl

theorem stops_heard : Tryd.prog.stopsHeard = true := by kernel_rfl

theorem arr2 {α : Type} {cs : Array α} (h : cs.size = 2) : ∃ c0 c1, cs = #[c0, c1] := by
  obtain ⟨l⟩ := cs
  match l, h with
  | [a, b], _ => exact ⟨a, b, rfl⟩

theorem own : ownKnob Tryd.prog.godebug = none := by kernel_rfl

theorem rdf : Tryd.prog.readableRec 22 = true ∧ 22 < Tryd.prog.types.size := ⟨by kernel_rfl, of_decide_eq_true (by kernel_rfl)⟩

theorem rdi : Tryd.prog.readableRec 2 = true ∧ 2 < Tryd.prog.types.size := ⟨by kernel_rfl, of_decide_eq_true (by kernel_rfl)⟩

/-- The door's own heap meets the rows' condition. -/
theorem door_met (os : Os) (args : Array Value) : laidMetH Tryd.prog Rows.fnExactSpotOfRow.laid ((World.doorLaid Tryd.prog 400 os).forCall (fun _ _ => 0) ⟨#[], args, []⟩).memory :=
  laidMetH_of_parts3 (fuel := 8) (laidMet_of_run' 8 (by kernel_rfl) (by kernel_rfl)) (by kernel_rfl) (by kernel_rfl)

/-- A variable of the five, as a reading of it wants. -/
theorem var_is {W : World} {n : String} {g : Nat} {a : Addr} (hg : Tryd.prog.globalNamed n = some g) (ht : (Tryd.prog.globals[g]?).map (·.type) = some 90) (h : W.var? Tryd.prog n = some #[.iface 291 (.pointer (some a))]) :
    ∃ g ti ms, Tryd.prog.globalNamed n = some g ∧ (Tryd.prog.globals[g]?).map (·.type) = some ti ∧ Tryd.prog.underlying ti = some (.interface ms) ∧ W.var? Tryd.prog n = some #[.iface 291 (.pointer (some a))] ∧ IsIface (.iface 291 (.pointer (some a))) :=
  ⟨g, _, _, hg, ht, Tryd.underlying90, h, trivial⟩
end Go.Proofs.YthpimindkmmkjaaDoor

namespace Go.Proofs.YthpimindkmmkjaaDoor.fnExactSpotOf
open Go.RowKit Go.Fl Go.ChangeShapes Go.WideShapes Go.ChangeAt

set_option maxHeartbeats 2000000 in
theorem closed : joinedFacts Tryd.prog 3 Tryd.f3 Rows.fnExactSpotOfSpec Rows.fnExactSpotOfRow = true := by
  unfold joinedFacts
  simp only [Bool.and_eq_true]
  exact ⟨⟨⟨⟨⟨⟨⟨⟨⟨⟨⟨⟨⟨⟨⟨⟨⟨⟨⟨⟨⟨⟨⟨⟨⟨⟨⟨⟨⟨⟨⟨(by as_aux_lemma => kernel_rfl),
    laid⟩,
    rowed⟩,
    (by as_aux_lemma => kernel_rfl)⟩,
    (by as_aux_lemma => kernel_rfl)⟩,
    (by as_aux_lemma => kernel_rfl)⟩,
    (by rw [no_stops]; rfl)⟩,
    (by as_aux_lemma => kernel_rfl)⟩,
    (by rw [no_knobs]; rfl)⟩,
    (by as_aux_lemma => kernel_rfl)⟩,
    (by as_aux_lemma => kernel_rfl)⟩,
    (by as_aux_lemma => kernel_rfl)⟩,
    (by as_aux_lemma => kernel_rfl)⟩,
    (by as_aux_lemma => kernel_rfl)⟩,
    (by as_aux_lemma => kernel_rfl)⟩,
    (by as_aux_lemma => kernel_rfl)⟩,
    (by as_aux_lemma => kernel_rfl)⟩,
    (by as_aux_lemma => kernel_rfl)⟩,
    (by as_aux_lemma => kernel_rfl)⟩,
    (by as_aux_lemma => kernel_rfl)⟩,
    (by as_aux_lemma => kernel_rfl)⟩,
    (by as_aux_lemma => kernel_rfl)⟩,
    (show (Rows.fnExactSpotOfRow.plainKeys == Tryd.prog.plainKeys) = true by rw [plain_keys]; rfl)⟩,
    (by as_aux_lemma => kernel_rfl)⟩,
    stops_heard⟩,
    may_enter⟩,
    (show (Rows.fnExactSpotOfRow.lifted == Tryd.prog.liftsFinal) = true by rw [lifts_final]; rfl)⟩,
    (show (Tryd.prog.make == some Rows.fnExactSpotOfRow.make) = true by rw [made]; rfl)⟩,
    (by as_aux_lemma => kernel_rfl)⟩,
    (by as_aux_lemma => kernel_rfl)⟩,
    (by as_aux_lemma => kernel_rfl)⟩,
    (by as_aux_lemma => kernel_rfl)⟩

set_option maxRecDepth 100000 in
theorem lifted (os : Os) (started : os.Started) (H : Type) (enc : TypeId × Value → H) :
    ReturnsInHanded {} Tryd.checked os 3 .any (fun w args => (Rows.fnExactSpotOfSpec.pre enc Tryd.prog Tryd.f3 Rows.fnExactSpotOfRow.domain false w args ∧ laidMetH Tryd.prog Rows.fnExactSpotOfRow.laid w) ∧ sizedMet enc Tryd.prog Tryd.f3 (OpenSpec.ofChange Rows.fnExactSpotOfSpec) false w args) (Rows.fnExactSpotOfSpec.post enc Tryd.prog Tryd.f3 false true false false) := by
  refine LawFrame.lifted_vars (C := Tryd.checked) (fn := Tryd.f3) (n := 2) (tb := 4) (laidL := Rows.fnExactSpotOfRow.laid) started own (by kernel_rfl) Tryd.func3 laid ?_ rfl ?_ rfl Tryd.underlying4 ?_
    (ChangeSpec.witness_shaped (enc := enc) (C := Tryd.checked) (os := os) (X := fun w _ => laidMetH Tryd.prog Rows.fnExactSpotOfRow.laid w) false (World.doorLaid Tryd.prog 400 os) #[.float .f32 0, .int .i64 0] 8 rfl (World.shaped_of_RefB (by kernel_rfl) (by kernel_rfl)) (by kernel_rfl) (by kernel_rfl) (by kernel_rfl) (door_met os _)) ?_
  · intro t ht
    simp only [Tryd.params3, List.mem_cons, List.not_mem_nil, or_false] at ht
    rcases ht with rfl | rfl <;> first | exact rdf | exact rdi
  · intro ds gs hd hg
    match ds, gs, hd, hg with
    | [d0, d1], [g0, g1, g2, g3, g4], _, _ => rfl
  · intro W hL
    obtain ⟨A, -, v0, v1, v2, v3, v4⟩ := sent_of hL
    exact ⟨[.iface 291 (.pointer (some (A 1))), .iface 291 (.pointer (some (A 0))), .iface 291 (.pointer (some (A 2))), .iface 291 (.pointer (some (A 3))), .iface 291 (.pointer (some (A 4)))], var_is (g := 0) (by kernel_rfl) (by kernel_rfl) v1, var_is (g := 2) (by kernel_rfl) (by kernel_rfl) v0, var_is (g := 1) (by kernel_rfl) (by kernel_rfl) v2, var_is (g := 3) (by kernel_rfl) (by kernel_rfl) v3, var_is (g := 4) (by kernel_rfl) (by kernel_rfl) v4, trivial⟩
  · intro W base args ds ps hval hn hT hL
    obtain ⟨v0, v1, rfl⟩ : ∃ v0 v1, args = #[v0, v1] := arr2 hn
    simp only [Tryd.params3] at hT
    obtain ⟨A, hA, -⟩ := sent_of hL
    obtain ⟨c0, rfl, hb0⟩ := open_f32 Tryd.underlying22 (hval 0 22 v0 rfl rfl)
    obtain ⟨c1, rfl, hb1, hc1⟩ := open_i64 Tryd.underlying2 (hval 1 2 v1 rfl rfl)
    exact lawSpotOf A c0 hb0 c1 hA

theorem over : Rows.fnExactSpotOfRow.holds Tryd.pinned (OpenSpec.ofChange Rows.fnExactSpotOfSpec) :=
  OpenClaim.holds_of_wide 3 Tryd.f3 rfl rfl rfl rfl rfl rfl rfl ⟨rfl, rfl, rfl, rfl, rfl⟩ rfl rfl rfl rfl rfl (by kernel_rfl) Tryd.func3 closed
    (of_decide_eq_true (by kernel_rfl)) (by unfold Func.isWrapper; rw [if_neg (by decide +kernel)]; exact ⟨rfl, rfl⟩)
    (fun os started H enc _ => lifted os started H enc)

theorem named : Tryd.prog.funcNamed "loop.example/g01224/laws.FnExactSpotOf" = some 3 := by kernel_rfl
theorem c_wf : Rows.fnExactSpotOfRow.wfByText (OpenSpec.ofChange Rows.fnExactSpotOfSpec) = true := by kernel_rfl
theorem c_main : Tryd.pinned.checked.prog.mainIs = some (true, "676091b62306f3ff9401e4688b454d0146593c020ebeb642d8fda31eda063b35".toList) := by kernel_rfl
theorem c_looks : true = Tryd.pinned.checked.prog.looks [] := by kernel_rfl
theorem c_goes : false = Rows.fnExactSpotOfRow.goesBy Tryd.pinned.checked.prog := by kernel_rfl
theorem proved : Rows.FnExactSpotOfCardSaid :=
  Claim7.holds_tied_plain_at .later [] [.sentinel, .sentinel, .sentinel, .sentinel, .sentinel] true (true, "676091b62306f3ff9401e4688b454d0146593c020ebeb642d8fda31eda063b35") true
    over (fun _ h => by cases h) c_wf (fun _ h => by cases h) fnExactSpotOf_row_tie rfl ⟨rfl, rfl⟩ c_main rfl
    (fun f fn hf hfn => by
      obtain rfl : f = 3 := Option.some.inj (named.symm.trans hf) |>.symm
      obtain rfl : fn = Tryd.f3 := (Option.some.inj (Tryd.func3.symm.trans hfn)).symm
      exact ⟨c_looks, fun j t ht => by
        have hm := Array.mem_of_getElem? ht
        rw [Tryd.params3] at hm
        simp only [List.mem_toArray, List.mem_cons, List.not_mem_nil, or_false] at hm
        rcases hm with rfl | rfl
        · exact (show Tryd.prog.wantsStandIn 22 = false by kernel_rfl)
        · exact (show Tryd.prog.wantsStandIn 2 = false by kernel_rfl)⟩)
    c_goes
#print axioms proved
end Go.Proofs.YthpimindkmmkjaaDoor.fnExactSpotOf
