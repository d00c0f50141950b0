import Derived.Test.YtnnhoololemaaaaBGainsAt
import Derived.Test.YtnnhoololemaaaaChecked
import Derived.Test.YtnnhoololemaaaaRows
import Derived.Laws.FloatArith
import Derived.ProofKit
import Derived.WalkKit
import Derived.Deep.RegionHeld3
import Derived.ChangeKeysEq
import Derived.Laws.BitsAllLaws
import Derived.Deep.MidRow
import Derived.Deep.WholeRow
import Derived.StillTailTactics
import Derived.WalkLawsBesides
import Derived.WalkSpells
import Derived.Deep.QuietTactic
import Derived.BigQuiet
import Derived.OpenShut
/- The law FnExactGainsAt of chapter 1: at every argument the call returns true, and what was there before it is as it was. -/
namespace Go.Proofs.Ytnnhoololemaaaa
open Go.RowKit Go.Fl

@[go_sem] theorem ext_f64bits (y : Nat) (w : World) : (callFunc 203 #[.float .f64 y]).run Try.prog w = .ok (.value (.int .u64 y)) w := by
  rw [run_callFunc_extern Try.func203 (by kernel_rfl) (by kernel_rfl) (by kernel_rfl) (e := Extern.MathFloatBits.float64bits) (by kernel_rfl)]
  rfl

@[go_sem] theorem ext_f64from (n : Int) (w : World) : (callFunc 202 #[.int .u64 n]).run Try.prog w = .ok (.value (.float .f64 n.toNat)) w := by
  rw [run_callFunc_extern Try.func202 (by kernel_rfl) (by kernel_rfl) (by kernel_rfl) (e := Extern.MathFloatBits.float64frombits) (by kernel_rfl)]
  rfl

theorem hid {p : Prop} (h : p) : Hid p := h

theorem clear_sign (y : Nat) (h : y < 18446744073709551616) : (bits BinOp.andNot IntKind.u64 (y : Int) 9223372036854775808).toNat = y % 9223372036854775808 := by
  rw [u64_andNot _ _ (by omega) (by omega) (by omega) (by omega)]
  rw [Int.toNat_natCast, Int.toNat_natCast]
  exact Nat.and_two_pow_sub_one_eq_mod y 63

theorem abs_f64 (y : Nat) (h : y < 18446744073709551616) (w : World) :
    Calls Try.prog 145 #[.float .f64 y] w fun e w' => e = .returned (.float .f64 (y % 9223372036854775808)) ∧ w = w' := by
  have hc := hid (clear_sign y h)
  clear h
  go_enter Try.func145, Try.ntmps145
  go_wp2
  go_ret
  exact ⟨by simp [hc.out], rfl⟩

theorem isNaN_f64 (y : Nat) (w : World) :
    Calls Try.prog 187 #[.float .f64 y] w fun e w' => e = .returned (.bool (FloatKind.f64.format.order y y != some .eq)) ∧ w = w' := by
  go_enter Try.func187, Try.ntmps187
  go_wp2
  go_ret
  exact ⟨rfl, rfl⟩

theorem isInf_f64 (y : Nat) (h : y < 18446744073709551616) (w : World) :
    Calls Try.prog 188 #[.float .f64 y, .int .i64 0] w fun e w' => e = .returned (.bool (FloatKind.f64.format.order (y % 9223372036854775808) 9218868437227405311 == some .gt)) ∧ w = w' := by
  have hc := hid h
  clear h
  go_enter Try.func188, Try.ntmps188
  go_wp2_with (go_at_call 145; refine (abs_f64 y hc.out _).mono ?_; rintro e w' ⟨rfl, rfl⟩)
  go_ret
  exact ⟨rfl, rfl⟩

theorem isFinite_t (x : Nat) (hx : x < 4294967296) (h : finB x = true) (w : World) :
    Calls Try.prog 112 #[.float .f32 x] w fun e w' => e = .returned (.bool true) ∧ w = w' := by
  rw [finB_iff] at h
  have hc := fun w => run_conv_wid (P := Try.prog) w 22 26 x hx Try.underlying22 Try.underlying26 h
  obtain ⟨a, b, m, e, hr⟩ := read_wid_fin hx h
  have hn : (FloatKind.f64.format.order (wid x) (wid x) != some .eq) = false := by
    show (D.order (wid x) (wid x) != some .eq) = false
    rw [order_self hr]; rfl
  have hi : (FloatKind.f64.format.order (wid x % 9223372036854775808) 9218868437227405311 == some .gt) = false := by
    show (D.order (wid x % 9223372036854775808) 9218868437227405311 == some .gt) = false
    rw [b, order_ltD a (by decide)]
    rw [DINF_val] at a
    have hle : wid (mg x) ≤ 9218868437227405311 := by omega
    rcases Nat.lt_or_eq_of_le hle with h' | h'
    · rw [Nat.compare_eq_lt.2 h']; rfl
    · rw [Nat.compare_eq_eq.2 h']; rfl
  have hw : wid x < 18446744073709551616 := D.write_lt _
  have Hn := hid hn
  have Hi := hid hi
  have Hw := hid hw
  clear hn hi hw hr a b h hx
  go_enter Try.func112, Try.ntmps112
  go_wp2_with (first | (go_at_call 187; refine (isNaN_f64 (wid x) _).mono ?_; rintro e w' ⟨rfl, rfl⟩; rw [Hn.out]) | (go_at_call 188; refine (isInf_f64 (wid x) Hw.out _).mono ?_; rintro e w' ⟨rfl, rfl⟩; rw [Hi.out]))
  go_ret
  exact ⟨rfl, rfl⟩

theorem isFinite_f (x : Nat) (hx : x < 4294967296) (h : finB x = false) (w : World) :
    Calls Try.prog 112 #[.float .f32 x] w fun e w' => e = .returned (.bool false) ∧ Below w.heap.size w w' := by
  rw [finB_iff'] at h
  rcases Nat.lt_or_eq_of_le h with h | h
  · obtain ⟨z, hc, h1, _⟩ := run_conv_nan (P := Try.prog) w 22 26 x Try.underlying22 Try.underlying26 h
    obtain ⟨s, t, hr⟩ := read_nanD h1
    have Hn := hid (show (FloatKind.f64.format.order z z != some .eq) = true by
      show (D.order z z != some .eq) = true
      rw [order_nan hr]; rfl)
    clear h h1 hr hx
    go_enter Try.func112, Try.ntmps112
    go_wp2_with (go_at_call 187; refine (isNaN_f64 z _).mono ?_; rintro e w' ⟨rfl, rfl⟩; rw [Hn.out])
    go_ret
    exact ⟨rfl, (Below.refl _ _).drew⟩
  · obtain ⟨z, hc, h1, h2⟩ := run_conv_inf (P := Try.prog) w 22 26 x hx Try.underlying22 Try.underlying26 h.symm
    have hr : D.read z = .infinity (decide (9223372036854775808 ≤ z)) := by rw [read_signD h2, h1, read_DINF]
    have Hn := hid (show (FloatKind.f64.format.order z z != some .eq) = false by
      show (D.order z z != some .eq) = false
      rw [order_inf hr]; rfl)
    have Hi := hid (show (FloatKind.f64.format.order (z % 9223372036854775808) 9218868437227405311 == some .gt) = true by
      rw [h1]; decide)
    have H2 := hid h2
    clear h h1 hr hx h2
    go_enter Try.func112, Try.ntmps112
    go_wp2_with (first | (go_at_call 187; refine (isNaN_f64 z _).mono ?_; rintro e w' ⟨rfl, rfl⟩; rw [Hn.out]) | (go_at_call 188; refine (isInf_f64 z H2.out _).mono ?_; rintro e w' ⟨rfl, rfl⟩; rw [Hi.out]))
    go_ret
    exact ⟨rfl, Below.refl _ _⟩

theorem signbit_f64 (y : Nat) (w : World) :
    Calls Try.prog 184 #[.float .f64 y] w fun e w' => e = .returned (.bool (decide (wrap64 (y : Int) < 0))) ∧ w = w' := by
  go_enter Try.func184, Try.ntmps184
  go_wp2
  go_ret
  exact ⟨rfl, rfl⟩

theorem and_sign (y : Nat) (h : y < 18446744073709551616) : (decide (wrap64 (y : Int) < 0)) = decide (9223372036854775808 ≤ y) := by
  unfold wrap64
  by_cases h' : 9223372036854775808 ≤ y
  · rw [decide_eq_true h']; simp; omega
  · rw [decide_eq_false h']; simp; omega

theorem isAmount_t (x : Nat) (h : amtB x = true) (w : World) :
    Calls Try.prog 106 #[.float .f32 x] w fun e w' => e = .returned (.bool true) ∧ w = w' := by
  have hf := amt_fin h
  rw [amtB_iff, INF_val] at h
  have hx : x < 4294967296 := by omega
  have hc := fun w => run_conv_wid (P := Try.prog) w 22 26 x hx Try.underlying22 Try.underlying26 (finB_iff.1 hf)
  have hw : wid x < 18446744073709551616 := D.write_lt _
  have Hs := hid (show (decide (wrap64 (wid x : Int) < 0)) = false by
    rw [and_sign _ hw]
    have := (wid_val (x := x) (by rw [INF_val]; omega)).1
    rw [DINF_val] at this
    simp; omega)
  have Hx := hid hx
  have Hf := hid hf
  clear h hf hx hw
  go_enter Try.func106, Try.ntmps106
  go_wp2_with (first | (go_at_call 112; refine (isFinite_t x Hx.out Hf.out _).mono ?_; rintro e w' ⟨rfl, rfl⟩) | (go_at_call 184; refine (signbit_f64 (wid x) _).mono ?_; rintro e w' ⟨rfl, rfl⟩; rw [Hs.out]))
  go_ret
  exact ⟨rfl, rfl⟩

theorem isAmount_f (x : Nat) (hx : x < 4294967296) (h : amtB x = false) (w : World) :
    Calls Try.prog 106 #[.float .f32 x] w fun e w' => e = .returned (.bool false) ∧ Below w.heap.size w w' := by
  rcases hf : finB x with _ | _
  · have Hx := hid hx
    have Hf := hid hf
    clear h hf hx
    go_enter Try.func106, Try.ntmps106
    go_wp2_with (go_at_call 112; refine (isFinite_f x Hx.out Hf.out _).mono ?_; rintro e w' ⟨rfl, hb⟩)
    go_ret
    exact ⟨rfl, hb⟩
  · have hc := fun w => run_conv_wid (P := Try.prog) w 22 26 x hx Try.underlying22 Try.underlying26 (finB_iff.1 hf)
    have hw : wid x < 18446744073709551616 := D.write_lt _
    have Hs := hid (show (decide (wrap64 (wid x : Int) < 0)) = true by
      rw [and_sign _ hw, wid_fin hx (finB_iff.1 hf)]
      rw [amtB_iff', INF_val] at h
      rw [finB_iff, INF_val] at hf
      unfold mg at hf ⊢
      rw [if_pos (by omega)]
      simp)
    have Hx := hid hx
    have Hf := hid hf
    clear h hf hx hw
    go_enter Try.func106, Try.ntmps106
    go_wp2_with (first | (go_at_call 112; refine (isFinite_t x Hx.out Hf.out _).mono ?_; rintro e w' ⟨rfl, rfl⟩) | (go_at_call 184; refine (signbit_f64 (wid x) _).mono ?_; rintro e w' ⟨rfl, rfl⟩; rw [Hs.out]))
    go_ret
    exact ⟨rfl, Below.refl _ _⟩

@[go_sem] theorem ext_f32bits (y : Nat) (w : World) : (callFunc 183 #[.float .f32 y]).run Try.prog w = .ok (.value (.int .u32 y)) w := by
  rw [run_callFunc_extern Try.func183 (by kernel_rfl) (by kernel_rfl) (by kernel_rfl) (e := Extern.MathFloatBits.float32bits) (by kernel_rfl)]
  rfl

theorem sFinite_t (x : Nat) (hx : x < 4294967296) (h : finB x = true) (w : World) :
    Calls Try.prog 109 #[.float .f32 x] w fun e w' => e = .returned (.bool true) ∧ w = w' := by
  have hr := fun w => run_float_arith (P := Try.prog) w .sub 22 .f32 x x 0 (sub_self_fin hx h)
  clear h hx
  go_enter Try.func109, Try.ntmps109
  go_wp2
  go_ret
  exact ⟨rfl, rfl⟩

theorem sFinite_f (x : Nat) (hx : x < 4294967296) (h : finB x = false) (w : World) :
    Calls Try.prog 109 #[.float .f32 x] w fun e w' => e = .returned (.bool false) ∧ Below w.heap.size w w' := by
  obtain ⟨z, hr, h1, _⟩ := run_arith_nan (P := Try.prog) w .sub (by simp) 22 x x (sub_self_none hx h)
  have Hn := hid (show (FloatKind.f32.format.order z 0 == some .eq) = false by
    show (S.order z 0 == some .eq) = false
    rw [order_nan32 h1]; rfl)
  clear h hx h1
  go_enter Try.func109, Try.ntmps109
  go_wp2
  go_ret
  exact ⟨by simp [Hn.out], (Below.refl _ _).drew⟩

theorem sAmount_t (x : Nat) (h : amtB x = true) (w : World) :
    Calls Try.prog 104 #[.float .f32 x] w fun e w' => e = .returned (.bool true) ∧ w = w' := by
  have hf := amt_fin h
  have h' := amtB_iff.1 h
  have hx : x < 4294967296 := by rw [INF_val] at h'; omega
  have Hx := hid hx
  have Hf := hid hf
  by_cases h0 : x = 0
  · subst h0
    clear h hf h' hx
    go_enter Try.func104, Try.ntmps104
    go_wp2_with (go_at_call 109; refine (sFinite_t 0 Hx.out Hf.out _).mono ?_; rintro e w' ⟨rfl, rfl⟩)
    go_ret
    exact ⟨rfl, rfl⟩
  · have hg : (FloatKind.f32.format.order x 0 == some .gt) = true := by
      show (S.order x 0 == some .gt) = true
      rw [order_zero_pos h', Nat.compare_eq_gt.2 (by omega)]; rfl
    clear h hf h' hx h0
    go_enter Try.func104, Try.ntmps104
    go_wp2_with (go_at_call 109; refine (sFinite_t x Hx.out Hf.out _).mono ?_; rintro e w' ⟨rfl, rfl⟩)
    go_ret
    exact ⟨rfl, rfl⟩

theorem sAmount_f (x : Nat) (hx : x < 4294967296) (h : amtB x = false) (w : World) :
    Calls Try.prog 104 #[.float .f32 x] w fun e w' => e = .returned (.bool false) ∧ Below w.heap.size w w' := by
  rcases hf : finB x with _ | _
  · have Hx := hid hx
    have Hf := hid hf
    clear h hf hx
    go_enter Try.func104, Try.ntmps104
    go_wp2_with (go_at_call 109; refine (sFinite_f x Hx.out Hf.out _).mono ?_; rintro e w' ⟨rfl, hb⟩)
    go_ret
    exact ⟨rfl, hb⟩
  · have hs : 2147483648 ≤ x := by
      rw [amtB_iff', INF_val] at h
      have := finB_iff.1 hf
      rw [INF_val] at this
      unfold mg at this
      omega
    have hg : (FloatKind.f32.format.order x 0 == some .gt) = false := order_neg_zero hx hf hs
    have hb : ((x : Int) == 0) = false := by simp; omega
    have Hx := hid hx
    have Hf := hid hf
    clear h hf hx hs
    go_enter Try.func104, Try.ntmps104
    go_wp2_with (go_at_call 109; refine (sFinite_t x Hx.out Hf.out _).mono ?_; rintro e w' ⟨rfl, rfl⟩)
    go_ret
    exact ⟨rfl, Below.refl _ _⟩

theorem info_a20 : (Try.prog.info? 28).map (·.size) = some 20 := by kernel_rfl

theorem div_one_some {y m : Nat} {s : Bool} {e : Int} (h : D.read y = .number s m e) : ∃ q, floatBits .quo .f64 4607182418800017408 y = some q := by
  have h1 : D.read 4607182418800017408 = .number false 4503599627370496 (-52) := by decide
  show ∃ q, D.div 4607182418800017408 y = some q
  unfold Ieee.Format.div
  rw [h, h1]
  simp only [Ieee.Datum.quotient]
  by_cases hm : m = 0
  · rw [if_pos hm]; exact ⟨_, rfl⟩
  · rw [if_neg hm]; exact ⟨_, rfl⟩

set_option maxRecDepth 100000 in
theorem sameFloat (x : Nat) (hx : x < 4294967296) (h : finB x = true) (w : World) :
    Calls Try.prog 33 #[.float .f64 (wid x), .float .f64 (wid x)] w fun e w' => e = .returned (.bool true) ∧ w = w' := by
  obtain ⟨a, b, m, e, hr⟩ := read_wid_fin hx (finB_iff.1 h)
  have hn : (FloatKind.f64.format.order (wid x) (wid x) != some .eq) = false := by
    show (D.order (wid x) (wid x) != some .eq) = false
    rw [order_self hr]; rfl
  have hq : (FloatKind.f64.format.order (wid x) (wid x) == some .eq) = true := by
    show (D.order (wid x) (wid x) == some .eq) = true
    rw [order_self hr]; rfl
  obtain ⟨q, hd⟩ := div_one_some hr
  have hdiv := fun w => run_float_arith (P := Try.prog) w .quo 26 .f64 4607182418800017408 (wid x) q hd
  clear hd hr a b h hx
  rcases hz : (FloatKind.f64.format.order (wid x) 0 == some .eq) with _ | _
  · go_enter Try.func33, Try.ntmps33
    go_wp2
    go_ret
    exact ⟨by simp, rfl⟩
  · go_enter Try.func33, Try.ntmps33
    go_wp2
    go_ret
    exact ⟨by simp, rfl⟩

theorem back {P : Program} {f : FuncId} {args : Array Value} {w : World} {v : Value} (h : Calls P f args w fun e w' => e = .returned v ∧ w = w') : Calls P f args w fun e w' => e = .returned v ∧ w' = w :=
  h.mono fun _ _ ⟨a, b⟩ => ⟨a, b.symm⟩

/-- The mass of a class, as a word. -/
theorem iMass (k : Nat) (hk : k < 20) (w : World) :
    Calls Try.prog 117 #[.int .i64 (k : Int)] w fun e w' => e = .returned (.float .f32 (mass k)) ∧ w = w' := by
  have H : k = 0 ∨ k = 1 ∨ k = 2 ∨ k = 3 ∨ k = 4 ∨ k = 5 ∨ k = 6 ∨ k = 7 ∨ k = 8 ∨ k = 9 ∨ k = 10 ∨ k = 11 ∨ k = 12 ∨ k = 13 ∨ k = 14 ∨ k = 15 ∨ k = 16 ∨ k = 17 ∨ k = 18 ∨ k = 19 := by omega
  rcases H with rfl | rfl | rfl | rfl | rfl | rfl | rfl | rfl | rfl | rfl | rfl | rfl | rfl | rfl | rfl | rfl | rfl | rfl | rfl | rfl
  all_goals
    go_enter Try.func117, Try.ntmps117
    go_wp2
    go_ret
    exact ⟨rfl, rfl⟩

theorem sMass (k : Nat) (hk : k < 20) (w : World) :
    Calls Try.prog 139 #[.int .i64 (k : Int)] w fun e w' => e = .returned (.float .f32 (mass k)) ∧ w = w' := by
  have H : k = 0 ∨ k = 1 ∨ k = 2 ∨ k = 3 ∨ k = 4 ∨ k = 5 ∨ k = 6 ∨ k = 7 ∨ k = 8 ∨ k = 9 ∨ k = 10 ∨ k = 11 ∨ k = 12 ∨ k = 13 ∨ k = 14 ∨ k = 15 ∨ k = 16 ∨ k = 17 ∨ k = 18 ∨ k = 19 := by omega
  rcases H with rfl | rfl | rfl | rfl | rfl | rfl | rfl | rfl | rfl | rfl | rfl | rfl | rfl | rfl | rfl | rfl | rfl | rfl | rfl | rfl
  all_goals
    go_enter Try.func139, Try.ntmps139
    go_wp2
    go_ret
    exact ⟨rfl, rfl⟩

theorem isClass_t (k : Nat) (hk : k < 20) (w : World) :
    Calls Try.prog 172 #[.int .i64 (k : Int)] w fun e w' => e = .returned (.bool true) ∧ w = w' := by
  have h1 : decide ((0 : Int) ≤ (k : Int)) = true := by simp
  go_enter Try.func172, Try.ntmps172
  go_wp2
  go_ret
  exact ⟨by first | rfl | (simp; done) | (simp; omega), rfl⟩

def fltOf : Value → Nat
  | .float _ b => b
  | _ => 0

theorem nearer (b r : Nat) (h : okR b r) (w : World) :
    Calls Try.prog 107 #[.float .f64 r, .float .f64 b] w fun e w' => e = .returned (.float .f64 (rNext b r)) ∧ w = w' := by
  obtain ⟨h1, h2, h3, h4, h5, h6, h7⟩ := h
  have q1 := fun w => run_float_arith (P := Try.prog) w .mul 26 .f64 _ _ _ h1
  have q2 := fun w => run_float_arith (P := Try.prog) w .mul 26 .f64 _ _ _ h2
  have q3 := fun w => run_float_arith (P := Try.prog) w .sub 26 .f64 _ _ _ h3
  have q4 := fun w => run_float_arith (P := Try.prog) w .mul 26 .f64 _ _ _ h4
  have q5 := fun w => run_float_arith (P := Try.prog) w .mul 26 .f64 _ _ _ h5
  have q6 := fun w => run_float_arith (P := Try.prog) w .quo 26 .f64 _ _ _ h6
  have q7 := fun w => run_float_arith (P := Try.prog) w .sub 26 .f64 _ _ _ h7
  clear h1 h2 h3 h4 h5 h6 h7
  go_enter Try.func107, Try.ntmps107
  go_wp2
  go_ret
  exact ⟨rfl, rfl⟩

set_option maxRecDepth 100000 in
theorem iThird (a n m z root : Nat) (ha : amtB a = true) (h0 : a ≠ 0) (T : RootTr a n m z root) (w : World) :
    Calls Try.prog 32 #[.float .f32 a] w fun e w' => e = .returned (.tuple #[.float .f32 root, .int .i64 0]) ∧ w = w' := by
  have hc := fun w => run_conv_wid (P := Try.prog) w 22 26 a (amt_lt ha) Try.underlying22 Try.underlying26 (finB_iff.1 (amt_fin ha))
  have he : (FloatKind.f32.format.order a 0 == some .eq) = false := by
    show (S.order a 0 == some .eq) = false
    rw [order_zero_pos (amtB_iff.1 ha), Nat.compare_eq_gt.2 (by omega)]; rfl
  have hz := fun w => run_float_arith (P := Try.prog) w .mul 26 .f64 _ _ _ T.hz
  have ho := fun w => run_convert_float_float (P := Try.prog) w 26 22 .f64 .f32 z root (by rw [Try.underlying26]; rfl) Try.underlying22 T.out
  have HA := hid ha
  have HT := hid T
  clear ha h0 T
  go_enter Try.func32, Try.ntmps32
  go_wp2_with (go_at_call 106; refine (isAmount_t a HA.out _).mono ?_; rintro e w' ⟨rfl, rfl⟩)
  go_loop [4, 5] (fun b x => ∃ j : Nat, j ≤ n ∧ b = .float .f64 (bS (wid a) j) ∧ x = .float .f64 (xS 4607182418800017408 j)) (fun b _ => fltOf b)
  case atStart => exact ⟨0, Nat.zero_le _, rfl, rfl⟩
  case round =>
    obtain ⟨j, hj, rfl, rfl⟩ := hrel
    by_cases hlt : j < n
    · obtain ⟨g1, g2, g3, g4⟩ := HT.out.l1 j hlt
      have q0 : (FloatKind.f64.format.order (bS (wid a) j) 4620693217682128896 == some .gt || FloatKind.f64.format.order (bS (wid a) j) 4620693217682128896 == some .eq) = true := g1
      have q1 := fun w => run_float_arith (P := Try.prog) w .quo 26 .f64 _ _ _ g2
      have q2 := fun w => run_float_arith (P := Try.prog) w .mul 26 .f64 _ _ _ g3
      have G4 := hid g4
      clear g1 g2 g3 g4
      go_wp2
      go_round
      case rel => exact ⟨j + 1, by omega, rfl, rfl⟩
      case measure => exact G4.out
    · obtain rfl : j = n := by omega
      have q0 : (FloatKind.f64.format.order (bS (wid a) j) 4620693217682128896 == some .gt || FloatKind.f64.format.order (bS (wid a) j) 4620693217682128896 == some .eq) = false := HT.out.e1
      go_wp2
      clear q0
      go_loop [4, 5] (fun b x => ∃ i : Nat, i ≤ m ∧ b = .float .f64 (cS (bS (wid a) j) i) ∧ x = .float .f64 (yS (xS 4607182418800017408 j) i)) (fun b _ => 9218868437227405312 - fltOf b)
      case atStart => exact ⟨0, Nat.zero_le _, rfl, rfl⟩
      case round =>
        obtain ⟨i, hi, rfl, rfl⟩ := hrel
        by_cases hlt : i < m
        · obtain ⟨g1, g2, g3, g4, g5⟩ := HT.out.l2 i hlt
          have q0 : (FloatKind.f64.format.order (cS (bS (wid a) j) i) 4607182418800017408 == some .lt) = true := g1
          have q1 := fun w => run_float_arith (P := Try.prog) w .mul 26 .f64 _ _ _ g2
          have q2 := fun w => run_float_arith (P := Try.prog) w .quo 26 .f64 _ _ _ g3
          have G4 := hid g4
          have G5 := hid g5
          clear g1 g2 g3 g4 g5
          go_wp2
          go_round
          case rel => exact ⟨i + 1, by omega, rfl, rfl⟩
          case measure => have := G4.out; have := G5.out; simp only [fltOf]; omega
        · obtain rfl : i = m := by omega
          have q0 : (FloatKind.f64.format.order (cS (bS (wid a) j) i) 4607182418800017408 == some .lt) = false := HT.out.e2
          go_wp2
          clear q0
          go_loop [6, 26] (fun r k => ∃ q : Nat, q ≤ 6 ∧ k = .int .i64 q ∧ r = .float .f64 (rS (cS (bS (wid a) j) i) q)) (fun _ k => 6 - (intOf k).toNat)
          case atStart => exact ⟨0, by omega, rfl, rfl⟩
          case round =>
            obtain ⟨q, hq, rfl, rfl⟩ := hrel
            by_cases hlt : q < 6
            · have HN := hid (HT.out.l3 q hlt)
              go_wp2_with fail
              refine (nearer (cS (bS (wid a) j) i) (rS (cS (bS (wid a) j) i) q) HN.out _).mono ?_
              rintro e w' ⟨rfl, rfl⟩
              go_wp2
              go_round
              case rel => exact ⟨q + 1, by omega, by go_num, rfl⟩
              case measure => simp [intOf]; omega
            · obtain rfl : q = 6 := by omega
              go_wp2
              go_ret2
              exact ⟨rfl, rfl⟩

set_option maxRecDepth 100000 in
theorem sThird (a n m z root : Nat) (ha : amtB a = true) (h0 : a ≠ 0) (T : RootTr a n m z root) (w : World) :
    Calls Try.prog 105 #[.float .f32 a] w fun e w' => e = .returned (.float .f32 root) ∧ w = w' := by
  have hc := fun w => run_conv_wid (P := Try.prog) w 22 26 a (amt_lt ha) Try.underlying22 Try.underlying26 (finB_iff.1 (amt_fin ha))
  have he : (FloatKind.f32.format.order a 0 == some .eq) = false := by
    show (S.order a 0 == some .eq) = false
    rw [order_zero_pos (amtB_iff.1 ha), Nat.compare_eq_gt.2 (by omega)]; rfl
  have hz := fun w => run_float_arith (P := Try.prog) w .mul 26 .f64 _ _ _ T.hz
  have ho := fun w => run_convert_float_float (P := Try.prog) w 26 22 .f64 .f32 z root (by rw [Try.underlying26]; rfl) Try.underlying22 T.out
  have HT := hid T
  clear ha h0 T
  go_enter Try.func105, Try.ntmps105
  go_wp2
  go_loop [3, 4] (fun b x => ∃ j : Nat, j ≤ n ∧ b = .float .f64 (bS (wid a) j) ∧ x = .float .f64 (xS 4607182418800017408 j)) (fun b _ => fltOf b)
  case atStart => exact ⟨0, Nat.zero_le _, rfl, rfl⟩
  case round =>
    obtain ⟨j, hj, rfl, rfl⟩ := hrel
    by_cases hlt : j < n
    · obtain ⟨g1, g2, g3, g4⟩ := HT.out.l1 j hlt
      have q0 : (FloatKind.f64.format.order (bS (wid a) j) 4620693217682128896 == some .gt || FloatKind.f64.format.order (bS (wid a) j) 4620693217682128896 == some .eq) = true := g1
      have q1 := fun w => run_float_arith (P := Try.prog) w .quo 26 .f64 _ _ _ g2
      have q2 := fun w => run_float_arith (P := Try.prog) w .mul 26 .f64 _ _ _ g3
      have G4 := hid g4
      clear g1 g2 g3 g4
      go_wp2
      go_round
      case rel => exact ⟨j + 1, by omega, rfl, rfl⟩
      case measure => exact G4.out
    · obtain rfl : j = n := by omega
      have q0 : (FloatKind.f64.format.order (bS (wid a) j) 4620693217682128896 == some .gt || FloatKind.f64.format.order (bS (wid a) j) 4620693217682128896 == some .eq) = false := HT.out.e1
      go_wp2
      clear q0
      go_loop [3, 4] (fun b x => ∃ i : Nat, i ≤ m ∧ b = .float .f64 (cS (bS (wid a) j) i) ∧ x = .float .f64 (yS (xS 4607182418800017408 j) i)) (fun b _ => 9218868437227405312 - fltOf b)
      case atStart => exact ⟨0, Nat.zero_le _, rfl, rfl⟩
      case round =>
        obtain ⟨i, hi, rfl, rfl⟩ := hrel
        by_cases hlt : i < m
        · obtain ⟨g1, g2, g3, g4, g5⟩ := HT.out.l2 i hlt
          have q0 : (FloatKind.f64.format.order (cS (bS (wid a) j) i) 4607182418800017408 == some .lt) = true := g1
          have q1 := fun w => run_float_arith (P := Try.prog) w .mul 26 .f64 _ _ _ g2
          have q2 := fun w => run_float_arith (P := Try.prog) w .quo 26 .f64 _ _ _ g3
          have G4 := hid g4
          have G5 := hid g5
          clear g1 g2 g3 g4 g5
          go_wp2
          go_round
          case rel => exact ⟨i + 1, by omega, rfl, rfl⟩
          case measure => have := G4.out; have := G5.out; simp only [fltOf]; omega
        · obtain rfl : i = m := by omega
          have q0 : (FloatKind.f64.format.order (cS (bS (wid a) j) i) 4607182418800017408 == some .lt) = false := HT.out.e2
          go_wp2
          clear q0
          go_loop [5, 6] (fun r k => ∃ q : Nat, q ≤ 6 ∧ k = .int .i64 q ∧ r = .float .f64 (rS (cS (bS (wid a) j) i) q)) (fun _ k => 6 - (intOf k).toNat)
          case atStart => exact ⟨0, by omega, rfl, rfl⟩
          case round =>
            obtain ⟨q, hq, rfl, rfl⟩ := hrel
            by_cases hlt : q < 6
            · obtain ⟨h1, h2, h3, h4, h5, h6, h7⟩ := HT.out.l3 q hlt
              have q1 := fun w => run_float_arith (P := Try.prog) w .mul 26 .f64 _ _ _ h1
              have q2 := fun w => run_float_arith (P := Try.prog) w .mul 26 .f64 _ _ _ h2
              have q3 := fun w => run_float_arith (P := Try.prog) w .sub 26 .f64 _ _ _ h3
              have q4 := fun w => run_float_arith (P := Try.prog) w .mul 26 .f64 _ _ _ h4
              have q5 := fun w => run_float_arith (P := Try.prog) w .mul 26 .f64 _ _ _ h5
              have q6 := fun w => run_float_arith (P := Try.prog) w .quo 26 .f64 _ _ _ h6
              have q7 := fun w => run_float_arith (P := Try.prog) w .sub 26 .f64 _ _ _ h7
              clear h1 h2 h3 h4 h5 h6 h7
              go_wp2
              go_round
              case rel => exact ⟨q + 1, by omega, by go_num, rfl⟩
              case measure => simp [intOf]; omega
            · obtain rfl : q = 6 := by omega
              go_wp2
              go_ret
              exact ⟨rfl, rfl⟩

theorem mass_ne {k : Nat} : mass k ≠ 0 := by unfold mass; omega

theorem iThirdMass (k : Nat) (hk : k < 20) (w : World) :
    Calls Try.prog 32 #[.float .f32 (mass k)] w fun e w' => e = .returned (.tuple #[.float .f32 (rad k), .int .i64 0]) ∧ w = w' :=
  iThird (mass k) (k / 3) 0 (rz k) (rad k) (mass_amt hk) mass_ne (tr_one hk).1 w

theorem sThirdMass (k : Nat) (hk : k < 20) (w : World) :
    Calls Try.prog 105 #[.float .f32 (mass k)] w fun e w' => e = .returned (.float .f32 (rad k)) ∧ w = w' :=
  sThird (mass k) (k / 3) 0 (rz k) (rad k) (mass_amt hk) mass_ne (tr_one hk).1 w

theorem iRadius (k : Nat) (hk : k < 20) (w : World) :
    Calls Try.prog 116 #[.int .i64 (k : Int)] w fun e w' => e = .returned (.tuple #[.float .f32 (rad k), .int .i64 0]) ∧ w = w' := by
  have HK := hid hk
  clear hk
  go_enter Try.func116, Try.ntmps116
  go_wp2_with (first | (go_at_call 172; refine (isClass_t k HK.out _).mono ?_; rintro e w' ⟨rfl, rfl⟩) | (go_at_call 117; refine (iMass k HK.out _).mono ?_; rintro e w' ⟨rfl, rfl⟩) | (go_at_call 32; refine (iThirdMass k HK.out _).mono ?_; rintro e w' ⟨rfl, rfl⟩))
  go_ret2
  exact ⟨rfl, rfl⟩

theorem sRad (k : Nat) (hk : k < 20) (w : World) :
    Calls Try.prog 142 #[.int .i64 (k : Int)] w fun e w' => e = .returned (.float .f32 (rad k)) ∧ w = w' := by
  have HK := hid hk
  clear hk
  go_enter Try.func142, Try.ntmps142
  go_wp2_with (first | (go_at_call 139; refine (sMass k HK.out _).mono ?_; rintro e w' ⟨rfl, rfl⟩) | (go_at_call 105; refine (sThirdMass k HK.out _).mono ?_; rintro e w' ⟨rfl, rfl⟩))
  go_ret
  exact ⟨rfl, rfl⟩

set_option maxRecDepth 100000 in
theorem eqA20 (c : Nat → Nat) (hb : ∀ i, i < 20 → c i < 4294967296) (h : ∀ i, i < 20 → finB (c i) = true) (w : World) :
    Calls Try.prog 41 #[.agg (fls c), .agg (fls c)] w fun e w' => e = .returned (.bool true) ∧ Below w.heap.size w w' := by
  have b0 : Below w.heap.size w (w.alloc (.cells (fls c) 28)) := (Below.refl _ _).alloc (Nat.le_refl _) _
  have a0 := hid (arrAt.new w c 28)
  have H := hid h
  have HB := hid hb
  clear h hb
  go_enter Try.func41, Try.ntmps41
  go_wp2
  go_loopw [5] (fun i wr => ∃ k : Nat, k ≤ 20 ∧ i = .int .i64 k ∧ Hid (arrAt wr w.heap.size c 28) ∧ Hid (arrAt wr (w.heap.size + 1) c 28) ∧ Hid (Below w.heap.size w wr)) (fun i _ => 20 - (intOf i).toNat)
  case atStart =>
    refine ⟨0, by omega, rfl, hid (a0.out.alloc _), hid ?_, hid (b0.alloc (by simp) _)⟩
    have := arrAt.new (w.alloc (.cells (fls c) 28)) c 28
    have e : (w.alloc (.cells (fls c) 28)).heap.size = w.heap.size + 1 := by simp
    rw [e] at this
    exact this
  case round =>
    obtain ⟨k, hk, rfl, h0, h1, hb⟩ := hrel
    by_cases hlt : k < 20
    · have q0 := h0.out.cell hlt
      have q1 := h1.out.cell hlt
      have hc := fun w => run_conv_wid (P := Try.prog) w 22 26 (c k) (HB.out k hlt) Try.underlying22 Try.underlying26 (finB_iff.1 (H.out k hlt))
      go_wp2
      go_quiet ((go_at_call 33; exact Calls.quiet_of_same (back (sameFloat (c k) (HB.out k hlt) (H.out k hlt) _))))
      go_wp2
      go_roundw
      case rel => exact ⟨k + 1, by omega, by go_num, h0, h1, hid (below_drewN hb.out _)⟩
      case measure => simp [intOf]; omega
    · go_wp2
      go_ret
      exact ⟨rfl, hb.out⟩

@[go_sem] theorem zero_kern : Try.zeroCells53 = vls 400 (flw fun _ => 0) := by kernel_rfl

@[go_sem] theorem ext_f32from (n : Int) (w : World) : (callFunc 201 #[.int .u32 n]).run Try.prog w = .ok (.value (.float .f32 n.toNat)) w := by
  rw [run_callFunc_extern Try.func201 (by kernel_rfl) (by kernel_rfl) (by kernel_rfl) (e := Extern.MathFloatBits.float32frombits) (by kernel_rfl)]
  rfl

set_option maxRecDepth 100000 in
theorem iHeld (x : Nat) {q m : Nat} (hq : q ≤ INF) (hm : m < INF) (h0 : 0 < m) (w : World) :
    Calls Try.prog 118 #[.float .f32 (sgnW x q), .float .f32 (2147483648 + m), .float .f32 m] w fun e w' => e = .returned (.float .f32 (sgnW x (min q m))) ∧ w = w' := by
  have r1 := fun ts t w => run_max_sgn (P := Try.prog) ts t x hq hm h0 w
  have r2 := fun ts t w => run_min_sgn (P := Try.prog) ts t x hq hm h0 w
  clear hq hm h0
  go_enter Try.func118, Try.ntmps118
  go_wp2
  go_ret
  exact ⟨rfl, rfl⟩

set_option maxRecDepth 100000 in
theorem iHeld_nan (z a b : Nat) (hz : INF < mg z) (w : World) :
    Calls Try.prog 118 #[.float .f32 z, .float .f32 a, .float .f32 b] w fun e w' => ∃ v, v < 4294967296 ∧ finB v = false ∧ e = .returned (.float .f32 v) ∧ Below w.heap.size w w' := by
  obtain ⟨z1, r1, h1, _⟩ := run_max_nan (P := Try.prog) #[22, 22] 22 a hz w
  obtain ⟨z2, r2, h2, h3⟩ := run_min_nan (P := Try.prog) #[22, 22] 22 b h1 w.drew
  have HV := hid (show finB z2 = false from finB_iff'.2 (by omega))
  have H3 := hid h3
  clear hz h1 h2 h3
  go_enter Try.func118, Try.ntmps118
  go_wp2
  go_ret
  exact ⟨z2, H3.out, HV.out, rfl, (Below.refl _ _).drew.drew⟩

set_option maxHeartbeats 1000000 in
set_option maxRecDepth 100000 in
theorem iGains_ok (x t : Nat) (hx : x < 4294967296) (hf : finB x = true) (ht : amtB t = true) (r : Nat → Nat) (q : Int) (h1 : (∀ k, k < 20 → gNan x t k = false) → r = gainW x t ∧ q = 0) (h2 : ¬ (∀ k, k < 20 → gNan x t k = false) → r = (fun _ => 0) ∧ q = 4) (w : World) :
    Calls Try.prog 40 #[.float .f32 x, .float .f32 t] w fun e w' => e = .returned (.tuple #[.agg (vls 20 (flw r)), .int .i64 q]) ∧ Below w.heap.size w w' := by
  have A1 : Hid (vAt (w.alloc (.cells (fls fun _ => 0) 28)) w.heap.size 20 (flw fun _ => 0) 28) := hid (vAt.new w 20 (flw fun _ => 0) 28)
  have b0 := boxed w (.cells (fls fun _ => 0) 28)
  have H1 := hid h1
  have H2 := hid h2
  have HX := hid hx
  have HF := hid hf
  have HT := hid ht
  clear h1 h2 hx hf ht
  go_enter Try.func40, Try.ntmps40
  go_wp2_with fail
  refine (isFinite_t x HX.out HF.out _).mono ?_
  rintro e w1 ⟨rfl, rfl⟩
  go_wp2_with fail
  refine (isAmount_t t HT.out _).mono ?_
  rintro e w1 ⟨rfl, rfl⟩
  generalize hw1 : (w.alloc (.cells (fls fun _ => 0) 28)) = w1 at A1 b0 ⊢
  have hl : w.heap.size + 1 ≤ w1.heap.size := by rw [← hw1]; simp
  have HL := hid hl
  clear hw1 hl
  have N0 : Hid (vAt (w1.alloc (.cells (fls fun _ => 0) 28)) w1.heap.size 20 (flw fun _ => 0) 28) := hid (vAt.new w1 20 (flw fun _ => 0) 28)
  have N1 := hid (A1.out.alloc (.cells (fls fun _ => 0) 28))
  have nb := hid (b0.alloc b0.size (.cells (fls fun _ => 0) 28))
  clear A1 b0
  go_wp2_with fail
  go_loopw [21] (fun i wr => ∃ k : Nat, k ≤ 20 ∧ i = .int .i64 k ∧ Hid (∀ i, i < k → gNan x t i = false) ∧ Hid (vAt wr w1.heap.size 20 (flw (prt (gainW x t) (fun _ => 0) k)) 28) ∧ Hid (vAt wr w.heap.size 20 (flw fun _ => 0) 28) ∧ Hid (Below w.heap.size w wr)) (fun i _ => 20 - (intOf i).toNat)
  case atStart => exact ⟨0, by omega, rfl, hid fun i hi => by omega, hid (N0.out.ext fun i _ => by unfold flw; rw [part_zero]), N1, nb⟩
  case round =>
    obtain ⟨k, hk, rfl, hB, h0, h1, hb⟩ := hrel
    clear N0 N1 nb
    by_cases hlt : k < 20
    · have HK := hid hlt
      have hk3 : (k : Int) < 20 := by omega
      have H := hid (gain_ok HX.out HF.out HT.out HK.out)
      have r1 := fun w => run_float_arith (P := Try.prog) w .mul 22 .f32 _ _ _ H.out.r1
      have r3 := fun w => run_neg_mass (P := Try.prog) HK.out w
      go_wp2_with fail
      refine (iRadius k HK.out _).mono ?_
      rintro e wa ⟨rfl, rfl⟩
      go_wp2_with fail
      refine (iMass k HK.out _).mono ?_
      rintro e wa ⟨rfl, rfl⟩
      rcases hn : gNan x t k with _ | _
      · have hr2 := H.out.r2 hn
        have HQ := hid hr2.2
        have r2 := fun w => run_float_arith (P := Try.prog) w .mul 22 .f32 _ _ _ hr2.1
        have HB := hid (show ∀ i, i < k + 1 → gNan x t i = false from fun i hi => by
          rcases Nat.lt_or_eq_of_le (Nat.le_of_lt_succ hi) with h | rfl
          · exact hB.out i h
          · exact hn)
        clear hn hr2
        go_wp2_with fail
        refine (iHeld x HQ.out H.out.m1 H.out.m0 _).mono ?_
        rintro e wa ⟨rfl, rfl⟩
        go_wp2_with fail
        rw [show sgnW x (min (gqW x t k) (mass k)) = gainW x t k from rfl]
        refine (isFinite_t (gainW x t k) H.out.lt H.out.fin _).mono ?_
        rintro e wa ⟨rfl, rfl⟩
        have q0 := h0.out.cell HK.out
        have f0 := h0.out.frozen k
        have n0 := hid ((h0.out.fset k (gainW x t k)).ext (d := flw (prt (gainW x t) (fun _ => 0) (k + 1))) fun i _ => by unfold flw; rw [← part_succ (gainW x t) (fun _ => 0) k i])
        have n1 := hid (h1.out.setOther (a := ⟨w1.heap.size, k, none⟩) (by have := HL.out; simp; omega) (.float .f32 (gainW x t k)))
        have nb := hb.out.setCell (p := ⟨w1.heap.size, k, none⟩) (by have := HL.out; simp; omega) (.float .f32 (gainW x t k))
        go_wp2
        go_roundw
        case rel => exact ⟨k + 1, by omega, by go_num, HB, n0, n1, hid nb⟩
        case measure => simp [intOf]; omega
      · have hne : ¬ ∀ k, k < 20 → gNan x t k = false := fun hall => by have := hall k HK.out; rw [hn] at this; cases this
        obtain ⟨rfl, rfl⟩ := H2.out hne
        obtain ⟨z, r2, hz, _⟩ := run_arith_nan (P := Try.prog) (w := wr) .mul (.inr (.inr (.inl rfl))) 22 _ _ (H.out.r3 hn)
        have HZ := hid hz
        have D1 := hid h1.out.drew
        have db := hb.out.drew
        clear hn hne hz h0 h1 hb
        go_wp2_with fail
        refine (iHeld_nan z _ _ HZ.out _).mono ?_
        rintro e wa ⟨v, hv1, hv2, rfl, hba⟩
        have D1 := hid (D1.out.stay hba)
        have db := stp db (Nat.le_refl _) hba
        have HV1 := hid hv1
        have HV2 := hid hv2
        clear hv1 hv2
        go_wp2_with fail
        refine (isFinite_f v HV1.out HV2.out _).mono ?_
        rintro e wc ⟨rfl, hbc⟩
        have A3 := hid (D1.out.stay hbc)
        have b3 := stp db (Nat.le_refl _) hbc
        go_wp2_with (refine wpList_store_row rfl 28 _ _ rfl (w.heap.size) (vls 20 (flw fun _ => 0)) rfl rfl 28 _ A3.out (by rw [vls_size]; exact info_a20) (by simp) (vls_one (flw_one _)) ?_)
        exact bodyPost_ret (results_row_tmp rfl _ _ (w.heap.size) 28 (vls 20 (flw fun _ => 0)) (0, 0) _ rfl (A3.out.setRow (flw fun _ => 0)) Try.underlying28 rfl (by rw [vls_size]; exact info_a20)) rfl ⟨rfl, below_row b3 (by omega) _⟩

    · obtain rfl : k = 20 := by omega
      obtain ⟨rfl, rfl⟩ := H1.out hB.out
      have h0 := hid (h0.out.ext (d := flw (gainW x t)) fun i hi => by unfold flw; rw [show prt (gainW x t) (fun _ => 0) 20 i = gainW x t i from if_pos hi])
      have hl := HL.out
      go_wp2_with (first | (refine wpList_load_row rfl 28 _ rfl (w1.heap.size) rfl 28 (vls 20 (flw (gainW x t))) (0, 0) _ h0.out Try.underlying28 rfl (by rw [vls_size]; exact info_a20) ?_) | (refine wpList_store_row rfl 28 _ _ rfl (w.heap.size) (vls 20 (flw (gainW x t))) rfl rfl 28 _ h1.out (by rw [vls_size]; exact info_a20) (by simp) (vls_one (flw_one _)) ?_))
      exact bodyPost_ret (results_row_tmp rfl _ _ (w.heap.size) 28 (vls 20 (flw (gainW x t))) (0, 0) _ rfl (h1.out.setRow (flw (gainW x t))) Try.underlying28 rfl (by rw [vls_size]; exact info_a20)) rfl ⟨rfl, below_row hb.out (by omega) _⟩

set_option maxRecDepth 100000 in
theorem iGains_fin (x t : Nat) (hx : x < 4294967296) (hf : finB x = false) (w : World) :
    Calls Try.prog 40 #[.float .f32 x, .float .f32 t] w fun e w' => e = .returned (.tuple #[.agg (vls 20 (flw fun _ => 0)), .int .i64 2]) ∧ Below w.heap.size w w' := by
  have A0 : Hid (vAt (w.alloc (.cells (fls fun _ => 0) 28)) w.heap.size 20 (flw fun _ => 0) 28) := hid (vAt.new w 20 (flw fun _ => 0) 28)
  have b0 := boxed w (.cells (fls fun _ => 0) 28)
  have HX := hid hx
  have HF := hid hf
  clear hx hf
  go_enter Try.func40, Try.ntmps40
  go_wp2_with fail
  refine (isFinite_f x HX.out HF.out _).mono ?_
  rintro e w1 ⟨rfl, hb1⟩
  have A3 := hid (A0.out.stay hb1)
  have b3 := stp b0 (Nat.le_refl _) hb1
  go_wp2_with (refine wpList_store_row rfl 28 _ _ rfl (w.heap.size) (vls 20 (flw fun _ => 0)) rfl rfl 28 _ A3.out (by rw [vls_size]; exact info_a20) (by simp) (vls_one (flw_one _)) ?_)
  exact bodyPost_ret (results_row_tmp rfl _ _ (w.heap.size) 28 (vls 20 (flw fun _ => 0)) (0, 0) _ rfl (A3.out.setRow (flw fun _ => 0)) Try.underlying28 rfl (by rw [vls_size]; exact info_a20)) rfl ⟨rfl, below_row b3 (by omega) _⟩

set_option maxRecDepth 100000 in
theorem iGains_amt (x t : Nat) (hx : x < 4294967296) (hf : finB x = true) (htl : t < 4294967296) (ht : ¬ amtB t = true) (w : World) :
    Calls Try.prog 40 #[.float .f32 x, .float .f32 t] w fun e w' => e = .returned (.tuple #[.agg (vls 20 (flw fun _ => 0)), .int .i64 2]) ∧ Below w.heap.size w w' := by
  have A0 : Hid (vAt (w.alloc (.cells (fls fun _ => 0) 28)) w.heap.size 20 (flw fun _ => 0) 28) := hid (vAt.new w 20 (flw fun _ => 0) 28)
  have b0 := boxed w (.cells (fls fun _ => 0) 28)
  have HX := hid hx
  have HF := hid hf
  have HTL := hid htl
  have HT := hid (show amtB t = false by simpa using ht)
  clear htl ht
  clear hx hf
  go_enter Try.func40, Try.ntmps40
  go_wp2_with fail
  refine (isFinite_t x HX.out HF.out _).mono ?_
  rintro e w1 ⟨rfl, rfl⟩
  go_wp2_with fail
  refine (isAmount_f t HTL.out HT.out _).mono ?_
  rintro e w1 ⟨rfl, hb1⟩
  have A3 := hid (A0.out.stay hb1)
  have b3 := stp b0 (Nat.le_refl _) hb1
  go_wp2_with (refine wpList_store_row rfl 28 _ _ rfl (w.heap.size) (vls 20 (flw fun _ => 0)) rfl rfl 28 _ A3.out (by rw [vls_size]; exact info_a20) (by simp) (vls_one (flw_one _)) ?_)
  exact bodyPost_ret (results_row_tmp rfl _ _ (w.heap.size) 28 (vls 20 (flw fun _ => 0)) (0, 0) _ rfl (A3.out.setRow (flw fun _ => 0)) Try.underlying28 rfl (by rw [vls_size]; exact info_a20)) rfl ⟨rfl, below_row b3 (by omega) _⟩

set_option maxHeartbeats 2000000 in
set_option maxRecDepth 100000 in
theorem sGains (x t : Nat) (hx : x < 4294967296) (hf : finB x = true) (ht : amtB t = true) (w : World) :
    Calls Try.prog 115 #[.float .f32 x, .float .f32 t] w fun e w' => ∃ M : Nat → Nat, (∀ k, k < 20 → GFits x t k (M k)) ∧ e = .returned (.agg (vls 20 (flw M))) ∧ Below w.heap.size w w' := by
  have A1 : Hid (vAt (w.alloc (.cells (fls fun _ => 0) 28)) w.heap.size 20 (flw fun _ => 0) 28) := hid (vAt.new w 20 (flw fun _ => 0) 28)
  have b0 := boxed w (.cells (fls fun _ => 0) 28)
  have HX := hid hx
  have HF := hid hf
  have HT := hid ht
  clear hx hf ht
  go_enter Try.func115, Try.ntmps115
  have N0 : Hid (vAt ((w.alloc (.cells (fls fun _ => 0) 28)).alloc (.cells (fls fun _ => 0) 28)) (w.heap.size + 1) 20 (flw fun _ => 0) 28) := hid (vAt.new1 w (.cells (fls fun _ => 0) 28) 20 (flw fun _ => 0) 28)
  have HL := hid (Nat.le_refl (w.heap.size + 1))
  have M0 := hid (N0.out.setRow (flw fun _ => 0))
  have M1 := hid ((A1.out.alloc (.cells (fls fun _ => 0) 28)).setRowOther (k := (w.heap.size + 1)) (by omega) (vls 20 (flw fun _ => 0)))
  have mb := below_row (b0.alloc b0.size (.cells (fls fun _ => 0) 28)) (Nat.le_succ _) (g := (w.heap.size + 1)) (vls 20 (flw fun _ => 0))
  have tok1 : True := trivial
  go_wp2_with (have _t := tok1; refine wpList_store_row rfl 28 _ _ rfl ((w.heap.size + 1)) (vls 20 (flw fun _ => 0)) rfl rfl 28 _ N0.out (by rw [vls_size]; exact info_a20) (by simp) (vls_one (flw_one _)) ?_; generalize (((w.alloc (.cells (fls fun _ => 0) 28)).alloc (.cells (fls fun _ => 0) 28)).setRow (w.heap.size + 1) (vls 20 (flw fun _ => 0))) = w2 at M0 M1 mb ⊢; clear N0 A1 b0 tok1)
  go_loopw [6] (fun i wr => ∃ k : Nat, k ≤ 20 ∧ i = .int .i64 k ∧ (∃ M : Nat → Nat, Hid (∀ i, i < k → GFits x t i (M i)) ∧ Hid (vAt wr (w.heap.size + 1) 20 (flw M) 28)) ∧ Hid (vAt wr w.heap.size 20 (flw fun _ => 0) 28) ∧ Hid (Below w.heap.size w wr)) (fun i _ => 20 - (intOf i).toNat)
  case atStart => exact ⟨0, by omega, rfl, ⟨fun _ => 0, hid fun i hi => by omega, M0⟩, M1, hid mb⟩
  case round =>
    obtain ⟨k, hk, rfl, ⟨M, hM, h0⟩, h1, hb⟩ := hrel
    by_cases hlt : k < 20
    · have HK := hid hlt
      have hk3 : (k : Int) < 20 := by omega
      clear M0 M1 mb
      have H := hid (gain_ok HX.out HF.out HT.out HK.out)
      have r1 := fun w => run_float_arith (P := Try.prog) w .mul 22 .f32 _ _ _ H.out.r1
      have r3 := fun w => run_neg_mass (P := Try.prog) HK.out w
      go_wp2_with fail
      refine (sMass k HK.out _).mono ?_
      rintro e wa ⟨rfl, rfl⟩
      go_wp2_with fail
      refine (sRad k HK.out _).mono ?_
      rintro e wa ⟨rfl, rfl⟩
      rcases hn : gNan x t k with _ | _
      · have hr2 := H.out.r2 hn
        have r2 := fun w => run_float_arith (P := Try.prog) w .mul 22 .f32 _ _ _ hr2.1
        have hcs := hold_cases x hr2.2 H.out.m1 H.out.m0
        rw [show sgnW x (min (gqW x t k) (mass k)) = gainW x t k from rfl] at hcs
        have g0 := h0
        have g1 := h1
        have gb := hb
        clear h0 h1 hb hr2
        have HG' := hid (show GFits x t k (gainW x t k) from ⟨fun _ => rfl, fun h => absurd (hn.symm.trans h) Bool.noConfusion⟩)
        clear hn
        rcases hcs with ⟨c1, c2, c3⟩ | ⟨c1, c2, c3⟩ | ⟨c1, c2, c3⟩
        · have HG := hid (c3 ▸ HG'.out)
          clear HG' c3
          have q0 := g0.out.cell HK.out
          have f0 := g0.out.frozen k
          have n0 := hid (g0.out.fset k (mass k))
          have n1 := hid (g1.out.setOther (a := ⟨(w.heap.size + 1), k, none⟩) (by first | (simp; done) | (simp; omega)) (.float .f32 (mass k)))
          have nb := gb.out.setCell (p := ⟨(w.heap.size + 1), k, none⟩) (by first | (simp; done) | (simp; omega)) (.float .f32 (mass k))
          have HM : Hid (∀ i, i < k + 1 → GFits x t i (upd M k (mass k) i)) := hid fun i hi => by
            by_cases e : i = k
            · rw [e, show upd M k (mass k) k = (mass k) from if_pos rfl]; exact HG.out
            · rw [show upd M k (mass k) i = M i from if_neg e]; exact hM.out i (by omega)
          clear gb g0 g1 hM
          go_wp2
          go_roundw
          case rel => exact ⟨k + 1, by omega, by go_num, ⟨_, HM, n0⟩, n1, hid nb⟩
          case measure => simp [intOf]; omega
        · have HG := hid (c3 ▸ HG'.out)
          clear HG' c3
          have q0 := g0.out.cell HK.out
          have f0 := g0.out.frozen k
          have n0 := hid (g0.out.fset k (sgnW x (gqW x t k)))
          have n1 := hid (g1.out.setOther (a := ⟨(w.heap.size + 1), k, none⟩) (by first | (simp; done) | (simp; omega)) (.float .f32 (sgnW x (gqW x t k))))
          have nb := gb.out.setCell (p := ⟨(w.heap.size + 1), k, none⟩) (by first | (simp; done) | (simp; omega)) (.float .f32 (sgnW x (gqW x t k)))
          have HM : Hid (∀ i, i < k + 1 → GFits x t i (upd M k (sgnW x (gqW x t k)) i)) := hid fun i hi => by
            by_cases e : i = k
            · rw [e, show upd M k (sgnW x (gqW x t k)) k = (sgnW x (gqW x t k)) from if_pos rfl]; exact HG.out
            · rw [show upd M k (sgnW x (gqW x t k)) i = M i from if_neg e]; exact hM.out i (by omega)
          clear gb g0 g1 hM
          go_wp2
          go_roundw
          case rel => exact ⟨k + 1, by omega, by go_num, ⟨_, HM, n0⟩, n1, hid nb⟩
          case measure => simp [intOf]; omega
        · have HG := hid (c3 ▸ HG'.out)
          clear HG' c3
          have q0 := g0.out.cell HK.out
          have f0 := g0.out.frozen k
          have n0 := hid (g0.out.fset k (2147483648 + mass k))
          have n1 := hid (g1.out.setOther (a := ⟨(w.heap.size + 1), k, none⟩) (by first | (simp; done) | (simp; omega)) (.float .f32 (2147483648 + mass k)))
          have nb := gb.out.setCell (p := ⟨(w.heap.size + 1), k, none⟩) (by first | (simp; done) | (simp; omega)) (.float .f32 (2147483648 + mass k))
          have HM : Hid (∀ i, i < k + 1 → GFits x t i (upd M k (2147483648 + mass k) i)) := hid fun i hi => by
            by_cases e : i = k
            · rw [e, show upd M k (2147483648 + mass k) k = (2147483648 + mass k) from if_pos rfl]; exact HG.out
            · rw [show upd M k (2147483648 + mass k) i = M i from if_neg e]; exact hM.out i (by omega)
          clear gb g0 g1 hM
          go_wp2
          go_roundw
          case rel => exact ⟨k + 1, by omega, by go_num, ⟨_, HM, n0⟩, n1, hid nb⟩
          case measure => simp [intOf]; omega
      · obtain ⟨z, w4, r2, hz, hz2, hw4⟩ : ∃ z w4, (binOp .mul 22 (.float .f32 (sgnW x (fmul (rad k) (mg x)))) (.float .f32 t)).run Try.prog wr = .ok (.float .f32 z) w4 ∧ INF < mg z ∧ z < 4294967296 ∧ w4 = wr.drew := by
          obtain ⟨z, a, b, c⟩ := run_arith_nan (P := Try.prog) (w := wr) .mul (.inr (.inr (.inl rfl))) 22 _ _ (H.out.r3 hn)
          exact ⟨z, _, a, b, c, rfl⟩
        have c1 : (FloatKind.f32.format.order z (mass k) == some .gt) = false := by
          rw [show FloatKind.f32.format.order z (mass k) = none from order_nan32 hz]; rfl
        have c2 : (FloatKind.f32.format.order z (2147483648 + mass k) == some .lt) = false := by
          rw [show FloatKind.f32.format.order z (2147483648 + mass k) = none from order_nan32 hz]; rfl
        have HG := hid (show GFits x t k z from ⟨fun h => absurd (hn.symm.trans h) Bool.noConfusion, fun _ => ⟨hz2, finB_iff'.2 (by omega)⟩⟩)
        have g0 : Hid (vAt w4 (w.heap.size + 1) 20 (flw M) 28) := by rw [hw4]; exact hid h0.out.drew
        have g1 : Hid (vAt w4 w.heap.size 20 (flw fun _ => 0) 28) := by rw [hw4]; exact hid h1.out.drew
        have gb : Hid (Below w.heap.size w w4) := by rw [hw4]; exact hid hb.out.drew
        clear hz hz2 hw4 hn h0 h1 hb
        have q0 := g0.out.cell HK.out
        have f0 := g0.out.frozen k
        have n0 := hid (g0.out.fset k z)
        have n1 := hid (g1.out.setOther (a := ⟨(w.heap.size + 1), k, none⟩) (by first | (simp; done) | (simp; omega)) (.float .f32 z))
        have nb := gb.out.setCell (p := ⟨(w.heap.size + 1), k, none⟩) (by first | (simp; done) | (simp; omega)) (.float .f32 z)
        have HM : Hid (∀ i, i < k + 1 → GFits x t i (upd M k z i)) := hid fun i hi => by
          by_cases e : i = k
          · rw [e, show upd M k z k = z from if_pos rfl]; exact HG.out
          · rw [show upd M k z i = M i from if_neg e]; exact hM.out i (by omega)
        clear gb g0 g1 hM
        go_wp2
        go_roundw
        case rel => exact ⟨k + 1, by omega, by go_num, ⟨_, HM, n0⟩, n1, hid nb⟩
        case measure => simp [intOf]; omega
    · obtain rfl : k = 20 := by omega
      have hl := HL.out
      go_wp2_with (first | (refine wpList_load_row rfl 28 _ rfl ((w.heap.size + 1)) rfl 28 (vls 20 (flw M)) (0, 0) _ h0.out Try.underlying28 rfl (by rw [vls_size]; exact info_a20) ?_) | (refine wpList_store_row rfl 28 _ _ rfl (w.heap.size) (vls 20 (flw M)) rfl rfl 28 _ h1.out (by rw [vls_size]; exact info_a20) (by simp) (vls_one (flw_one _)) ?_))
      exact bodyPost_ret (results_cell_row rfl _ _ (w.heap.size) 28 (vls 20 (flw M)) (0, 0) _ rfl (h1.out.setRow (flw M)) Try.underlying28 rfl (by rw [vls_size]; exact info_a20)) rfl ⟨M, hM.out, rfl, below_row hb.out (by omega) _⟩

set_option maxHeartbeats 2000000 in
set_option maxRecDepth 100000 in
theorem sGainsAt_ok (x t : Nat) (hx : x < 4294967296) (hf : finB x = true) (ht : amtB t = true) (r : Nat → Nat) (q : Int) (h1 : (∀ k, k < 20 → gNan x t k = false) → r = gainW x t ∧ q = 0) (h2 : ¬ (∀ k, k < 20 → gNan x t k = false) → r = (fun _ => 0) ∧ q = 4) (w : World) :
    Calls Try.prog 39 #[.float .f32 x, .float .f32 t] w fun e w' => e = .returned (.tuple #[.agg (vls 20 (flw r)), .int .i64 q]) ∧ Below w.heap.size w w' := by
  have A1 : Hid (vAt (w.alloc (.cells (fls fun _ => 0) 28)) w.heap.size 20 (flw fun _ => 0) 28) := hid (vAt.new w 20 (flw fun _ => 0) 28)
  have b0 := boxed w (.cells (fls fun _ => 0) 28)
  have H1 := hid h1
  have H2 := hid h2
  have HX := hid hx
  have HF := hid hf
  have HT := hid ht
  clear h1 h2 hx hf ht
  go_enter Try.func39, Try.ntmps39
  go_wp2_with fail
  refine (sFinite_t x HX.out HF.out _).mono ?_
  rintro e w1 ⟨rfl, rfl⟩
  go_wp2_with fail
  refine (sAmount_t t HT.out _).mono ?_
  rintro e w1 ⟨rfl, rfl⟩
  generalize hw1 : (w.alloc (.cells (fls fun _ => 0) 28)) = w1 at A1 b0 ⊢
  clear hw1
  go_wp2_with fail
  refine (sGains x t HX.out HF.out HT.out _).mono ?_
  rintro e w5 ⟨M, hM, rfl, hb5⟩
  have A1 := hid (A1.out.stay hb5)
  have b5 := stp b0 (by have := b0.size; omega) hb5
  have HM := hid hM
  have hlt := A1.out.lt
  have N0 : Hid (vAt (w5.alloc (.cells (fls fun _ => 0) 28)) w5.heap.size 20 (flw fun _ => 0) 28) := hid (vAt.new w5 20 (flw fun _ => 0) 28)
  have M0 := hid (N0.out.setRow (flw M))
  have M1 := hid ((A1.out.alloc (.cells (fls fun _ => 0) 28)).setRowOther (k := w5.heap.size) (Nat.ne_of_lt A1.out.lt) (vls 20 (flw M)))
  have mb := below_row (b5.alloc b5.size (.cells (fls fun _ => 0) 28)) b5.size (g := w5.heap.size) (vls 20 (flw M))
  have tok1 : True := trivial
  clear hM hb5 b0
  go_wp2_with (have _t := tok1; refine wpList_store_row rfl 28 _ _ rfl (w5.heap.size) (vls 20 (flw M)) rfl rfl 28 _ N0.out (by rw [vls_size]; exact info_a20) (by simp) (vls_one (flw_one _)) ?_; generalize ((w5.alloc (.cells (fls fun _ => 0) 28)).setRow w5.heap.size (vls 20 (flw M))) = w6 at M0 M1 mb ⊢; clear N0 A1 b5 tok1)
  go_loop [7] (fun i => ∃ k : Nat, k ≤ 20 ∧ i = .int .i64 k ∧ Hid (∀ i, i < k → gNan x t i = false)) (fun i => 20 - (intOf i).toNat)
  case atStart => exact ⟨0, by omega, rfl, hid fun i hi => by omega⟩
  case round =>
    obtain ⟨k, hk, rfl, hB⟩ := hrel
    by_cases hlt : k < 20
    · have HK := hid hlt
      have hk3 : (k : Int) < 20 := by omega
      have q0 := M0.out.fcell HK.out
      have H := hid (gain_ok HX.out HF.out HT.out HK.out)
      rcases hn : gNan x t k with _ | _
      · have e := (HM.out k HK.out).1 hn
        rw [e] at q0
        have HB := hid (show ∀ i, i < k + 1 → gNan x t i = false from fun i hi => by
          rcases Nat.lt_or_eq_of_le (Nat.le_of_lt_succ hi) with h | rfl
          · exact hB.out i h
          · exact hn)
        clear hn e
        go_wp2_with fail
        refine (sFinite_t (gainW x t k) H.out.lt H.out.fin _).mono ?_
        rintro e w3 ⟨rfl, rfl⟩
        go_wp2
        go_round
        case rel => exact ⟨k + 1, by omega, by go_num, HB⟩
        case measure => simp [intOf]; omega
      · have e := hid ((HM.out k HK.out).2 hn)
        have hne : ¬ ∀ k, k < 20 → gNan x t k = false := fun hall => by have := hall k HK.out; rw [hn] at this; cases this
        obtain ⟨rfl, rfl⟩ := H2.out hne
        clear hn hne
        go_wp2_with fail
        refine (sFinite_f (M k) e.out.1 e.out.2 _).mono ?_
        rintro e w3 ⟨rfl, hb3⟩
        have A3 := hid (M1.out.stay hb3)
        have b3 := stp mb (by have := mb.size; omega) hb3
        go_wp2_with (refine wpList_store_row rfl 28 _ _ rfl (w.heap.size) (vls 20 (flw fun _ => 0)) rfl rfl 28 _ A3.out (by rw [vls_size]; exact info_a20) (by simp) (vls_one (flw_one _)) ?_)
        exact bodyPost_ret (results_row_tmp rfl _ _ (w.heap.size) 28 (vls 20 (flw fun _ => 0)) (0, 0) _ rfl (A3.out.setRow (flw fun _ => 0)) Try.underlying28 rfl (by rw [vls_size]; exact info_a20)) rfl ⟨rfl, below_row b3 (by omega) _⟩
    · obtain rfl : k = 20 := by omega
      obtain ⟨rfl, rfl⟩ := H1.out hB.out
      have h0 := hid (M0.out.ext (d := flw (gainW x t)) fun i hi => by unfold flw; rw [(HM.out i hi).1 (hB.out i hi)])
      go_wp2_with (first | (refine wpList_load_row rfl 28 _ rfl (w5.heap.size) rfl 28 (vls 20 (flw (gainW x t))) (0, 0) _ h0.out Try.underlying28 rfl (by rw [vls_size]; exact info_a20) ?_) | (refine wpList_store_row rfl 28 _ _ rfl (w.heap.size) (vls 20 (flw (gainW x t))) rfl rfl 28 _ M1.out (by rw [vls_size]; exact info_a20) (by simp) (vls_one (flw_one _)) ?_))
      exact bodyPost_ret (results_row_tmp rfl _ _ (w.heap.size) 28 (vls 20 (flw (gainW x t))) (0, 0) _ rfl (M1.out.setRow (flw (gainW x t))) Try.underlying28 rfl (by rw [vls_size]; exact info_a20)) rfl ⟨rfl, below_row mb (by omega) _⟩

set_option maxRecDepth 100000 in
theorem sGainsAt_fin (x t : Nat) (hx : x < 4294967296) (hf : finB x = false) (w : World) :
    Calls Try.prog 39 #[.float .f32 x, .float .f32 t] w fun e w' => e = .returned (.tuple #[.agg (vls 20 (flw fun _ => 0)), .int .i64 2]) ∧ Below w.heap.size w w' := by
  have A0 : Hid (vAt (w.alloc (.cells (fls fun _ => 0) 28)) w.heap.size 20 (flw fun _ => 0) 28) := hid (vAt.new w 20 (flw fun _ => 0) 28)
  have b0 := boxed w (.cells (fls fun _ => 0) 28)
  have HX := hid hx
  have HF := hid hf
  clear hx hf
  go_enter Try.func39, Try.ntmps39
  go_wp2_with fail
  refine (sFinite_f x HX.out HF.out _).mono ?_
  rintro e w1 ⟨rfl, hb1⟩
  have A3 := hid (A0.out.stay hb1)
  have b3 := stp b0 (Nat.le_refl _) hb1
  go_wp2_with (refine wpList_store_row rfl 28 _ _ rfl (w.heap.size) (vls 20 (flw fun _ => 0)) rfl rfl 28 _ A3.out (by rw [vls_size]; exact info_a20) (by simp) (vls_one (flw_one _)) ?_)
  exact bodyPost_ret (results_row_tmp rfl _ _ (w.heap.size) 28 (vls 20 (flw fun _ => 0)) (0, 0) _ rfl (A3.out.setRow (flw fun _ => 0)) Try.underlying28 rfl (by rw [vls_size]; exact info_a20)) rfl ⟨rfl, below_row b3 (by omega) _⟩

set_option maxRecDepth 100000 in
theorem sGainsAt_amt (x t : Nat) (hx : x < 4294967296) (hf : finB x = true) (htl : t < 4294967296) (ht : ¬ amtB t = true) (w : World) :
    Calls Try.prog 39 #[.float .f32 x, .float .f32 t] w fun e w' => e = .returned (.tuple #[.agg (vls 20 (flw fun _ => 0)), .int .i64 2]) ∧ Below w.heap.size w w' := by
  have A0 : Hid (vAt (w.alloc (.cells (fls fun _ => 0) 28)) w.heap.size 20 (flw fun _ => 0) 28) := hid (vAt.new w 20 (flw fun _ => 0) 28)
  have b0 := boxed w (.cells (fls fun _ => 0) 28)
  have HX := hid hx
  have HF := hid hf
  have HTL := hid htl
  have HT := hid (show amtB t = false by simpa using ht)
  clear htl ht
  clear hx hf
  go_enter Try.func39, Try.ntmps39
  go_wp2_with fail
  refine (sFinite_t x HX.out HF.out _).mono ?_
  rintro e w1 ⟨rfl, rfl⟩
  go_wp2_with fail
  refine (sAmount_f t HTL.out HT.out _).mono ?_
  rintro e w1 ⟨rfl, hb1⟩
  have A3 := hid (A0.out.stay hb1)
  have b3 := stp b0 (Nat.le_refl _) hb1
  go_wp2_with (refine wpList_store_row rfl 28 _ _ rfl (w.heap.size) (vls 20 (flw fun _ => 0)) rfl rfl 28 _ A3.out (by rw [vls_size]; exact info_a20) (by simp) (vls_one (flw_one _)) ?_)
  exact bodyPost_ret (results_row_tmp rfl _ _ (w.heap.size) 28 (vls 20 (flw fun _ => 0)) (0, 0) _ rfl (A3.out.setRow (flw fun _ => 0)) Try.underlying28 rfl (by rw [vls_size]; exact info_a20)) rfl ⟨rfl, below_row b3 (by omega) _⟩

set_option maxRecDepth 100000 in
theorem coreGainsAt (x0 : Nat) (x1 : Nat) (r0 : Nat → Nat) (hl0 : ∀ i, i < 20 → r0 i < 4294967296) (hf0 : ∀ i, i < 20 → finB (r0 i) = true) (r1 : Int)
    (hS : ∀ w, Calls Try.prog 39 #[.float .f32 x0, .float .f32 x1] w fun e w' => e = .returned (.tuple #[.agg (fls r0), .int .i64 r1]) ∧ Below w.heap.size w w')
    (hI : ∀ w, Calls Try.prog 40 #[.float .f32 x0, .float .f32 x1] w fun e w' => e = .returned (.tuple #[.agg (fls r0), .int .i64 r1]) ∧ Below w.heap.size w w') (w : World) :
    Calls Try.prog 5 #[.float .f32 x0, .float .f32 x1] w fun e w' => e = .returned (.bool true) ∧ Below w.heap.size w w' := by
  have b0 := Below.refl w.heap.size w
  have HS := hid hS
  have HI := hid hI
  clear hS hI
  have Hl0 := hid hl0
  have Hf0 := hid hf0
  clear hl0 hf0
  go_enter Try.func5, Try.ntmps5
  go_wp2_with fail
  refine (HS.out _).mono ?_
  rintro e v0 ⟨rfl, hbv0⟩
  have bv0 := stp b0 (Nat.le_refl _) hbv0
  have N0 := hid (heap_alloc_new v0 (.cells (fls fun _ => 0) 28))
  have R0 := hid (setRow_heap (v0.alloc (.cells (fls fun _ => 0) 28)) v0.heap.size _ (fls r0) _ _ N0.out)
  have bX0 : Below w.heap.size w ((v0.alloc (.cells (fls fun _ => 0) 28)).setRow v0.heap.size (fls r0)) := below_row (bv0.alloc bv0.size _) bv0.size _
  go_wp2_with (first | (refine wpList_store_row rfl 28 _ _ rfl (v0.heap.size) (fls r0) rfl rfl 28 _ N0.out (by rw [fls_size]; exact info_a20) (by simp) (fls_one r0) ?_))
  refine (HI.out _).mono ?_
  rintro e v1 ⟨rfl, hbv1⟩
  have bv1 := stp bX0 (Nat.le_refl _) hbv1
  have R0 := hid (stayB R0.out hbv1)
  have N1 := hid (heap_alloc_new v1 (.cells (fls fun _ => 0) 28))
  have R0 := hid (rowOther (allocB R0.out (.cells (fls fun _ => 0) 28)) (k := v1.heap.size) (Nat.ne_of_lt (lt_of_block R0.out)) (fls r0))
  have R1 := hid (setRow_heap (v1.alloc (.cells (fls fun _ => 0) 28)) v1.heap.size _ (fls r0) _ _ N1.out)
  have bX1 : Below w.heap.size w ((v1.alloc (.cells (fls fun _ => 0) 28)).setRow v1.heap.size (fls r0)) := below_row (bv1.alloc bv1.size _) bv1.size _
  go_wp2_with (first | (refine wpList_store_row rfl 28 _ _ rfl (v1.heap.size) (fls r0) rfl rfl 28 _ N1.out (by rw [fls_size]; exact info_a20) (by simp) (fls_one r0) ?_) | (refine wpList_load_row rfl 28 _ rfl (v1.heap.size) rfl 28 (fls r0) (0, 0) _ R1.out Try.underlying28 rfl (by rw [fls_size]; exact info_a20) ?_) | (refine wpList_load_row rfl 28 _ rfl (v0.heap.size) rfl 28 (fls r0) (0, 0) _ R0.out Try.underlying28 rfl (by rw [fls_size]; exact info_a20) ?_))
  refine (eqA20 r0 Hl0.out Hf0.out _).mono ?_
  rintro e z ⟨rfl, hbz⟩
  have bz := stp bX1 (Nat.le_refl _) hbz
  go_wp2
  go_ret
  exact ⟨rfl, bz⟩

theorem gains_lit (x t : Nat) (hx : x < 4294967296) (hf : finB x = true) (ht : amtB t = true) : ∃ (r : Nat → Nat) (q : Int), ((∀ k, k < 20 → gNan x t k = false) → r = gainW x t ∧ q = 0) ∧ (¬ (∀ k, k < 20 → gNan x t k = false) → r = (fun _ => 0) ∧ q = 4) ∧ (∀ i, i < 20 → r i < 4294967296) ∧ (∀ i, i < 20 → finB (r i) = true) := by
  rcases Classical.em (∀ k, k < 20 → gNan x t k = false) with h | h
  · exact ⟨gainW x t, 0, fun _ => ⟨rfl, rfl⟩, fun h' => absurd h h', fun i hi => (gain_ok hx hf ht hi).lt, fun i hi => (gain_ok hx hf ht hi).fin⟩
  · exact ⟨fun _ => 0, 4, fun h' => absurd h' h, fun _ => ⟨rfl, rfl⟩, fun _ _ => (by decide : (0 : Nat) < 4294967296), fun _ _ => (by decide : finB 0 = true)⟩

theorem lawGainsAt (x : Nat) (hx : x < 4294967296) (t : Nat) (htl : t < 4294967296) (w : World) :
    Calls Try.prog 5 #[.float .f32 x, .float .f32 t] w fun e w' => e = .returned (.bool true) ∧ Below w.heap.size w w' := by
  rcases hf : finB x with _ | _
  · exact coreGainsAt x t (fun _ => 0) (fun _ _ => (by decide : (0 : Nat) < 4294967296)) (fun _ _ => (by decide : finB 0 = true)) 2 (sGainsAt_fin x t hx hf) (iGains_fin x t hx hf) w
  · by_cases ht : amtB t = true
    · obtain ⟨r, q, h1, h2, h3, h4⟩ := gains_lit x t hx hf ht
      exact coreGainsAt x t r h3 h4 q (sGainsAt_ok x t hx hf ht r q h1 h2) (iGains_ok x t hx hf ht r q h1 h2) w
    · exact coreGainsAt x t (fun _ => 0) (fun _ _ => (by decide : (0 : Nat) < 4294967296)) (fun _ _ => (by decide : finB 0 = true)) 2 (sGainsAt_amt x t hx hf htl ht) (iGains_amt x t hx hf htl ht) w

theorem words_cons : ∀ (v : List Char) (r : List Char), (∀ c ∈ v, c ≠ Char.ofNat 32) → wordsSigns (v ++ Char.ofNat 32 :: r) = v :: wordsSigns r
  | [], r, _ => rfl
  | c :: v, r, h => by
    have ih := words_cons v r (fun x hx => h x (by simp [hx]))
    have hc : c ≠ Char.ofNat 32 := h c (by simp)
    show wordsSigns (c :: (v ++ Char.ofNat 32 :: r)) = _
    rw [wordsSigns.eq_3 _ _ (fun e => hc e), ih]

def w0 : List Nat := [104, 97, 114, 110, 101, 115, 115]

def w1 : List Nat := [97, 97, 48, 52, 102, 49, 99, 51, 50, 54, 56, 53, 56, 53, 102, 57, 99, 56, 55, 101, 50, 56, 99, 101, 57, 99, 99, 99, 52, 98, 56, 57, 52, 51, 53, 102, 101, 102, 99, 51, 54, 98, 102, 57, 51, 50, 53, 51, 57, 101, 54, 98, 50, 101, 98, 55, 50, 53, 53, 97, 54, 51, 54, 55]

def w2 : List Nat := [99, 117, 116]

def w3 : List Nat := [97, 116, 32, 108, 111, 111, 112, 46, 101, 120, 97, 109, 112, 108, 101, 47, 103, 48, 49, 50, 50, 52, 47, 108, 97, 119, 115, 46, 70, 110, 69, 120, 97, 99, 116, 84, 104, 105, 114, 100, 82, 111, 111, 116, 32, 108, 111, 111, 112, 46, 101, 120, 97, 109, 112, 108, 101, 47, 103, 48, 49, 50, 50, 52, 47, 108, 97, 119, 115, 46, 70, 110, 69, 120, 97, 99, 116, 83, 104, 105, 102, 116, 77, 97, 115, 115, 101, 115, 32, 108, 111, 111, 112, 46, 101, 120, 97, 109, 112, 108, 101, 47, 103, 48, 49, 50, 50, 52, 47, 108, 97, 119, 115, 46, 70, 110, 69, 120, 97, 99, 116, 71, 97, 105, 110, 115, 65, 116, 32, 108, 111, 111, 112, 46, 101, 120, 97, 109, 112, 108, 101, 47, 103, 48, 49, 50, 50, 52, 47, 108, 97, 119, 115, 46, 70, 110, 69, 120, 97, 99, 116, 71, 114, 111, 119, 79, 110, 99, 101, 32, 108, 111, 111, 112, 46, 101, 120, 97, 109, 112, 108, 101, 47, 103, 48, 49, 50, 50, 52, 47, 108, 97, 119, 115, 46, 70, 110, 69, 120, 97, 99, 116, 71, 114, 111, 119, 83, 116, 101, 112, 115, 32, 108, 111, 111, 112, 46, 101, 120, 97, 109, 112, 108, 101, 47, 103, 48, 49, 50, 50, 52, 47, 108, 97, 119, 115, 46, 70, 110, 69, 120, 97, 99, 116, 83, 116, 101, 112, 115, 84, 111, 68, 114, 121, 32, 108, 111, 111, 112, 46, 101, 120, 97, 109, 112, 108, 101, 47, 103, 48, 49, 50, 50, 52, 47, 108, 97, 119, 115, 46, 70, 110, 69, 120, 97, 99, 116, 86, 97, 108, 105, 100, 75, 101, 114, 110, 101, 108, 32, 108, 111, 111, 112, 46, 101, 120, 97, 109, 112, 108, 101, 47, 103, 48, 49, 50, 50, 52, 47, 108, 97, 119, 115, 46, 70, 110, 69, 120, 97, 99, 116, 83, 97, 109, 101, 75, 101, 114, 110, 101, 108, 32, 108, 111, 111, 112, 46, 101, 120, 97, 109, 112, 108, 101, 47, 103, 48, 49, 50, 50, 52, 47, 108, 97, 119, 115, 46, 70, 110, 69, 120, 97, 99, 116, 70, 97, 108, 108, 79, 102, 32, 108, 111, 111, 112, 46, 101, 120, 97, 109, 112, 108, 101, 47, 103, 48, 49, 50, 50, 52, 47, 108, 97, 119, 115, 46, 70, 110, 69, 120, 97, 99, 116, 70, 108, 97, 116, 75, 101, 114, 110, 101, 108, 32, 108, 111, 111, 112, 46, 101, 120, 97, 109, 112, 108, 101, 47, 103, 48, 49, 50, 50, 52, 47, 108, 97, 119, 115, 46, 70, 110, 69, 120, 97, 99, 116, 83, 117, 109, 75, 101, 114, 110, 101, 108, 32, 108, 111, 111, 112, 46, 101, 120, 97, 109, 112, 108, 101, 47, 103, 48, 49, 50, 50, 52, 47, 108, 97, 119, 115, 46, 70, 110, 69, 120, 97, 99, 116, 70, 97, 108, 108, 75, 101, 114, 110, 101, 108, 32, 108, 111, 111, 112, 46, 101, 120, 97, 109, 112, 108, 101, 47, 103, 48, 49, 50, 50, 52, 47, 108, 97, 119, 115, 46, 70, 110, 69, 120, 97, 99, 116, 65, 100, 100, 75, 101, 114, 110, 101, 108, 115, 32, 108, 111, 111, 112, 46, 101, 120, 97, 109, 112, 108, 101, 47, 103, 48, 49, 50, 50, 52, 47, 108, 97, 119, 115, 46, 70, 110, 69, 120, 97, 99, 116, 83, 99, 97, 108, 101, 75, 101, 114, 110, 101, 108, 32, 108, 111, 111, 112, 46, 101, 120, 97, 109, 112, 108, 101, 47, 103, 48, 49, 50, 50, 52, 47, 108, 97, 119, 115, 46, 70, 110, 69, 120, 97, 99, 116, 69, 118, 101, 110, 116, 115, 79, 102, 32, 108, 111, 111, 112, 46, 101, 120, 97, 109, 112, 108, 101, 47, 103, 48, 49, 50, 50, 52, 47, 108, 97, 119, 115, 46, 70, 110, 69, 120, 97, 99, 116, 76, 111, 115, 115, 101, 115, 79, 102, 32, 108, 111, 111, 112, 46, 101, 120, 97, 109, 112, 108, 101, 47, 103, 48, 49, 50, 50, 52, 47, 108, 97, 119, 115, 46, 70, 110, 69, 120, 97, 99, 116, 67, 111, 108, 108, 105, 100, 101, 32, 108, 111, 111, 112, 46, 101, 120, 97, 109, 112, 108, 101, 47, 103, 48, 49, 50, 50, 52, 47, 108, 97, 119, 115, 46, 70, 110, 69, 120, 97, 99, 116, 67, 111, 108, 108, 105, 100, 101, 83, 116, 101, 112, 115, 32, 108, 111, 111, 112, 46, 101, 120, 97, 109, 112, 108, 101, 47, 103, 48, 49, 50, 50, 52, 47, 108, 97, 119, 115, 46, 70, 110, 69, 120, 97, 99, 116, 82, 97, 105, 110, 77, 97, 100, 101, 32, 108, 111, 111, 112, 46, 101, 120, 97, 109, 112, 108, 101, 47, 103, 48, 49, 50, 50, 52, 47, 108, 97, 119, 115, 46, 70, 110, 69, 120, 97, 99, 116, 66, 114, 101, 97, 107, 67, 108, 97, 115, 115, 32, 108, 111, 111, 112, 46, 101, 120, 97, 109, 112, 108, 101, 47, 103, 48, 49, 50, 50, 52, 47, 108, 97, 119, 115, 46, 70, 110, 69, 120, 97, 99, 116, 66, 114, 101, 97, 107, 76, 97, 114, 103, 101, 32, 108, 111, 111, 112, 46, 101, 120, 97, 109, 112, 108, 101, 47, 103, 48, 49, 50, 50, 52, 47, 108, 97, 119, 115, 46, 70, 110, 69, 120, 97, 99, 116, 86, 97, 108, 105, 100, 66, 111, 120, 32, 108, 111, 111, 112, 46, 101, 120, 97, 109, 112, 108, 101, 47, 103, 48, 49, 50, 50, 52, 47, 108, 97, 119, 115, 46, 70, 110, 69, 120, 97, 99, 116, 77, 97, 115, 115, 79, 102, 66, 111, 120, 32, 108, 111, 111, 112, 46, 101, 120, 97, 109, 112, 108, 101, 47, 103, 48, 49, 50, 50, 52, 47, 108, 97, 119, 115, 46, 70, 110, 69, 120, 97, 99, 116, 83, 105, 122, 101, 115, 79, 102, 66, 111, 120, 32, 108, 111, 111, 112, 46, 101, 120, 97, 109, 112, 108, 101, 47, 103, 48, 49, 50, 50, 52, 47, 108, 97, 119, 115, 46, 70, 110, 69, 120, 97, 99, 116, 67, 111, 108, 108, 105, 100, 101, 80, 97, 105, 114, 32, 108, 111, 111, 112, 46, 101, 120, 97, 109, 112, 108, 101, 47, 103, 48, 49, 50, 50, 52, 47, 108, 97, 119, 115, 46, 70, 110, 69, 120, 97, 99, 116, 67, 111, 108, 108, 105, 100, 101, 80, 97, 105, 114, 115, 32, 108, 111, 111, 112, 46, 101, 120, 97, 109, 112, 108, 101, 47, 103, 48, 49, 50, 50, 52, 47, 108, 97, 119, 115, 46, 70, 110, 69, 120, 97, 99, 116, 68, 114, 97, 119, 80, 97, 105, 114, 115, 32, 108, 111, 111, 112, 46, 101, 120, 97, 109, 112, 108, 101, 47, 103, 48, 49, 50, 50, 52, 47, 108, 97, 119, 115, 46, 70, 110, 69, 120, 97, 99, 116, 71, 97, 116, 104, 101, 114, 68, 117, 115, 116]

def letters (l : List Nat) : List Char := l.map Char.ofNat

theorem head_reads : Try.prog.initOrder = String.ofList (letters w0 ++ Char.ofNat 32 :: (letters w1 ++ Char.ofNat 32 :: (letters w2 ++ Char.ofNat 32 :: letters w3))) := by kernel_rfl

theorem no_blank {l : List Nat} (h : l.all (fun n => Char.ofNat n != Char.ofNat 32) = true) : ∀ c ∈ letters l, c ≠ Char.ofNat 32 := by
  intro c hc
  obtain ⟨n, hn, rfl⟩ := List.mem_map.1 hc
  have := List.all_eq_true.1 h n hn
  simpa using this

theorem h0 : letters w0 = "harness".toList := by kernel_rfl

theorem h2 : letters w2 = "cut".toList := by kernel_rfl

theorem sums : isSumSigns (letters w1) = true := by kernel_rfl

theorem words : wordsSigns Try.prog.initOrder.toList = "harness".toList :: letters w1 :: "cut".toList :: wordsSigns (letters w3) := by
  rw [head_reads, String.toList_ofList, words_cons _ _ (no_blank (by decide +kernel)), words_cons _ _ (no_blank (by decide +kernel)), words_cons _ _ (no_blank (by decide +kernel)), h0, h2]

theorem behind : ∃ r, behindMainWord (wordsSigns Try.prog.initOrder.toList) = "cut".toList :: r := by
  refine ⟨wordsSigns (letters w3), ?_⟩
  rw [words]
  generalize wordsSigns (letters w3) = r
  have hs := sums
  generalize letters w1 = v at hs
  unfold behindMainWord
  simp [hs]

theorem not_later : Try.prog.laysLater = false := by kernel_rfl

theorem no_reflect : Try.prog.bearsReflect = false := by kernel_rfl

theorem no_doors : Try.prog.doorFits [] = true := by kernel_rfl

theorem strips (r : List (List Char)) : stripLifts liftWords ("cut".toList :: r) = ([], "cut".toList :: r) := by kernel_rfl

theorem may_enter_of (P : Program) (r : List (List Char)) (h : behindMainWord (wordsSigns P.initOrder.toList) = "cut".toList :: r) (h1 : P.laysLater = false) (h2 : P.bearsReflect = false) (h3 : P.doorFits [] = true) : P.mayEnter = true := by
  unfold Program.mayEnter
  rw [h]
  dsimp only
  rw [strips, h1, h2, h3]
  kernel_rfl

theorem lifts_final_of (P : Program) (r : List (List Char)) (h : behindMainWord (wordsSigns P.initOrder.toList) = "cut".toList :: r) : P.liftsFinal = false := by
  unfold Program.liftsFinal Program.headLifts
  rw [h]
  dsimp only
  rw [strips]
  kernel_rfl

theorem made_of (P : Program) (r : List (List Char)) (h : behindMainWord (wordsSigns P.initOrder.toList) = "cut".toList :: r) : P.make = some .cut := by
  unfold Program.make
  rw [h]
  kernel_rfl

theorem may_enter : Try.prog.mayEnter = true := let ⟨r, h⟩ := behind; may_enter_of _ r h not_later no_reflect no_doors

theorem lifts_final : Try.prog.liftsFinal = false := let ⟨r, h⟩ := behind; lifts_final_of _ r h

theorem made : Try.prog.make = some .cut := let ⟨r, h⟩ := behind; made_of _ r h

theorem laid : laidOutB Try.prog = true := by kernel_rfl

theorem rowed : mapsRowed Try.prog = true := by kernel_rfl

theorem no_stops : Try.prog.stops = [] := by kernel_rfl

theorem no_knobs : Try.prog.stopKnobs = [] := by kernel_rfl

theorem plain_keys : Try.prog.plainKeys = false := by kernel_rfl

theorem stops_heard : Try.prog.stopsHeard = true := by kernel_rfl

theorem arr2 {α : Type} {cs : Array α} (h : cs.size = 2) : ∃ c0 c1, cs = #[c0, c1] := by
  obtain ⟨l⟩ := cs
  match l, h with
  | [a, b], _ => exact ⟨a, b, rfl⟩

theorem own : ownKnob Try.prog.godebug = none := by kernel_rfl

theorem rda : Try.prog.readableRec 28 = true ∧ 28 < Try.prog.types.size := ⟨by kernel_rfl, of_decide_eq_true (by kernel_rfl)⟩

theorem rdf : Try.prog.readableRec 22 = true ∧ 22 < Try.prog.types.size := ⟨by kernel_rfl, of_decide_eq_true (by kernel_rfl)⟩

theorem rdA : Try.prog.readableRec 40 = true ∧ 40 < Try.prog.types.size := ⟨by kernel_rfl, of_decide_eq_true (by kernel_rfl)⟩

theorem rdi : Try.prog.readableRec 2 = true ∧ 2 < Try.prog.types.size := ⟨by kernel_rfl, of_decide_eq_true (by kernel_rfl)⟩

theorem rdb : Try.prog.readableRec 76 = true ∧ 76 < Try.prog.types.size := ⟨by kernel_rfl, of_decide_eq_true (by kernel_rfl)⟩

theorem rdp : Try.prog.readableRec 86 = true ∧ 86 < Try.prog.types.size := ⟨by kernel_rfl, of_decide_eq_true (by kernel_rfl)⟩

theorem rdk : Try.prog.readableRec 51 = true ∧ 51 < Try.prog.types.size := ⟨by kernel_rfl, of_decide_eq_true (by kernel_rfl)⟩
end Go.Proofs.Ytnnhoololemaaaa

namespace Go.Proofs.Ytnnhoololemaaaa.fnExactGainsAt
open Go.RowKit Go.Fl Go.ChangeShapes Go.WideShapes Go.ChangeAt

theorem closed : joinedFacts Try.prog 5 Try.f5 Rows.fnExactGainsAtSpec Rows.fnExactGainsAtRow = true := by
  unfold joinedFacts
  simp only [Bool.and_eq_true]
  exact ⟨⟨⟨⟨⟨⟨⟨⟨⟨⟨⟨⟨⟨⟨⟨⟨⟨⟨⟨⟨⟨⟨⟨⟨⟨⟨⟨⟨⟨⟨⟨(by as_aux_lemma => kernel_rfl),
    laid⟩,
    rowed⟩,
    (by as_aux_lemma => kernel_rfl)⟩,
    (by as_aux_lemma => kernel_rfl)⟩,
    (by as_aux_lemma => kernel_rfl)⟩,
    (by rw [no_stops]; rfl)⟩,
    (by as_aux_lemma => kernel_rfl)⟩,
    (by rw [no_knobs]; rfl)⟩,
    (by as_aux_lemma => kernel_rfl)⟩,
    (by as_aux_lemma => kernel_rfl)⟩,
    (by as_aux_lemma => kernel_rfl)⟩,
    (by as_aux_lemma => kernel_rfl)⟩,
    (by as_aux_lemma => kernel_rfl)⟩,
    (by as_aux_lemma => kernel_rfl)⟩,
    (by as_aux_lemma => kernel_rfl)⟩,
    (by as_aux_lemma => kernel_rfl)⟩,
    (by as_aux_lemma => kernel_rfl)⟩,
    (by as_aux_lemma => kernel_rfl)⟩,
    (by as_aux_lemma => kernel_rfl)⟩,
    (by as_aux_lemma => kernel_rfl)⟩,
    (by as_aux_lemma => kernel_rfl)⟩,
    (show (Rows.fnExactGainsAtRow.plainKeys == Try.prog.plainKeys) = true by rw [plain_keys]; rfl)⟩,
    (by as_aux_lemma => kernel_rfl)⟩,
    stops_heard⟩,
    may_enter⟩,
    (show (Rows.fnExactGainsAtRow.lifted == Try.prog.liftsFinal) = true by rw [lifts_final]; rfl)⟩,
    (show (Try.prog.make == some Rows.fnExactGainsAtRow.make) = true by rw [made]; rfl)⟩,
    (by as_aux_lemma => kernel_rfl)⟩,
    (by as_aux_lemma => kernel_rfl)⟩,
    (by as_aux_lemma => kernel_rfl)⟩,
    (by as_aux_lemma => kernel_rfl)⟩

set_option maxRecDepth 100000 in
theorem lifted (os : Os) (started : os.Started) (H : Type) (enc : TypeId × Value → H) :
    ReturnsInHanded {} Try.checked os 5 .any (Rows.fnExactGainsAtSpec.pre6 enc Try.prog Try.f5 Rows.fnExactGainsAtRow.domain false) (Rows.fnExactGainsAtSpec.post enc Try.prog Try.f5 false true false false) := by
  refine LawFrame.lifted (C := Try.checked) (fn := Try.f5) (n := 2) (tb := 4) started own (by kernel_rfl) Try.func5 laid ?_ rfl rfl ?_ rfl Try.underlying4
    (ChangeSpec.witness6 (enc := enc) (C := Try.checked) false ⟨#[], #[.float .f32 0, .float .f32 0], []⟩ 8 (by kernel_rfl) (by kernel_rfl) (by kernel_rfl) (by kernel_rfl)) ?_
  · intro t ht
    simp only [Try.params5, List.mem_cons, List.not_mem_nil, or_false] at ht
    rcases ht with rfl | rfl <;> first | exact rda | exact rdf | exact rdi | exact rdA | exact rdb | exact rdp | exact rdk
  · intro ds hd
    match ds, hd with
    | [_, _], _ => rfl
  · intro W base args ds ps hval hn _
    obtain ⟨v0, v1, rfl⟩ : ∃ v0 v1, args = #[v0, v1] := arr2 hn
    obtain ⟨c0, rfl, hb0⟩ := open_f32 Try.underlying22 (hval 0 22 v0 rfl rfl)
    obtain ⟨c1, rfl, hb1⟩ := open_f32 Try.underlying22 (hval 1 22 v1 rfl rfl)
    exact lawGainsAt c0 hb0 c1 hb1 W

theorem over : Rows.fnExactGainsAtRow.holds Try.pinned (OpenSpec.ofChange Rows.fnExactGainsAtSpec) :=
  OpenClaim.holds_of_wide 5 Try.f5 rfl rfl rfl rfl rfl rfl rfl ⟨rfl, rfl, rfl, rfl, rfl⟩ rfl rfl rfl rfl rfl (by kernel_rfl) Try.func5 closed
    (of_decide_eq_true (by kernel_rfl)) (by unfold Func.isWrapper; rw [if_neg (by decide +kernel)]; exact ⟨rfl, rfl⟩)
    (fun os started H enc _ => lifted os started H enc)

theorem proved : Rows.FnExactGainsAtSaid := over
#print axioms proved
end Go.Proofs.Ytnnhoololemaaaa.fnExactGainsAt
