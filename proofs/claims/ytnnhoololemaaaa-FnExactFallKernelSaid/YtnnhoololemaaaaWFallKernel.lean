import Derived.Test.YtnnhoololemaaaaBFallKernel
import Derived.Test.YtnnhoololemaaaaChecked
import Derived.Test.YtnnhoololemaaaaRows
import Derived.Laws.FloatArith
import Derived.ProofKit
import Derived.WalkKit
import Derived.WalkLawsBesides
import Derived.WalkSpells
import Derived.Deep.QuietTactic
import Derived.BigQuiet
import Derived.Deep.RegionHeld3
import Derived.ChangeKeysEq
import Derived.Laws.BitsAllLaws
import Derived.Deep.MidRow
import Derived.StillTailTactics
import Derived.Deep.WholeRow
import Derived.OpenShut
/- The law FnExactFallKernel of chapter 1: at every argument the call returns true, and what was there before it is as it was. -/
namespace Go.Proofs.Ytnnhoololemaaaa
open Go.RowKit Go.Fl

@[go_sem] theorem ext_f64bits (y : Nat) (w : World) : (callFunc 203 #[.float .f64 y]).run Try.prog w = .ok (.value (.int .u64 y)) w := by
  rw [run_callFunc_extern Try.func203 (by kernel_rfl) (by kernel_rfl) (by kernel_rfl) (e := Extern.MathFloatBits.float64bits) (by kernel_rfl)]
  rfl

@[go_sem] theorem ext_f64from (n : Int) (w : World) : (callFunc 202 #[.int .u64 n]).run Try.prog w = .ok (.value (.float .f64 n.toNat)) w := by
  rw [run_callFunc_extern Try.func202 (by kernel_rfl) (by kernel_rfl) (by kernel_rfl) (e := Extern.MathFloatBits.float64frombits) (by kernel_rfl)]
  rfl

theorem hid {p : Prop} (h : p) : Hid p := h

theorem clear_sign (y : Nat) (h : y < 18446744073709551616) : (bits BinOp.andNot IntKind.u64 (y : Int) 9223372036854775808).toNat = y % 9223372036854775808 := by
  rw [u64_andNot _ _ (by omega) (by omega) (by omega) (by omega)]
  rw [Int.toNat_natCast, Int.toNat_natCast]
  exact Nat.and_two_pow_sub_one_eq_mod y 63

theorem abs_f64 (y : Nat) (h : y < 18446744073709551616) (w : World) :
    Calls Try.prog 145 #[.float .f64 y] w fun e w' => e = .returned (.float .f64 (y % 9223372036854775808)) ∧ w = w' := by
  have hc := hid (clear_sign y h)
  clear h
  go_enter Try.func145, Try.ntmps145
  go_wp2
  go_ret
  exact ⟨by simp [hc.out], rfl⟩

theorem isNaN_f64 (y : Nat) (w : World) :
    Calls Try.prog 187 #[.float .f64 y] w fun e w' => e = .returned (.bool (FloatKind.f64.format.order y y != some .eq)) ∧ w = w' := by
  go_enter Try.func187, Try.ntmps187
  go_wp2
  go_ret
  exact ⟨rfl, rfl⟩

theorem isInf_f64 (y : Nat) (h : y < 18446744073709551616) (w : World) :
    Calls Try.prog 188 #[.float .f64 y, .int .i64 0] w fun e w' => e = .returned (.bool (FloatKind.f64.format.order (y % 9223372036854775808) 9218868437227405311 == some .gt)) ∧ w = w' := by
  have hc := hid h
  clear h
  go_enter Try.func188, Try.ntmps188
  go_wp2_with (go_at_call 145; refine (abs_f64 y hc.out _).mono ?_; rintro e w' ⟨rfl, rfl⟩)
  go_ret
  exact ⟨rfl, rfl⟩

theorem isFinite_t (x : Nat) (hx : x < 4294967296) (h : finB x = true) (w : World) :
    Calls Try.prog 112 #[.float .f32 x] w fun e w' => e = .returned (.bool true) ∧ w = w' := by
  rw [finB_iff] at h
  have hc := fun w => run_conv_wid (P := Try.prog) w 22 26 x hx Try.underlying22 Try.underlying26 h
  obtain ⟨a, b, m, e, hr⟩ := read_wid_fin hx h
  have hn : (FloatKind.f64.format.order (wid x) (wid x) != some .eq) = false := by
    show (D.order (wid x) (wid x) != some .eq) = false
    rw [order_self hr]; rfl
  have hi : (FloatKind.f64.format.order (wid x % 9223372036854775808) 9218868437227405311 == some .gt) = false := by
    show (D.order (wid x % 9223372036854775808) 9218868437227405311 == some .gt) = false
    rw [b, order_ltD a (by decide)]
    rw [DINF_val] at a
    have hle : wid (mg x) ≤ 9218868437227405311 := by omega
    rcases Nat.lt_or_eq_of_le hle with h' | h'
    · rw [Nat.compare_eq_lt.2 h']; rfl
    · rw [Nat.compare_eq_eq.2 h']; rfl
  have hw : wid x < 18446744073709551616 := D.write_lt _
  have Hn := hid hn
  have Hi := hid hi
  have Hw := hid hw
  clear hn hi hw hr a b h hx
  go_enter Try.func112, Try.ntmps112
  go_wp2_with (first | (go_at_call 187; refine (isNaN_f64 (wid x) _).mono ?_; rintro e w' ⟨rfl, rfl⟩; rw [Hn.out]) | (go_at_call 188; refine (isInf_f64 (wid x) Hw.out _).mono ?_; rintro e w' ⟨rfl, rfl⟩; rw [Hi.out]))
  go_ret
  exact ⟨rfl, rfl⟩

theorem isFinite_f (x : Nat) (hx : x < 4294967296) (h : finB x = false) (w : World) :
    Calls Try.prog 112 #[.float .f32 x] w fun e w' => e = .returned (.bool false) ∧ Below w.heap.size w w' := by
  rw [finB_iff'] at h
  rcases Nat.lt_or_eq_of_le h with h | h
  · obtain ⟨z, hc, h1, _⟩ := run_conv_nan (P := Try.prog) w 22 26 x Try.underlying22 Try.underlying26 h
    obtain ⟨s, t, hr⟩ := read_nanD h1
    have Hn := hid (show (FloatKind.f64.format.order z z != some .eq) = true by
      show (D.order z z != some .eq) = true
      rw [order_nan hr]; rfl)
    clear h h1 hr hx
    go_enter Try.func112, Try.ntmps112
    go_wp2_with (go_at_call 187; refine (isNaN_f64 z _).mono ?_; rintro e w' ⟨rfl, rfl⟩; rw [Hn.out])
    go_ret
    exact ⟨rfl, (Below.refl _ _).drew⟩
  · obtain ⟨z, hc, h1, h2⟩ := run_conv_inf (P := Try.prog) w 22 26 x hx Try.underlying22 Try.underlying26 h.symm
    have hr : D.read z = .infinity (decide (9223372036854775808 ≤ z)) := by rw [read_signD h2, h1, read_DINF]
    have Hn := hid (show (FloatKind.f64.format.order z z != some .eq) = false by
      show (D.order z z != some .eq) = false
      rw [order_inf hr]; rfl)
    have Hi := hid (show (FloatKind.f64.format.order (z % 9223372036854775808) 9218868437227405311 == some .gt) = true by
      rw [h1]; decide)
    have H2 := hid h2
    clear h h1 hr hx h2
    go_enter Try.func112, Try.ntmps112
    go_wp2_with (first | (go_at_call 187; refine (isNaN_f64 z _).mono ?_; rintro e w' ⟨rfl, rfl⟩; rw [Hn.out]) | (go_at_call 188; refine (isInf_f64 z H2.out _).mono ?_; rintro e w' ⟨rfl, rfl⟩; rw [Hi.out]))
    go_ret
    exact ⟨rfl, Below.refl _ _⟩

theorem signbit_f64 (y : Nat) (w : World) :
    Calls Try.prog 184 #[.float .f64 y] w fun e w' => e = .returned (.bool (decide (wrap64 (y : Int) < 0))) ∧ w = w' := by
  go_enter Try.func184, Try.ntmps184
  go_wp2
  go_ret
  exact ⟨rfl, rfl⟩

theorem and_sign (y : Nat) (h : y < 18446744073709551616) : (decide (wrap64 (y : Int) < 0)) = decide (9223372036854775808 ≤ y) := by
  unfold wrap64
  by_cases h' : 9223372036854775808 ≤ y
  · rw [decide_eq_true h']; simp; omega
  · rw [decide_eq_false h']; simp; omega

theorem isAmount_t (x : Nat) (h : amtB x = true) (w : World) :
    Calls Try.prog 106 #[.float .f32 x] w fun e w' => e = .returned (.bool true) ∧ w = w' := by
  have hf := amt_fin h
  rw [amtB_iff, INF_val] at h
  have hx : x < 4294967296 := by omega
  have hc := fun w => run_conv_wid (P := Try.prog) w 22 26 x hx Try.underlying22 Try.underlying26 (finB_iff.1 hf)
  have hw : wid x < 18446744073709551616 := D.write_lt _
  have Hs := hid (show (decide (wrap64 (wid x : Int) < 0)) = false by
    rw [and_sign _ hw]
    have := (wid_val (x := x) (by rw [INF_val]; omega)).1
    rw [DINF_val] at this
    simp; omega)
  have Hx := hid hx
  have Hf := hid hf
  clear h hf hx hw
  go_enter Try.func106, Try.ntmps106
  go_wp2_with (first | (go_at_call 112; refine (isFinite_t x Hx.out Hf.out _).mono ?_; rintro e w' ⟨rfl, rfl⟩) | (go_at_call 184; refine (signbit_f64 (wid x) _).mono ?_; rintro e w' ⟨rfl, rfl⟩; rw [Hs.out]))
  go_ret
  exact ⟨rfl, rfl⟩

theorem isAmount_f (x : Nat) (hx : x < 4294967296) (h : amtB x = false) (w : World) :
    Calls Try.prog 106 #[.float .f32 x] w fun e w' => e = .returned (.bool false) ∧ Below w.heap.size w w' := by
  rcases hf : finB x with _ | _
  · have Hx := hid hx
    have Hf := hid hf
    clear h hf hx
    go_enter Try.func106, Try.ntmps106
    go_wp2_with (go_at_call 112; refine (isFinite_f x Hx.out Hf.out _).mono ?_; rintro e w' ⟨rfl, hb⟩)
    go_ret
    exact ⟨rfl, hb⟩
  · have hc := fun w => run_conv_wid (P := Try.prog) w 22 26 x hx Try.underlying22 Try.underlying26 (finB_iff.1 hf)
    have hw : wid x < 18446744073709551616 := D.write_lt _
    have Hs := hid (show (decide (wrap64 (wid x : Int) < 0)) = true by
      rw [and_sign _ hw, wid_fin hx (finB_iff.1 hf)]
      rw [amtB_iff', INF_val] at h
      rw [finB_iff, INF_val] at hf
      unfold mg at hf ⊢
      rw [if_pos (by omega)]
      simp)
    have Hx := hid hx
    have Hf := hid hf
    clear h hf hx hw
    go_enter Try.func106, Try.ntmps106
    go_wp2_with (first | (go_at_call 112; refine (isFinite_t x Hx.out Hf.out _).mono ?_; rintro e w' ⟨rfl, rfl⟩) | (go_at_call 184; refine (signbit_f64 (wid x) _).mono ?_; rintro e w' ⟨rfl, rfl⟩; rw [Hs.out]))
    go_ret
    exact ⟨rfl, Below.refl _ _⟩

@[go_sem] theorem ext_f32bits (y : Nat) (w : World) : (callFunc 183 #[.float .f32 y]).run Try.prog w = .ok (.value (.int .u32 y)) w := by
  rw [run_callFunc_extern Try.func183 (by kernel_rfl) (by kernel_rfl) (by kernel_rfl) (e := Extern.MathFloatBits.float32bits) (by kernel_rfl)]
  rfl

theorem sFinite_t (x : Nat) (hx : x < 4294967296) (h : finB x = true) (w : World) :
    Calls Try.prog 109 #[.float .f32 x] w fun e w' => e = .returned (.bool true) ∧ w = w' := by
  have hr := fun w => run_float_arith (P := Try.prog) w .sub 22 .f32 x x 0 (sub_self_fin hx h)
  clear h hx
  go_enter Try.func109, Try.ntmps109
  go_wp2
  go_ret
  exact ⟨rfl, rfl⟩

theorem sFinite_f (x : Nat) (hx : x < 4294967296) (h : finB x = false) (w : World) :
    Calls Try.prog 109 #[.float .f32 x] w fun e w' => e = .returned (.bool false) ∧ Below w.heap.size w w' := by
  obtain ⟨z, hr, h1, _⟩ := run_arith_nan (P := Try.prog) w .sub (by simp) 22 x x (sub_self_none hx h)
  have Hn := hid (show (FloatKind.f32.format.order z 0 == some .eq) = false by
    show (S.order z 0 == some .eq) = false
    rw [order_nan32 h1]; rfl)
  clear h hx h1
  go_enter Try.func109, Try.ntmps109
  go_wp2
  go_ret
  exact ⟨by simp [Hn.out], (Below.refl _ _).drew⟩

theorem sAmount_t (x : Nat) (h : amtB x = true) (w : World) :
    Calls Try.prog 104 #[.float .f32 x] w fun e w' => e = .returned (.bool true) ∧ w = w' := by
  have hf := amt_fin h
  have h' := amtB_iff.1 h
  have hx : x < 4294967296 := by rw [INF_val] at h'; omega
  have Hx := hid hx
  have Hf := hid hf
  by_cases h0 : x = 0
  · subst h0
    clear h hf h' hx
    go_enter Try.func104, Try.ntmps104
    go_wp2_with (go_at_call 109; refine (sFinite_t 0 Hx.out Hf.out _).mono ?_; rintro e w' ⟨rfl, rfl⟩)
    go_ret
    exact ⟨rfl, rfl⟩
  · have hg : (FloatKind.f32.format.order x 0 == some .gt) = true := by
      show (S.order x 0 == some .gt) = true
      rw [order_zero_pos h', Nat.compare_eq_gt.2 (by omega)]; rfl
    clear h hf h' hx h0
    go_enter Try.func104, Try.ntmps104
    go_wp2_with (go_at_call 109; refine (sFinite_t x Hx.out Hf.out _).mono ?_; rintro e w' ⟨rfl, rfl⟩)
    go_ret
    exact ⟨rfl, rfl⟩

theorem sAmount_f (x : Nat) (hx : x < 4294967296) (h : amtB x = false) (w : World) :
    Calls Try.prog 104 #[.float .f32 x] w fun e w' => e = .returned (.bool false) ∧ Below w.heap.size w w' := by
  rcases hf : finB x with _ | _
  · have Hx := hid hx
    have Hf := hid hf
    clear h hf hx
    go_enter Try.func104, Try.ntmps104
    go_wp2_with (go_at_call 109; refine (sFinite_f x Hx.out Hf.out _).mono ?_; rintro e w' ⟨rfl, hb⟩)
    go_ret
    exact ⟨rfl, hb⟩
  · have hs : 2147483648 ≤ x := by
      rw [amtB_iff', INF_val] at h
      have := finB_iff.1 hf
      rw [INF_val] at this
      unfold mg at this
      omega
    have hg : (FloatKind.f32.format.order x 0 == some .gt) = false := order_neg_zero hx hf hs
    have hb : ((x : Int) == 0) = false := by simp; omega
    have Hx := hid hx
    have Hf := hid hf
    clear h hf hx hs
    go_enter Try.func104, Try.ntmps104
    go_wp2_with (go_at_call 109; refine (sFinite_t x Hx.out Hf.out _).mono ?_; rintro e w' ⟨rfl, rfl⟩)
    go_ret
    exact ⟨rfl, Below.refl _ _⟩

theorem info_a20 : (Try.prog.info? 28).map (·.size) = some 20 := by kernel_rfl

theorem div_one_some {y m : Nat} {s : Bool} {e : Int} (h : D.read y = .number s m e) : ∃ q, floatBits .quo .f64 4607182418800017408 y = some q := by
  have h1 : D.read 4607182418800017408 = .number false 4503599627370496 (-52) := by decide
  show ∃ q, D.div 4607182418800017408 y = some q
  unfold Ieee.Format.div
  rw [h, h1]
  simp only [Ieee.Datum.quotient]
  by_cases hm : m = 0
  · rw [if_pos hm]; exact ⟨_, rfl⟩
  · rw [if_neg hm]; exact ⟨_, rfl⟩

set_option maxRecDepth 100000 in
theorem sameFloat (x : Nat) (hx : x < 4294967296) (h : finB x = true) (w : World) :
    Calls Try.prog 33 #[.float .f64 (wid x), .float .f64 (wid x)] w fun e w' => e = .returned (.bool true) ∧ w = w' := by
  obtain ⟨a, b, m, e, hr⟩ := read_wid_fin hx (finB_iff.1 h)
  have hn : (FloatKind.f64.format.order (wid x) (wid x) != some .eq) = false := by
    show (D.order (wid x) (wid x) != some .eq) = false
    rw [order_self hr]; rfl
  have hq : (FloatKind.f64.format.order (wid x) (wid x) == some .eq) = true := by
    show (D.order (wid x) (wid x) == some .eq) = true
    rw [order_self hr]; rfl
  obtain ⟨q, hd⟩ := div_one_some hr
  have hdiv := fun w => run_float_arith (P := Try.prog) w .quo 26 .f64 4607182418800017408 (wid x) q hd
  clear hd hr a b h hx
  rcases hz : (FloatKind.f64.format.order (wid x) 0 == some .eq) with _ | _
  · go_enter Try.func33, Try.ntmps33
    go_wp2
    go_ret
    exact ⟨by simp, rfl⟩
  · go_enter Try.func33, Try.ntmps33
    go_wp2
    go_ret
    exact ⟨by simp, rfl⟩

theorem back {P : Program} {f : FuncId} {args : Array Value} {w : World} {v : Value} (h : Calls P f args w fun e w' => e = .returned v ∧ w = w') : Calls P f args w fun e w' => e = .returned v ∧ w' = w :=
  h.mono fun _ _ ⟨a, b⟩ => ⟨a, b.symm⟩

/-- The mass of a class, as a word. -/
theorem iMass (k : Nat) (hk : k < 20) (w : World) :
    Calls Try.prog 117 #[.int .i64 (k : Int)] w fun e w' => e = .returned (.float .f32 (mass k)) ∧ w = w' := by
  have H : k = 0 ∨ k = 1 ∨ k = 2 ∨ k = 3 ∨ k = 4 ∨ k = 5 ∨ k = 6 ∨ k = 7 ∨ k = 8 ∨ k = 9 ∨ k = 10 ∨ k = 11 ∨ k = 12 ∨ k = 13 ∨ k = 14 ∨ k = 15 ∨ k = 16 ∨ k = 17 ∨ k = 18 ∨ k = 19 := by omega
  rcases H with rfl | rfl | rfl | rfl | rfl | rfl | rfl | rfl | rfl | rfl | rfl | rfl | rfl | rfl | rfl | rfl | rfl | rfl | rfl | rfl
  all_goals
    go_enter Try.func117, Try.ntmps117
    go_wp2
    go_ret
    exact ⟨rfl, rfl⟩

theorem sMass (k : Nat) (hk : k < 20) (w : World) :
    Calls Try.prog 139 #[.int .i64 (k : Int)] w fun e w' => e = .returned (.float .f32 (mass k)) ∧ w = w' := by
  have H : k = 0 ∨ k = 1 ∨ k = 2 ∨ k = 3 ∨ k = 4 ∨ k = 5 ∨ k = 6 ∨ k = 7 ∨ k = 8 ∨ k = 9 ∨ k = 10 ∨ k = 11 ∨ k = 12 ∨ k = 13 ∨ k = 14 ∨ k = 15 ∨ k = 16 ∨ k = 17 ∨ k = 18 ∨ k = 19 := by omega
  rcases H with rfl | rfl | rfl | rfl | rfl | rfl | rfl | rfl | rfl | rfl | rfl | rfl | rfl | rfl | rfl | rfl | rfl | rfl | rfl | rfl
  all_goals
    go_enter Try.func139, Try.ntmps139
    go_wp2
    go_ret
    exact ⟨rfl, rfl⟩

theorem isClass_t (k : Nat) (hk : k < 20) (w : World) :
    Calls Try.prog 172 #[.int .i64 (k : Int)] w fun e w' => e = .returned (.bool true) ∧ w = w' := by
  have h1 : decide ((0 : Int) ≤ (k : Int)) = true := by simp
  go_enter Try.func172, Try.ntmps172
  go_wp2
  go_ret
  exact ⟨by first | rfl | (simp; done) | (simp; omega), rfl⟩

theorem loose {P : Program} {f : FuncId} {args : Array Value} {w : World} {v : Value} (h : Calls P f args w fun e w' => e = .returned v ∧ w = w') : Calls P f args w fun e w' => e = .returned v ∧ Below w.heap.size w w' :=
  h.mono fun _ _ ⟨a, b⟩ => ⟨a, b ▸ Below.refl _ _⟩

set_option maxRecDepth 100000 in
theorem eqA20 (c : Nat → Nat) (hb : ∀ i, i < 20 → c i < 4294967296) (h : ∀ i, i < 20 → finB (c i) = true) (w : World) :
    Calls Try.prog 41 #[.agg (fls c), .agg (fls c)] w fun e w' => e = .returned (.bool true) ∧ Below w.heap.size w w' := by
  have b0 : Below w.heap.size w (w.alloc (.cells (fls c) 28)) := (Below.refl _ _).alloc (Nat.le_refl _) _
  have a0 := hid (arrAt.new w c 28)
  have H := hid h
  have HB := hid hb
  clear h hb
  go_enter Try.func41, Try.ntmps41
  go_wp2
  go_loopw [5] (fun i wr => ∃ k : Nat, k ≤ 20 ∧ i = .int .i64 k ∧ Hid (arrAt wr w.heap.size c 28) ∧ Hid (arrAt wr (w.heap.size + 1) c 28) ∧ Hid (Below w.heap.size w wr)) (fun i _ => 20 - (intOf i).toNat)
  case atStart =>
    refine ⟨0, by omega, rfl, hid (a0.out.alloc _), hid ?_, hid (b0.alloc (by simp) _)⟩
    have := arrAt.new (w.alloc (.cells (fls c) 28)) c 28
    have e : (w.alloc (.cells (fls c) 28)).heap.size = w.heap.size + 1 := by simp
    rw [e] at this
    exact this
  case round =>
    obtain ⟨k, hk, rfl, h0, h1, hb⟩ := hrel
    by_cases hlt : k < 20
    · have q0 := h0.out.cell hlt
      have q1 := h1.out.cell hlt
      have hc := fun w => run_conv_wid (P := Try.prog) w 22 26 (c k) (HB.out k hlt) Try.underlying22 Try.underlying26 (finB_iff.1 (H.out k hlt))
      go_wp2
      go_quiet ((go_at_call 33; exact Calls.quiet_of_same (back (sameFloat (c k) (HB.out k hlt) (H.out k hlt) _))))
      go_wp2
      go_roundw
      case rel => exact ⟨k + 1, by omega, by go_num, h0, h1, hid (below_drewN hb.out _)⟩
      case measure => simp [intOf]; omega
    · go_wp2
      go_ret
      exact ⟨rfl, hb.out⟩

theorem info_kern : (Try.prog.info? 53).map (·.size) = some 400 := by kernel_rfl

@[go_sem] theorem zero_kern : Try.zeroCells53 = vls 400 (flw fun _ => 0) := by kernel_rfl

set_option maxRecDepth 100000 in
theorem eqKernel (c : Nat → Nat) (hb : ∀ i, i < 400 → c i < 4294967296) (h : ∀ i, i < 400 → finB (c i) = true) (w : World) :
    Calls Try.prog 59 #[.agg (vls 400 (flw c)), .agg (vls 400 (flw c))] w fun e w' => e = .returned (.bool true) ∧ Below w.heap.size w w' := by
  have A0 := hid ((vAt.new w 400 (flw c) 53).alloc (.cells (vls 400 (flw c)) 53))
  have A1 := hid (vAt.new1 w (.cells (vls 400 (flw c)) 53) 400 (flw c) 53)
  have b0 := boxed2 w (.cells (vls 400 (flw c)) 53) (.cells (vls 400 (flw c)) 53)
  have H := hid h
  have HB := hid hb
  clear h hb
  go_enter Try.func59, Try.ntmps59
  go_wp2_with fail
  go_loopw [5] (fun i wr => ∃ k : Nat, k ≤ 20 ∧ i = .int .i64 k ∧ Hid (vAt wr w.heap.size 400 (flw c) 53) ∧ Hid (vAt wr (w.heap.size + 1) 400 (flw c) 53) ∧ Hid (Below w.heap.size w wr)) (fun i _ => 20 - (intOf i).toNat)
  case atStart => exact ⟨0, by omega, rfl, A0, A1, hid b0⟩
  case round =>
    obtain ⟨k, hk, rfl, h0, h1, hb⟩ := hrel
    by_cases hlt : k < 20
    · have hk3 : (k : Int) < 20 := by omega
      go_wp2_with fail
      have h0 := hid h0.out.drew
      have h1 := hid h1.out.drew
      have hb := hid hb.out.drew
      refine wp_region_still_tail 6 (by kernel_rfl) (by kernel_rfl) ?_
      change wpStill _ _ wr.drew (fun a' => wpList _ _ _ _ a' wr.drew) _ _
      simp only [List.take_succ_cons, List.take_zero, List.drop_succ_cons, List.drop_zero]
      generalize wr.drew = w2 at h0 h1 hb ⊢
      still_step
      still_step
      refine still_load rfl 28 _ rfl _ rfl _ (h0.out.krowAt (k := k) hlt Try.underlying28 rfl info_a20) ?_
      simp only [Act.put, List.setIfInBounds_toArray, List.set_cons_zero, List.set_cons_succ]
      still_step
      still_step
      refine still_load rfl 28 _ rfl _ rfl _ (h1.out.krowAt (k := k) hlt Try.underlying28 rfl info_a20) ?_
      refine wpStill_nil ?_
      go_wp2_with fail
      refine (eqA20 (rowK c k) (fun i hi => HB.out _ (by omega)) (fun i hi => H.out _ (by omega)) _).mono ?_
      rintro e w3 ⟨rfl, hb3⟩
      have h0 := hid (h0.out.stay hb3)
      have h1 := hid (h1.out.stay hb3)
      have hb := stp hb.out (Nat.le_refl _) hb3
      go_wp2
      go_roundw
      case rel => exact ⟨k + 1, by omega, by go_num, h0, h1, hid hb⟩
      case measure => simp [intOf]; omega
    · go_wp2
      go_ret
      exact ⟨rfl, hb.out⟩

theorem info_f32s : (Try.prog.info? 22).map (·.size) = some 1 := by kernel_rfl

def Plain (f : FuncId) : Prop := ∀ (args : Array Value) (w : World), (callFunc f args).run Try.prog w = .ok (.enter f args) w

theorem run_clo2 {f : FuncId} (hf : Plain f) (a : Act) (p q r : Tmp) (caps : Array Value) (v1 v2 : Value) (hx : a.eval (.tmp p) = .func (.func f) #[] caps) (h1 : a.eval (.tmp q) = v1) (h2 : a.eval (.tmp r) = v2) (d : Option Tmp) (ats : Array TypeId) (t : TypeId) (ps : String) (af : Array Edge) (gd : Option (Nat × Bool)) (w : World) :
    (execOp a.eval ⟨d, .call { callee := .value (.tmp p), args := #[.tmp q, .tmp r], argTypes := ats }, t, ps, af, gd⟩).run Try.prog w = .ok (.enter f (#[v1, v2] ++ caps)) w := by
  have hx' : a.tmps[p]?.getD undef = .func (.func f) #[] caps := by rw [← hx]; simp [Act.eval]
  have h1' : a.tmps[q]?.getD undef = v1 := by rw [← h1]; simp [Act.eval]
  have h2' : a.tmps[r]?.getD undef = v2 := by rw [← h2]; simp [Act.eval]
  have hc := hf (#[v1, v2] ++ caps) w
  clear hx h1 h2 hf
  unfold execOp
  go_simp

/-- The first n numbers are finite. -/
def FinN (N : Nat → Nat) (n : Nat) : Prop := ∀ i, i < n → finB (N i) = true

set_option maxRecDepth 100000 in
theorem sTold3 (N : Nat → Nat) (hN : ∀ i, i < 400 → N i < 4294967296) (r : Nat → Nat) (q : Int) (h1 : FinN N 400 → r = N ∧ q = 0) (h2 : ¬ FinN N 400 → r = (fun _ => 0) ∧ q = 4) (w : World) :
    Calls Try.prog 140 #[.agg (vls 400 (flw N))] w fun e w' => e = .returned (.tuple #[.agg (vls 400 (flw r)), .int .i64 q]) ∧ Below w.heap.size w w' := by
  have A0 := hid ((vAt.new w 400 (flw N) 53).alloc (.cells (vls 400 (flw fun _ => 0)) 53))
  have A3 := hid (vAt.new1 w (.cells (vls 400 (flw N)) 53) 400 (flw fun _ => 0) 53)
  have b0 := boxed2 w (.cells (vls 400 (flw N)) 53) (.cells (vls 400 (flw fun _ => 0)) 53)
  have HN := hid hN
  have H1 := hid h1
  have H2 := hid h2
  clear hN h1 h2
  go_enter Try.func140, Try.ntmps140
  go_wp2_with fail
  go_loop [4] (fun i => ∃ k : Nat, k ≤ 20 ∧ i = .int .i64 k ∧ Hid (FinN N (k * 20))) (fun i => 20 - (intOf i).toNat)
  case atStart => exact ⟨0, by omega, rfl, hid fun i hi => by omega⟩
  case round =>
    obtain ⟨k, hk, rfl, hk2⟩ := hrel
    by_cases hlt : k < 20
    · have HL := hid hlt
      have hk3 : (k : Int) < 20 := by omega
      go_wp2_with fail
      go_loop [5] (fun i => ∃ j : Nat, j ≤ 20 ∧ i = .int .i64 j ∧ Hid (FinN N (k * 20 + j))) (fun i => 20 - (intOf i).toNat)
      case atStart => exact ⟨0, by omega, rfl, hk2⟩
      case round =>
        obtain ⟨j, hj, rfl, hj2⟩ := hrel
        by_cases hlj : j < 20
        · have hn : k * 20 + j < 400 := by have := HL.out; omega
          have hj3 : (j : Int) < 20 := by omega
          have q0 := A0.out.fcell hn
          have HX2 := hid (HN.out _ hn)
          rcases hfin : finB (N (k * 20 + j)) with _ | _
          · have HX := hid hfin
            have hne : Hid (¬ FinN N 400) := hid (fun hall => by have := hall _ hn; rw [hfin] at this; cases this)
            obtain ⟨rfl, rfl⟩ := H2.out hne.out
            clear hfin hn
            go_wp2_with fail
            refine (sFinite_f (N (k * 20 + j)) HX2.out HX.out _).mono ?_
            rintro e w3 ⟨rfl, hb3⟩
            have A3 := hid (A3.out.stay hb3)
            have b3 := stp b0 (Nat.le_refl _) hb3
            go_wp2_with (refine wpList_store_row rfl 53 _ _ rfl (w.heap.size + 1) (vls 400 (flw fun _ => 0)) rfl rfl 53 _ A3.out (by rw [vls_size]; exact info_kern) (by simp) (vls_one (flw_one _)) ?_)
            exact bodyPost_ret (results_row_tmp rfl _ _ (w.heap.size + 1) 53 (vls 400 (flw fun _ => 0)) (0, 0) _ rfl (A3.out.setRow (flw fun _ => 0)) Try.underlying53 rfl (by rw [vls_size]; exact info_kern)) rfl ⟨rfl, below_row b3 (by omega) _⟩
          · have HX := hid hfin
            have HFN : Hid (FinN N (k * 20 + j + 1)) := hid (all_step hj2.out hfin)
            clear hfin hn
            go_wp2_with fail
            refine (sFinite_t (N (k * 20 + j)) HX2.out HX.out _).mono ?_
            rintro e w3 ⟨rfl, rfl⟩
            go_wp2
            go_round
            case rel => exact ⟨j + 1, by omega, by go_num, HFN⟩
            case measure => simp [intOf]; omega
        · obtain rfl : j = 20 := by omega
          go_wp2
          go_round
          case rel => exact ⟨k + 1, by omega, by go_num, by rw [show (k + 1) * 20 = k * 20 + 20 by omega]; exact hj2⟩
          case measure => simp [intOf]; omega
    · obtain rfl : k = 20 := by omega
      have hall : FinN N 400 := hk2.out
      obtain ⟨rfl, rfl⟩ := H1.out hall
      go_wp2_with (first | (refine wpList_load_row rfl 53 _ rfl (w.heap.size) rfl 53 (vls 400 (flw r)) (0, 0) _ A0.out Try.underlying53 rfl (by rw [vls_size]; exact info_kern) ?_) | (refine wpList_store_row rfl 53 _ _ rfl (w.heap.size + 1) (vls 400 (flw r)) rfl rfl 53 _ A3.out (by rw [vls_size]; exact info_kern) (by simp) (vls_one (flw_one _)) ?_))
      exact bodyPost_ret (results_row_tmp rfl _ _ (w.heap.size + 1) 53 (vls 400 (flw r)) (0, 0) _ rfl (A3.out.setRow (flw r)) Try.underlying53 rfl (by rw [vls_size]; exact info_kern)) rfl ⟨rfl, below_row b0 (by omega) _⟩

set_option maxHeartbeats 2000000 in
set_option maxRecDepth 100000 in
theorem iKernelOf2 {f : FuncId} (hf : Plain f) (caps : Array Value) (N : Nat → Nat) (r : Nat → Nat) (q : Int) (h1 : FinN N 400 → r = N ∧ q = 0) (h2 : ¬ FinN N 400 → r = (fun _ => 0) ∧ q = 4) (w : World)
    (hC : ∀ i j, i < 20 → j < 20 → ∀ w', Below w.heap.size w w' → Calls Try.prog f (#[.int .i64 (i : Int), .int .i64 (j : Int)] ++ caps) w' fun e w'' => ∃ v, Fits (N (i * 20 + j)) v ∧ e = .returned (.float .f32 v) ∧ Below w'.heap.size w' w'') :
    Calls Try.prog 137 #[.func (.func f) #[] caps] w fun e w' => e = .returned (.tuple #[.agg (vls 400 (flw r)), .int .i64 q]) ∧ Below w.heap.size w w' := by
  have k0 : Hid (Kept w [(w.heap.size + 1, vls 400 (flw fun _ => 0), 53), (w.heap.size, vls 400 (flw fun _ => 0), 53)] ((w.alloc (.cells (vls 400 (flw fun _ => 0)) 53)).alloc (.cells (vls 400 (flw fun _ => 0)) 53))) := hid ((((Kept.nil w).push _ _).push _ _).sub (by simp))
  have HF := hid hf
  have H1 := hid h1
  have H2 := hid h2
  have HC := hid hC
  clear hf h1 h2 hC
  go_enter Try.func137, Try.ntmps137
  go_wp2_with fail
  go_loopw [7] (fun i wr => ∃ k : Nat, k ≤ 20 ∧ i = .int .i64 k ∧ Hid (Kept w [(w.heap.size + 1, vls 400 (flw (prt N (fun _ => 0) (k * 20))), 53), (w.heap.size, vls 400 (flw fun _ => 0), 53)] wr) ∧ Hid (FinN N (k * 20))) (fun i _ => 20 - (intOf i).toNat)
  case atStart => exact ⟨0, by omega, rfl, k0, hid fun i hi => by omega⟩
  case round =>
    obtain ⟨k, hk, rfl, hk1, hk2⟩ := hrel
    by_cases hlt : k < 20
    · have HL := hid hlt
      clear k0
      go_wp2_with fail
      go_loopw [10] (fun i wr => ∃ j : Nat, j ≤ 20 ∧ i = .int .i64 j ∧ Hid (Kept w [(w.heap.size + 1, vls 400 (flw (prt N (fun _ => 0) (k * 20 + j))), 53), (w.heap.size, vls 400 (flw fun _ => 0), 53)] wr) ∧ Hid (FinN N (k * 20 + j))) (fun i _ => 20 - (intOf i).toNat)
      case atStart => exact ⟨0, by omega, rfl, hk1, hk2⟩
      case round =>
        obtain ⟨j, hj, rfl, hj1, hj2⟩ := hrel
        by_cases hlj : j < 20
        · have HJ := hid hlj
          have hk3 : (k : Int) < 20 := by omega
          have hj3 : (j : Int) < 20 := by omega
          clear hk1 hk2
          go_wp2_with fail
          refine region_kept (w0 := w) (l := [(w.heap.size, vls 400 (flw fun _ => 0), 53)]) 9 #[false, false, false, false, false, false, false, false, false] (by kernel_rfl) rfl rfl ?_
          have kd := hj1.out.drew
          clear hj1
          generalize wr.drew = wd at kd ⊢
          refine take_val 0 _ _ (.int .i64 (k : Int)) rfl (by rfl) (by kernel_rfl) (by kernel_rfl) (by kernel_rfl) (fun w => by rfl) rfl rfl kd.tail ?_
          refine take_val 1 _ _ (.int .i64 (j : Int)) rfl (by rfl) (by kernel_rfl) (by kernel_rfl) (by kernel_rfl) (fun w => by rfl) rfl rfl kd.tail ?_
          refine take_val 2 _ _ (.func (.func f) #[] caps) rfl (by rfl) (by kernel_rfl) (by kernel_rfl) (by kernel_rfl) (fun w => by rfl) rfl rfl kd.tail ?_
          refine take_val 3 _ _ (.int .i64 (k : Int)) rfl (by rfl) (by kernel_rfl) (by kernel_rfl) (by kernel_rfl) (fun w => by rfl) rfl rfl kd.tail ?_
          refine take_val 4 _ _ (.int .i64 (j : Int)) rfl (by rfl) (by kernel_rfl) (by kernel_rfl) (by kernel_rfl) (fun w => by rfl) rfl rfl kd.tail ?_
          simp only [Act.put, List.setIfInBounds_toArray, List.set_cons_zero, List.set_cons_succ]
          refine take_val 6 _ _ (.pointer (some ⟨w.heap.size + 1, k * 20, none⟩)) rfl (by rfl) (by kernel_rfl) (by kernel_rfl) (by kernel_rfl) (fun w => by unfold execOp; go_simp) rfl rfl kd.tail ?_
          have hb9 : Below w.heap.size w wd := kd.1
          have hcall := HC.out k j HL.out HJ.out wd hb9
          refine wpAnyH_ready (rs := [5]) (by kernel_rfl) (by simp) ?_
          refine callKE 5 _ (Fits (N (k * 20 + j))) kd rfl (by rfl) f (#[.int .i64 (k : Int), .int .i64 (j : Int)] ++ caps) (fun w => run_clo2 HF.out _ 15 16 17 caps (.int .i64 (k : Int)) (.int .i64 (j : Int)) (by rfl) (by rfl) (by rfl) _ _ _ _ _ _ w) rfl ?hc (fun v w1 hv k1 => ?_) AllReadyH.nil
          case hc => exact hcall
          refine ⟨k1.tail, ?_⟩
          simp only [Act.put, List.setIfInBounds_toArray, List.set_cons_zero, List.set_cons_succ]
          refine take_val 7 _ _ (.pointer (some ⟨w.heap.size + 1, k * 20 + j, none⟩)) rfl (by rfl) (by kernel_rfl) (by kernel_rfl) (by kernel_rfl) (fun w => by unfold execOp; go_simp) rfl rfl k1.tail ?_
          refine wpAnyH_ready (rs := [8]) (by kernel_rfl) (by simp) ?_
          refine storeCellK 8 _ k1 (by omega) (by simp) rfl (by rfl) 22 _ _ rfl (k * 20 + j) v (by have := HL.out; have := HJ.out; omega) (by rfl) (by rfl) info_f32s rfl (fun w2 k2 => ?_) AllReadyH.nil
          refine ⟨k2.tail, ?_⟩
          refine wpAnyH_done (by kernel_rfl) (NoPanic.normal ?_) _
          simp only [Act.put, List.setIfInBounds_toArray, List.set_cons_zero, List.set_cons_succ]
          have K2 := hid k2
          clear hcall kd k1 k2 hb9
          have hn : k * 20 + j < 400 := by have := HL.out; have := HJ.out; omega
          have HV := hid hv
          clear hv
          rcases hfin : finB (N (k * 20 + j)) with _ | _
          · have HX := hid (HV.out.2.2 hfin)
            have HX2 := hid HV.out.1
            have hne : Hid (¬ FinN N 400) := hid (fun hall => by have := hall _ hn; rw [hfin] at this; cases this)
            obtain ⟨rfl, rfl⟩ := H2.out hne.out
            have q0 : w2.cell? ⟨w.heap.size + 1, k * 20 + j, none⟩ = some (.float .f32 v) := (vAt.fcell (c := upd (prt N (fun _ => 0) (k * 20 + j)) (k * 20 + j) v) (K2.out.at (x := (w.heap.size + 1, vls 400 (flw (upd (prt N (fun _ => 0) (k * 20 + j)) (k * 20 + j) v)), 53)) (by simp)) hn).trans (by rw [show upd (prt N (fun _ => 0) (k * 20 + j)) (k * 20 + j) v (k * 20 + j) = v from if_pos rfl])
            clear hfin hn HV
            go_wp2_with fail
            refine (isFinite_f v HX2.out HX.out _).mono ?_
            rintro e w3 ⟨rfl, hb3⟩
            have K3 := hid (K2.out.stay hb3)
            have A3 : Hid (vAt w3 w.heap.size 400 (flw fun _ => 0) 53) := hid (K3.out.at (x := (w.heap.size, vls 400 (flw fun _ => 0), 53)) (by simp))
            have b3 := K3.out.1
            go_wp2_with (refine wpList_store_row rfl 53 _ _ rfl (w.heap.size) (vls 400 (flw fun _ => 0)) rfl rfl 53 _ A3.out (by rw [vls_size]; exact info_kern) (by simp) (vls_one (flw_one _)) ?_)
            exact bodyPost_ret (results_row_tmp rfl _ _ (w.heap.size) 53 (vls 400 (flw fun _ => 0)) (0, 0) _ rfl (A3.out.setRow (flw fun _ => 0)) Try.underlying53 rfl (by rw [vls_size]; exact info_kern)) rfl ⟨rfl, below_row b3 (Nat.le_refl _) _⟩
          · obtain rfl : v = N (k * 20 + j) := HV.out.2.1 hfin
            have HX := hid hfin
            have HX2 := hid HV.out.1
            have HFN : Hid (FinN N (k * 20 + j + 1)) := hid (all_step hj2.out hfin)
            have q0 : w2.cell? ⟨w.heap.size + 1, k * 20 + j, none⟩ = some (.float .f32 (N (k * 20 + j))) := (vAt.fcell (c := upd (prt N (fun _ => 0) (k * 20 + j)) (k * 20 + j) (N (k * 20 + j))) (K2.out.at (x := (w.heap.size + 1, vls 400 (flw (upd (prt N (fun _ => 0) (k * 20 + j)) (k * 20 + j) (N (k * 20 + j)))), 53)) (by simp)) hn).trans (by rw [show upd (prt N (fun _ => 0) (k * 20 + j)) (k * 20 + j) (N (k * 20 + j)) (k * 20 + j) = N (k * 20 + j) from if_pos rfl])
            have K2 := hid (by have := K2.out; rw [show upd (prt N (fun _ => 0) (k * 20 + j)) (k * 20 + j) (N (k * 20 + j)) = prt N (fun _ => 0) (k * 20 + j + 1) from funext fun i => part_succ N (fun _ => 0) (k * 20 + j) i] at this; exact this)
            clear hfin hn HV
            go_wp2_with fail
            refine (isFinite_t (N (k * 20 + j)) HX2.out HX.out _).mono ?_
            rintro e w3 ⟨rfl, rfl⟩
            go_wp2
            go_roundw
            case rel => exact ⟨j + 1, by omega, by go_num, K2, HFN⟩
            case measure => simp [intOf]; omega
        · obtain rfl : j = 20 := by omega
          go_wp2
          go_roundw
          case rel => exact ⟨k + 1, by omega, by go_num, by rw [show (k + 1) * 20 = k * 20 + 20 by omega]; exact hj1, by rw [show (k + 1) * 20 = k * 20 + 20 by omega]; exact hj2⟩
          case measure => simp [intOf]; omega
    · obtain rfl : k = 20 := by omega
      have hall : FinN N 400 := hk2.out
      obtain ⟨rfl, rfl⟩ := H1.out hall
      have A3 : Hid (vAt wr w.heap.size 400 (flw fun _ => 0) 53) := hid (hk1.out.at (x := (w.heap.size, vls 400 (flw fun _ => 0), 53)) (by simp))
      have A4 : Hid (vAt wr (w.heap.size + 1) 400 (flw r) 53) := hid ((show vAt wr (w.heap.size + 1) 400 (flw (prt r (fun _ => 0) 400)) 53 from hk1.out.at (x := (w.heap.size + 1, vls 400 (flw (prt r (fun _ => 0) 400)), 53)) (by simp)).ext fun i hi => by unfold flw; rw [show prt r (fun _ => 0) 400 i = r i from if_pos hi])
      have b3 := hk1.out.1
      go_wp2_with (first | (refine wpList_load_row rfl 53 _ rfl (w.heap.size + 1) rfl 53 (vls 400 (flw r)) (0, 0) _ A4.out Try.underlying53 rfl (by rw [vls_size]; exact info_kern) ?_) | (refine wpList_store_row rfl 53 _ _ rfl (w.heap.size) (vls 400 (flw r)) rfl rfl 53 _ A3.out (by rw [vls_size]; exact info_kern) (by simp) (vls_one (flw_one _)) ?_))
      exact bodyPost_ret (results_row_tmp rfl _ _ (w.heap.size) 53 (vls 400 (flw r)) (0, 0) _ rfl (A3.out.setRow (flw r)) Try.underlying53 rfl (by rw [vls_size]; exact info_kern)) rfl ⟨rfl, below_row b3 (Nat.le_refl _) _⟩

def fltOf : Value → Nat
  | .float _ b => b
  | _ => 0

theorem nearer (b r : Nat) (h : okR b r) (w : World) :
    Calls Try.prog 107 #[.float .f64 r, .float .f64 b] w fun e w' => e = .returned (.float .f64 (rNext b r)) ∧ w = w' := by
  obtain ⟨h1, h2, h3, h4, h5, h6, h7⟩ := h
  have q1 := fun w => run_float_arith (P := Try.prog) w .mul 26 .f64 _ _ _ h1
  have q2 := fun w => run_float_arith (P := Try.prog) w .mul 26 .f64 _ _ _ h2
  have q3 := fun w => run_float_arith (P := Try.prog) w .sub 26 .f64 _ _ _ h3
  have q4 := fun w => run_float_arith (P := Try.prog) w .mul 26 .f64 _ _ _ h4
  have q5 := fun w => run_float_arith (P := Try.prog) w .mul 26 .f64 _ _ _ h5
  have q6 := fun w => run_float_arith (P := Try.prog) w .quo 26 .f64 _ _ _ h6
  have q7 := fun w => run_float_arith (P := Try.prog) w .sub 26 .f64 _ _ _ h7
  clear h1 h2 h3 h4 h5 h6 h7
  go_enter Try.func107, Try.ntmps107
  go_wp2
  go_ret
  exact ⟨rfl, rfl⟩

set_option maxRecDepth 100000 in
theorem iThird (a n m z root : Nat) (ha : amtB a = true) (h0 : a ≠ 0) (T : RootTr a n m z root) (w : World) :
    Calls Try.prog 32 #[.float .f32 a] w fun e w' => e = .returned (.tuple #[.float .f32 root, .int .i64 0]) ∧ w = w' := by
  have hc := fun w => run_conv_wid (P := Try.prog) w 22 26 a (amt_lt ha) Try.underlying22 Try.underlying26 (finB_iff.1 (amt_fin ha))
  have he : (FloatKind.f32.format.order a 0 == some .eq) = false := by
    show (S.order a 0 == some .eq) = false
    rw [order_zero_pos (amtB_iff.1 ha), Nat.compare_eq_gt.2 (by omega)]; rfl
  have hz := fun w => run_float_arith (P := Try.prog) w .mul 26 .f64 _ _ _ T.hz
  have ho := fun w => run_convert_float_float (P := Try.prog) w 26 22 .f64 .f32 z root (by rw [Try.underlying26]; rfl) Try.underlying22 T.out
  have HA := hid ha
  have HT := hid T
  clear ha h0 T
  go_enter Try.func32, Try.ntmps32
  go_wp2_with (go_at_call 106; refine (isAmount_t a HA.out _).mono ?_; rintro e w' ⟨rfl, rfl⟩)
  go_loop [4, 5] (fun b x => ∃ j : Nat, j ≤ n ∧ b = .float .f64 (bS (wid a) j) ∧ x = .float .f64 (xS 4607182418800017408 j)) (fun b _ => fltOf b)
  case atStart => exact ⟨0, Nat.zero_le _, rfl, rfl⟩
  case round =>
    obtain ⟨j, hj, rfl, rfl⟩ := hrel
    by_cases hlt : j < n
    · obtain ⟨g1, g2, g3, g4⟩ := HT.out.l1 j hlt
      have q0 : (FloatKind.f64.format.order (bS (wid a) j) 4620693217682128896 == some .gt || FloatKind.f64.format.order (bS (wid a) j) 4620693217682128896 == some .eq) = true := g1
      have q1 := fun w => run_float_arith (P := Try.prog) w .quo 26 .f64 _ _ _ g2
      have q2 := fun w => run_float_arith (P := Try.prog) w .mul 26 .f64 _ _ _ g3
      have G4 := hid g4
      clear g1 g2 g3 g4
      go_wp2
      go_round
      case rel => exact ⟨j + 1, by omega, rfl, rfl⟩
      case measure => exact G4.out
    · obtain rfl : j = n := by omega
      have q0 : (FloatKind.f64.format.order (bS (wid a) j) 4620693217682128896 == some .gt || FloatKind.f64.format.order (bS (wid a) j) 4620693217682128896 == some .eq) = false := HT.out.e1
      go_wp2
      clear q0
      go_loop [4, 5] (fun b x => ∃ i : Nat, i ≤ m ∧ b = .float .f64 (cS (bS (wid a) j) i) ∧ x = .float .f64 (yS (xS 4607182418800017408 j) i)) (fun b _ => 9218868437227405312 - fltOf b)
      case atStart => exact ⟨0, Nat.zero_le _, rfl, rfl⟩
      case round =>
        obtain ⟨i, hi, rfl, rfl⟩ := hrel
        by_cases hlt : i < m
        · obtain ⟨g1, g2, g3, g4, g5⟩ := HT.out.l2 i hlt
          have q0 : (FloatKind.f64.format.order (cS (bS (wid a) j) i) 4607182418800017408 == some .lt) = true := g1
          have q1 := fun w => run_float_arith (P := Try.prog) w .mul 26 .f64 _ _ _ g2
          have q2 := fun w => run_float_arith (P := Try.prog) w .quo 26 .f64 _ _ _ g3
          have G4 := hid g4
          have G5 := hid g5
          clear g1 g2 g3 g4 g5
          go_wp2
          go_round
          case rel => exact ⟨i + 1, by omega, rfl, rfl⟩
          case measure => have := G4.out; have := G5.out; simp only [fltOf]; omega
        · obtain rfl : i = m := by omega
          have q0 : (FloatKind.f64.format.order (cS (bS (wid a) j) i) 4607182418800017408 == some .lt) = false := HT.out.e2
          go_wp2
          clear q0
          go_loop [6, 26] (fun r k => ∃ q : Nat, q ≤ 6 ∧ k = .int .i64 q ∧ r = .float .f64 (rS (cS (bS (wid a) j) i) q)) (fun _ k => 6 - (intOf k).toNat)
          case atStart => exact ⟨0, by omega, rfl, rfl⟩
          case round =>
            obtain ⟨q, hq, rfl, rfl⟩ := hrel
            by_cases hlt : q < 6
            · have HN := hid (HT.out.l3 q hlt)
              go_wp2_with fail
              refine (nearer (cS (bS (wid a) j) i) (rS (cS (bS (wid a) j) i) q) HN.out _).mono ?_
              rintro e w' ⟨rfl, rfl⟩
              go_wp2
              go_round
              case rel => exact ⟨q + 1, by omega, by go_num, rfl⟩
              case measure => simp [intOf]; omega
            · obtain rfl : q = 6 := by omega
              go_wp2
              go_ret2
              exact ⟨rfl, rfl⟩

set_option maxRecDepth 100000 in
theorem sThird (a n m z root : Nat) (ha : amtB a = true) (h0 : a ≠ 0) (T : RootTr a n m z root) (w : World) :
    Calls Try.prog 105 #[.float .f32 a] w fun e w' => e = .returned (.float .f32 root) ∧ w = w' := by
  have hc := fun w => run_conv_wid (P := Try.prog) w 22 26 a (amt_lt ha) Try.underlying22 Try.underlying26 (finB_iff.1 (amt_fin ha))
  have he : (FloatKind.f32.format.order a 0 == some .eq) = false := by
    show (S.order a 0 == some .eq) = false
    rw [order_zero_pos (amtB_iff.1 ha), Nat.compare_eq_gt.2 (by omega)]; rfl
  have hz := fun w => run_float_arith (P := Try.prog) w .mul 26 .f64 _ _ _ T.hz
  have ho := fun w => run_convert_float_float (P := Try.prog) w 26 22 .f64 .f32 z root (by rw [Try.underlying26]; rfl) Try.underlying22 T.out
  have HT := hid T
  clear ha h0 T
  go_enter Try.func105, Try.ntmps105
  go_wp2
  go_loop [3, 4] (fun b x => ∃ j : Nat, j ≤ n ∧ b = .float .f64 (bS (wid a) j) ∧ x = .float .f64 (xS 4607182418800017408 j)) (fun b _ => fltOf b)
  case atStart => exact ⟨0, Nat.zero_le _, rfl, rfl⟩
  case round =>
    obtain ⟨j, hj, rfl, rfl⟩ := hrel
    by_cases hlt : j < n
    · obtain ⟨g1, g2, g3, g4⟩ := HT.out.l1 j hlt
      have q0 : (FloatKind.f64.format.order (bS (wid a) j) 4620693217682128896 == some .gt || FloatKind.f64.format.order (bS (wid a) j) 4620693217682128896 == some .eq) = true := g1
      have q1 := fun w => run_float_arith (P := Try.prog) w .quo 26 .f64 _ _ _ g2
      have q2 := fun w => run_float_arith (P := Try.prog) w .mul 26 .f64 _ _ _ g3
      have G4 := hid g4
      clear g1 g2 g3 g4
      go_wp2
      go_round
      case rel => exact ⟨j + 1, by omega, rfl, rfl⟩
      case measure => exact G4.out
    · obtain rfl : j = n := by omega
      have q0 : (FloatKind.f64.format.order (bS (wid a) j) 4620693217682128896 == some .gt || FloatKind.f64.format.order (bS (wid a) j) 4620693217682128896 == some .eq) = false := HT.out.e1
      go_wp2
      clear q0
      go_loop [3, 4] (fun b x => ∃ i : Nat, i ≤ m ∧ b = .float .f64 (cS (bS (wid a) j) i) ∧ x = .float .f64 (yS (xS 4607182418800017408 j) i)) (fun b _ => 9218868437227405312 - fltOf b)
      case atStart => exact ⟨0, Nat.zero_le _, rfl, rfl⟩
      case round =>
        obtain ⟨i, hi, rfl, rfl⟩ := hrel
        by_cases hlt : i < m
        · obtain ⟨g1, g2, g3, g4, g5⟩ := HT.out.l2 i hlt
          have q0 : (FloatKind.f64.format.order (cS (bS (wid a) j) i) 4607182418800017408 == some .lt) = true := g1
          have q1 := fun w => run_float_arith (P := Try.prog) w .mul 26 .f64 _ _ _ g2
          have q2 := fun w => run_float_arith (P := Try.prog) w .quo 26 .f64 _ _ _ g3
          have G4 := hid g4
          have G5 := hid g5
          clear g1 g2 g3 g4 g5
          go_wp2
          go_round
          case rel => exact ⟨i + 1, by omega, rfl, rfl⟩
          case measure => have := G4.out; have := G5.out; simp only [fltOf]; omega
        · obtain rfl : i = m := by omega
          have q0 : (FloatKind.f64.format.order (cS (bS (wid a) j) i) 4607182418800017408 == some .lt) = false := HT.out.e2
          go_wp2
          clear q0
          go_loop [5, 6] (fun r k => ∃ q : Nat, q ≤ 6 ∧ k = .int .i64 q ∧ r = .float .f64 (rS (cS (bS (wid a) j) i) q)) (fun _ k => 6 - (intOf k).toNat)
          case atStart => exact ⟨0, by omega, rfl, rfl⟩
          case round =>
            obtain ⟨q, hq, rfl, rfl⟩ := hrel
            by_cases hlt : q < 6
            · obtain ⟨h1, h2, h3, h4, h5, h6, h7⟩ := HT.out.l3 q hlt
              have q1 := fun w => run_float_arith (P := Try.prog) w .mul 26 .f64 _ _ _ h1
              have q2 := fun w => run_float_arith (P := Try.prog) w .mul 26 .f64 _ _ _ h2
              have q3 := fun w => run_float_arith (P := Try.prog) w .sub 26 .f64 _ _ _ h3
              have q4 := fun w => run_float_arith (P := Try.prog) w .mul 26 .f64 _ _ _ h4
              have q5 := fun w => run_float_arith (P := Try.prog) w .mul 26 .f64 _ _ _ h5
              have q6 := fun w => run_float_arith (P := Try.prog) w .quo 26 .f64 _ _ _ h6
              have q7 := fun w => run_float_arith (P := Try.prog) w .sub 26 .f64 _ _ _ h7
              clear h1 h2 h3 h4 h5 h6 h7
              go_wp2
              go_round
              case rel => exact ⟨q + 1, by omega, by go_num, rfl⟩
              case measure => simp [intOf]; omega
            · obtain rfl : q = 6 := by omega
              go_wp2
              go_ret
              exact ⟨rfl, rfl⟩

theorem mass_ne {k : Nat} : mass k ≠ 0 := by unfold mass; omega

theorem iThirdMass (k : Nat) (hk : k < 20) (w : World) :
    Calls Try.prog 32 #[.float .f32 (mass k)] w fun e w' => e = .returned (.tuple #[.float .f32 (rad k), .int .i64 0]) ∧ w = w' :=
  iThird (mass k) (k / 3) 0 (rz k) (rad k) (mass_amt hk) mass_ne (tr_one hk).1 w

theorem sThirdMass (k : Nat) (hk : k < 20) (w : World) :
    Calls Try.prog 105 #[.float .f32 (mass k)] w fun e w' => e = .returned (.float .f32 (rad k)) ∧ w = w' :=
  sThird (mass k) (k / 3) 0 (rz k) (rad k) (mass_amt hk) mass_ne (tr_one hk).1 w

theorem iRadius (k : Nat) (hk : k < 20) (w : World) :
    Calls Try.prog 116 #[.int .i64 (k : Int)] w fun e w' => e = .returned (.tuple #[.float .f32 (rad k), .int .i64 0]) ∧ w = w' := by
  have HK := hid hk
  clear hk
  go_enter Try.func116, Try.ntmps116
  go_wp2_with (first | (go_at_call 172; refine (isClass_t k HK.out _).mono ?_; rintro e w' ⟨rfl, rfl⟩) | (go_at_call 117; refine (iMass k HK.out _).mono ?_; rintro e w' ⟨rfl, rfl⟩) | (go_at_call 32; refine (iThirdMass k HK.out _).mono ?_; rintro e w' ⟨rfl, rfl⟩))
  go_ret2
  exact ⟨rfl, rfl⟩

theorem sRad (k : Nat) (hk : k < 20) (w : World) :
    Calls Try.prog 142 #[.int .i64 (k : Int)] w fun e w' => e = .returned (.float .f32 (rad k)) ∧ w = w' := by
  have HK := hid hk
  clear hk
  go_enter Try.func142, Try.ntmps142
  go_wp2_with (first | (go_at_call 139; refine (sMass k HK.out _).mono ?_; rintro e w' ⟨rfl, rfl⟩) | (go_at_call 105; refine (sThirdMass k HK.out _).mono ?_; rintro e w' ⟨rfl, rfl⟩))
  go_ret
  exact ⟨rfl, rfl⟩

theorem iFallAt (k : Nat) (hk : k < 20) (w : World) :
    Calls Try.prog 136 #[.float .f32 (rad k)] w fun e w' => e = .returned (.float .f32 (fall k)) ∧ w = w' := by
  obtain ⟨m1, m2, m3, m4, m5⟩ := fall_facts hk
  obtain ⟨_, mr, _⟩ := tr_one hk
  have r1 := fun w => run_mul (P := Try.prog) 22 mr mr w
  have r2 := fun w => run_mul (P := Try.prog) 22 (x := 1056964608) (y := rad k) (by decide) mr w
  have r3 := fun w => run_add (P := Try.prog) 22 (x := 1065353216) (y := fmul 1056964608 (rad k)) (by decide) (amt_nn m2) w
  have r4 := fun w => run_div (P := Try.prog) 22 (x := fmul (rad k) (rad k)) (y := fadd 1065353216 (fmul 1056964608 (rad k))) (amt_nn m1) m3 m4 w
  have HK := hid hk
  clear m1 m2 m3 m4 m5 mr hk
  go_enter Try.func136, Try.ntmps136
  go_wp2
  go_ret
  exact ⟨by rw [← fall_is k]; rfl, rfl⟩

theorem sFallK (k : Nat) (hk : k < 20) (w : World) :
    Calls Try.prog 135 #[.int .i64 (k : Int)] w fun e w' => e = .returned (.float .f32 (fall k)) ∧ w = w' := by
  obtain ⟨m1, m2, m3, m4, m5⟩ := fall_facts hk
  obtain ⟨_, mr, _⟩ := tr_one hk
  have r1 := fun w => run_mul (P := Try.prog) 22 mr mr w
  have r2 := fun w => run_mul (P := Try.prog) 22 (x := 1056964608) (y := rad k) (by decide) mr w
  have r3 := fun w => run_add (P := Try.prog) 22 (x := 1065353216) (y := fmul 1056964608 (rad k)) (by decide) (amt_nn m2) w
  have r4 := fun w => run_div (P := Try.prog) 22 (x := fmul (rad k) (rad k)) (y := fadd 1065353216 (fmul 1056964608 (rad k))) (amt_nn m1) m3 m4 w
  have HK := hid hk
  clear m1 m2 m3 m4 m5 mr hk
  go_enter Try.func135, Try.ntmps135
  go_wp2_with fail
  refine (sRad k HK.out _).mono ?_
  rintro e w1 ⟨rfl, rfl⟩
  go_wp2
  go_ret
  exact ⟨by rw [← fall_is k]; rfl, rfl⟩

def fallN (x n : Nat) : Nat := prod (fmul x (area (n / 20) (n % 20))) (apart (n / 20) (n % 20))

theorem fallN_at (x i j : Nat) (hj : j < 20) : fallN x (i * 20 + j) = prod (fmul x (area i j)) (apart i j) := by
  unfold fallN
  rw [show (i * 20 + j) / 20 = i by omega, show (i * 20 + j) % 20 = j by omega]

theorem plain_fall : Plain 144 := fun args w => by go_simp

set_option maxRecDepth 100000 in
theorem iFall1 (x : Nat) (hx : amtB x = true) (i j : Nat) (hi : i < 20) (hj : j < 20) (w : World) (g h b : Nat) (q0 : w.cell? ⟨g, i, none⟩ = some (.float .f32 (rad i))) (q1 : w.cell? ⟨g, j, none⟩ = some (.float .f32 (rad j))) (q2 : w.cell? ⟨h, i, none⟩ = some (.float .f32 (fall i))) (q3 : w.cell? ⟨h, j, none⟩ = some (.float .f32 (fall j))) (qb : w.cell? ⟨b, 0, none⟩ = some (.float .f32 x)) :
    Calls Try.prog 144 #[.int .i64 (i : Int), .int .i64 (j : Int), .pointer (some ⟨g, 0, none⟩), .pointer (some ⟨h, 0, none⟩), .pointer (some ⟨b, 0, none⟩)] w fun e w' => ∃ v, Fits (fallN x (i * 20 + j)) v ∧ e = .returned (.float .f32 v) ∧ Below w.heap.size w w' := by
  rw [fallN_at x i j hj]
  have H := pair_ok hi hj
  have r1 := fun w => run_add (P := Try.prog) 22 (amt_nn (tr_one hi).2.1) (amt_nn (tr_one hj).2.1) w
  rw [show fadd (rad i) (rad j) = reach i j from rfl] at r1
  have r2 := fun w => run_dif (P := Try.prog) 22 H w
  have r3 := fun w => run_conv_wid (P := Try.prog) w 22 26 (dif i j) H.dlt Try.underlying22 Try.underlying26 H.dfin
  have r4 := fun w => run_convert_float_float (P := Try.prog) w 26 22 .f64 .f32 _ _ (by rw [Try.underlying26]; rfl) Try.underlying22 H.back
  have r5 := fun w => run_mul (P := Try.prog) 22 H.reach H.reach w
  rw [show fmul (reach i j) (reach i j) = area i j from rfl] at r5
  have r6 := fun w => run_mul (P := Try.prog) 22 hx H.area w
  have r7 := fun w => run_prod (P := Try.prog) 22 (mul_eq hx H.area).2 H.apart H.inf w
  have HW := hid H.wlt
  have hi3 : (i : Int) < 20 := by omega
  have hj3 : (j : Int) < 20 := by omega
  clear hx H hi hj
  go_enter Try.func144, Try.ntmps144
  go_wp2_with fail
  go_quiet (fail)
  have q2 : (w.drewN nq).cell? ⟨h, i, none⟩ = some (.float .f32 (fall i)) := q2
  have q3 : (w.drewN nq).cell? ⟨h, j, none⟩ = some (.float .f32 (fall j)) := q3
  have qb : (w.drewN nq).cell? ⟨b, 0, none⟩ = some (.float .f32 x) := qb
  have bb := below_drewN (Below.refl w.heap.size w) nq
  generalize w.drewN nq = w2 at q2 q3 qb bb ⊢
  go_wp2_with fail
  go_quiet (exact Calls.quiet_of_same (back (abs_f64 _ HW.out _)))
  have qb : (w2.drewN nq).cell? ⟨b, 0, none⟩ = some (.float .f32 x) := qb
  have bb := below_drewN bb nq
  generalize w2.drewN nq = w3 at qb bb ⊢
  obtain ⟨v, w4, e7, hv, hw⟩ := r7 w3
  have b4 : Below w.heap.size w w4 := by
    rcases hw with rfl | rfl
    · exact bb
    · exact below_drewN bb 1
  have HV := hid hv
  clear r7 hv hw
  go_wp2
  go_ret
  exact ⟨v, HV.out, rfl, b4⟩

set_option maxHeartbeats 1000000 in
set_option maxRecDepth 100000 in
theorem iFallKernel_ok (x : Nat) (hx : amtB x = true) (r : Nat → Nat) (q : Int) (h1 : FinN (fallN x) 400 → r = fallN x ∧ q = 0) (h2 : ¬ FinN (fallN x) 400 → r = (fun _ => 0) ∧ q = 4) (w : World) :
    Calls Try.prog 63 #[.float .f32 x] w fun e w' => e = .returned (.tuple #[.agg (vls 400 (flw r)), .int .i64 q]) ∧ Below w.heap.size w w' := by
  have k0 : Hid (Kept w [(w.heap.size + 1 + 1, vls 20 (flw (fun _ => 0)), 28), (w.heap.size + 1 + 1 + 1, vls 20 (flw (fun _ => 0)), 28), (w.heap.size + 1, vls 400 (flw fun _ => 0), 53), (w.heap.size, #[.float .f32 x], 22)] ((((w.alloc (.cells #[.float .f32 x] 22)).alloc (.cells (vls 400 (flw fun _ => 0)) 53)).alloc (.cells (vls 20 (flw fun _ => 0)) 28)).alloc (.cells (vls 20 (flw fun _ => 0)) 28))) := hid ((((((Kept.nil w).push _ _).push _ _).push _ _).push _ _).sub (by simp))
  have H1 := hid h1
  have H2 := hid h2
  have HX := hid hx
  clear h1 h2 hx
  go_enter Try.func63, Try.ntmps63
  go_wp2_with fail
  refine (isAmount_t x HX.out _).mono ?_
  rintro e w1 ⟨rfl, rfl⟩
  go_wp2_with fail
  go_loopw [13] (fun i wr => ∃ k : Nat, k ≤ 20 ∧ i = .int .i64 k ∧ Hid (Kept w [(w.heap.size + 1 + 1, vls 20 (flw (prt rad (fun _ => 0) k)), 28), (w.heap.size + 1 + 1 + 1, vls 20 (flw (prt fall (fun _ => 0) k)), 28), (w.heap.size + 1, vls 400 (flw fun _ => 0), 53), (w.heap.size, #[.float .f32 x], 22)] wr)) (fun i _ => 20 - (intOf i).toNat)
  case atStart => exact ⟨0, by omega, rfl, k0⟩
  case round =>
    obtain ⟨k, hk, rfl, hk1⟩ := hrel
    clear k0
    by_cases hlt : k < 20
    · have HL := hid hlt
      have hk3 : (k : Int) < 20 := by omega
      go_wp2_with fail
      refine (iRadius k HL.out _).mono ?_
      rintro e w1 ⟨rfl, rfl⟩
      go_wp2_with fail
      refine region_kept (w0 := w) (l := [(w.heap.size + 1, vls 400 (flw fun _ => 0), 53), (w.heap.size, #[.float .f32 x], 22)]) 9 #[false, false, false, false, false, false, false, false, false] (by kernel_rfl) rfl rfl ?_
      have kd := hk1.out.drew
      clear hk1
      generalize wr.drew = wd at kd ⊢
      refine take_val 0 _ _ (.int .i64 (k : Int)) rfl (by rfl) (by kernel_rfl) (by kernel_rfl) (by kernel_rfl) (fun w => by rfl) rfl rfl kd.tail.tail ?_
      refine take_val 1 _ _ (.int .i64 (k : Int)) rfl (by rfl) (by kernel_rfl) (by kernel_rfl) (by kernel_rfl) (fun w => by rfl) rfl rfl kd.tail.tail ?_
      refine take_val 2 _ _ (.float .f32 (rad k)) rfl (by rfl) (by kernel_rfl) (by kernel_rfl) (by kernel_rfl) (fun w => by rfl) rfl rfl kd.tail.tail ?_
      refine take_val 3 _ _ (.float .f32 (rad k)) rfl (by rfl) (by kernel_rfl) (by kernel_rfl) (by kernel_rfl) (fun w => by rfl) rfl rfl kd.tail.tail ?_
      simp only [Act.put, List.setIfInBounds_toArray, List.set_cons_zero, List.set_cons_succ]
      refine take_val 5 _ _ (.pointer (some ⟨w.heap.size + 1 + 1, k, none⟩)) rfl (by rfl) (by kernel_rfl) (by kernel_rfl) (by kernel_rfl) (fun w => by unfold execOp; go_simp) rfl rfl kd.tail.tail ?_
      refine wpAnyH_ready (rs := [4]) (by kernel_rfl) (by simp) ?_
      refine callK 4 _ _ (.float .f32 (fall k)) kd rfl (by rfl) 136 #[.float .f32 (rad k)] (fun w => by unfold execOp; go_simp) rfl rfl ?hc (fun wa kd => ?_) AllReadyH.nil
      case hc => exact (loose (iFallAt k HL.out _))
      refine ⟨kd.tail.tail, ?_⟩
      simp only [Act.put, List.setIfInBounds_toArray, List.set_cons_zero, List.set_cons_succ]
      refine wpAnyH_ready (rs := [6]) (by kernel_rfl) (by simp) ?_
      refine storeCellK 6 _ kd (by omega) (by intro y hy; simp only [List.mem_cons, List.not_mem_nil, or_false] at hy; rcases hy with rfl | rfl | rfl <;> (show (_ : Nat) ≠ _; omega)) rfl (by rfl) 22 _ _ rfl k (rad k) HL.out (by rfl) (by rfl) info_f32s rfl (fun wb kd => ?_) AllReadyH.nil
      refine ⟨kd.tail.tail, ?_⟩
      simp only [Act.put, List.setIfInBounds_toArray, List.set_cons_zero, List.set_cons_succ]
      refine take_val 7 _ _ (.pointer (some ⟨w.heap.size + 1 + 1 + 1, k, none⟩)) rfl (by rfl) (by kernel_rfl) (by kernel_rfl) (by kernel_rfl) (fun w => by unfold execOp; go_simp) rfl rfl kd.tail.tail ?_
      refine wpAnyH_ready (rs := [8]) (by kernel_rfl) (by simp) ?_
      have kd := kd.sub (l' := [(w.heap.size + 1 + 1 + 1, vls 20 (flw (prt fall (fun _ => 0) k)), 28), (w.heap.size + 1 + 1, vls 20 (flw (upd (prt rad (fun _ => 0) k) k (rad k))), 28), (w.heap.size + 1, vls 400 (flw fun _ => 0), 53), (w.heap.size, #[.float .f32 x], 22)]) (by simp)
      refine storeCellK 8 _ kd (by omega) (by intro y hy; simp only [List.mem_cons, List.not_mem_nil, or_false] at hy; rcases hy with rfl | rfl | rfl <;> (show (_ : Nat) ≠ _; omega)) rfl (by rfl) 22 _ _ rfl k (fall k) HL.out (by rfl) (by rfl) info_f32s rfl (fun wc kd => ?_) AllReadyH.nil
      refine ⟨kd.tail.tail, ?_⟩
      refine wpAnyH_done (by kernel_rfl) (NoPanic.normal ?_) _
      simp only [Act.put, List.setIfInBounds_toArray, List.set_cons_zero, List.set_cons_succ]
      rw [show upd (prt rad (fun _ => 0) k) k (rad k) = prt rad (fun _ => 0) (k + 1) from funext fun i => part_succ rad (fun _ => 0) k i, show upd (prt fall (fun _ => 0) k) k (fall k) = prt fall (fun _ => 0) (k + 1) from funext fun i => part_succ fall (fun _ => 0) k i] at kd
      have K2 : Hid (Kept w [(w.heap.size + 1 + 1, vls 20 (flw (prt rad (fun _ => 0) (k + 1))), 28), (w.heap.size + 1 + 1 + 1, vls 20 (flw (prt fall (fun _ => 0) (k + 1))), 28), (w.heap.size + 1, vls 400 (flw fun _ => 0), 53), (w.heap.size, #[.float .f32 x], 22)] wc) := hid (kd.sub (by simp))
      clear kd
      go_wp2
      go_roundw
      case rel => exact ⟨k + 1, by omega, by go_num, K2⟩
      case measure => simp [intOf]; omega
    · obtain rfl : k = 20 := by omega
      have hG : ∀ i, i < 20 → ∀ w', Below wr.heap.size wr w' → w'.cell? ⟨w.heap.size + 1 + 1, i, none⟩ = some (.float .f32 (rad i)) := fun i hi w' hb => (vAt.fcell (c := prt rad (fun _ => 0) 20) ((hk1.out.stay hb).at (x := (w.heap.size + 1 + 1, vls 20 (flw (prt rad (fun _ => 0) 20)), 28)) (by simp)) hi).trans (by rw [show prt rad (fun _ => 0) 20 i = rad i from if_pos hi])
      have hH : ∀ i, i < 20 → ∀ w', Below wr.heap.size wr w' → w'.cell? ⟨w.heap.size + 1 + 1 + 1, i, none⟩ = some (.float .f32 (fall i)) := fun i hi w' hb => (vAt.fcell (c := prt fall (fun _ => 0) 20) ((hk1.out.stay hb).at (x := (w.heap.size + 1 + 1 + 1, vls 20 (flw (prt fall (fun _ => 0) 20)), 28)) (by simp)) hi).trans (by rw [show prt fall (fun _ => 0) 20 i = fall i from if_pos hi])
      have hS : ∀ w', Below wr.heap.size wr w' → w'.cell? ⟨w.heap.size, 0, none⟩ = some (.float .f32 x) := fun w' hb => (cell_of_row w' _ 0 _ _ _ ((hk1.out.stay hb).at (x := (w.heap.size, #[.float .f32 x], 22)) (by simp))).trans rfl
      have hcall := iKernelOf2 (f := 144) plain_fall #[.pointer (some ⟨w.heap.size + 1 + 1, 0, none⟩), .pointer (some ⟨w.heap.size + 1 + 1 + 1, 0, none⟩), .pointer (some ⟨w.heap.size, 0, none⟩)] (fallN x) r q H1.out H2.out wr (fun i j hi hj w' hb => by rw [show (#[.int .i64 (i : Int), .int .i64 (j : Int)] ++ #[.pointer (some ⟨w.heap.size + 1 + 1, 0, none⟩), .pointer (some ⟨w.heap.size + 1 + 1 + 1, 0, none⟩), .pointer (some ⟨w.heap.size, 0, none⟩)] : Array Value) = #[.int .i64 (i : Int), .int .i64 (j : Int), .pointer (some ⟨w.heap.size + 1 + 1, 0, none⟩), .pointer (some ⟨w.heap.size + 1 + 1 + 1, 0, none⟩), .pointer (some ⟨w.heap.size, 0, none⟩)] from rfl]; exact iFall1 x HX.out i j hi hj w' _ _ _ (hG i hi w' hb) (hG j hj w' hb) (hH i hi w' hb) (hH j hj w' hb) (hS w' hb))
      have A1 := hid (show vAt wr (w.heap.size + 1) 400 (flw fun _ => 0) 53 from hk1.out.at (x := (w.heap.size + 1, vls 400 (flw fun _ => 0), 53)) (by simp))
      have b1 := hk1.out.1
      clear hG hH hS hk1
      go_wp2_with fail
      refine hcall.mono ?_
      rintro e w3 ⟨rfl, hb3⟩
      have A3 := hid (A1.out.stay hb3)
      have b3 := stp b1 (Nat.le_refl _) hb3
      go_wp2_with (refine wpList_store_row rfl 53 _ _ rfl (w.heap.size + 1) (vls 400 (flw r)) rfl rfl 53 _ A3.out (by rw [vls_size]; exact info_kern) (by simp) (vls_one (flw_one _)) ?_)
      exact bodyPost_ret (results_row_tmp rfl _ _ (w.heap.size + 1) 53 (vls 400 (flw r)) (0, 0) _ rfl (A3.out.setRow (flw r)) Try.underlying53 rfl (by rw [vls_size]; exact info_kern)) rfl ⟨rfl, below_row b3 (by omega) _⟩

set_option maxRecDepth 100000 in
theorem iFallKernel_bad (x : Nat) (hx : x < 4294967296) (hn : ¬ amtB x = true) (w : World) :
    Calls Try.prog 63 #[.float .f32 x] w fun e w' => e = .returned (.tuple #[.agg (vls 400 (flw fun _ => 0)), .int .i64 2]) ∧ Below w.heap.size w w' := by
  have A1 := hid (vAt.new1 w (.cells #[.float .f32 x] 22) 400 (flw fun _ => 0) 53)
  have b0 := boxed2 w (.cells #[.float .f32 x] 22) (.cells (vls 400 (flw fun _ => 0)) 53)
  have HX := hid hx
  have HN := hid (show amtB x = false by simpa using hn)
  clear hx hn
  go_enter Try.func63, Try.ntmps63
  go_wp2_with fail
  refine (isAmount_f x HX.out HN.out _).mono ?_
  rintro e w1 ⟨rfl, hb1⟩
  have A3 := hid (A1.out.stay hb1)
  have b3 := stp b0 (Nat.le_refl _) hb1
  go_wp2_with (refine wpList_store_row rfl 53 _ _ rfl (w.heap.size + 1) (vls 400 (flw fun _ => 0)) rfl rfl 53 _ A3.out (by rw [vls_size]; exact info_kern) (by simp) (vls_one (flw_one _)) ?_)
  exact bodyPost_ret (results_row_tmp rfl _ _ (w.heap.size + 1) 53 (vls 400 (flw fun _ => 0)) (0, 0) _ rfl (A3.out.setRow (flw fun _ => 0)) Try.underlying53 rfl (by rw [vls_size]; exact info_kern)) rfl ⟨rfl, below_row b3 (by omega) _⟩

theorem told_lit3 (N : Nat → Nat) (hN : ∀ i, i < 400 → N i < 4294967296) : ∃ (r : Nat → Nat) (q : Int), (FinN N 400 → r = N ∧ q = 0) ∧ (¬ FinN N 400 → r = (fun _ => 0) ∧ q = 4) ∧ (∀ i, i < 400 → r i < 4294967296) ∧ (∀ i, i < 400 → finB (r i) = true) := by
  rcases Classical.em (FinN N 400) with h | h
  · exact ⟨N, 0, fun _ => ⟨rfl, rfl⟩, fun h' => absurd h h', hN, h⟩
  · exact ⟨fun _ => 0, 4, fun h' => absurd h' h, fun _ => ⟨rfl, rfl⟩, fun _ _ => (by decide : (0 : Nat) < 4294967296), fun _ _ => (by decide : finB 0 = true)⟩

@[go_sem] theorem ext_f32from (n : Int) (w : World) : (callFunc 201 #[.int .u32 n]).run Try.prog w = .ok (.value (.float .f32 n.toNat)) w := by
  rw [run_callFunc_extern Try.func201 (by kernel_rfl) (by kernel_rfl) (by kernel_rfl) (e := Extern.MathFloatBits.float32frombits) (by kernel_rfl)]
  rfl

theorem clear_sign32 (y : Nat) (h : y < 4294967296) : (bits BinOp.and IntKind.u32 (y : Int) 2147483647).toNat = y % 2147483648 := by
  rw [u32_and _ _ (by omega) (by omega) (by omega) (by omega)]
  rw [Int.toNat_natCast, Int.toNat_natCast]
  exact Nat.and_two_pow_sub_one_eq_mod y 31

set_option maxRecDepth 100000 in
theorem sAbs (y : Nat) (h : y < 4294967296) (w : World) :
    Calls Try.prog 143 #[.float .f32 y] w fun e w' => e = .returned (.float .f32 (y % 2147483648)) ∧ w = w' := by
  have hc := hid (clear_sign32 y h)
  clear h
  go_enter Try.func143, Try.ntmps143
  go_wp2
  go_ret
  exact ⟨by simp [hc.out], rfl⟩

theorem fallN_nn {x : Nat} {n : Nat} (hn : n < 400) : nnB (fallN x n) = true := prod_nn (pair_ok (i := n / 20) (j := n % 20) (by omega) (by omega)).apart

set_option maxHeartbeats 1000000 in
set_option maxRecDepth 100000 in
theorem sFallKernel_ok (x : Nat) (hx : amtB x = true) (r : Nat → Nat) (q : Int) (h1 : FinN (fallN x) 400 → r = fallN x ∧ q = 0) (h2 : ¬ FinN (fallN x) 400 → r = (fun _ => 0) ∧ q = 4) (w : World) :
    Calls Try.prog 62 #[.float .f32 x] w fun e w' => e = .returned (.tuple #[.agg (vls 400 (flw r)), .int .i64 q]) ∧ Below w.heap.size w w' := by
  have A1 := hid (vAt.new w 400 (flw fun _ => 0) 53)
  have b0 := boxed w (.cells (vls 400 (flw fun _ => 0)) 53)
  have HX := hid hx
  have H1 := hid h1
  have H2 := hid h2
  clear hx h1 h2
  go_enter Try.func62, Try.ntmps62
  go_wp2_with fail
  refine (sAmount_t x HX.out _).mono ?_
  rintro e w1 ⟨rfl, rfl⟩
  generalize hw1 : (w.alloc (.cells (vls 400 (flw fun _ => 0)) 53)) = w1 at A1 b0 ⊢
  have hl : w.heap.size + 1 ≤ w1.heap.size := by rw [← hw1]; simp
  have HL := hid hl
  clear hw1 hl
  have N0 := hid (vAt.new w1 400 (flw fun _ => 0) 53)
  have M0 := hid (N0.out.setRow (flw fun _ => 0))
  have M1 := hid ((A1.out.alloc (.cells (vls 400 (flw fun _ => 0)) 53)).setRowOther (k := w1.heap.size) (Nat.ne_of_lt A1.out.lt) (vls 400 (flw fun _ => 0)))
  have mb := below_row (b0.alloc b0.size (.cells (vls 400 (flw fun _ => 0)) 53)) b0.size (g := w1.heap.size) (vls 400 (flw fun _ => 0))
  have tok1 : True := trivial
  go_wp2_with (have _t := tok1; refine wpList_store_row rfl 53 _ _ rfl (w1.heap.size) (vls 400 (flw fun _ => 0)) rfl rfl 53 _ N0.out (by rw [vls_size]; exact info_kern) (by simp) (vls_one (flw_one _)) ?_; generalize ((w1.alloc (.cells (vls 400 (flw fun _ => 0)) 53)).setRow w1.heap.size (vls 400 (flw fun _ => 0))) = w2 at M0 M1 mb ⊢; clear N0 A1 b0 tok1)
  go_loopw [5] (fun i wr => ∃ k : Nat, k ≤ 20 ∧ i = .int .i64 k ∧ (∃ M : Nat → Nat, Hid (∀ n, n < k * 20 → Fits (fallN x n) (M n)) ∧ Hid (vAt wr w1.heap.size 400 (flw M) 53)) ∧ Hid (vAt wr w.heap.size 400 (flw fun _ => 0) 53) ∧ Hid (Below w.heap.size w wr)) (fun i _ => 20 - (intOf i).toNat)
  case atStart => exact ⟨0, by omega, rfl, ⟨fun _ => 0, hid fun n hn => by omega, M0⟩, M1, hid mb⟩
  case round =>
    obtain ⟨k, hk, rfl, ⟨M, hM, h0⟩, h1, hb⟩ := hrel
    by_cases hlt : k < 20
    · have HK := hid hlt
      have hk3 : (k : Int) < 20 := by omega
      clear M0 M1 mb
      go_wp2_with fail
      go_loopw [6] (fun i wr => ∃ j : Nat, j ≤ 20 ∧ i = .int .i64 j ∧ (∃ M : Nat → Nat, Hid (∀ n, n < k * 20 + j → Fits (fallN x n) (M n)) ∧ Hid (vAt wr w1.heap.size 400 (flw M) 53)) ∧ Hid (vAt wr w.heap.size 400 (flw fun _ => 0) 53) ∧ Hid (Below w.heap.size w wr)) (fun i _ => 20 - (intOf i).toNat)
      case atStart => exact ⟨0, by omega, rfl, ⟨M, hM, h0⟩, h1, hb⟩
      case round =>
        clear h0 h1 hb hM M
        obtain ⟨j, hj, rfl, ⟨M, hM, h0⟩, h1, hb⟩ := hrel
        by_cases hlj : j < 20
        · have HJ := hid hlj
          have hj3 : (j : Int) < 20 := by omega
          have hn : k * 20 + j < 400 := by have := HK.out; omega
          have H := hid (pair_ok HK.out HJ.out)
          have r1 := fun w => run_add (P := Try.prog) 22 (amt_nn (tr_one HK.out).2.1) (amt_nn (tr_one HJ.out).2.1) w
          rw [show fadd (rad k) (rad j) = reach k j from rfl] at r1
          have r2 := fun w => run_dif (P := Try.prog) 22 H.out w
          have r5 := fun w => run_mul (P := Try.prog) 22 H.out.reach H.out.reach w
          rw [show fmul (reach k j) (reach k j) = area k j from rfl] at r5
          have r6 := fun w => run_mul (P := Try.prog) 22 HX.out H.out.area w
          obtain ⟨v, w4, e7, hv, hw⟩ := run_prod (P := Try.prog) 22 (mul_eq HX.out H.out.area).2 H.out.apart H.out.inf wr
          have HV := hid (show Fits (fallN x (k * 20 + j)) v by rw [fallN_at x k j HJ.out]; exact hv)
          have g0 : Hid (vAt w4 w1.heap.size 400 (flw M) 53) := by rcases hw with rfl | rfl; exact h0; exact hid h0.out.drew
          have g1 : Hid (vAt w4 w.heap.size 400 (flw fun _ => 0) 53) := by rcases hw with rfl | rfl; exact h1; exact hid h1.out.drew
          have gb : Hid (Below w.heap.size w w4) := by rcases hw with rfl | rfl; exact hb; exact hid hb.out.drew
          clear hv hw h0 h1 hb
          have q0 := g0.out.cell hn
          have f0 := g0.out.frozen (k * 20 + j)
          have n0 := hid (g0.out.fset (k * 20 + j) v)
          have n1 := hid (g1.out.setOther (a := ⟨w1.heap.size, k * 20 + j, none⟩) (by have := HL.out; simp; omega) (.float .f32 v))
          have nb := gb.out.setCell (p := ⟨w1.heap.size, k * 20 + j, none⟩) (by have := HL.out; simp; omega) (.float .f32 v)
          have HM : Hid (∀ n, n < k * 20 + (j + 1) → Fits (fallN x n) (upd M (k * 20 + j) v n)) := hid fun n hn' => by
            by_cases e : n = k * 20 + j
            · subst e; rw [show upd M (k * 20 + j) v (k * 20 + j) = v from if_pos rfl]; exact HV.out
            · rw [show upd M (k * 20 + j) v n = M n from if_neg e]; exact hM.out n (by omega)
          clear gb g0 g1
          go_wp2_with fail
          refine (sRad k HK.out _).mono ?_
          rintro e wa ⟨rfl, rfl⟩
          go_wp2_with fail
          refine (sRad j HJ.out _).mono ?_
          rintro e wa ⟨rfl, rfl⟩
          go_wp2_with fail
          refine (sFallK k HK.out _).mono ?_
          rintro e wa ⟨rfl, rfl⟩
          go_wp2_with fail
          refine (sFallK j HJ.out _).mono ?_
          rintro e wa ⟨rfl, rfl⟩
          go_wp2_with fail
          refine (sAbs _ H.out.dlt _).mono ?_
          rintro e wa ⟨rfl, rfl⟩
          rw [apart_is]
          go_wp2
          go_roundw
          case rel => exact ⟨j + 1, by omega, by go_num, ⟨_, HM, n0⟩, n1, hid nb⟩
          case measure => simp [intOf]; omega
        · obtain rfl : j = 20 := by omega
          go_wp2
          go_roundw
          case rel => exact ⟨k + 1, by omega, by go_num, ⟨M, hid fun n hn => hM.out n (by omega), h0⟩, h1, hb⟩
          case measure => simp [intOf]; omega
    · obtain rfl : k = 20 := by omega
      have hl := HL.out
      rcases Classical.em (FinN (fallN x) 400) with hf | hf
      · obtain ⟨rfl, rfl⟩ := H1.out hf
        have HF := hid hf
        have h0 := hid (h0.out.ext (d := flw (fallN x)) fun i hi => by unfold flw; rw [(hM.out i hi).2.1 (hf i hi)])
        clear hM
        go_wp2_with (refine wpList_load_row rfl 53 _ rfl (w1.heap.size) rfl 53 (vls 400 (flw (fallN x))) (0, 0) _ h0.out Try.underlying53 rfl (by rw [vls_size]; exact info_kern) ?_)
        refine (sTold3 (fallN x) (fun n hn => nn_lt (fallN_nn hn)) (fallN x) 0 (fun _ => ⟨rfl, rfl⟩) (fun h' => absurd HF.out h') _).mono ?_
        rintro e w5 ⟨rfl, hb5⟩
        have A3 := hid (h1.out.stay hb5)
        have b3 := stp hb.out (Nat.le_refl _) hb5
        go_wp2_with (refine wpList_store_row rfl 53 _ _ rfl (w.heap.size) (vls 400 (flw (fallN x))) rfl rfl 53 _ A3.out (by rw [vls_size]; exact info_kern) (by simp) (vls_one (flw_one _)) ?_)
        exact bodyPost_ret (results_row_tmp rfl _ _ (w.heap.size) 53 (vls 400 (flw (fallN x))) (0, 0) _ rfl (A3.out.setRow (flw (fallN x))) Try.underlying53 rfl (by rw [vls_size]; exact info_kern)) rfl ⟨rfl, below_row b3 (by omega) _⟩
      · obtain ⟨rfl, rfl⟩ := H2.out hf
        have HF := hid (fun hg : FinN M 400 => hf fun i hi => by
          rcases h : finB (fallN x i) with _ | _
          · have := (hM.out i hi).2.2 h; rw [hg i hi] at this; cases this
          · rfl)
        go_wp2_with (refine wpList_load_row rfl 53 _ rfl (w1.heap.size) rfl 53 (vls 400 (flw M)) (0, 0) _ h0.out Try.underlying53 rfl (by rw [vls_size]; exact info_kern) ?_)
        refine (sTold3 M (fun n hn => (hM.out n hn).1) (fun _ => 0) 4 (fun h' => absurd h' HF.out) (fun _ => ⟨rfl, rfl⟩) _).mono ?_
        rintro e w5 ⟨rfl, hb5⟩
        have A3 := hid (h1.out.stay hb5)
        have b3 := stp hb.out (Nat.le_refl _) hb5
        go_wp2_with (refine wpList_store_row rfl 53 _ _ rfl (w.heap.size) (vls 400 (flw (fun _ => 0))) rfl rfl 53 _ A3.out (by rw [vls_size]; exact info_kern) (by simp) (vls_one (flw_one _)) ?_)
        exact bodyPost_ret (results_row_tmp rfl _ _ (w.heap.size) 53 (vls 400 (flw (fun _ => 0))) (0, 0) _ rfl (A3.out.setRow (flw (fun _ => 0))) Try.underlying53 rfl (by rw [vls_size]; exact info_kern)) rfl ⟨rfl, below_row b3 (by omega) _⟩

set_option maxRecDepth 100000 in
theorem sFallKernel_bad (x : Nat) (hx : x < 4294967296) (hn : ¬ amtB x = true) (w : World) :
    Calls Try.prog 62 #[.float .f32 x] w fun e w' => e = .returned (.tuple #[.agg (vls 400 (flw fun _ => 0)), .int .i64 2]) ∧ Below w.heap.size w w' := by
  have A1 := hid (vAt.new w 400 (flw fun _ => 0) 53)
  have b0 := boxed w (.cells (vls 400 (flw fun _ => 0)) 53)
  have HX := hid hx
  have HN := hid (show amtB x = false by simpa using hn)
  clear hx hn
  go_enter Try.func62, Try.ntmps62
  go_wp2_with fail
  refine (sAmount_f x HX.out HN.out _).mono ?_
  rintro e w1 ⟨rfl, hb1⟩
  have A3 := hid (A1.out.stay hb1)
  have b3 := stp b0 (Nat.le_refl _) hb1
  go_wp2_with (refine wpList_store_row rfl 53 _ _ rfl (w.heap.size) (vls 400 (flw fun _ => 0)) rfl rfl 53 _ A3.out (by rw [vls_size]; exact info_kern) (by simp) (vls_one (flw_one _)) ?_)
  exact bodyPost_ret (results_row_tmp rfl _ _ (w.heap.size) 53 (vls 400 (flw fun _ => 0)) (0, 0) _ rfl (A3.out.setRow (flw fun _ => 0)) Try.underlying53 rfl (by rw [vls_size]; exact info_kern)) rfl ⟨rfl, below_row b3 (by omega) _⟩

set_option maxRecDepth 100000 in
theorem coreFallKernel (x0 : Nat) (r0 : Nat → Nat) (hl0 : ∀ i, i < 400 → r0 i < 4294967296) (hf0 : ∀ i, i < 400 → finB (r0 i) = true) (r1 : Int)
    (hS : ∀ w, Calls Try.prog 62 #[.float .f32 x0] w fun e w' => e = .returned (.tuple #[.agg (vls 400 (flw r0)), .int .i64 r1]) ∧ Below w.heap.size w w')
    (hI : ∀ w, Calls Try.prog 63 #[.float .f32 x0] w fun e w' => e = .returned (.tuple #[.agg (vls 400 (flw r0)), .int .i64 r1]) ∧ Below w.heap.size w w') (w : World) :
    Calls Try.prog 14 #[.float .f32 x0] w fun e w' => e = .returned (.bool true) ∧ Below w.heap.size w w' := by
  have b0 := Below.refl w.heap.size w
  have HS := hid hS
  have HI := hid hI
  clear hS hI
  have Hl0 := hid hl0
  have Hf0 := hid hf0
  clear hl0 hf0
  go_enter Try.func14, Try.ntmps14
  go_wp2_with fail
  refine (HS.out _).mono ?_
  rintro e v0 ⟨rfl, hbv0⟩
  have bv0 := stp b0 (Nat.le_refl _) hbv0
  have N0 := hid (heap_alloc_new v0 (.cells (vls 400 (flw fun _ => 0)) 53))
  have R0 := hid (setRow_heap (v0.alloc (.cells (vls 400 (flw fun _ => 0)) 53)) v0.heap.size _ (vls 400 (flw r0)) _ _ N0.out)
  have bX0 : Below w.heap.size w ((v0.alloc (.cells (vls 400 (flw fun _ => 0)) 53)).setRow v0.heap.size (vls 400 (flw r0))) := below_row (bv0.alloc bv0.size _) bv0.size _
  go_wp2_with (first | (refine wpList_store_row rfl 53 _ _ rfl (v0.heap.size) (vls 400 (flw r0)) rfl rfl 53 _ N0.out (by rw [vls_size]; exact info_kern) (by simp) (vls_one (flw_one r0)) ?_))
  refine (HI.out _).mono ?_
  rintro e v1 ⟨rfl, hbv1⟩
  have bv1 := stp bX0 (Nat.le_refl _) hbv1
  have R0 := hid (stayB R0.out hbv1)
  have N1 := hid (heap_alloc_new v1 (.cells (vls 400 (flw fun _ => 0)) 53))
  have R0 := hid (rowOther (allocB R0.out (.cells (vls 400 (flw fun _ => 0)) 53)) (k := v1.heap.size) (Nat.ne_of_lt (lt_of_block R0.out)) (vls 400 (flw r0)))
  have R1 := hid (setRow_heap (v1.alloc (.cells (vls 400 (flw fun _ => 0)) 53)) v1.heap.size _ (vls 400 (flw r0)) _ _ N1.out)
  have bX1 : Below w.heap.size w ((v1.alloc (.cells (vls 400 (flw fun _ => 0)) 53)).setRow v1.heap.size (vls 400 (flw r0))) := below_row (bv1.alloc bv1.size _) bv1.size _
  go_wp2_with (first | (refine wpList_store_row rfl 53 _ _ rfl (v1.heap.size) (vls 400 (flw r0)) rfl rfl 53 _ N1.out (by rw [vls_size]; exact info_kern) (by simp) (vls_one (flw_one r0)) ?_) | (refine wpList_load_row rfl 53 _ rfl (v1.heap.size) rfl 53 (vls 400 (flw r0)) (0, 0) _ R1.out Try.underlying53 rfl (by rw [vls_size]; exact info_kern) ?_) | (refine wpList_load_row rfl 53 _ rfl (v0.heap.size) rfl 53 (vls 400 (flw r0)) (0, 0) _ R0.out Try.underlying53 rfl (by rw [vls_size]; exact info_kern) ?_))
  refine (eqKernel r0 Hl0.out Hf0.out _).mono ?_
  rintro e z ⟨rfl, hbz⟩
  have bz := stp bX1 (Nat.le_refl _) hbz
  go_wp2
  go_ret
  exact ⟨rfl, bz⟩

theorem lawFallKernel (x : Nat) (hx : x < 4294967296) (w : World) :
    Calls Try.prog 14 #[.float .f32 x] w fun e w' => e = .returned (.bool true) ∧ Below w.heap.size w w' := by
  by_cases h : amtB x = true
  · obtain ⟨r, q, h1, h2, h3, h4⟩ := told_lit3 (fallN x) (fun n hn => nn_lt (fallN_nn hn))
    exact coreFallKernel x r h3 h4 q (sFallKernel_ok x h r q h1 h2) (iFallKernel_ok x h r q h1 h2) w
  · exact coreFallKernel x (fun _ => 0) (fun _ _ => by decide) (fun _ _ => by decide) 2 (sFallKernel_bad x hx h) (iFallKernel_bad x hx h) w

theorem words_cons : ∀ (v : List Char) (r : List Char), (∀ c ∈ v, c ≠ Char.ofNat 32) → wordsSigns (v ++ Char.ofNat 32 :: r) = v :: wordsSigns r
  | [], r, _ => rfl
  | c :: v, r, h => by
    have ih := words_cons v r (fun x hx => h x (by simp [hx]))
    have hc : c ≠ Char.ofNat 32 := h c (by simp)
    show wordsSigns (c :: (v ++ Char.ofNat 32 :: r)) = _
    rw [wordsSigns.eq_3 _ _ (fun e => hc e), ih]

def w0 : List Nat := [104, 97, 114, 110, 101, 115, 115]

def w1 : List Nat := [97, 97, 48, 52, 102, 49, 99, 51, 50, 54, 56, 53, 56, 53, 102, 57, 99, 56, 55, 101, 50, 56, 99, 101, 57, 99, 99, 99, 52, 98, 56, 57, 52, 51, 53, 102, 101, 102, 99, 51, 54, 98, 102, 57, 51, 50, 53, 51, 57, 101, 54, 98, 50, 101, 98, 55, 50, 53, 53, 97, 54, 51, 54, 55]

def w2 : List Nat := [99, 117, 116]

def w3 : List Nat := [97, 116, 32, 108, 111, 111, 112, 46, 101, 120, 97, 109, 112, 108, 101, 47, 103, 48, 49, 50, 50, 52, 47, 108, 97, 119, 115, 46, 70, 110, 69, 120, 97, 99, 116, 84, 104, 105, 114, 100, 82, 111, 111, 116, 32, 108, 111, 111, 112, 46, 101, 120, 97, 109, 112, 108, 101, 47, 103, 48, 49, 50, 50, 52, 47, 108, 97, 119, 115, 46, 70, 110, 69, 120, 97, 99, 116, 83, 104, 105, 102, 116, 77, 97, 115, 115, 101, 115, 32, 108, 111, 111, 112, 46, 101, 120, 97, 109, 112, 108, 101, 47, 103, 48, 49, 50, 50, 52, 47, 108, 97, 119, 115, 46, 70, 110, 69, 120, 97, 99, 116, 71, 97, 105, 110, 115, 65, 116, 32, 108, 111, 111, 112, 46, 101, 120, 97, 109, 112, 108, 101, 47, 103, 48, 49, 50, 50, 52, 47, 108, 97, 119, 115, 46, 70, 110, 69, 120, 97, 99, 116, 71, 114, 111, 119, 79, 110, 99, 101, 32, 108, 111, 111, 112, 46, 101, 120, 97, 109, 112, 108, 101, 47, 103, 48, 49, 50, 50, 52, 47, 108, 97, 119, 115, 46, 70, 110, 69, 120, 97, 99, 116, 71, 114, 111, 119, 83, 116, 101, 112, 115, 32, 108, 111, 111, 112, 46, 101, 120, 97, 109, 112, 108, 101, 47, 103, 48, 49, 50, 50, 52, 47, 108, 97, 119, 115, 46, 70, 110, 69, 120, 97, 99, 116, 83, 116, 101, 112, 115, 84, 111, 68, 114, 121, 32, 108, 111, 111, 112, 46, 101, 120, 97, 109, 112, 108, 101, 47, 103, 48, 49, 50, 50, 52, 47, 108, 97, 119, 115, 46, 70, 110, 69, 120, 97, 99, 116, 86, 97, 108, 105, 100, 75, 101, 114, 110, 101, 108, 32, 108, 111, 111, 112, 46, 101, 120, 97, 109, 112, 108, 101, 47, 103, 48, 49, 50, 50, 52, 47, 108, 97, 119, 115, 46, 70, 110, 69, 120, 97, 99, 116, 83, 97, 109, 101, 75, 101, 114, 110, 101, 108, 32, 108, 111, 111, 112, 46, 101, 120, 97, 109, 112, 108, 101, 47, 103, 48, 49, 50, 50, 52, 47, 108, 97, 119, 115, 46, 70, 110, 69, 120, 97, 99, 116, 70, 97, 108, 108, 79, 102, 32, 108, 111, 111, 112, 46, 101, 120, 97, 109, 112, 108, 101, 47, 103, 48, 49, 50, 50, 52, 47, 108, 97, 119, 115, 46, 70, 110, 69, 120, 97, 99, 116, 70, 108, 97, 116, 75, 101, 114, 110, 101, 108, 32, 108, 111, 111, 112, 46, 101, 120, 97, 109, 112, 108, 101, 47, 103, 48, 49, 50, 50, 52, 47, 108, 97, 119, 115, 46, 70, 110, 69, 120, 97, 99, 116, 83, 117, 109, 75, 101, 114, 110, 101, 108, 32, 108, 111, 111, 112, 46, 101, 120, 97, 109, 112, 108, 101, 47, 103, 48, 49, 50, 50, 52, 47, 108, 97, 119, 115, 46, 70, 110, 69, 120, 97, 99, 116, 70, 97, 108, 108, 75, 101, 114, 110, 101, 108, 32, 108, 111, 111, 112, 46, 101, 120, 97, 109, 112, 108, 101, 47, 103, 48, 49, 50, 50, 52, 47, 108, 97, 119, 115, 46, 70, 110, 69, 120, 97, 99, 116, 65, 100, 100, 75, 101, 114, 110, 101, 108, 115, 32, 108, 111, 111, 112, 46, 101, 120, 97, 109, 112, 108, 101, 47, 103, 48, 49, 50, 50, 52, 47, 108, 97, 119, 115, 46, 70, 110, 69, 120, 97, 99, 116, 83, 99, 97, 108, 101, 75, 101, 114, 110, 101, 108, 32, 108, 111, 111, 112, 46, 101, 120, 97, 109, 112, 108, 101, 47, 103, 48, 49, 50, 50, 52, 47, 108, 97, 119, 115, 46, 70, 110, 69, 120, 97, 99, 116, 69, 118, 101, 110, 116, 115, 79, 102, 32, 108, 111, 111, 112, 46, 101, 120, 97, 109, 112, 108, 101, 47, 103, 48, 49, 50, 50, 52, 47, 108, 97, 119, 115, 46, 70, 110, 69, 120, 97, 99, 116, 76, 111, 115, 115, 101, 115, 79, 102, 32, 108, 111, 111, 112, 46, 101, 120, 97, 109, 112, 108, 101, 47, 103, 48, 49, 50, 50, 52, 47, 108, 97, 119, 115, 46, 70, 110, 69, 120, 97, 99, 116, 67, 111, 108, 108, 105, 100, 101, 32, 108, 111, 111, 112, 46, 101, 120, 97, 109, 112, 108, 101, 47, 103, 48, 49, 50, 50, 52, 47, 108, 97, 119, 115, 46, 70, 110, 69, 120, 97, 99, 116, 67, 111, 108, 108, 105, 100, 101, 83, 116, 101, 112, 115, 32, 108, 111, 111, 112, 46, 101, 120, 97, 109, 112, 108, 101, 47, 103, 48, 49, 50, 50, 52, 47, 108, 97, 119, 115, 46, 70, 110, 69, 120, 97, 99, 116, 82, 97, 105, 110, 77, 97, 100, 101, 32, 108, 111, 111, 112, 46, 101, 120, 97, 109, 112, 108, 101, 47, 103, 48, 49, 50, 50, 52, 47, 108, 97, 119, 115, 46, 70, 110, 69, 120, 97, 99, 116, 66, 114, 101, 97, 107, 67, 108, 97, 115, 115, 32, 108, 111, 111, 112, 46, 101, 120, 97, 109, 112, 108, 101, 47, 103, 48, 49, 50, 50, 52, 47, 108, 97, 119, 115, 46, 70, 110, 69, 120, 97, 99, 116, 66, 114, 101, 97, 107, 76, 97, 114, 103, 101, 32, 108, 111, 111, 112, 46, 101, 120, 97, 109, 112, 108, 101, 47, 103, 48, 49, 50, 50, 52, 47, 108, 97, 119, 115, 46, 70, 110, 69, 120, 97, 99, 116, 86, 97, 108, 105, 100, 66, 111, 120, 32, 108, 111, 111, 112, 46, 101, 120, 97, 109, 112, 108, 101, 47, 103, 48, 49, 50, 50, 52, 47, 108, 97, 119, 115, 46, 70, 110, 69, 120, 97, 99, 116, 77, 97, 115, 115, 79, 102, 66, 111, 120, 32, 108, 111, 111, 112, 46, 101, 120, 97, 109, 112, 108, 101, 47, 103, 48, 49, 50, 50, 52, 47, 108, 97, 119, 115, 46, 70, 110, 69, 120, 97, 99, 116, 83, 105, 122, 101, 115, 79, 102, 66, 111, 120, 32, 108, 111, 111, 112, 46, 101, 120, 97, 109, 112, 108, 101, 47, 103, 48, 49, 50, 50, 52, 47, 108, 97, 119, 115, 46, 70, 110, 69, 120, 97, 99, 116, 67, 111, 108, 108, 105, 100, 101, 80, 97, 105, 114, 32, 108, 111, 111, 112, 46, 101, 120, 97, 109, 112, 108, 101, 47, 103, 48, 49, 50, 50, 52, 47, 108, 97, 119, 115, 46, 70, 110, 69, 120, 97, 99, 116, 67, 111, 108, 108, 105, 100, 101, 80, 97, 105, 114, 115, 32, 108, 111, 111, 112, 46, 101, 120, 97, 109, 112, 108, 101, 47, 103, 48, 49, 50, 50, 52, 47, 108, 97, 119, 115, 46, 70, 110, 69, 120, 97, 99, 116, 68, 114, 97, 119, 80, 97, 105, 114, 115, 32, 108, 111, 111, 112, 46, 101, 120, 97, 109, 112, 108, 101, 47, 103, 48, 49, 50, 50, 52, 47, 108, 97, 119, 115, 46, 70, 110, 69, 120, 97, 99, 116, 71, 97, 116, 104, 101, 114, 68, 117, 115, 116]

def letters (l : List Nat) : List Char := l.map Char.ofNat

theorem head_reads : Try.prog.initOrder = String.ofList (letters w0 ++ Char.ofNat 32 :: (letters w1 ++ Char.ofNat 32 :: (letters w2 ++ Char.ofNat 32 :: letters w3))) := by kernel_rfl

theorem no_blank {l : List Nat} (h : l.all (fun n => Char.ofNat n != Char.ofNat 32) = true) : ∀ c ∈ letters l, c ≠ Char.ofNat 32 := by
  intro c hc
  obtain ⟨n, hn, rfl⟩ := List.mem_map.1 hc
  have := List.all_eq_true.1 h n hn
  simpa using this

theorem h0 : letters w0 = "harness".toList := by kernel_rfl

theorem h2 : letters w2 = "cut".toList := by kernel_rfl

theorem sums : isSumSigns (letters w1) = true := by kernel_rfl

theorem words : wordsSigns Try.prog.initOrder.toList = "harness".toList :: letters w1 :: "cut".toList :: wordsSigns (letters w3) := by
  rw [head_reads, String.toList_ofList, words_cons _ _ (no_blank (by decide +kernel)), words_cons _ _ (no_blank (by decide +kernel)), words_cons _ _ (no_blank (by decide +kernel)), h0, h2]

theorem behind : ∃ r, behindMainWord (wordsSigns Try.prog.initOrder.toList) = "cut".toList :: r := by
  refine ⟨wordsSigns (letters w3), ?_⟩
  rw [words]
  generalize wordsSigns (letters w3) = r
  have hs := sums
  generalize letters w1 = v at hs
  unfold behindMainWord
  simp [hs]

theorem not_later : Try.prog.laysLater = false := by kernel_rfl

theorem no_reflect : Try.prog.bearsReflect = false := by kernel_rfl

theorem no_doors : Try.prog.doorFits [] = true := by kernel_rfl

theorem strips (r : List (List Char)) : stripLifts liftWords ("cut".toList :: r) = ([], "cut".toList :: r) := by kernel_rfl

theorem may_enter_of (P : Program) (r : List (List Char)) (h : behindMainWord (wordsSigns P.initOrder.toList) = "cut".toList :: r) (h1 : P.laysLater = false) (h2 : P.bearsReflect = false) (h3 : P.doorFits [] = true) : P.mayEnter = true := by
  unfold Program.mayEnter
  rw [h]
  dsimp only
  rw [strips, h1, h2, h3]
  kernel_rfl

theorem lifts_final_of (P : Program) (r : List (List Char)) (h : behindMainWord (wordsSigns P.initOrder.toList) = "cut".toList :: r) : P.liftsFinal = false := by
  unfold Program.liftsFinal Program.headLifts
  rw [h]
  dsimp only
  rw [strips]
  kernel_rfl

theorem made_of (P : Program) (r : List (List Char)) (h : behindMainWord (wordsSigns P.initOrder.toList) = "cut".toList :: r) : P.make = some .cut := by
  unfold Program.make
  rw [h]
  kernel_rfl

theorem may_enter : Try.prog.mayEnter = true := let ⟨r, h⟩ := behind; may_enter_of _ r h not_later no_reflect no_doors

theorem lifts_final : Try.prog.liftsFinal = false := let ⟨r, h⟩ := behind; lifts_final_of _ r h

theorem made : Try.prog.make = some .cut := let ⟨r, h⟩ := behind; made_of _ r h

theorem laid : laidOutB Try.prog = true := by kernel_rfl

theorem rowed : mapsRowed Try.prog = true := by kernel_rfl

theorem no_stops : Try.prog.stops = [] := by kernel_rfl

theorem no_knobs : Try.prog.stopKnobs = [] := by kernel_rfl

theorem plain_keys : Try.prog.plainKeys = false := by kernel_rfl

theorem stops_heard : Try.prog.stopsHeard = true := by kernel_rfl

theorem arr1 {α : Type} {cs : Array α} (h : cs.size = 1) : ∃ c0, cs = #[c0] := by
  obtain ⟨l⟩ := cs
  match l, h with
  | [a], _ => exact ⟨a, rfl⟩

theorem own : ownKnob Try.prog.godebug = none := by kernel_rfl

theorem rdf : Try.prog.readableRec 22 = true ∧ 22 < Try.prog.types.size := ⟨by kernel_rfl, of_decide_eq_true (by kernel_rfl)⟩
end Go.Proofs.Ytnnhoololemaaaa

namespace Go.Proofs.Ytnnhoololemaaaa.fnExactFallKernel
open Go.RowKit Go.Fl Go.ChangeShapes Go.WideShapes Go.ChangeAt

theorem closed : joinedFacts Try.prog 14 Try.f14 Rows.fnExactFallKernelSpec Rows.fnExactFallKernelRow = true := by
  unfold joinedFacts
  simp only [Bool.and_eq_true]
  exact ⟨⟨⟨⟨⟨⟨⟨⟨⟨⟨⟨⟨⟨⟨⟨⟨⟨⟨⟨⟨⟨⟨⟨⟨⟨⟨⟨⟨⟨⟨⟨(by as_aux_lemma => kernel_rfl),
    laid⟩,
    rowed⟩,
    (by as_aux_lemma => kernel_rfl)⟩,
    (by as_aux_lemma => kernel_rfl)⟩,
    (by as_aux_lemma => kernel_rfl)⟩,
    (by rw [no_stops]; rfl)⟩,
    (by as_aux_lemma => kernel_rfl)⟩,
    (by rw [no_knobs]; rfl)⟩,
    (by as_aux_lemma => kernel_rfl)⟩,
    (by as_aux_lemma => kernel_rfl)⟩,
    (by as_aux_lemma => kernel_rfl)⟩,
    (by as_aux_lemma => kernel_rfl)⟩,
    (by as_aux_lemma => kernel_rfl)⟩,
    (by as_aux_lemma => kernel_rfl)⟩,
    (by as_aux_lemma => kernel_rfl)⟩,
    (by as_aux_lemma => kernel_rfl)⟩,
    (by as_aux_lemma => kernel_rfl)⟩,
    (by as_aux_lemma => kernel_rfl)⟩,
    (by as_aux_lemma => kernel_rfl)⟩,
    (by as_aux_lemma => kernel_rfl)⟩,
    (by as_aux_lemma => kernel_rfl)⟩,
    (show (Rows.fnExactFallKernelRow.plainKeys == Try.prog.plainKeys) = true by rw [plain_keys]; rfl)⟩,
    (by as_aux_lemma => kernel_rfl)⟩,
    stops_heard⟩,
    may_enter⟩,
    (show (Rows.fnExactFallKernelRow.lifted == Try.prog.liftsFinal) = true by rw [lifts_final]; rfl)⟩,
    (show (Try.prog.make == some Rows.fnExactFallKernelRow.make) = true by rw [made]; rfl)⟩,
    (by as_aux_lemma => kernel_rfl)⟩,
    (by as_aux_lemma => kernel_rfl)⟩,
    (by as_aux_lemma => kernel_rfl)⟩,
    (by as_aux_lemma => kernel_rfl)⟩

set_option maxRecDepth 100000 in
theorem lifted (os : Os) (started : os.Started) (H : Type) (enc : TypeId × Value → H) :
    ReturnsInHanded {} Try.checked os 14 .any (Rows.fnExactFallKernelSpec.pre6 enc Try.prog Try.f14 Rows.fnExactFallKernelRow.domain false) (Rows.fnExactFallKernelSpec.post enc Try.prog Try.f14 false true false false) := by
  refine LawFrame.lifted (C := Try.checked) (fn := Try.f14) (n := 1) (tb := 4) started own (by kernel_rfl) Try.func14 laid ?_ rfl rfl ?_ rfl Try.underlying4
    (ChangeSpec.witness6 (enc := enc) (C := Try.checked) false ⟨#[], #[.float .f32 0], []⟩ 8 (by kernel_rfl) (by kernel_rfl) (by kernel_rfl) (by kernel_rfl)) ?_
  · intro t ht
    simp only [Try.params14, List.mem_cons, List.not_mem_nil, or_false] at ht
    subst ht; exact rdf
  · intro ds hd
    match ds, hd with
    | [_], _ => rfl
  · intro W base args ds ps hval hn _
    obtain ⟨v0, rfl⟩ : ∃ v0, args = #[v0] := arr1 hn
    obtain ⟨c0, rfl, hb0⟩ := open_f32 Try.underlying22 (hval 0 22 v0 rfl rfl)
    exact lawFallKernel c0 hb0 W

theorem over : Rows.fnExactFallKernelRow.holds Try.pinned (OpenSpec.ofChange Rows.fnExactFallKernelSpec) :=
  OpenClaim.holds_of_wide 14 Try.f14 rfl rfl rfl rfl rfl rfl rfl ⟨rfl, rfl, rfl, rfl, rfl⟩ rfl rfl rfl rfl rfl (by kernel_rfl) Try.func14 closed
    (of_decide_eq_true (by kernel_rfl)) (by unfold Func.isWrapper; rw [if_neg (by decide +kernel)]; exact ⟨rfl, rfl⟩)
    (fun os started H enc _ => lifted os started H enc)

theorem proved : Rows.FnExactFallKernelSaid := over
#print axioms proved
end Go.Proofs.Ytnnhoololemaaaa.fnExactFallKernel
