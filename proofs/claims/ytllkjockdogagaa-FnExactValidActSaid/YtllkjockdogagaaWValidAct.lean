import Derived.Test.YtllkjockdogagaaCValidAct
import Derived.Test.YtllkjockdogagaaChecked
import Derived.Test.YtllkjockdogagaaRows
import Derived.Laws.FloatArith
import Derived.ProofKit
import Derived.WalkKit
import Derived.WalkLawsBesides
import Derived.WalkSpells
import Derived.Deep.QuietTactic
import Derived.BigQuiet
import Derived.Deep.RegionHeld3
import Derived.ChangeKeysEq
import Derived.Laws.BitsAllLaws
import Derived.Deep.MidRow
import Derived.Deep.WholeRow
import Derived.StillTailTactics
import Derived.Deep.Slices
import Derived.ChangeSame
import Derived.OrdersIn
import Derived.ControlIn
import Derived.RangeFuncSeq
import Derived.RangeFuncNested
import Derived.ArgAppend
import Derived.OwnWalkIn
import Derived.TacticsInMore
import Derived.Laws.ComplexArith
import Derived.Lib.Bytealg
import Derived.OpenShut
/- The law FnExactValidAct of chapter 1: at every argument the call returns true, and what was there before it is as it was. -/
namespace Go.Proofs.Ytllkjockdogagaa
open Go.RowKit Go.Fl

@[go_sem] theorem ext_f64bits (y : Nat) (w : World) : (callFunc 217 #[.float .f64 y]).run Try.prog w = .ok (.value (.int .u64 y)) w := by
  rw [run_callFunc_extern Try.func217 (by kernel_rfl) (by kernel_rfl) (by kernel_rfl) (e := Extern.MathFloatBits.float64bits) (by kernel_rfl)]
  rfl

@[go_sem] theorem ext_f64from (n : Int) (w : World) : (callFunc 187 #[.int .u64 n]).run Try.prog w = .ok (.value (.float .f64 n.toNat)) w := by
  rw [run_callFunc_extern Try.func187 (by kernel_rfl) (by kernel_rfl) (by kernel_rfl) (e := Extern.MathFloatBits.float64frombits) (by kernel_rfl)]
  rfl

theorem hid {p : Prop} (h : p) : Hid p := h

theorem clear_sign (y : Nat) (h : y < 18446744073709551616) : (bits BinOp.andNot IntKind.u64 (y : Int) 9223372036854775808).toNat = y % 9223372036854775808 := by
  rw [u64_andNot _ _ (by omega) (by omega) (by omega) (by omega)]
  rw [Int.toNat_natCast, Int.toNat_natCast]
  exact Nat.and_two_pow_sub_one_eq_mod y 63

theorem abs_f64 (y : Nat) (h : y < 18446744073709551616) (w : World) :
    Calls Try.prog 224 #[.float .f64 y] w fun e w' => e = .returned (.float .f64 (y % 9223372036854775808)) ∧ w = w' := by
  have hc := hid (clear_sign y h)
  clear h
  go_enter Try.func224, Try.ntmps224
  go_wp2
  go_ret
  exact ⟨by simp [hc.out], rfl⟩

theorem isNaN_f64 (y : Nat) (w : World) :
    Calls Try.prog 185 #[.float .f64 y] w fun e w' => e = .returned (.bool (FloatKind.f64.format.order y y != some .eq)) ∧ w = w' := by
  go_enter Try.func185, Try.ntmps185
  go_wp2
  go_ret
  exact ⟨rfl, rfl⟩

theorem isInf_f64 (y : Nat) (h : y < 18446744073709551616) (w : World) :
    Calls Try.prog 186 #[.float .f64 y, .int .i64 0] w fun e w' => e = .returned (.bool (FloatKind.f64.format.order (y % 9223372036854775808) 9218868437227405311 == some .gt)) ∧ w = w' := by
  have hc := hid h
  clear h
  go_enter Try.func186, Try.ntmps186
  go_wp2_with (go_at_call 224; refine (abs_f64 y hc.out _).mono ?_; rintro e w' ⟨rfl, rfl⟩)
  go_ret
  exact ⟨rfl, rfl⟩

theorem isFinite_t (x : Nat) (hx : x < 4294967296) (h : finB x = true) (w : World) :
    Calls Try.prog 115 #[.float .f32 x] w fun e w' => e = .returned (.bool true) ∧ w = w' := by
  rw [finB_iff] at h
  have hc := fun w => run_conv_wid (P := Try.prog) w 22 53 x hx Try.underlying22 Try.underlying53 h
  obtain ⟨a, b, m, e, hr⟩ := read_wid_fin hx h
  have hn : (FloatKind.f64.format.order (wid x) (wid x) != some .eq) = false := by
    show (D.order (wid x) (wid x) != some .eq) = false
    rw [order_self hr]; rfl
  have hi : (FloatKind.f64.format.order (wid x % 9223372036854775808) 9218868437227405311 == some .gt) = false := by
    show (D.order (wid x % 9223372036854775808) 9218868437227405311 == some .gt) = false
    rw [b, order_ltD a (by decide)]
    rw [DINF_val] at a
    have hle : wid (mg x) ≤ 9218868437227405311 := by omega
    rcases Nat.lt_or_eq_of_le hle with h' | h'
    · rw [Nat.compare_eq_lt.2 h']; rfl
    · rw [Nat.compare_eq_eq.2 h']; rfl
  have hw : wid x < 18446744073709551616 := D.write_lt _
  have Hn := hid hn
  have Hi := hid hi
  have Hw := hid hw
  clear hn hi hw hr a b h hx
  go_enter Try.func115, Try.ntmps115
  go_wp2_with (first | (go_at_call 185; refine (isNaN_f64 (wid x) _).mono ?_; rintro e w' ⟨rfl, rfl⟩; rw [Hn.out]) | (go_at_call 186; refine (isInf_f64 (wid x) Hw.out _).mono ?_; rintro e w' ⟨rfl, rfl⟩; rw [Hi.out]))
  go_ret
  exact ⟨rfl, rfl⟩

theorem isFinite_f (x : Nat) (hx : x < 4294967296) (h : finB x = false) (w : World) :
    Calls Try.prog 115 #[.float .f32 x] w fun e w' => e = .returned (.bool false) ∧ Below w.heap.size w w' := by
  rw [finB_iff'] at h
  rcases Nat.lt_or_eq_of_le h with h | h
  · obtain ⟨z, hc, h1, _⟩ := run_conv_nan (P := Try.prog) w 22 53 x Try.underlying22 Try.underlying53 h
    obtain ⟨s, t, hr⟩ := read_nanD h1
    have Hn := hid (show (FloatKind.f64.format.order z z != some .eq) = true by
      show (D.order z z != some .eq) = true
      rw [order_nan hr]; rfl)
    clear h h1 hr hx
    go_enter Try.func115, Try.ntmps115
    go_wp2_with (go_at_call 185; refine (isNaN_f64 z _).mono ?_; rintro e w' ⟨rfl, rfl⟩; rw [Hn.out])
    go_ret
    exact ⟨rfl, (Below.refl _ _).drew⟩
  · obtain ⟨z, hc, h1, h2⟩ := run_conv_inf (P := Try.prog) w 22 53 x hx Try.underlying22 Try.underlying53 h.symm
    have hr : D.read z = .infinity (decide (9223372036854775808 ≤ z)) := by rw [read_signD h2, h1, read_DINF]
    have Hn := hid (show (FloatKind.f64.format.order z z != some .eq) = false by
      show (D.order z z != some .eq) = false
      rw [order_inf hr]; rfl)
    have Hi := hid (show (FloatKind.f64.format.order (z % 9223372036854775808) 9218868437227405311 == some .gt) = true by
      rw [h1]; decide)
    have H2 := hid h2
    clear h h1 hr hx h2
    go_enter Try.func115, Try.ntmps115
    go_wp2_with (first | (go_at_call 185; refine (isNaN_f64 z _).mono ?_; rintro e w' ⟨rfl, rfl⟩; rw [Hn.out]) | (go_at_call 186; refine (isInf_f64 z H2.out _).mono ?_; rintro e w' ⟨rfl, rfl⟩; rw [Hi.out]))
    go_ret
    exact ⟨rfl, Below.refl _ _⟩

theorem signbit_f64 (y : Nat) (w : World) :
    Calls Try.prog 160 #[.float .f64 y] w fun e w' => e = .returned (.bool (decide (wrap64 (y : Int) < 0))) ∧ w = w' := by
  go_enter Try.func160, Try.ntmps160
  go_wp2
  go_ret
  exact ⟨rfl, rfl⟩

theorem and_sign (y : Nat) (h : y < 18446744073709551616) : (decide (wrap64 (y : Int) < 0)) = decide (9223372036854775808 ≤ y) := by
  unfold wrap64
  by_cases h' : 9223372036854775808 ≤ y
  · rw [decide_eq_true h']; simp; omega
  · rw [decide_eq_false h']; simp; omega

theorem isAmount_t (x : Nat) (h : amtB x = true) (w : World) :
    Calls Try.prog 87 #[.float .f32 x] w fun e w' => e = .returned (.bool true) ∧ w = w' := by
  have hf := amt_fin h
  rw [amtB_iff, INF_val] at h
  have hx : x < 4294967296 := by omega
  have hc := fun w => run_conv_wid (P := Try.prog) w 22 53 x hx Try.underlying22 Try.underlying53 (finB_iff.1 hf)
  have hw : wid x < 18446744073709551616 := D.write_lt _
  have Hs := hid (show (decide (wrap64 (wid x : Int) < 0)) = false by
    rw [and_sign _ hw]
    have := (wid_val (x := x) (by rw [INF_val]; omega)).1
    rw [DINF_val] at this
    simp; omega)
  have Hx := hid hx
  have Hf := hid hf
  clear h hf hx hw
  go_enter Try.func87, Try.ntmps87
  go_wp2_with (first | (go_at_call 115; refine (isFinite_t x Hx.out Hf.out _).mono ?_; rintro e w' ⟨rfl, rfl⟩) | (go_at_call 160; refine (signbit_f64 (wid x) _).mono ?_; rintro e w' ⟨rfl, rfl⟩; rw [Hs.out]))
  go_ret
  exact ⟨rfl, rfl⟩

theorem isAmount_f (x : Nat) (hx : x < 4294967296) (h : amtB x = false) (w : World) :
    Calls Try.prog 87 #[.float .f32 x] w fun e w' => e = .returned (.bool false) ∧ Below w.heap.size w w' := by
  rcases hf : finB x with _ | _
  · have Hx := hid hx
    have Hf := hid hf
    clear h hf hx
    go_enter Try.func87, Try.ntmps87
    go_wp2_with (go_at_call 115; refine (isFinite_f x Hx.out Hf.out _).mono ?_; rintro e w' ⟨rfl, hb⟩)
    go_ret
    exact ⟨rfl, hb⟩
  · have hc := fun w => run_conv_wid (P := Try.prog) w 22 53 x hx Try.underlying22 Try.underlying53 (finB_iff.1 hf)
    have hw : wid x < 18446744073709551616 := D.write_lt _
    have Hs := hid (show (decide (wrap64 (wid x : Int) < 0)) = true by
      rw [and_sign _ hw, wid_fin hx (finB_iff.1 hf)]
      rw [amtB_iff', INF_val] at h
      rw [finB_iff, INF_val] at hf
      unfold mg at hf ⊢
      rw [if_pos (by omega)]
      simp)
    have Hx := hid hx
    have Hf := hid hf
    clear h hf hx hw
    go_enter Try.func87, Try.ntmps87
    go_wp2_with (first | (go_at_call 115; refine (isFinite_t x Hx.out Hf.out _).mono ?_; rintro e w' ⟨rfl, rfl⟩) | (go_at_call 160; refine (signbit_f64 (wid x) _).mono ?_; rintro e w' ⟨rfl, rfl⟩; rw [Hs.out]))
    go_ret
    exact ⟨rfl, Below.refl _ _⟩

@[go_sem] theorem ext_f32bits (y : Nat) (w : World) : (callFunc 195 #[.float .f32 y]).run Try.prog w = .ok (.value (.int .u32 y)) w := by
  rw [run_callFunc_extern Try.func195 (by kernel_rfl) (by kernel_rfl) (by kernel_rfl) (e := Extern.MathFloatBits.float32bits) (by kernel_rfl)]
  rfl

theorem sFinite_t (x : Nat) (hx : x < 4294967296) (h : finB x = true) (w : World) :
    Calls Try.prog 107 #[.float .f32 x] w fun e w' => e = .returned (.bool true) ∧ w = w' := by
  have hr := fun w => run_float_arith (P := Try.prog) w .sub 22 .f32 x x 0 (sub_self_fin hx h)
  clear h hx
  go_enter Try.func107, Try.ntmps107
  go_wp2
  go_ret
  exact ⟨rfl, rfl⟩

theorem sFinite_f (x : Nat) (hx : x < 4294967296) (h : finB x = false) (w : World) :
    Calls Try.prog 107 #[.float .f32 x] w fun e w' => e = .returned (.bool false) ∧ Below w.heap.size w w' := by
  obtain ⟨z, hr, h1, _⟩ := run_arith_nan (P := Try.prog) w .sub (by simp) 22 x x (sub_self_none hx h)
  have Hn := hid (show (FloatKind.f32.format.order z 0 == some .eq) = false by
    show (S.order z 0 == some .eq) = false
    rw [order_nan32 h1]; rfl)
  clear h hx h1
  go_enter Try.func107, Try.ntmps107
  go_wp2
  go_ret
  exact ⟨by simp [Hn.out], (Below.refl _ _).drew⟩

theorem l00In_t (n a b : Int) (h1 : a ≤ n) (h2 : n ≤ b) (w : World) :
    Calls Try.prog 132 #[.int .i64 n, .int .i64 a, .int .i64 b] w fun e w' => e = .returned (.bool true) ∧ w = w' := by
  go_enter Try.func132, Try.ntmps132
  go_wp2
  go_ret
  exact ⟨by first | rfl | (simp; done) | (simp; omega), rfl⟩

theorem l00In_f (n a b : Int) (hn : ¬ (a ≤ n ∧ n ≤ b)) (w : World) :
    Calls Try.prog 132 #[.int .i64 n, .int .i64 a, .int .i64 b] w fun e w' => e = .returned (.bool false) ∧ w = w' := by
  by_cases h0 : a ≤ n
  · have h3 : b < n := by omega
    clear hn
    go_enter Try.func132, Try.ntmps132
    go_wp2
    go_ret
    exact ⟨by first | rfl | (simp; done) | (simp; omega), rfl⟩
  · have h3 : n < a := by omega
    have h4 : decide (a ≤ n) = false := by simp; omega
    clear hn h0
    go_enter Try.func132, Try.ntmps132
    go_wp2
    go_ret
    exact ⟨by simp, rfl⟩

def plB (x : Nat) : Bool := finB x && decide (x ≠ 2147483648)

theorem ne0_pl {x : Nat} (hx : x < 4294967296) (hf : finB x = true) (h0 : x ≠ 0) (h1 : x ≠ 2147483648) : (FloatKind.f32.format.order x 0 != some .eq) = true := by
  have hw : FW x := ⟨hx, finB_iff.1 hf⟩
  have h0' : FW 0 := ⟨by decide, by decide⟩
  show (S.order x 0 != some .eq) = true
  have hv : sv x ≠ 0 := by
    have hm : mg x ≠ 0 := by unfold mg; omega
    have := val_lt (x := 0) (y := mg x) (by omega)
    unfold sv
    split <;> omega
  rw [order_sv hw h0', show sv 0 = 0 by decide]
  rcases Int.lt_trichotomy (sv x) 0 with h | h | h
  · rw [Int.compare_eq_lt.2 h]; rfl
  · exact absurd h hv
  · rw [Int.compare_eq_gt.2 h]; rfl

theorem iPlain (x : Nat) (hx : x < 4294967296) (w : World) : Calls Try.prog 110 #[.float .f32 x] w fun e w' => e = .returned (.bool (plB x)) ∧ Below w.heap.size w w' := by
  have HX := hid hx
  rcases hf : finB x with _ | _
  · have e : plB x = false := by unfold plB; rw [hf]; rfl
    rw [e]
    have HF := hid hf
    clear hx hf e
    go_enter Try.func110, Try.ntmps110
    go_wp2_with fail
    refine (isFinite_f x HX.out HF.out _).mono ?_
    rintro e u ⟨rfl, b⟩
    go_wp2
    go_ret
    exact ⟨rfl, b⟩
  · by_cases h0 : x = 0
    · subst h0
      have h := show (FloatKind.f32.format.order 0 0 != some .eq) = false by decide
      have e : plB 0 = true := by decide
      rw [e]
      clear hx hf e
      go_enter Try.func110, Try.ntmps110
      go_wp2_with fail
      refine (isFinite_t 0 (by decide) (by decide) _).mono ?_
      rintro e u ⟨rfl, rfl⟩
      go_wp2_with fail
      refine (isAmount_t 0 (by decide) _).mono ?_
      rintro e u ⟨rfl, rfl⟩
      go_wp2
      go_ret
      exact ⟨rfl, Below.refl _ _⟩
    · by_cases h1 : x = 2147483648
      · subst h1
        have h := show (FloatKind.f32.format.order 2147483648 0 != some .eq) = false by decide
        have e : plB 2147483648 = false := by decide
        rw [e]
        clear hx hf e
        go_enter Try.func110, Try.ntmps110
        go_wp2_with fail
        refine (isFinite_t 2147483648 (by decide) (by decide) _).mono ?_
        rintro e u ⟨rfl, rfl⟩
        go_wp2_with fail
        refine (isAmount_f 2147483648 (by decide) (by decide) _).mono ?_
        rintro e u ⟨rfl, b⟩
        go_wp2
        go_ret
        exact ⟨rfl, b⟩
      · have h := ne0_pl hx hf h0 h1
        have e : plB x = true := by unfold plB; rw [hf, decide_eq_true h1]; rfl
        rw [e]
        have HF := hid hf
        clear hx hf e
        go_enter Try.func110, Try.ntmps110
        go_wp2_with fail
        refine (isFinite_t x HX.out HF.out _).mono ?_
        rintro e u ⟨rfl, rfl⟩
        go_wp2
        go_ret
        exact ⟨rfl, Below.refl _ _⟩

theorem sPlain (x : Nat) (hx : x < 4294967296) (w : World) : Calls Try.prog 180 #[.float .f32 x] w fun e w' => e = .returned (.bool (plB x)) ∧ Below w.heap.size w w' := by
  have HX := hid hx
  rcases hf : finB x with _ | _
  · have e : plB x = false := by unfold plB; rw [hf]; rfl
    rw [e]
    have HF := hid hf
    clear hx hf e
    go_enter Try.func180, Try.ntmps180
    go_wp2_with fail
    refine (sFinite_f x HX.out HF.out _).mono ?_
    rintro e u ⟨rfl, b⟩
    go_wp2
    go_ret
    exact ⟨rfl, b⟩
  · have HF := hid hf
    have e : plB x = !((x : Int) == 2147483648) := by
      unfold plB
      rw [hf, Bool.true_and]
      by_cases h : x = 2147483648
      · subst h; decide
      · rw [decide_eq_true h]
        have : ((x : Int) == 2147483648) = false := by rw [beq_eq_false_iff_ne]; omega
        rw [this]; rfl
    rw [e]
    clear hx hf e
    go_enter Try.func180, Try.ntmps180
    go_wp2_with fail
    refine (sFinite_t x HX.out HF.out _).mono ?_
    rintro e u ⟨rfl, rfl⟩
    go_wp2
    go_ret
    exact ⟨by first | rfl | simp [bne], Below.refl _ _⟩

theorem ext_trunc (X K : Nat) (h : D.write ((D.read X).integral .zero) = K) (hn : ∃ s m e, D.read X = .number s m e) (w : World) : (callFunc 222 #[.float .f64 X]).run Try.prog w = .ok (.value (.float .f64 K)) w := by
  rw [run_callFunc_extern Try.func222 (by kernel_rfl) (by kernel_rfl) (by kernel_rfl) (e := Extern.MathFloor.toIntegral "math.archTrunc" .zero) (by kernel_rfl)]
  obtain ⟨s, m, e, hr⟩ := hn
  have hr' : FloatKind.f64.decode X = .number s m e := hr
  rw [hr] at h
  have h' : FloatKind.f64.encode ((Ieee.Datum.number s m e).integral .zero) = K := h
  have e2 : (Extern.MathFloor.toIntegral "math.archTrunc" .zero #[.float .f64 X]).run Try.prog w = .ok (.float .f64 K) w := by
    rw [← h']
    show Sem.run _ (match FloatKind.f64.decode X with | .nan _ _ => _ | d => (pure (Value.float .f64 (FloatKind.f64.encode (d.integral .zero))) : Sem Value)) w = _
    rw [hr']
    rfl
  rw [e2]
  rfl

theorem trunc_f64 (X K : Nat) (h : D.write ((D.read X).integral .zero) = K) (hn : ∃ s m e, D.read X = .number s m e) (w : World) :
    Calls Try.prog 183 #[.float .f64 X] w fun e w' => e = .returned (.float .f64 K) ∧ w = w' := by
  have hx := fun w => ext_trunc X K h hn w
  clear h hn
  go_enter Try.func183, Try.ntmps183
  go_wp2
  go_ret
  exact ⟨rfl, rfl⟩

def whB (x : Nat) : Bool := D.order (D.write ((D.read (wid x)).integral .zero)) (wid x) == some .eq

theorem iWhole (x : Nat) (hx : x < 4294967296) (hf : finB x = true) (w : World) : Calls Try.prog 113 #[.float .f32 x] w fun e w' => e = .returned (.bool (whB x)) ∧ w = w' := by
  have hc := fun w => run_conv_wid (P := Try.prog) w 22 53 x hx Try.underlying22 Try.underlying53 (finB_iff.1 hf)
  obtain ⟨_, _, m, e, hr⟩ := read_wid_fin hx (finB_iff.1 hf)
  have HT := hid (fun w => trunc_f64 (wid x) _ rfl ⟨_, _, _, hr⟩ w)
  have ho : (FloatKind.f64.format.order (D.write ((D.read (wid x)).integral .zero)) (wid x) == some .eq) = whB x := rfl
  clear hx hf hr
  generalize D.write ((D.read (wid x)).integral .zero) = K at HT ho
  generalize whB x = r at ho ⊢
  go_enter Try.func113, Try.ntmps113
  go_wp2_with fail
  refine (HT.out _).mono ?_
  rintro e u ⟨rfl, rfl⟩
  go_wp2
  go_ret
  exact ⟨rfl, rfl⟩

set_option maxRecDepth 100000 in
theorem iHas (a s : ByteArray) (r : Int) (h0 : 0 ≤ r) (h1 : r < 128) (b : Bool) (hb : decide (0 ≤ Lib.indexByte s.data.toList r.toNat.toUInt8) = b) (w : World) :
    Calls Try.prog 112 #[.agg #[.string a, .string s], .int .i32 r] w fun e w' => e = .returned (.bool b) ∧ Below w.heap.size w w' := by
  subst hb
  have hx : ∀ w, (callFunc 260 #[.string s, .int .u8 r]).run Try.prog w = .ok (.value (.int .i64 (Lib.indexByte s.data.toList r.toNat.toUInt8))) w := by
    intro w
    rw [run_callFunc_extern Try.func260 (by kernel_rfl) (by kernel_rfl) (by kernel_rfl) (e := Extern.BytealgIndexByte.indexByte) (by kernel_rfl), Lib.run_indexByteString]
    rfl
  have hr : IntKind.u8.wrap r = r := by simp [IntKind.wrap, IntKind.signed, IntKind.bits]; omega
  generalize Lib.indexByte s.data.toList r.toNat.toUInt8 = k at hx ⊢
  have B := hid ((Below.refl w.heap.size w).alloc (Nat.le_refl _) (.cells #[.string a, .string s] 145))
  have b1 : Calls Try.prog 182 #[.string s, .int .i32 r] (w.alloc (.cells #[.string a, .string s] 145)) fun e w' => e = .returned (.bool (decide (0 ≤ k))) ∧ w' = (w.alloc (.cells #[.string a, .string s] 145)) := by
    generalize (w.alloc (.cells #[.string a, .string s] 145)) = v
    go_enter Try.func182, Try.ntmps182
    go_wp2_with fail
    refine (show Calls Try.prog 221 #[.string s, .int .i32 r] v fun e w' => e = .returned (.int .i64 k) ∧ w' = v from ?_).mono ?_
    · go_enter Try.func221, Try.ntmps221
      go_wp2_with fail
      refine (show Calls Try.prog 240 #[.string s, .int .u8 r] v fun e w' => e = .returned (.int .i64 k) ∧ w' = v from ?_).mono ?_
      · go_enter Try.func240, Try.ntmps240
        go_wp2_with fail
        refine (show Calls Try.prog 252 #[.string s, .int .u8 r] v fun e w' => e = .returned (.int .i64 k) ∧ w' = v from ?_).mono ?_
        · go_enter Try.func252, Try.ntmps252
          go_wp2
          go_ret
          exact ⟨rfl, rfl⟩
        · rintro e u ⟨rfl, rfl⟩
          go_wp2
          go_ret
          exact ⟨rfl, rfl⟩
      · rintro e u ⟨rfl, rfl⟩
        go_wp2
        go_ret
        exact ⟨rfl, rfl⟩
    · rintro e u ⟨rfl, rfl⟩
      go_wp2
      go_ret
      exact ⟨rfl, rfl⟩
  have B1 := hid b1
  clear b1 hx hr
  go_enter Try.func112, Try.ntmps112
  go_wp2_with fail
  refine B1.out.mono ?_
  rintro e u ⟨rfl, rfl⟩
  go_wp2
  go_ret
  exact ⟨rfl, B.out⟩

set_option maxRecDepth 100000 in
theorem iForm_1 (w : World) : Calls Try.prog 111 #[.int .i64 1] w fun e w' => e = .returned (.agg #[.string { data := #[104, 101, 97, 116] }, .string { data := #[67, 70] }]) ∧ Below w.heap.size w w' := by
  have B := hid ((Below.refl w.heap.size w).alloc (Nat.le_refl _) (.cells #[.string { data := #[104, 101, 97, 116] }, .string { data := #[67, 70] }] 145))
  have k0 := hid ((Kept.nil w).push #[.string { data := #[104, 101, 97, 116] }, .string { data := #[67, 70] }] 145)
  have hix : ∀ w, (Instr.index 231 (.agg #[.string { data := #[] }, .string { data := #[] }, .string { data := #[104, 101, 97, 116] }, .string { data := #[67, 70] }, .string { data := #[119, 101, 116] }, .string { data := #[67, 70] }, .string { data := #[115, 101, 101, 100] }, .string { data := #[67, 70, 71] }, .string { data := #[110, 117, 99, 108, 101, 105] }, .string { data := #[67, 70] }, .string { data := #[115, 116, 105, 114] }, .string { data := #[70] }, .string { data := #[119, 97, 105, 116] }, .string { data := #[78] }, .string { data := #[116, 105, 109, 101, 115] }, .string { data := #[78] }, .string { data := #[101, 110, 100] }, .string { data := #[] }]) (.int .i64 1)).run Try.prog w = .ok (.agg #[.string { data := #[104, 101, 97, 116] }, .string { data := #[67, 70] }]) w := fun w => by kernel_rfl
  go_enter Try.func111, Try.ntmps111
  go_wp2
  exact bodyPost_ret (results_cell_row rfl _ _ w.heap.size 145 #[.string { data := #[104, 101, 97, 116] }, .string { data := #[67, 70] }] (0, 0) _ rfl (k0.out.at (x := (w.heap.size, #[.string { data := #[104, 101, 97, 116] }, .string { data := #[67, 70] }], 145)) (by simp)) Try.underlying145 rfl (by kernel_rfl)) rfl ⟨rfl, B.out⟩

set_option maxRecDepth 100000 in
theorem iForm_2 (w : World) : Calls Try.prog 111 #[.int .i64 2] w fun e w' => e = .returned (.agg #[.string { data := #[119, 101, 116] }, .string { data := #[67, 70] }]) ∧ Below w.heap.size w w' := by
  have B := hid ((Below.refl w.heap.size w).alloc (Nat.le_refl _) (.cells #[.string { data := #[119, 101, 116] }, .string { data := #[67, 70] }] 145))
  have k0 := hid ((Kept.nil w).push #[.string { data := #[119, 101, 116] }, .string { data := #[67, 70] }] 145)
  have hix : ∀ w, (Instr.index 231 (.agg #[.string { data := #[] }, .string { data := #[] }, .string { data := #[104, 101, 97, 116] }, .string { data := #[67, 70] }, .string { data := #[119, 101, 116] }, .string { data := #[67, 70] }, .string { data := #[115, 101, 101, 100] }, .string { data := #[67, 70, 71] }, .string { data := #[110, 117, 99, 108, 101, 105] }, .string { data := #[67, 70] }, .string { data := #[115, 116, 105, 114] }, .string { data := #[70] }, .string { data := #[119, 97, 105, 116] }, .string { data := #[78] }, .string { data := #[116, 105, 109, 101, 115] }, .string { data := #[78] }, .string { data := #[101, 110, 100] }, .string { data := #[] }]) (.int .i64 2)).run Try.prog w = .ok (.agg #[.string { data := #[119, 101, 116] }, .string { data := #[67, 70] }]) w := fun w => by kernel_rfl
  go_enter Try.func111, Try.ntmps111
  go_wp2
  exact bodyPost_ret (results_cell_row rfl _ _ w.heap.size 145 #[.string { data := #[119, 101, 116] }, .string { data := #[67, 70] }] (0, 0) _ rfl (k0.out.at (x := (w.heap.size, #[.string { data := #[119, 101, 116] }, .string { data := #[67, 70] }], 145)) (by simp)) Try.underlying145 rfl (by kernel_rfl)) rfl ⟨rfl, B.out⟩

set_option maxRecDepth 100000 in
theorem iForm_3 (w : World) : Calls Try.prog 111 #[.int .i64 3] w fun e w' => e = .returned (.agg #[.string { data := #[115, 101, 101, 100] }, .string { data := #[67, 70, 71] }]) ∧ Below w.heap.size w w' := by
  have B := hid ((Below.refl w.heap.size w).alloc (Nat.le_refl _) (.cells #[.string { data := #[115, 101, 101, 100] }, .string { data := #[67, 70, 71] }] 145))
  have k0 := hid ((Kept.nil w).push #[.string { data := #[115, 101, 101, 100] }, .string { data := #[67, 70, 71] }] 145)
  have hix : ∀ w, (Instr.index 231 (.agg #[.string { data := #[] }, .string { data := #[] }, .string { data := #[104, 101, 97, 116] }, .string { data := #[67, 70] }, .string { data := #[119, 101, 116] }, .string { data := #[67, 70] }, .string { data := #[115, 101, 101, 100] }, .string { data := #[67, 70, 71] }, .string { data := #[110, 117, 99, 108, 101, 105] }, .string { data := #[67, 70] }, .string { data := #[115, 116, 105, 114] }, .string { data := #[70] }, .string { data := #[119, 97, 105, 116] }, .string { data := #[78] }, .string { data := #[116, 105, 109, 101, 115] }, .string { data := #[78] }, .string { data := #[101, 110, 100] }, .string { data := #[] }]) (.int .i64 3)).run Try.prog w = .ok (.agg #[.string { data := #[115, 101, 101, 100] }, .string { data := #[67, 70, 71] }]) w := fun w => by kernel_rfl
  go_enter Try.func111, Try.ntmps111
  go_wp2
  exact bodyPost_ret (results_cell_row rfl _ _ w.heap.size 145 #[.string { data := #[115, 101, 101, 100] }, .string { data := #[67, 70, 71] }] (0, 0) _ rfl (k0.out.at (x := (w.heap.size, #[.string { data := #[115, 101, 101, 100] }, .string { data := #[67, 70, 71] }], 145)) (by simp)) Try.underlying145 rfl (by kernel_rfl)) rfl ⟨rfl, B.out⟩

set_option maxRecDepth 100000 in
theorem iForm_4 (w : World) : Calls Try.prog 111 #[.int .i64 4] w fun e w' => e = .returned (.agg #[.string { data := #[110, 117, 99, 108, 101, 105] }, .string { data := #[67, 70] }]) ∧ Below w.heap.size w w' := by
  have B := hid ((Below.refl w.heap.size w).alloc (Nat.le_refl _) (.cells #[.string { data := #[110, 117, 99, 108, 101, 105] }, .string { data := #[67, 70] }] 145))
  have k0 := hid ((Kept.nil w).push #[.string { data := #[110, 117, 99, 108, 101, 105] }, .string { data := #[67, 70] }] 145)
  have hix : ∀ w, (Instr.index 231 (.agg #[.string { data := #[] }, .string { data := #[] }, .string { data := #[104, 101, 97, 116] }, .string { data := #[67, 70] }, .string { data := #[119, 101, 116] }, .string { data := #[67, 70] }, .string { data := #[115, 101, 101, 100] }, .string { data := #[67, 70, 71] }, .string { data := #[110, 117, 99, 108, 101, 105] }, .string { data := #[67, 70] }, .string { data := #[115, 116, 105, 114] }, .string { data := #[70] }, .string { data := #[119, 97, 105, 116] }, .string { data := #[78] }, .string { data := #[116, 105, 109, 101, 115] }, .string { data := #[78] }, .string { data := #[101, 110, 100] }, .string { data := #[] }]) (.int .i64 4)).run Try.prog w = .ok (.agg #[.string { data := #[110, 117, 99, 108, 101, 105] }, .string { data := #[67, 70] }]) w := fun w => by kernel_rfl
  go_enter Try.func111, Try.ntmps111
  go_wp2
  exact bodyPost_ret (results_cell_row rfl _ _ w.heap.size 145 #[.string { data := #[110, 117, 99, 108, 101, 105] }, .string { data := #[67, 70] }] (0, 0) _ rfl (k0.out.at (x := (w.heap.size, #[.string { data := #[110, 117, 99, 108, 101, 105] }, .string { data := #[67, 70] }], 145)) (by simp)) Try.underlying145 rfl (by kernel_rfl)) rfl ⟨rfl, B.out⟩

set_option maxRecDepth 100000 in
theorem iForm_5 (w : World) : Calls Try.prog 111 #[.int .i64 5] w fun e w' => e = .returned (.agg #[.string { data := #[115, 116, 105, 114] }, .string { data := #[70] }]) ∧ Below w.heap.size w w' := by
  have B := hid ((Below.refl w.heap.size w).alloc (Nat.le_refl _) (.cells #[.string { data := #[115, 116, 105, 114] }, .string { data := #[70] }] 145))
  have k0 := hid ((Kept.nil w).push #[.string { data := #[115, 116, 105, 114] }, .string { data := #[70] }] 145)
  have hix : ∀ w, (Instr.index 231 (.agg #[.string { data := #[] }, .string { data := #[] }, .string { data := #[104, 101, 97, 116] }, .string { data := #[67, 70] }, .string { data := #[119, 101, 116] }, .string { data := #[67, 70] }, .string { data := #[115, 101, 101, 100] }, .string { data := #[67, 70, 71] }, .string { data := #[110, 117, 99, 108, 101, 105] }, .string { data := #[67, 70] }, .string { data := #[115, 116, 105, 114] }, .string { data := #[70] }, .string { data := #[119, 97, 105, 116] }, .string { data := #[78] }, .string { data := #[116, 105, 109, 101, 115] }, .string { data := #[78] }, .string { data := #[101, 110, 100] }, .string { data := #[] }]) (.int .i64 5)).run Try.prog w = .ok (.agg #[.string { data := #[115, 116, 105, 114] }, .string { data := #[70] }]) w := fun w => by kernel_rfl
  go_enter Try.func111, Try.ntmps111
  go_wp2
  exact bodyPost_ret (results_cell_row rfl _ _ w.heap.size 145 #[.string { data := #[115, 116, 105, 114] }, .string { data := #[70] }] (0, 0) _ rfl (k0.out.at (x := (w.heap.size, #[.string { data := #[115, 116, 105, 114] }, .string { data := #[70] }], 145)) (by simp)) Try.underlying145 rfl (by kernel_rfl)) rfl ⟨rfl, B.out⟩

set_option maxRecDepth 100000 in
theorem iForm_6 (w : World) : Calls Try.prog 111 #[.int .i64 6] w fun e w' => e = .returned (.agg #[.string { data := #[119, 97, 105, 116] }, .string { data := #[78] }]) ∧ Below w.heap.size w w' := by
  have B := hid ((Below.refl w.heap.size w).alloc (Nat.le_refl _) (.cells #[.string { data := #[119, 97, 105, 116] }, .string { data := #[78] }] 145))
  have k0 := hid ((Kept.nil w).push #[.string { data := #[119, 97, 105, 116] }, .string { data := #[78] }] 145)
  have hix : ∀ w, (Instr.index 231 (.agg #[.string { data := #[] }, .string { data := #[] }, .string { data := #[104, 101, 97, 116] }, .string { data := #[67, 70] }, .string { data := #[119, 101, 116] }, .string { data := #[67, 70] }, .string { data := #[115, 101, 101, 100] }, .string { data := #[67, 70, 71] }, .string { data := #[110, 117, 99, 108, 101, 105] }, .string { data := #[67, 70] }, .string { data := #[115, 116, 105, 114] }, .string { data := #[70] }, .string { data := #[119, 97, 105, 116] }, .string { data := #[78] }, .string { data := #[116, 105, 109, 101, 115] }, .string { data := #[78] }, .string { data := #[101, 110, 100] }, .string { data := #[] }]) (.int .i64 6)).run Try.prog w = .ok (.agg #[.string { data := #[119, 97, 105, 116] }, .string { data := #[78] }]) w := fun w => by kernel_rfl
  go_enter Try.func111, Try.ntmps111
  go_wp2
  exact bodyPost_ret (results_cell_row rfl _ _ w.heap.size 145 #[.string { data := #[119, 97, 105, 116] }, .string { data := #[78] }] (0, 0) _ rfl (k0.out.at (x := (w.heap.size, #[.string { data := #[119, 97, 105, 116] }, .string { data := #[78] }], 145)) (by simp)) Try.underlying145 rfl (by kernel_rfl)) rfl ⟨rfl, B.out⟩

set_option maxRecDepth 100000 in
set_option maxHeartbeats 2000000 in
theorem iAct_r (k : Int) (c : Int) (a b : Nat) (h : k < 1 ∨ 6 < k ∨ c < 0 ∨ 8 ≤ c) (hal : a < 4294967296) (hbl : b < 4294967296) (w : World) :
    Calls Try.prog 48 #[.agg #[.int .i64 k, .int .i64 c, .float .f32 a, .float .f32 b]] w fun e w' => e = .returned (.bool false) ∧ Below w.heap.size w w' := by
  have k0 : Hid (Kept w [(w.heap.size, #[.int .i64 k, .int .i64 c, .float .f32 a, .float .f32 b], 59)] (w.alloc (.cells #[.int .i64 k, .int .i64 c, .float .f32 a, .float .f32 b] 59))) := hid (((Kept.nil w).push _ _).sub (by simp))
  have B := hid k0.out.1
  clear k0 hal hbl
  by_cases h1 : k < 1
  · clear h
    go_enter Try.func48, Try.ntmps48
    go_wp2
    go_ret
    exact ⟨rfl, B.out⟩
  · by_cases h2 : 6 < k
    · clear h
      go_enter Try.func48, Try.ntmps48
      go_wp2
      go_ret
      exact ⟨rfl, B.out⟩
    · by_cases h3 : c < 0
      · clear h
        go_enter Try.func48, Try.ntmps48
        go_wp2
        go_ret
        exact ⟨rfl, B.out⟩
      · have h4 : 8 ≤ c := by omega
        clear h
        go_enter Try.func48, Try.ntmps48
        go_wp2
        go_ret
        exact ⟨rfl, B.out⟩

set_option maxRecDepth 100000 in
set_option maxHeartbeats 2000000 in
theorem iAct_a (k : Int) (c : Int) (a b : Nat) (h1 : ¬ k < 1) (h2 : ¬ 6 < k) (h3 : ¬ c < 0) (h4 : ¬ 8 ≤ c) (ha : plB a = false) (hal : a < 4294967296) (hbl : b < 4294967296) (w : World) :
    Calls Try.prog 48 #[.agg #[.int .i64 k, .int .i64 c, .float .f32 a, .float .f32 b]] w fun e w' => e = .returned (.bool false) ∧ Below w.heap.size w w' := by
  have k0 : Hid (Kept w [(w.heap.size, #[.int .i64 k, .int .i64 c, .float .f32 a, .float .f32 b], 59)] (w.alloc (.cells #[.int .i64 k, .int .i64 c, .float .f32 a, .float .f32 b] 59))) := hid (((Kept.nil w).push _ _).sub (by simp))
  have Pa := hid (fun w => by have := iPlain a hal w; rw [ha] at this; exact this)
  clear ha hal hbl
  go_enter Try.func48, Try.ntmps48
  go_wp2_with fail
  refine (Pa.out _).mono ?_
  rintro e u1 ⟨rfl, hb1⟩
  have k1 := hid (k0.out.stay hb1)
  clear hb1
  go_wp2
  go_ret
  exact ⟨rfl, k1.out.1⟩

set_option maxRecDepth 100000 in
set_option maxHeartbeats 2000000 in
theorem iAct_b (k : Int) (c : Int) (a b : Nat) (h1 : ¬ k < 1) (h2 : ¬ 6 < k) (h3 : ¬ c < 0) (h4 : ¬ 8 ≤ c) (ha : plB a = true) (hb : plB b = false) (hal : a < 4294967296) (hbl : b < 4294967296) (w : World) :
    Calls Try.prog 48 #[.agg #[.int .i64 k, .int .i64 c, .float .f32 a, .float .f32 b]] w fun e w' => e = .returned (.bool false) ∧ Below w.heap.size w w' := by
  have k0 : Hid (Kept w [(w.heap.size, #[.int .i64 k, .int .i64 c, .float .f32 a, .float .f32 b], 59)] (w.alloc (.cells #[.int .i64 k, .int .i64 c, .float .f32 a, .float .f32 b] 59))) := hid (((Kept.nil w).push _ _).sub (by simp))
  have Pa := hid (fun w => by have := iPlain a hal w; rw [ha] at this; exact this)
  have Pb := hid (fun w => by have := iPlain b hbl w; rw [hb] at this; exact this)
  clear ha hb hal hbl
  go_enter Try.func48, Try.ntmps48
  go_wp2_with fail
  refine (Pa.out _).mono ?_
  rintro e u1 ⟨rfl, hb1⟩
  have k1 := hid (k0.out.stay hb1)
  clear hb1
  have hr := k1.out.at (x := (w.heap.size, #[.int .i64 k, .int .i64 c, .float .f32 a, .float .f32 b], 59)) (by simp)
  have c0 : u1.cell? ⟨w.heap.size, 0, none⟩ = some (.int .i64 k) := (cell_of_row u1 _ 0 _ _ _ hr).trans rfl
  have c1 : u1.cell? ⟨w.heap.size, 1, none⟩ = some (.int .i64 c) := (cell_of_row u1 _ 1 _ _ _ hr).trans rfl
  have c2 : u1.cell? ⟨w.heap.size, 2, none⟩ = some (.float .f32 a) := (cell_of_row u1 _ 2 _ _ _ hr).trans rfl
  have c3 : u1.cell? ⟨w.heap.size, 3, none⟩ = some (.float .f32 b) := (cell_of_row u1 _ 3 _ _ _ hr).trans rfl
  clear hr
  go_wp2_with fail
  refine (Pb.out _).mono ?_
  rintro e u2 ⟨rfl, hb2⟩
  have k2 := hid (k1.out.stay hb2)
  clear hb2
  go_wp2
  go_ret
  exact ⟨rfl, k2.out.1⟩

set_option maxRecDepth 100000 in
set_option maxHeartbeats 2000000 in
theorem iAct1_t (c : Int) (a b : Nat) (h3 : ¬ c < 0) (h4 : ¬ 8 ≤ c) (ha : plB a = true) (hb : plB b = true) (h0 : (FloatKind.f32.format.order b 0 != some .eq) = false) (hal : a < 4294967296) (hbl : b < 4294967296) (w : World) :
    Calls Try.prog 48 #[.agg #[.int .i64 1, .int .i64 c, .float .f32 a, .float .f32 b]] w fun e w' => e = .returned (.bool true) ∧ Below w.heap.size w w' := by
  have k0 : Hid (Kept w [(w.heap.size, #[.int .i64 1, .int .i64 c, .float .f32 a, .float .f32 b], 59)] (w.alloc (.cells #[.int .i64 1, .int .i64 c, .float .f32 a, .float .f32 b] 59))) := hid (((Kept.nil w).push _ _).sub (by simp))
  have Pa := hid (fun w => by have := iPlain a hal w; rw [ha] at this; exact this)
  have Pb := hid (fun w => by have := iPlain b hbl w; rw [hb] at this; exact this)
  clear ha hb hal hbl
  go_enter Try.func48, Try.ntmps48
  go_wp2_with fail
  refine (Pa.out _).mono ?_
  rintro e u1 ⟨rfl, hb1⟩
  have k1 := hid (k0.out.stay hb1)
  clear hb1
  have hr := k1.out.at (x := (w.heap.size, #[.int .i64 1, .int .i64 c, .float .f32 a, .float .f32 b], 59)) (by simp)
  have c0 : u1.cell? ⟨w.heap.size, 0, none⟩ = some (.int .i64 1) := (cell_of_row u1 _ 0 _ _ _ hr).trans rfl
  have c1 : u1.cell? ⟨w.heap.size, 1, none⟩ = some (.int .i64 c) := (cell_of_row u1 _ 1 _ _ _ hr).trans rfl
  have c2 : u1.cell? ⟨w.heap.size, 2, none⟩ = some (.float .f32 a) := (cell_of_row u1 _ 2 _ _ _ hr).trans rfl
  have c3 : u1.cell? ⟨w.heap.size, 3, none⟩ = some (.float .f32 b) := (cell_of_row u1 _ 3 _ _ _ hr).trans rfl
  clear hr
  go_wp2_with fail
  refine (Pb.out _).mono ?_
  rintro e u2 ⟨rfl, hb2⟩
  have k2 := hid (k1.out.stay hb2)
  clear hb2
  clear c0 c1 c2 c3
  have hr := k2.out.at (x := (w.heap.size, #[.int .i64 1, .int .i64 c, .float .f32 a, .float .f32 b], 59)) (by simp)
  have c0 : u2.cell? ⟨w.heap.size, 0, none⟩ = some (.int .i64 1) := (cell_of_row u2 _ 0 _ _ _ hr).trans rfl
  have c1 : u2.cell? ⟨w.heap.size, 1, none⟩ = some (.int .i64 c) := (cell_of_row u2 _ 1 _ _ _ hr).trans rfl
  have c2 : u2.cell? ⟨w.heap.size, 2, none⟩ = some (.float .f32 a) := (cell_of_row u2 _ 2 _ _ _ hr).trans rfl
  have c3 : u2.cell? ⟨w.heap.size, 3, none⟩ = some (.float .f32 b) := (cell_of_row u2 _ 3 _ _ _ hr).trans rfl
  clear hr
  go_wp2_with fail
  refine (iForm_1 _).mono ?_
  rintro e u3 ⟨rfl, hb3⟩
  have k3 := hid (k2.out.stay hb3)
  clear hb3
  clear c0 c1 c2 c3
  have kf := hid (k3.out.push #[.string { data := #[104, 101, 97, 116] }, .string { data := #[67, 70] }] 145)
  go_wp2_with (first | refine wpList_load_row rfl 145 _ rfl u3.heap.size rfl 145 (#[.string { data := #[104, 101, 97, 116] }, .string { data := #[67, 70] }]) (0, 0) _ (kf.out.at (x := (u3.heap.size, #[.string { data := #[104, 101, 97, 116] }, .string { data := #[67, 70] }], 145)) (by simp)) Try.underlying145 rfl (by kernel_rfl) ?_ | refine wpList_load_g rfl 145 _ rfl u3.heap.size rfl 145 (#[.string { data := #[104, 101, 97, 116] }, .string { data := #[67, 70] }]) (0, 0) _ (kf.out.at (x := (u3.heap.size, #[.string { data := #[104, 101, 97, 116] }, .string { data := #[67, 70] }], 145)) (by simp)) Try.underlying145 rfl (by kernel_rfl) ?_)
  refine (iHas { data := #[104, 101, 97, 116] } { data := #[67, 70] } 67 (by decide) (by decide) true (by decide) _).mono ?_
  rintro e u4 ⟨rfl, hb4⟩
  have k4 := hid (kf.out.stay hb4)
  clear hb4
  have hr := k4.out.at (x := (w.heap.size, #[.int .i64 1, .int .i64 c, .float .f32 a, .float .f32 b], 59)) (by simp)
  have c0 : u4.cell? ⟨w.heap.size, 0, none⟩ = some (.int .i64 1) := (cell_of_row u4 _ 0 _ _ _ hr).trans rfl
  have c1 : u4.cell? ⟨w.heap.size, 1, none⟩ = some (.int .i64 c) := (cell_of_row u4 _ 1 _ _ _ hr).trans rfl
  have c2 : u4.cell? ⟨w.heap.size, 2, none⟩ = some (.float .f32 a) := (cell_of_row u4 _ 2 _ _ _ hr).trans rfl
  have c3 : u4.cell? ⟨w.heap.size, 3, none⟩ = some (.float .f32 b) := (cell_of_row u4 _ 3 _ _ _ hr).trans rfl
  clear hr
  go_wp2_with (first | refine wpList_load_row rfl 145 _ rfl u3.heap.size rfl 145 (#[.string { data := #[104, 101, 97, 116] }, .string { data := #[67, 70] }]) (0, 0) _ (k4.out.at (x := (u3.heap.size, #[.string { data := #[104, 101, 97, 116] }, .string { data := #[67, 70] }], 145)) (by simp)) Try.underlying145 rfl (by kernel_rfl) ?_ | refine wpList_load_g rfl 145 _ rfl u3.heap.size rfl 145 (#[.string { data := #[104, 101, 97, 116] }, .string { data := #[67, 70] }]) (0, 0) _ (k4.out.at (x := (u3.heap.size, #[.string { data := #[104, 101, 97, 116] }, .string { data := #[67, 70] }], 145)) (by simp)) Try.underlying145 rfl (by kernel_rfl) ?_)
  refine (iHas { data := #[104, 101, 97, 116] } { data := #[67, 70] } 71 (by decide) (by decide) false (by decide) _).mono ?_
  rintro e u5 ⟨rfl, hb5⟩
  have k5 := hid (k4.out.stay hb5)
  clear hb5
  clear c0 c1 c2 c3
  have hr := k5.out.at (x := (w.heap.size, #[.int .i64 1, .int .i64 c, .float .f32 a, .float .f32 b], 59)) (by simp)
  have c0 : u5.cell? ⟨w.heap.size, 0, none⟩ = some (.int .i64 1) := (cell_of_row u5 _ 0 _ _ _ hr).trans rfl
  have c1 : u5.cell? ⟨w.heap.size, 1, none⟩ = some (.int .i64 c) := (cell_of_row u5 _ 1 _ _ _ hr).trans rfl
  have c2 : u5.cell? ⟨w.heap.size, 2, none⟩ = some (.float .f32 a) := (cell_of_row u5 _ 2 _ _ _ hr).trans rfl
  have c3 : u5.cell? ⟨w.heap.size, 3, none⟩ = some (.float .f32 b) := (cell_of_row u5 _ 3 _ _ _ hr).trans rfl
  clear hr
  go_wp2_with (first | refine wpList_load_row rfl 145 _ rfl u3.heap.size rfl 145 (#[.string { data := #[104, 101, 97, 116] }, .string { data := #[67, 70] }]) (0, 0) _ (k5.out.at (x := (u3.heap.size, #[.string { data := #[104, 101, 97, 116] }, .string { data := #[67, 70] }], 145)) (by simp)) Try.underlying145 rfl (by kernel_rfl) ?_ | refine wpList_load_g rfl 145 _ rfl u3.heap.size rfl 145 (#[.string { data := #[104, 101, 97, 116] }, .string { data := #[67, 70] }]) (0, 0) _ (k5.out.at (x := (u3.heap.size, #[.string { data := #[104, 101, 97, 116] }, .string { data := #[67, 70] }], 145)) (by simp)) Try.underlying145 rfl (by kernel_rfl) ?_)
  refine (iHas { data := #[104, 101, 97, 116] } { data := #[67, 70] } 78 (by decide) (by decide) false (by decide) _).mono ?_
  rintro e u6 ⟨rfl, hb6⟩
  have k6 := hid (k5.out.stay hb6)
  clear hb6
  clear c0 c1 c2 c3
  have hr := k6.out.at (x := (w.heap.size, #[.int .i64 1, .int .i64 c, .float .f32 a, .float .f32 b], 59)) (by simp)
  have c0 : u6.cell? ⟨w.heap.size, 0, none⟩ = some (.int .i64 1) := (cell_of_row u6 _ 0 _ _ _ hr).trans rfl
  have c1 : u6.cell? ⟨w.heap.size, 1, none⟩ = some (.int .i64 c) := (cell_of_row u6 _ 1 _ _ _ hr).trans rfl
  have c2 : u6.cell? ⟨w.heap.size, 2, none⟩ = some (.float .f32 a) := (cell_of_row u6 _ 2 _ _ _ hr).trans rfl
  have c3 : u6.cell? ⟨w.heap.size, 3, none⟩ = some (.float .f32 b) := (cell_of_row u6 _ 3 _ _ _ hr).trans rfl
  clear hr
  go_wp2
  go_ret
  exact ⟨rfl, k6.out.1⟩

set_option maxRecDepth 100000 in
set_option maxHeartbeats 2000000 in
theorem iAct1_f (c : Int) (a b : Nat) (h3 : ¬ c < 0) (h4 : ¬ 8 ≤ c) (ha : plB a = true) (hb : plB b = true) (h0 : (FloatKind.f32.format.order b 0 != some .eq) = true) (hal : a < 4294967296) (hbl : b < 4294967296) (w : World) :
    Calls Try.prog 48 #[.agg #[.int .i64 1, .int .i64 c, .float .f32 a, .float .f32 b]] w fun e w' => e = .returned (.bool false) ∧ Below w.heap.size w w' := by
  have k0 : Hid (Kept w [(w.heap.size, #[.int .i64 1, .int .i64 c, .float .f32 a, .float .f32 b], 59)] (w.alloc (.cells #[.int .i64 1, .int .i64 c, .float .f32 a, .float .f32 b] 59))) := hid (((Kept.nil w).push _ _).sub (by simp))
  have Pa := hid (fun w => by have := iPlain a hal w; rw [ha] at this; exact this)
  have Pb := hid (fun w => by have := iPlain b hbl w; rw [hb] at this; exact this)
  clear ha hb hal hbl
  go_enter Try.func48, Try.ntmps48
  go_wp2_with fail
  refine (Pa.out _).mono ?_
  rintro e u1 ⟨rfl, hb1⟩
  have k1 := hid (k0.out.stay hb1)
  clear hb1
  have hr := k1.out.at (x := (w.heap.size, #[.int .i64 1, .int .i64 c, .float .f32 a, .float .f32 b], 59)) (by simp)
  have c0 : u1.cell? ⟨w.heap.size, 0, none⟩ = some (.int .i64 1) := (cell_of_row u1 _ 0 _ _ _ hr).trans rfl
  have c1 : u1.cell? ⟨w.heap.size, 1, none⟩ = some (.int .i64 c) := (cell_of_row u1 _ 1 _ _ _ hr).trans rfl
  have c2 : u1.cell? ⟨w.heap.size, 2, none⟩ = some (.float .f32 a) := (cell_of_row u1 _ 2 _ _ _ hr).trans rfl
  have c3 : u1.cell? ⟨w.heap.size, 3, none⟩ = some (.float .f32 b) := (cell_of_row u1 _ 3 _ _ _ hr).trans rfl
  clear hr
  go_wp2_with fail
  refine (Pb.out _).mono ?_
  rintro e u2 ⟨rfl, hb2⟩
  have k2 := hid (k1.out.stay hb2)
  clear hb2
  clear c0 c1 c2 c3
  have hr := k2.out.at (x := (w.heap.size, #[.int .i64 1, .int .i64 c, .float .f32 a, .float .f32 b], 59)) (by simp)
  have c0 : u2.cell? ⟨w.heap.size, 0, none⟩ = some (.int .i64 1) := (cell_of_row u2 _ 0 _ _ _ hr).trans rfl
  have c1 : u2.cell? ⟨w.heap.size, 1, none⟩ = some (.int .i64 c) := (cell_of_row u2 _ 1 _ _ _ hr).trans rfl
  have c2 : u2.cell? ⟨w.heap.size, 2, none⟩ = some (.float .f32 a) := (cell_of_row u2 _ 2 _ _ _ hr).trans rfl
  have c3 : u2.cell? ⟨w.heap.size, 3, none⟩ = some (.float .f32 b) := (cell_of_row u2 _ 3 _ _ _ hr).trans rfl
  clear hr
  go_wp2_with fail
  refine (iForm_1 _).mono ?_
  rintro e u3 ⟨rfl, hb3⟩
  have k3 := hid (k2.out.stay hb3)
  clear hb3
  clear c0 c1 c2 c3
  have kf := hid (k3.out.push #[.string { data := #[104, 101, 97, 116] }, .string { data := #[67, 70] }] 145)
  go_wp2_with (first | refine wpList_load_row rfl 145 _ rfl u3.heap.size rfl 145 (#[.string { data := #[104, 101, 97, 116] }, .string { data := #[67, 70] }]) (0, 0) _ (kf.out.at (x := (u3.heap.size, #[.string { data := #[104, 101, 97, 116] }, .string { data := #[67, 70] }], 145)) (by simp)) Try.underlying145 rfl (by kernel_rfl) ?_ | refine wpList_load_g rfl 145 _ rfl u3.heap.size rfl 145 (#[.string { data := #[104, 101, 97, 116] }, .string { data := #[67, 70] }]) (0, 0) _ (kf.out.at (x := (u3.heap.size, #[.string { data := #[104, 101, 97, 116] }, .string { data := #[67, 70] }], 145)) (by simp)) Try.underlying145 rfl (by kernel_rfl) ?_)
  refine (iHas { data := #[104, 101, 97, 116] } { data := #[67, 70] } 67 (by decide) (by decide) true (by decide) _).mono ?_
  rintro e u4 ⟨rfl, hb4⟩
  have k4 := hid (kf.out.stay hb4)
  clear hb4
  have hr := k4.out.at (x := (w.heap.size, #[.int .i64 1, .int .i64 c, .float .f32 a, .float .f32 b], 59)) (by simp)
  have c0 : u4.cell? ⟨w.heap.size, 0, none⟩ = some (.int .i64 1) := (cell_of_row u4 _ 0 _ _ _ hr).trans rfl
  have c1 : u4.cell? ⟨w.heap.size, 1, none⟩ = some (.int .i64 c) := (cell_of_row u4 _ 1 _ _ _ hr).trans rfl
  have c2 : u4.cell? ⟨w.heap.size, 2, none⟩ = some (.float .f32 a) := (cell_of_row u4 _ 2 _ _ _ hr).trans rfl
  have c3 : u4.cell? ⟨w.heap.size, 3, none⟩ = some (.float .f32 b) := (cell_of_row u4 _ 3 _ _ _ hr).trans rfl
  clear hr
  go_wp2_with (first | refine wpList_load_row rfl 145 _ rfl u3.heap.size rfl 145 (#[.string { data := #[104, 101, 97, 116] }, .string { data := #[67, 70] }]) (0, 0) _ (k4.out.at (x := (u3.heap.size, #[.string { data := #[104, 101, 97, 116] }, .string { data := #[67, 70] }], 145)) (by simp)) Try.underlying145 rfl (by kernel_rfl) ?_ | refine wpList_load_g rfl 145 _ rfl u3.heap.size rfl 145 (#[.string { data := #[104, 101, 97, 116] }, .string { data := #[67, 70] }]) (0, 0) _ (k4.out.at (x := (u3.heap.size, #[.string { data := #[104, 101, 97, 116] }, .string { data := #[67, 70] }], 145)) (by simp)) Try.underlying145 rfl (by kernel_rfl) ?_)
  refine (iHas { data := #[104, 101, 97, 116] } { data := #[67, 70] } 71 (by decide) (by decide) false (by decide) _).mono ?_
  rintro e u5 ⟨rfl, hb5⟩
  have k5 := hid (k4.out.stay hb5)
  clear hb5
  clear c0 c1 c2 c3
  have hr := k5.out.at (x := (w.heap.size, #[.int .i64 1, .int .i64 c, .float .f32 a, .float .f32 b], 59)) (by simp)
  have c0 : u5.cell? ⟨w.heap.size, 0, none⟩ = some (.int .i64 1) := (cell_of_row u5 _ 0 _ _ _ hr).trans rfl
  have c1 : u5.cell? ⟨w.heap.size, 1, none⟩ = some (.int .i64 c) := (cell_of_row u5 _ 1 _ _ _ hr).trans rfl
  have c2 : u5.cell? ⟨w.heap.size, 2, none⟩ = some (.float .f32 a) := (cell_of_row u5 _ 2 _ _ _ hr).trans rfl
  have c3 : u5.cell? ⟨w.heap.size, 3, none⟩ = some (.float .f32 b) := (cell_of_row u5 _ 3 _ _ _ hr).trans rfl
  clear hr
  go_wp2
  go_ret
  exact ⟨rfl, k5.out.1⟩

set_option maxRecDepth 100000 in
set_option maxHeartbeats 2000000 in
theorem iAct2_t (c : Int) (a b : Nat) (h3 : ¬ c < 0) (h4 : ¬ 8 ≤ c) (ha : plB a = true) (hb : plB b = true) (h0 : (FloatKind.f32.format.order b 0 != some .eq) = false) (hal : a < 4294967296) (hbl : b < 4294967296) (w : World) :
    Calls Try.prog 48 #[.agg #[.int .i64 2, .int .i64 c, .float .f32 a, .float .f32 b]] w fun e w' => e = .returned (.bool true) ∧ Below w.heap.size w w' := by
  have k0 : Hid (Kept w [(w.heap.size, #[.int .i64 2, .int .i64 c, .float .f32 a, .float .f32 b], 59)] (w.alloc (.cells #[.int .i64 2, .int .i64 c, .float .f32 a, .float .f32 b] 59))) := hid (((Kept.nil w).push _ _).sub (by simp))
  have Pa := hid (fun w => by have := iPlain a hal w; rw [ha] at this; exact this)
  have Pb := hid (fun w => by have := iPlain b hbl w; rw [hb] at this; exact this)
  clear ha hb hal hbl
  go_enter Try.func48, Try.ntmps48
  go_wp2_with fail
  refine (Pa.out _).mono ?_
  rintro e u1 ⟨rfl, hb1⟩
  have k1 := hid (k0.out.stay hb1)
  clear hb1
  have hr := k1.out.at (x := (w.heap.size, #[.int .i64 2, .int .i64 c, .float .f32 a, .float .f32 b], 59)) (by simp)
  have c0 : u1.cell? ⟨w.heap.size, 0, none⟩ = some (.int .i64 2) := (cell_of_row u1 _ 0 _ _ _ hr).trans rfl
  have c1 : u1.cell? ⟨w.heap.size, 1, none⟩ = some (.int .i64 c) := (cell_of_row u1 _ 1 _ _ _ hr).trans rfl
  have c2 : u1.cell? ⟨w.heap.size, 2, none⟩ = some (.float .f32 a) := (cell_of_row u1 _ 2 _ _ _ hr).trans rfl
  have c3 : u1.cell? ⟨w.heap.size, 3, none⟩ = some (.float .f32 b) := (cell_of_row u1 _ 3 _ _ _ hr).trans rfl
  clear hr
  go_wp2_with fail
  refine (Pb.out _).mono ?_
  rintro e u2 ⟨rfl, hb2⟩
  have k2 := hid (k1.out.stay hb2)
  clear hb2
  clear c0 c1 c2 c3
  have hr := k2.out.at (x := (w.heap.size, #[.int .i64 2, .int .i64 c, .float .f32 a, .float .f32 b], 59)) (by simp)
  have c0 : u2.cell? ⟨w.heap.size, 0, none⟩ = some (.int .i64 2) := (cell_of_row u2 _ 0 _ _ _ hr).trans rfl
  have c1 : u2.cell? ⟨w.heap.size, 1, none⟩ = some (.int .i64 c) := (cell_of_row u2 _ 1 _ _ _ hr).trans rfl
  have c2 : u2.cell? ⟨w.heap.size, 2, none⟩ = some (.float .f32 a) := (cell_of_row u2 _ 2 _ _ _ hr).trans rfl
  have c3 : u2.cell? ⟨w.heap.size, 3, none⟩ = some (.float .f32 b) := (cell_of_row u2 _ 3 _ _ _ hr).trans rfl
  clear hr
  go_wp2_with fail
  refine (iForm_2 _).mono ?_
  rintro e u3 ⟨rfl, hb3⟩
  have k3 := hid (k2.out.stay hb3)
  clear hb3
  clear c0 c1 c2 c3
  have kf := hid (k3.out.push #[.string { data := #[119, 101, 116] }, .string { data := #[67, 70] }] 145)
  go_wp2_with (first | refine wpList_load_row rfl 145 _ rfl u3.heap.size rfl 145 (#[.string { data := #[119, 101, 116] }, .string { data := #[67, 70] }]) (0, 0) _ (kf.out.at (x := (u3.heap.size, #[.string { data := #[119, 101, 116] }, .string { data := #[67, 70] }], 145)) (by simp)) Try.underlying145 rfl (by kernel_rfl) ?_ | refine wpList_load_g rfl 145 _ rfl u3.heap.size rfl 145 (#[.string { data := #[119, 101, 116] }, .string { data := #[67, 70] }]) (0, 0) _ (kf.out.at (x := (u3.heap.size, #[.string { data := #[119, 101, 116] }, .string { data := #[67, 70] }], 145)) (by simp)) Try.underlying145 rfl (by kernel_rfl) ?_)
  refine (iHas { data := #[119, 101, 116] } { data := #[67, 70] } 67 (by decide) (by decide) true (by decide) _).mono ?_
  rintro e u4 ⟨rfl, hb4⟩
  have k4 := hid (kf.out.stay hb4)
  clear hb4
  have hr := k4.out.at (x := (w.heap.size, #[.int .i64 2, .int .i64 c, .float .f32 a, .float .f32 b], 59)) (by simp)
  have c0 : u4.cell? ⟨w.heap.size, 0, none⟩ = some (.int .i64 2) := (cell_of_row u4 _ 0 _ _ _ hr).trans rfl
  have c1 : u4.cell? ⟨w.heap.size, 1, none⟩ = some (.int .i64 c) := (cell_of_row u4 _ 1 _ _ _ hr).trans rfl
  have c2 : u4.cell? ⟨w.heap.size, 2, none⟩ = some (.float .f32 a) := (cell_of_row u4 _ 2 _ _ _ hr).trans rfl
  have c3 : u4.cell? ⟨w.heap.size, 3, none⟩ = some (.float .f32 b) := (cell_of_row u4 _ 3 _ _ _ hr).trans rfl
  clear hr
  go_wp2_with (first | refine wpList_load_row rfl 145 _ rfl u3.heap.size rfl 145 (#[.string { data := #[119, 101, 116] }, .string { data := #[67, 70] }]) (0, 0) _ (k4.out.at (x := (u3.heap.size, #[.string { data := #[119, 101, 116] }, .string { data := #[67, 70] }], 145)) (by simp)) Try.underlying145 rfl (by kernel_rfl) ?_ | refine wpList_load_g rfl 145 _ rfl u3.heap.size rfl 145 (#[.string { data := #[119, 101, 116] }, .string { data := #[67, 70] }]) (0, 0) _ (k4.out.at (x := (u3.heap.size, #[.string { data := #[119, 101, 116] }, .string { data := #[67, 70] }], 145)) (by simp)) Try.underlying145 rfl (by kernel_rfl) ?_)
  refine (iHas { data := #[119, 101, 116] } { data := #[67, 70] } 71 (by decide) (by decide) false (by decide) _).mono ?_
  rintro e u5 ⟨rfl, hb5⟩
  have k5 := hid (k4.out.stay hb5)
  clear hb5
  clear c0 c1 c2 c3
  have hr := k5.out.at (x := (w.heap.size, #[.int .i64 2, .int .i64 c, .float .f32 a, .float .f32 b], 59)) (by simp)
  have c0 : u5.cell? ⟨w.heap.size, 0, none⟩ = some (.int .i64 2) := (cell_of_row u5 _ 0 _ _ _ hr).trans rfl
  have c1 : u5.cell? ⟨w.heap.size, 1, none⟩ = some (.int .i64 c) := (cell_of_row u5 _ 1 _ _ _ hr).trans rfl
  have c2 : u5.cell? ⟨w.heap.size, 2, none⟩ = some (.float .f32 a) := (cell_of_row u5 _ 2 _ _ _ hr).trans rfl
  have c3 : u5.cell? ⟨w.heap.size, 3, none⟩ = some (.float .f32 b) := (cell_of_row u5 _ 3 _ _ _ hr).trans rfl
  clear hr
  go_wp2_with (first | refine wpList_load_row rfl 145 _ rfl u3.heap.size rfl 145 (#[.string { data := #[119, 101, 116] }, .string { data := #[67, 70] }]) (0, 0) _ (k5.out.at (x := (u3.heap.size, #[.string { data := #[119, 101, 116] }, .string { data := #[67, 70] }], 145)) (by simp)) Try.underlying145 rfl (by kernel_rfl) ?_ | refine wpList_load_g rfl 145 _ rfl u3.heap.size rfl 145 (#[.string { data := #[119, 101, 116] }, .string { data := #[67, 70] }]) (0, 0) _ (k5.out.at (x := (u3.heap.size, #[.string { data := #[119, 101, 116] }, .string { data := #[67, 70] }], 145)) (by simp)) Try.underlying145 rfl (by kernel_rfl) ?_)
  refine (iHas { data := #[119, 101, 116] } { data := #[67, 70] } 78 (by decide) (by decide) false (by decide) _).mono ?_
  rintro e u6 ⟨rfl, hb6⟩
  have k6 := hid (k5.out.stay hb6)
  clear hb6
  clear c0 c1 c2 c3
  have hr := k6.out.at (x := (w.heap.size, #[.int .i64 2, .int .i64 c, .float .f32 a, .float .f32 b], 59)) (by simp)
  have c0 : u6.cell? ⟨w.heap.size, 0, none⟩ = some (.int .i64 2) := (cell_of_row u6 _ 0 _ _ _ hr).trans rfl
  have c1 : u6.cell? ⟨w.heap.size, 1, none⟩ = some (.int .i64 c) := (cell_of_row u6 _ 1 _ _ _ hr).trans rfl
  have c2 : u6.cell? ⟨w.heap.size, 2, none⟩ = some (.float .f32 a) := (cell_of_row u6 _ 2 _ _ _ hr).trans rfl
  have c3 : u6.cell? ⟨w.heap.size, 3, none⟩ = some (.float .f32 b) := (cell_of_row u6 _ 3 _ _ _ hr).trans rfl
  clear hr
  go_wp2
  go_ret
  exact ⟨rfl, k6.out.1⟩

set_option maxRecDepth 100000 in
set_option maxHeartbeats 2000000 in
theorem iAct2_f (c : Int) (a b : Nat) (h3 : ¬ c < 0) (h4 : ¬ 8 ≤ c) (ha : plB a = true) (hb : plB b = true) (h0 : (FloatKind.f32.format.order b 0 != some .eq) = true) (hal : a < 4294967296) (hbl : b < 4294967296) (w : World) :
    Calls Try.prog 48 #[.agg #[.int .i64 2, .int .i64 c, .float .f32 a, .float .f32 b]] w fun e w' => e = .returned (.bool false) ∧ Below w.heap.size w w' := by
  have k0 : Hid (Kept w [(w.heap.size, #[.int .i64 2, .int .i64 c, .float .f32 a, .float .f32 b], 59)] (w.alloc (.cells #[.int .i64 2, .int .i64 c, .float .f32 a, .float .f32 b] 59))) := hid (((Kept.nil w).push _ _).sub (by simp))
  have Pa := hid (fun w => by have := iPlain a hal w; rw [ha] at this; exact this)
  have Pb := hid (fun w => by have := iPlain b hbl w; rw [hb] at this; exact this)
  clear ha hb hal hbl
  go_enter Try.func48, Try.ntmps48
  go_wp2_with fail
  refine (Pa.out _).mono ?_
  rintro e u1 ⟨rfl, hb1⟩
  have k1 := hid (k0.out.stay hb1)
  clear hb1
  have hr := k1.out.at (x := (w.heap.size, #[.int .i64 2, .int .i64 c, .float .f32 a, .float .f32 b], 59)) (by simp)
  have c0 : u1.cell? ⟨w.heap.size, 0, none⟩ = some (.int .i64 2) := (cell_of_row u1 _ 0 _ _ _ hr).trans rfl
  have c1 : u1.cell? ⟨w.heap.size, 1, none⟩ = some (.int .i64 c) := (cell_of_row u1 _ 1 _ _ _ hr).trans rfl
  have c2 : u1.cell? ⟨w.heap.size, 2, none⟩ = some (.float .f32 a) := (cell_of_row u1 _ 2 _ _ _ hr).trans rfl
  have c3 : u1.cell? ⟨w.heap.size, 3, none⟩ = some (.float .f32 b) := (cell_of_row u1 _ 3 _ _ _ hr).trans rfl
  clear hr
  go_wp2_with fail
  refine (Pb.out _).mono ?_
  rintro e u2 ⟨rfl, hb2⟩
  have k2 := hid (k1.out.stay hb2)
  clear hb2
  clear c0 c1 c2 c3
  have hr := k2.out.at (x := (w.heap.size, #[.int .i64 2, .int .i64 c, .float .f32 a, .float .f32 b], 59)) (by simp)
  have c0 : u2.cell? ⟨w.heap.size, 0, none⟩ = some (.int .i64 2) := (cell_of_row u2 _ 0 _ _ _ hr).trans rfl
  have c1 : u2.cell? ⟨w.heap.size, 1, none⟩ = some (.int .i64 c) := (cell_of_row u2 _ 1 _ _ _ hr).trans rfl
  have c2 : u2.cell? ⟨w.heap.size, 2, none⟩ = some (.float .f32 a) := (cell_of_row u2 _ 2 _ _ _ hr).trans rfl
  have c3 : u2.cell? ⟨w.heap.size, 3, none⟩ = some (.float .f32 b) := (cell_of_row u2 _ 3 _ _ _ hr).trans rfl
  clear hr
  go_wp2_with fail
  refine (iForm_2 _).mono ?_
  rintro e u3 ⟨rfl, hb3⟩
  have k3 := hid (k2.out.stay hb3)
  clear hb3
  clear c0 c1 c2 c3
  have kf := hid (k3.out.push #[.string { data := #[119, 101, 116] }, .string { data := #[67, 70] }] 145)
  go_wp2_with (first | refine wpList_load_row rfl 145 _ rfl u3.heap.size rfl 145 (#[.string { data := #[119, 101, 116] }, .string { data := #[67, 70] }]) (0, 0) _ (kf.out.at (x := (u3.heap.size, #[.string { data := #[119, 101, 116] }, .string { data := #[67, 70] }], 145)) (by simp)) Try.underlying145 rfl (by kernel_rfl) ?_ | refine wpList_load_g rfl 145 _ rfl u3.heap.size rfl 145 (#[.string { data := #[119, 101, 116] }, .string { data := #[67, 70] }]) (0, 0) _ (kf.out.at (x := (u3.heap.size, #[.string { data := #[119, 101, 116] }, .string { data := #[67, 70] }], 145)) (by simp)) Try.underlying145 rfl (by kernel_rfl) ?_)
  refine (iHas { data := #[119, 101, 116] } { data := #[67, 70] } 67 (by decide) (by decide) true (by decide) _).mono ?_
  rintro e u4 ⟨rfl, hb4⟩
  have k4 := hid (kf.out.stay hb4)
  clear hb4
  have hr := k4.out.at (x := (w.heap.size, #[.int .i64 2, .int .i64 c, .float .f32 a, .float .f32 b], 59)) (by simp)
  have c0 : u4.cell? ⟨w.heap.size, 0, none⟩ = some (.int .i64 2) := (cell_of_row u4 _ 0 _ _ _ hr).trans rfl
  have c1 : u4.cell? ⟨w.heap.size, 1, none⟩ = some (.int .i64 c) := (cell_of_row u4 _ 1 _ _ _ hr).trans rfl
  have c2 : u4.cell? ⟨w.heap.size, 2, none⟩ = some (.float .f32 a) := (cell_of_row u4 _ 2 _ _ _ hr).trans rfl
  have c3 : u4.cell? ⟨w.heap.size, 3, none⟩ = some (.float .f32 b) := (cell_of_row u4 _ 3 _ _ _ hr).trans rfl
  clear hr
  go_wp2_with (first | refine wpList_load_row rfl 145 _ rfl u3.heap.size rfl 145 (#[.string { data := #[119, 101, 116] }, .string { data := #[67, 70] }]) (0, 0) _ (k4.out.at (x := (u3.heap.size, #[.string { data := #[119, 101, 116] }, .string { data := #[67, 70] }], 145)) (by simp)) Try.underlying145 rfl (by kernel_rfl) ?_ | refine wpList_load_g rfl 145 _ rfl u3.heap.size rfl 145 (#[.string { data := #[119, 101, 116] }, .string { data := #[67, 70] }]) (0, 0) _ (k4.out.at (x := (u3.heap.size, #[.string { data := #[119, 101, 116] }, .string { data := #[67, 70] }], 145)) (by simp)) Try.underlying145 rfl (by kernel_rfl) ?_)
  refine (iHas { data := #[119, 101, 116] } { data := #[67, 70] } 71 (by decide) (by decide) false (by decide) _).mono ?_
  rintro e u5 ⟨rfl, hb5⟩
  have k5 := hid (k4.out.stay hb5)
  clear hb5
  clear c0 c1 c2 c3
  have hr := k5.out.at (x := (w.heap.size, #[.int .i64 2, .int .i64 c, .float .f32 a, .float .f32 b], 59)) (by simp)
  have c0 : u5.cell? ⟨w.heap.size, 0, none⟩ = some (.int .i64 2) := (cell_of_row u5 _ 0 _ _ _ hr).trans rfl
  have c1 : u5.cell? ⟨w.heap.size, 1, none⟩ = some (.int .i64 c) := (cell_of_row u5 _ 1 _ _ _ hr).trans rfl
  have c2 : u5.cell? ⟨w.heap.size, 2, none⟩ = some (.float .f32 a) := (cell_of_row u5 _ 2 _ _ _ hr).trans rfl
  have c3 : u5.cell? ⟨w.heap.size, 3, none⟩ = some (.float .f32 b) := (cell_of_row u5 _ 3 _ _ _ hr).trans rfl
  clear hr
  go_wp2
  go_ret
  exact ⟨rfl, k5.out.1⟩

set_option maxRecDepth 100000 in
set_option maxHeartbeats 2000000 in
theorem iAct4_t (c : Int) (a b : Nat) (h3 : ¬ c < 0) (h4 : ¬ 8 ≤ c) (ha : plB a = true) (hb : plB b = true) (h0 : (FloatKind.f32.format.order b 0 != some .eq) = false) (hal : a < 4294967296) (hbl : b < 4294967296) (w : World) :
    Calls Try.prog 48 #[.agg #[.int .i64 4, .int .i64 c, .float .f32 a, .float .f32 b]] w fun e w' => e = .returned (.bool true) ∧ Below w.heap.size w w' := by
  have k0 : Hid (Kept w [(w.heap.size, #[.int .i64 4, .int .i64 c, .float .f32 a, .float .f32 b], 59)] (w.alloc (.cells #[.int .i64 4, .int .i64 c, .float .f32 a, .float .f32 b] 59))) := hid (((Kept.nil w).push _ _).sub (by simp))
  have Pa := hid (fun w => by have := iPlain a hal w; rw [ha] at this; exact this)
  have Pb := hid (fun w => by have := iPlain b hbl w; rw [hb] at this; exact this)
  clear ha hb hal hbl
  go_enter Try.func48, Try.ntmps48
  go_wp2_with fail
  refine (Pa.out _).mono ?_
  rintro e u1 ⟨rfl, hb1⟩
  have k1 := hid (k0.out.stay hb1)
  clear hb1
  have hr := k1.out.at (x := (w.heap.size, #[.int .i64 4, .int .i64 c, .float .f32 a, .float .f32 b], 59)) (by simp)
  have c0 : u1.cell? ⟨w.heap.size, 0, none⟩ = some (.int .i64 4) := (cell_of_row u1 _ 0 _ _ _ hr).trans rfl
  have c1 : u1.cell? ⟨w.heap.size, 1, none⟩ = some (.int .i64 c) := (cell_of_row u1 _ 1 _ _ _ hr).trans rfl
  have c2 : u1.cell? ⟨w.heap.size, 2, none⟩ = some (.float .f32 a) := (cell_of_row u1 _ 2 _ _ _ hr).trans rfl
  have c3 : u1.cell? ⟨w.heap.size, 3, none⟩ = some (.float .f32 b) := (cell_of_row u1 _ 3 _ _ _ hr).trans rfl
  clear hr
  go_wp2_with fail
  refine (Pb.out _).mono ?_
  rintro e u2 ⟨rfl, hb2⟩
  have k2 := hid (k1.out.stay hb2)
  clear hb2
  clear c0 c1 c2 c3
  have hr := k2.out.at (x := (w.heap.size, #[.int .i64 4, .int .i64 c, .float .f32 a, .float .f32 b], 59)) (by simp)
  have c0 : u2.cell? ⟨w.heap.size, 0, none⟩ = some (.int .i64 4) := (cell_of_row u2 _ 0 _ _ _ hr).trans rfl
  have c1 : u2.cell? ⟨w.heap.size, 1, none⟩ = some (.int .i64 c) := (cell_of_row u2 _ 1 _ _ _ hr).trans rfl
  have c2 : u2.cell? ⟨w.heap.size, 2, none⟩ = some (.float .f32 a) := (cell_of_row u2 _ 2 _ _ _ hr).trans rfl
  have c3 : u2.cell? ⟨w.heap.size, 3, none⟩ = some (.float .f32 b) := (cell_of_row u2 _ 3 _ _ _ hr).trans rfl
  clear hr
  go_wp2_with fail
  refine (iForm_4 _).mono ?_
  rintro e u3 ⟨rfl, hb3⟩
  have k3 := hid (k2.out.stay hb3)
  clear hb3
  clear c0 c1 c2 c3
  have kf := hid (k3.out.push #[.string { data := #[110, 117, 99, 108, 101, 105] }, .string { data := #[67, 70] }] 145)
  go_wp2_with (first | refine wpList_load_row rfl 145 _ rfl u3.heap.size rfl 145 (#[.string { data := #[110, 117, 99, 108, 101, 105] }, .string { data := #[67, 70] }]) (0, 0) _ (kf.out.at (x := (u3.heap.size, #[.string { data := #[110, 117, 99, 108, 101, 105] }, .string { data := #[67, 70] }], 145)) (by simp)) Try.underlying145 rfl (by kernel_rfl) ?_ | refine wpList_load_g rfl 145 _ rfl u3.heap.size rfl 145 (#[.string { data := #[110, 117, 99, 108, 101, 105] }, .string { data := #[67, 70] }]) (0, 0) _ (kf.out.at (x := (u3.heap.size, #[.string { data := #[110, 117, 99, 108, 101, 105] }, .string { data := #[67, 70] }], 145)) (by simp)) Try.underlying145 rfl (by kernel_rfl) ?_)
  refine (iHas { data := #[110, 117, 99, 108, 101, 105] } { data := #[67, 70] } 67 (by decide) (by decide) true (by decide) _).mono ?_
  rintro e u4 ⟨rfl, hb4⟩
  have k4 := hid (kf.out.stay hb4)
  clear hb4
  have hr := k4.out.at (x := (w.heap.size, #[.int .i64 4, .int .i64 c, .float .f32 a, .float .f32 b], 59)) (by simp)
  have c0 : u4.cell? ⟨w.heap.size, 0, none⟩ = some (.int .i64 4) := (cell_of_row u4 _ 0 _ _ _ hr).trans rfl
  have c1 : u4.cell? ⟨w.heap.size, 1, none⟩ = some (.int .i64 c) := (cell_of_row u4 _ 1 _ _ _ hr).trans rfl
  have c2 : u4.cell? ⟨w.heap.size, 2, none⟩ = some (.float .f32 a) := (cell_of_row u4 _ 2 _ _ _ hr).trans rfl
  have c3 : u4.cell? ⟨w.heap.size, 3, none⟩ = some (.float .f32 b) := (cell_of_row u4 _ 3 _ _ _ hr).trans rfl
  clear hr
  go_wp2_with (first | refine wpList_load_row rfl 145 _ rfl u3.heap.size rfl 145 (#[.string { data := #[110, 117, 99, 108, 101, 105] }, .string { data := #[67, 70] }]) (0, 0) _ (k4.out.at (x := (u3.heap.size, #[.string { data := #[110, 117, 99, 108, 101, 105] }, .string { data := #[67, 70] }], 145)) (by simp)) Try.underlying145 rfl (by kernel_rfl) ?_ | refine wpList_load_g rfl 145 _ rfl u3.heap.size rfl 145 (#[.string { data := #[110, 117, 99, 108, 101, 105] }, .string { data := #[67, 70] }]) (0, 0) _ (k4.out.at (x := (u3.heap.size, #[.string { data := #[110, 117, 99, 108, 101, 105] }, .string { data := #[67, 70] }], 145)) (by simp)) Try.underlying145 rfl (by kernel_rfl) ?_)
  refine (iHas { data := #[110, 117, 99, 108, 101, 105] } { data := #[67, 70] } 71 (by decide) (by decide) false (by decide) _).mono ?_
  rintro e u5 ⟨rfl, hb5⟩
  have k5 := hid (k4.out.stay hb5)
  clear hb5
  clear c0 c1 c2 c3
  have hr := k5.out.at (x := (w.heap.size, #[.int .i64 4, .int .i64 c, .float .f32 a, .float .f32 b], 59)) (by simp)
  have c0 : u5.cell? ⟨w.heap.size, 0, none⟩ = some (.int .i64 4) := (cell_of_row u5 _ 0 _ _ _ hr).trans rfl
  have c1 : u5.cell? ⟨w.heap.size, 1, none⟩ = some (.int .i64 c) := (cell_of_row u5 _ 1 _ _ _ hr).trans rfl
  have c2 : u5.cell? ⟨w.heap.size, 2, none⟩ = some (.float .f32 a) := (cell_of_row u5 _ 2 _ _ _ hr).trans rfl
  have c3 : u5.cell? ⟨w.heap.size, 3, none⟩ = some (.float .f32 b) := (cell_of_row u5 _ 3 _ _ _ hr).trans rfl
  clear hr
  go_wp2_with (first | refine wpList_load_row rfl 145 _ rfl u3.heap.size rfl 145 (#[.string { data := #[110, 117, 99, 108, 101, 105] }, .string { data := #[67, 70] }]) (0, 0) _ (k5.out.at (x := (u3.heap.size, #[.string { data := #[110, 117, 99, 108, 101, 105] }, .string { data := #[67, 70] }], 145)) (by simp)) Try.underlying145 rfl (by kernel_rfl) ?_ | refine wpList_load_g rfl 145 _ rfl u3.heap.size rfl 145 (#[.string { data := #[110, 117, 99, 108, 101, 105] }, .string { data := #[67, 70] }]) (0, 0) _ (k5.out.at (x := (u3.heap.size, #[.string { data := #[110, 117, 99, 108, 101, 105] }, .string { data := #[67, 70] }], 145)) (by simp)) Try.underlying145 rfl (by kernel_rfl) ?_)
  refine (iHas { data := #[110, 117, 99, 108, 101, 105] } { data := #[67, 70] } 78 (by decide) (by decide) false (by decide) _).mono ?_
  rintro e u6 ⟨rfl, hb6⟩
  have k6 := hid (k5.out.stay hb6)
  clear hb6
  clear c0 c1 c2 c3
  have hr := k6.out.at (x := (w.heap.size, #[.int .i64 4, .int .i64 c, .float .f32 a, .float .f32 b], 59)) (by simp)
  have c0 : u6.cell? ⟨w.heap.size, 0, none⟩ = some (.int .i64 4) := (cell_of_row u6 _ 0 _ _ _ hr).trans rfl
  have c1 : u6.cell? ⟨w.heap.size, 1, none⟩ = some (.int .i64 c) := (cell_of_row u6 _ 1 _ _ _ hr).trans rfl
  have c2 : u6.cell? ⟨w.heap.size, 2, none⟩ = some (.float .f32 a) := (cell_of_row u6 _ 2 _ _ _ hr).trans rfl
  have c3 : u6.cell? ⟨w.heap.size, 3, none⟩ = some (.float .f32 b) := (cell_of_row u6 _ 3 _ _ _ hr).trans rfl
  clear hr
  go_wp2
  go_ret
  exact ⟨rfl, k6.out.1⟩

set_option maxRecDepth 100000 in
set_option maxHeartbeats 2000000 in
theorem iAct4_f (c : Int) (a b : Nat) (h3 : ¬ c < 0) (h4 : ¬ 8 ≤ c) (ha : plB a = true) (hb : plB b = true) (h0 : (FloatKind.f32.format.order b 0 != some .eq) = true) (hal : a < 4294967296) (hbl : b < 4294967296) (w : World) :
    Calls Try.prog 48 #[.agg #[.int .i64 4, .int .i64 c, .float .f32 a, .float .f32 b]] w fun e w' => e = .returned (.bool false) ∧ Below w.heap.size w w' := by
  have k0 : Hid (Kept w [(w.heap.size, #[.int .i64 4, .int .i64 c, .float .f32 a, .float .f32 b], 59)] (w.alloc (.cells #[.int .i64 4, .int .i64 c, .float .f32 a, .float .f32 b] 59))) := hid (((Kept.nil w).push _ _).sub (by simp))
  have Pa := hid (fun w => by have := iPlain a hal w; rw [ha] at this; exact this)
  have Pb := hid (fun w => by have := iPlain b hbl w; rw [hb] at this; exact this)
  clear ha hb hal hbl
  go_enter Try.func48, Try.ntmps48
  go_wp2_with fail
  refine (Pa.out _).mono ?_
  rintro e u1 ⟨rfl, hb1⟩
  have k1 := hid (k0.out.stay hb1)
  clear hb1
  have hr := k1.out.at (x := (w.heap.size, #[.int .i64 4, .int .i64 c, .float .f32 a, .float .f32 b], 59)) (by simp)
  have c0 : u1.cell? ⟨w.heap.size, 0, none⟩ = some (.int .i64 4) := (cell_of_row u1 _ 0 _ _ _ hr).trans rfl
  have c1 : u1.cell? ⟨w.heap.size, 1, none⟩ = some (.int .i64 c) := (cell_of_row u1 _ 1 _ _ _ hr).trans rfl
  have c2 : u1.cell? ⟨w.heap.size, 2, none⟩ = some (.float .f32 a) := (cell_of_row u1 _ 2 _ _ _ hr).trans rfl
  have c3 : u1.cell? ⟨w.heap.size, 3, none⟩ = some (.float .f32 b) := (cell_of_row u1 _ 3 _ _ _ hr).trans rfl
  clear hr
  go_wp2_with fail
  refine (Pb.out _).mono ?_
  rintro e u2 ⟨rfl, hb2⟩
  have k2 := hid (k1.out.stay hb2)
  clear hb2
  clear c0 c1 c2 c3
  have hr := k2.out.at (x := (w.heap.size, #[.int .i64 4, .int .i64 c, .float .f32 a, .float .f32 b], 59)) (by simp)
  have c0 : u2.cell? ⟨w.heap.size, 0, none⟩ = some (.int .i64 4) := (cell_of_row u2 _ 0 _ _ _ hr).trans rfl
  have c1 : u2.cell? ⟨w.heap.size, 1, none⟩ = some (.int .i64 c) := (cell_of_row u2 _ 1 _ _ _ hr).trans rfl
  have c2 : u2.cell? ⟨w.heap.size, 2, none⟩ = some (.float .f32 a) := (cell_of_row u2 _ 2 _ _ _ hr).trans rfl
  have c3 : u2.cell? ⟨w.heap.size, 3, none⟩ = some (.float .f32 b) := (cell_of_row u2 _ 3 _ _ _ hr).trans rfl
  clear hr
  go_wp2_with fail
  refine (iForm_4 _).mono ?_
  rintro e u3 ⟨rfl, hb3⟩
  have k3 := hid (k2.out.stay hb3)
  clear hb3
  clear c0 c1 c2 c3
  have kf := hid (k3.out.push #[.string { data := #[110, 117, 99, 108, 101, 105] }, .string { data := #[67, 70] }] 145)
  go_wp2_with (first | refine wpList_load_row rfl 145 _ rfl u3.heap.size rfl 145 (#[.string { data := #[110, 117, 99, 108, 101, 105] }, .string { data := #[67, 70] }]) (0, 0) _ (kf.out.at (x := (u3.heap.size, #[.string { data := #[110, 117, 99, 108, 101, 105] }, .string { data := #[67, 70] }], 145)) (by simp)) Try.underlying145 rfl (by kernel_rfl) ?_ | refine wpList_load_g rfl 145 _ rfl u3.heap.size rfl 145 (#[.string { data := #[110, 117, 99, 108, 101, 105] }, .string { data := #[67, 70] }]) (0, 0) _ (kf.out.at (x := (u3.heap.size, #[.string { data := #[110, 117, 99, 108, 101, 105] }, .string { data := #[67, 70] }], 145)) (by simp)) Try.underlying145 rfl (by kernel_rfl) ?_)
  refine (iHas { data := #[110, 117, 99, 108, 101, 105] } { data := #[67, 70] } 67 (by decide) (by decide) true (by decide) _).mono ?_
  rintro e u4 ⟨rfl, hb4⟩
  have k4 := hid (kf.out.stay hb4)
  clear hb4
  have hr := k4.out.at (x := (w.heap.size, #[.int .i64 4, .int .i64 c, .float .f32 a, .float .f32 b], 59)) (by simp)
  have c0 : u4.cell? ⟨w.heap.size, 0, none⟩ = some (.int .i64 4) := (cell_of_row u4 _ 0 _ _ _ hr).trans rfl
  have c1 : u4.cell? ⟨w.heap.size, 1, none⟩ = some (.int .i64 c) := (cell_of_row u4 _ 1 _ _ _ hr).trans rfl
  have c2 : u4.cell? ⟨w.heap.size, 2, none⟩ = some (.float .f32 a) := (cell_of_row u4 _ 2 _ _ _ hr).trans rfl
  have c3 : u4.cell? ⟨w.heap.size, 3, none⟩ = some (.float .f32 b) := (cell_of_row u4 _ 3 _ _ _ hr).trans rfl
  clear hr
  go_wp2_with (first | refine wpList_load_row rfl 145 _ rfl u3.heap.size rfl 145 (#[.string { data := #[110, 117, 99, 108, 101, 105] }, .string { data := #[67, 70] }]) (0, 0) _ (k4.out.at (x := (u3.heap.size, #[.string { data := #[110, 117, 99, 108, 101, 105] }, .string { data := #[67, 70] }], 145)) (by simp)) Try.underlying145 rfl (by kernel_rfl) ?_ | refine wpList_load_g rfl 145 _ rfl u3.heap.size rfl 145 (#[.string { data := #[110, 117, 99, 108, 101, 105] }, .string { data := #[67, 70] }]) (0, 0) _ (k4.out.at (x := (u3.heap.size, #[.string { data := #[110, 117, 99, 108, 101, 105] }, .string { data := #[67, 70] }], 145)) (by simp)) Try.underlying145 rfl (by kernel_rfl) ?_)
  refine (iHas { data := #[110, 117, 99, 108, 101, 105] } { data := #[67, 70] } 71 (by decide) (by decide) false (by decide) _).mono ?_
  rintro e u5 ⟨rfl, hb5⟩
  have k5 := hid (k4.out.stay hb5)
  clear hb5
  clear c0 c1 c2 c3
  have hr := k5.out.at (x := (w.heap.size, #[.int .i64 4, .int .i64 c, .float .f32 a, .float .f32 b], 59)) (by simp)
  have c0 : u5.cell? ⟨w.heap.size, 0, none⟩ = some (.int .i64 4) := (cell_of_row u5 _ 0 _ _ _ hr).trans rfl
  have c1 : u5.cell? ⟨w.heap.size, 1, none⟩ = some (.int .i64 c) := (cell_of_row u5 _ 1 _ _ _ hr).trans rfl
  have c2 : u5.cell? ⟨w.heap.size, 2, none⟩ = some (.float .f32 a) := (cell_of_row u5 _ 2 _ _ _ hr).trans rfl
  have c3 : u5.cell? ⟨w.heap.size, 3, none⟩ = some (.float .f32 b) := (cell_of_row u5 _ 3 _ _ _ hr).trans rfl
  clear hr
  go_wp2
  go_ret
  exact ⟨rfl, k5.out.1⟩

set_option maxRecDepth 100000 in
set_option maxHeartbeats 2000000 in
theorem iAct3_t (c : Int) (a b : Nat) (h3 : ¬ c < 0) (h4 : ¬ 8 ≤ c) (ha : plB a = true) (hb : plB b = true) (hal : a < 4294967296) (hbl : b < 4294967296) (w : World) :
    Calls Try.prog 48 #[.agg #[.int .i64 3, .int .i64 c, .float .f32 a, .float .f32 b]] w fun e w' => e = .returned (.bool true) ∧ Below w.heap.size w w' := by
  have k0 : Hid (Kept w [(w.heap.size, #[.int .i64 3, .int .i64 c, .float .f32 a, .float .f32 b], 59)] (w.alloc (.cells #[.int .i64 3, .int .i64 c, .float .f32 a, .float .f32 b] 59))) := hid (((Kept.nil w).push _ _).sub (by simp))
  have Pa := hid (fun w => by have := iPlain a hal w; rw [ha] at this; exact this)
  have Pb := hid (fun w => by have := iPlain b hbl w; rw [hb] at this; exact this)
  clear ha hb hal hbl
  go_enter Try.func48, Try.ntmps48
  go_wp2_with fail
  refine (Pa.out _).mono ?_
  rintro e u1 ⟨rfl, hb1⟩
  have k1 := hid (k0.out.stay hb1)
  clear hb1
  have hr := k1.out.at (x := (w.heap.size, #[.int .i64 3, .int .i64 c, .float .f32 a, .float .f32 b], 59)) (by simp)
  have c0 : u1.cell? ⟨w.heap.size, 0, none⟩ = some (.int .i64 3) := (cell_of_row u1 _ 0 _ _ _ hr).trans rfl
  have c1 : u1.cell? ⟨w.heap.size, 1, none⟩ = some (.int .i64 c) := (cell_of_row u1 _ 1 _ _ _ hr).trans rfl
  have c2 : u1.cell? ⟨w.heap.size, 2, none⟩ = some (.float .f32 a) := (cell_of_row u1 _ 2 _ _ _ hr).trans rfl
  have c3 : u1.cell? ⟨w.heap.size, 3, none⟩ = some (.float .f32 b) := (cell_of_row u1 _ 3 _ _ _ hr).trans rfl
  clear hr
  go_wp2_with fail
  refine (Pb.out _).mono ?_
  rintro e u2 ⟨rfl, hb2⟩
  have k2 := hid (k1.out.stay hb2)
  clear hb2
  clear c0 c1 c2 c3
  have hr := k2.out.at (x := (w.heap.size, #[.int .i64 3, .int .i64 c, .float .f32 a, .float .f32 b], 59)) (by simp)
  have c0 : u2.cell? ⟨w.heap.size, 0, none⟩ = some (.int .i64 3) := (cell_of_row u2 _ 0 _ _ _ hr).trans rfl
  have c1 : u2.cell? ⟨w.heap.size, 1, none⟩ = some (.int .i64 c) := (cell_of_row u2 _ 1 _ _ _ hr).trans rfl
  have c2 : u2.cell? ⟨w.heap.size, 2, none⟩ = some (.float .f32 a) := (cell_of_row u2 _ 2 _ _ _ hr).trans rfl
  have c3 : u2.cell? ⟨w.heap.size, 3, none⟩ = some (.float .f32 b) := (cell_of_row u2 _ 3 _ _ _ hr).trans rfl
  clear hr
  go_wp2_with fail
  refine (iForm_3 _).mono ?_
  rintro e u3 ⟨rfl, hb3⟩
  have k3 := hid (k2.out.stay hb3)
  clear hb3
  clear c0 c1 c2 c3
  have kf := hid (k3.out.push #[.string { data := #[115, 101, 101, 100] }, .string { data := #[67, 70, 71] }] 145)
  go_wp2_with (first | refine wpList_load_row rfl 145 _ rfl u3.heap.size rfl 145 (#[.string { data := #[115, 101, 101, 100] }, .string { data := #[67, 70, 71] }]) (0, 0) _ (kf.out.at (x := (u3.heap.size, #[.string { data := #[115, 101, 101, 100] }, .string { data := #[67, 70, 71] }], 145)) (by simp)) Try.underlying145 rfl (by kernel_rfl) ?_ | refine wpList_load_g rfl 145 _ rfl u3.heap.size rfl 145 (#[.string { data := #[115, 101, 101, 100] }, .string { data := #[67, 70, 71] }]) (0, 0) _ (kf.out.at (x := (u3.heap.size, #[.string { data := #[115, 101, 101, 100] }, .string { data := #[67, 70, 71] }], 145)) (by simp)) Try.underlying145 rfl (by kernel_rfl) ?_)
  refine (iHas { data := #[115, 101, 101, 100] } { data := #[67, 70, 71] } 67 (by decide) (by decide) true (by decide) _).mono ?_
  rintro e u4 ⟨rfl, hb4⟩
  have k4 := hid (kf.out.stay hb4)
  clear hb4
  have hr := k4.out.at (x := (w.heap.size, #[.int .i64 3, .int .i64 c, .float .f32 a, .float .f32 b], 59)) (by simp)
  have c0 : u4.cell? ⟨w.heap.size, 0, none⟩ = some (.int .i64 3) := (cell_of_row u4 _ 0 _ _ _ hr).trans rfl
  have c1 : u4.cell? ⟨w.heap.size, 1, none⟩ = some (.int .i64 c) := (cell_of_row u4 _ 1 _ _ _ hr).trans rfl
  have c2 : u4.cell? ⟨w.heap.size, 2, none⟩ = some (.float .f32 a) := (cell_of_row u4 _ 2 _ _ _ hr).trans rfl
  have c3 : u4.cell? ⟨w.heap.size, 3, none⟩ = some (.float .f32 b) := (cell_of_row u4 _ 3 _ _ _ hr).trans rfl
  clear hr
  go_wp2_with (first | refine wpList_load_row rfl 145 _ rfl u3.heap.size rfl 145 (#[.string { data := #[115, 101, 101, 100] }, .string { data := #[67, 70, 71] }]) (0, 0) _ (k4.out.at (x := (u3.heap.size, #[.string { data := #[115, 101, 101, 100] }, .string { data := #[67, 70, 71] }], 145)) (by simp)) Try.underlying145 rfl (by kernel_rfl) ?_ | refine wpList_load_g rfl 145 _ rfl u3.heap.size rfl 145 (#[.string { data := #[115, 101, 101, 100] }, .string { data := #[67, 70, 71] }]) (0, 0) _ (k4.out.at (x := (u3.heap.size, #[.string { data := #[115, 101, 101, 100] }, .string { data := #[67, 70, 71] }], 145)) (by simp)) Try.underlying145 rfl (by kernel_rfl) ?_)
  refine (iHas { data := #[115, 101, 101, 100] } { data := #[67, 70, 71] } 71 (by decide) (by decide) true (by decide) _).mono ?_
  rintro e u5 ⟨rfl, hb5⟩
  have k5 := hid (k4.out.stay hb5)
  clear hb5
  clear c0 c1 c2 c3
  have hr := k5.out.at (x := (w.heap.size, #[.int .i64 3, .int .i64 c, .float .f32 a, .float .f32 b], 59)) (by simp)
  have c0 : u5.cell? ⟨w.heap.size, 0, none⟩ = some (.int .i64 3) := (cell_of_row u5 _ 0 _ _ _ hr).trans rfl
  have c1 : u5.cell? ⟨w.heap.size, 1, none⟩ = some (.int .i64 c) := (cell_of_row u5 _ 1 _ _ _ hr).trans rfl
  have c2 : u5.cell? ⟨w.heap.size, 2, none⟩ = some (.float .f32 a) := (cell_of_row u5 _ 2 _ _ _ hr).trans rfl
  have c3 : u5.cell? ⟨w.heap.size, 3, none⟩ = some (.float .f32 b) := (cell_of_row u5 _ 3 _ _ _ hr).trans rfl
  clear hr
  go_wp2_with (first | refine wpList_load_row rfl 145 _ rfl u3.heap.size rfl 145 (#[.string { data := #[115, 101, 101, 100] }, .string { data := #[67, 70, 71] }]) (0, 0) _ (k5.out.at (x := (u3.heap.size, #[.string { data := #[115, 101, 101, 100] }, .string { data := #[67, 70, 71] }], 145)) (by simp)) Try.underlying145 rfl (by kernel_rfl) ?_ | refine wpList_load_g rfl 145 _ rfl u3.heap.size rfl 145 (#[.string { data := #[115, 101, 101, 100] }, .string { data := #[67, 70, 71] }]) (0, 0) _ (k5.out.at (x := (u3.heap.size, #[.string { data := #[115, 101, 101, 100] }, .string { data := #[67, 70, 71] }], 145)) (by simp)) Try.underlying145 rfl (by kernel_rfl) ?_)
  refine (iHas { data := #[115, 101, 101, 100] } { data := #[67, 70, 71] } 78 (by decide) (by decide) false (by decide) _).mono ?_
  rintro e u6 ⟨rfl, hb6⟩
  have k6 := hid (k5.out.stay hb6)
  clear hb6
  clear c0 c1 c2 c3
  have hr := k6.out.at (x := (w.heap.size, #[.int .i64 3, .int .i64 c, .float .f32 a, .float .f32 b], 59)) (by simp)
  have c0 : u6.cell? ⟨w.heap.size, 0, none⟩ = some (.int .i64 3) := (cell_of_row u6 _ 0 _ _ _ hr).trans rfl
  have c1 : u6.cell? ⟨w.heap.size, 1, none⟩ = some (.int .i64 c) := (cell_of_row u6 _ 1 _ _ _ hr).trans rfl
  have c2 : u6.cell? ⟨w.heap.size, 2, none⟩ = some (.float .f32 a) := (cell_of_row u6 _ 2 _ _ _ hr).trans rfl
  have c3 : u6.cell? ⟨w.heap.size, 3, none⟩ = some (.float .f32 b) := (cell_of_row u6 _ 3 _ _ _ hr).trans rfl
  clear hr
  go_wp2
  go_ret
  exact ⟨rfl, k6.out.1⟩

set_option maxRecDepth 100000 in
set_option maxHeartbeats 2000000 in
theorem iAct5_c (c : Int) (a b : Nat) (h3 : ¬ c < 0) (h4 : ¬ 8 ≤ c) (ha : plB a = true) (hb : plB b = true) (hc : c ≠ 0) (hal : a < 4294967296) (hbl : b < 4294967296) (w : World) :
    Calls Try.prog 48 #[.agg #[.int .i64 5, .int .i64 c, .float .f32 a, .float .f32 b]] w fun e w' => e = .returned (.bool false) ∧ Below w.heap.size w w' := by
  have k0 : Hid (Kept w [(w.heap.size, #[.int .i64 5, .int .i64 c, .float .f32 a, .float .f32 b], 59)] (w.alloc (.cells #[.int .i64 5, .int .i64 c, .float .f32 a, .float .f32 b] 59))) := hid (((Kept.nil w).push _ _).sub (by simp))
  have Pa := hid (fun w => by have := iPlain a hal w; rw [ha] at this; exact this)
  have Pb := hid (fun w => by have := iPlain b hbl w; rw [hb] at this; exact this)
  clear ha hb hal hbl
  go_enter Try.func48, Try.ntmps48
  go_wp2_with fail
  refine (Pa.out _).mono ?_
  rintro e u1 ⟨rfl, hb1⟩
  have k1 := hid (k0.out.stay hb1)
  clear hb1
  have hr := k1.out.at (x := (w.heap.size, #[.int .i64 5, .int .i64 c, .float .f32 a, .float .f32 b], 59)) (by simp)
  have c0 : u1.cell? ⟨w.heap.size, 0, none⟩ = some (.int .i64 5) := (cell_of_row u1 _ 0 _ _ _ hr).trans rfl
  have c1 : u1.cell? ⟨w.heap.size, 1, none⟩ = some (.int .i64 c) := (cell_of_row u1 _ 1 _ _ _ hr).trans rfl
  have c2 : u1.cell? ⟨w.heap.size, 2, none⟩ = some (.float .f32 a) := (cell_of_row u1 _ 2 _ _ _ hr).trans rfl
  have c3 : u1.cell? ⟨w.heap.size, 3, none⟩ = some (.float .f32 b) := (cell_of_row u1 _ 3 _ _ _ hr).trans rfl
  clear hr
  go_wp2_with fail
  refine (Pb.out _).mono ?_
  rintro e u2 ⟨rfl, hb2⟩
  have k2 := hid (k1.out.stay hb2)
  clear hb2
  clear c0 c1 c2 c3
  have hr := k2.out.at (x := (w.heap.size, #[.int .i64 5, .int .i64 c, .float .f32 a, .float .f32 b], 59)) (by simp)
  have c0 : u2.cell? ⟨w.heap.size, 0, none⟩ = some (.int .i64 5) := (cell_of_row u2 _ 0 _ _ _ hr).trans rfl
  have c1 : u2.cell? ⟨w.heap.size, 1, none⟩ = some (.int .i64 c) := (cell_of_row u2 _ 1 _ _ _ hr).trans rfl
  have c2 : u2.cell? ⟨w.heap.size, 2, none⟩ = some (.float .f32 a) := (cell_of_row u2 _ 2 _ _ _ hr).trans rfl
  have c3 : u2.cell? ⟨w.heap.size, 3, none⟩ = some (.float .f32 b) := (cell_of_row u2 _ 3 _ _ _ hr).trans rfl
  clear hr
  go_wp2_with fail
  refine (iForm_5 _).mono ?_
  rintro e u3 ⟨rfl, hb3⟩
  have k3 := hid (k2.out.stay hb3)
  clear hb3
  clear c0 c1 c2 c3
  have kf := hid (k3.out.push #[.string { data := #[115, 116, 105, 114] }, .string { data := #[70] }] 145)
  go_wp2_with (first | refine wpList_load_row rfl 145 _ rfl u3.heap.size rfl 145 (#[.string { data := #[115, 116, 105, 114] }, .string { data := #[70] }]) (0, 0) _ (kf.out.at (x := (u3.heap.size, #[.string { data := #[115, 116, 105, 114] }, .string { data := #[70] }], 145)) (by simp)) Try.underlying145 rfl (by kernel_rfl) ?_ | refine wpList_load_g rfl 145 _ rfl u3.heap.size rfl 145 (#[.string { data := #[115, 116, 105, 114] }, .string { data := #[70] }]) (0, 0) _ (kf.out.at (x := (u3.heap.size, #[.string { data := #[115, 116, 105, 114] }, .string { data := #[70] }], 145)) (by simp)) Try.underlying145 rfl (by kernel_rfl) ?_)
  refine (iHas { data := #[115, 116, 105, 114] } { data := #[70] } 67 (by decide) (by decide) false (by decide) _).mono ?_
  rintro e u4 ⟨rfl, hb4⟩
  have k4 := hid (kf.out.stay hb4)
  clear hb4
  have hr := k4.out.at (x := (w.heap.size, #[.int .i64 5, .int .i64 c, .float .f32 a, .float .f32 b], 59)) (by simp)
  have c0 : u4.cell? ⟨w.heap.size, 0, none⟩ = some (.int .i64 5) := (cell_of_row u4 _ 0 _ _ _ hr).trans rfl
  have c1 : u4.cell? ⟨w.heap.size, 1, none⟩ = some (.int .i64 c) := (cell_of_row u4 _ 1 _ _ _ hr).trans rfl
  have c2 : u4.cell? ⟨w.heap.size, 2, none⟩ = some (.float .f32 a) := (cell_of_row u4 _ 2 _ _ _ hr).trans rfl
  have c3 : u4.cell? ⟨w.heap.size, 3, none⟩ = some (.float .f32 b) := (cell_of_row u4 _ 3 _ _ _ hr).trans rfl
  clear hr
  go_wp2
  go_ret
  exact ⟨rfl, k4.out.1⟩

set_option maxRecDepth 100000 in
set_option maxHeartbeats 2000000 in
theorem iAct5_t (c : Int) (a b : Nat) (h3 : ¬ c < 0) (h4 : ¬ 8 ≤ c) (ha : plB a = true) (hb : plB b = true) (hc : c = 0) (h0 : (FloatKind.f32.format.order b 0 != some .eq) = false) (hal : a < 4294967296) (hbl : b < 4294967296) (w : World) :
    Calls Try.prog 48 #[.agg #[.int .i64 5, .int .i64 c, .float .f32 a, .float .f32 b]] w fun e w' => e = .returned (.bool true) ∧ Below w.heap.size w w' := by
  subst hc
  clear h3 h4
  have k0 : Hid (Kept w [(w.heap.size, #[.int .i64 5, .int .i64 0, .float .f32 a, .float .f32 b], 59)] (w.alloc (.cells #[.int .i64 5, .int .i64 0, .float .f32 a, .float .f32 b] 59))) := hid (((Kept.nil w).push _ _).sub (by simp))
  have Pa := hid (fun w => by have := iPlain a hal w; rw [ha] at this; exact this)
  have Pb := hid (fun w => by have := iPlain b hbl w; rw [hb] at this; exact this)
  clear ha hb hal hbl
  go_enter Try.func48, Try.ntmps48
  go_wp2_with fail
  refine (Pa.out _).mono ?_
  rintro e u1 ⟨rfl, hb1⟩
  have k1 := hid (k0.out.stay hb1)
  clear hb1
  have hr := k1.out.at (x := (w.heap.size, #[.int .i64 5, .int .i64 0, .float .f32 a, .float .f32 b], 59)) (by simp)
  have c0 : u1.cell? ⟨w.heap.size, 0, none⟩ = some (.int .i64 5) := (cell_of_row u1 _ 0 _ _ _ hr).trans rfl
  have c1 : u1.cell? ⟨w.heap.size, 1, none⟩ = some (.int .i64 0) := (cell_of_row u1 _ 1 _ _ _ hr).trans rfl
  have c2 : u1.cell? ⟨w.heap.size, 2, none⟩ = some (.float .f32 a) := (cell_of_row u1 _ 2 _ _ _ hr).trans rfl
  have c3 : u1.cell? ⟨w.heap.size, 3, none⟩ = some (.float .f32 b) := (cell_of_row u1 _ 3 _ _ _ hr).trans rfl
  clear hr
  go_wp2_with fail
  refine (Pb.out _).mono ?_
  rintro e u2 ⟨rfl, hb2⟩
  have k2 := hid (k1.out.stay hb2)
  clear hb2
  clear c0 c1 c2 c3
  have hr := k2.out.at (x := (w.heap.size, #[.int .i64 5, .int .i64 0, .float .f32 a, .float .f32 b], 59)) (by simp)
  have c0 : u2.cell? ⟨w.heap.size, 0, none⟩ = some (.int .i64 5) := (cell_of_row u2 _ 0 _ _ _ hr).trans rfl
  have c1 : u2.cell? ⟨w.heap.size, 1, none⟩ = some (.int .i64 0) := (cell_of_row u2 _ 1 _ _ _ hr).trans rfl
  have c2 : u2.cell? ⟨w.heap.size, 2, none⟩ = some (.float .f32 a) := (cell_of_row u2 _ 2 _ _ _ hr).trans rfl
  have c3 : u2.cell? ⟨w.heap.size, 3, none⟩ = some (.float .f32 b) := (cell_of_row u2 _ 3 _ _ _ hr).trans rfl
  clear hr
  go_wp2_with fail
  refine (iForm_5 _).mono ?_
  rintro e u3 ⟨rfl, hb3⟩
  have k3 := hid (k2.out.stay hb3)
  clear hb3
  clear c0 c1 c2 c3
  have kf := hid (k3.out.push #[.string { data := #[115, 116, 105, 114] }, .string { data := #[70] }] 145)
  go_wp2_with (first | refine wpList_load_row rfl 145 _ rfl u3.heap.size rfl 145 (#[.string { data := #[115, 116, 105, 114] }, .string { data := #[70] }]) (0, 0) _ (kf.out.at (x := (u3.heap.size, #[.string { data := #[115, 116, 105, 114] }, .string { data := #[70] }], 145)) (by simp)) Try.underlying145 rfl (by kernel_rfl) ?_ | refine wpList_load_g rfl 145 _ rfl u3.heap.size rfl 145 (#[.string { data := #[115, 116, 105, 114] }, .string { data := #[70] }]) (0, 0) _ (kf.out.at (x := (u3.heap.size, #[.string { data := #[115, 116, 105, 114] }, .string { data := #[70] }], 145)) (by simp)) Try.underlying145 rfl (by kernel_rfl) ?_)
  refine (iHas { data := #[115, 116, 105, 114] } { data := #[70] } 67 (by decide) (by decide) false (by decide) _).mono ?_
  rintro e u4 ⟨rfl, hb4⟩
  have k4 := hid (kf.out.stay hb4)
  clear hb4
  have hr := k4.out.at (x := (w.heap.size, #[.int .i64 5, .int .i64 0, .float .f32 a, .float .f32 b], 59)) (by simp)
  have c0 : u4.cell? ⟨w.heap.size, 0, none⟩ = some (.int .i64 5) := (cell_of_row u4 _ 0 _ _ _ hr).trans rfl
  have c1 : u4.cell? ⟨w.heap.size, 1, none⟩ = some (.int .i64 0) := (cell_of_row u4 _ 1 _ _ _ hr).trans rfl
  have c2 : u4.cell? ⟨w.heap.size, 2, none⟩ = some (.float .f32 a) := (cell_of_row u4 _ 2 _ _ _ hr).trans rfl
  have c3 : u4.cell? ⟨w.heap.size, 3, none⟩ = some (.float .f32 b) := (cell_of_row u4 _ 3 _ _ _ hr).trans rfl
  clear hr
  go_wp2_with (first | refine wpList_load_row rfl 145 _ rfl u3.heap.size rfl 145 (#[.string { data := #[115, 116, 105, 114] }, .string { data := #[70] }]) (0, 0) _ (k4.out.at (x := (u3.heap.size, #[.string { data := #[115, 116, 105, 114] }, .string { data := #[70] }], 145)) (by simp)) Try.underlying145 rfl (by kernel_rfl) ?_ | refine wpList_load_g rfl 145 _ rfl u3.heap.size rfl 145 (#[.string { data := #[115, 116, 105, 114] }, .string { data := #[70] }]) (0, 0) _ (k4.out.at (x := (u3.heap.size, #[.string { data := #[115, 116, 105, 114] }, .string { data := #[70] }], 145)) (by simp)) Try.underlying145 rfl (by kernel_rfl) ?_)
  refine (iHas { data := #[115, 116, 105, 114] } { data := #[70] } 71 (by decide) (by decide) false (by decide) _).mono ?_
  rintro e u5 ⟨rfl, hb5⟩
  have k5 := hid (k4.out.stay hb5)
  clear hb5
  clear c0 c1 c2 c3
  have hr := k5.out.at (x := (w.heap.size, #[.int .i64 5, .int .i64 0, .float .f32 a, .float .f32 b], 59)) (by simp)
  have c0 : u5.cell? ⟨w.heap.size, 0, none⟩ = some (.int .i64 5) := (cell_of_row u5 _ 0 _ _ _ hr).trans rfl
  have c1 : u5.cell? ⟨w.heap.size, 1, none⟩ = some (.int .i64 0) := (cell_of_row u5 _ 1 _ _ _ hr).trans rfl
  have c2 : u5.cell? ⟨w.heap.size, 2, none⟩ = some (.float .f32 a) := (cell_of_row u5 _ 2 _ _ _ hr).trans rfl
  have c3 : u5.cell? ⟨w.heap.size, 3, none⟩ = some (.float .f32 b) := (cell_of_row u5 _ 3 _ _ _ hr).trans rfl
  clear hr
  go_wp2_with (first | refine wpList_load_row rfl 145 _ rfl u3.heap.size rfl 145 (#[.string { data := #[115, 116, 105, 114] }, .string { data := #[70] }]) (0, 0) _ (k5.out.at (x := (u3.heap.size, #[.string { data := #[115, 116, 105, 114] }, .string { data := #[70] }], 145)) (by simp)) Try.underlying145 rfl (by kernel_rfl) ?_ | refine wpList_load_g rfl 145 _ rfl u3.heap.size rfl 145 (#[.string { data := #[115, 116, 105, 114] }, .string { data := #[70] }]) (0, 0) _ (k5.out.at (x := (u3.heap.size, #[.string { data := #[115, 116, 105, 114] }, .string { data := #[70] }], 145)) (by simp)) Try.underlying145 rfl (by kernel_rfl) ?_)
  refine (iHas { data := #[115, 116, 105, 114] } { data := #[70] } 78 (by decide) (by decide) false (by decide) _).mono ?_
  rintro e u6 ⟨rfl, hb6⟩
  have k6 := hid (k5.out.stay hb6)
  clear hb6
  clear c0 c1 c2 c3
  have hr := k6.out.at (x := (w.heap.size, #[.int .i64 5, .int .i64 0, .float .f32 a, .float .f32 b], 59)) (by simp)
  have c0 : u6.cell? ⟨w.heap.size, 0, none⟩ = some (.int .i64 5) := (cell_of_row u6 _ 0 _ _ _ hr).trans rfl
  have c1 : u6.cell? ⟨w.heap.size, 1, none⟩ = some (.int .i64 0) := (cell_of_row u6 _ 1 _ _ _ hr).trans rfl
  have c2 : u6.cell? ⟨w.heap.size, 2, none⟩ = some (.float .f32 a) := (cell_of_row u6 _ 2 _ _ _ hr).trans rfl
  have c3 : u6.cell? ⟨w.heap.size, 3, none⟩ = some (.float .f32 b) := (cell_of_row u6 _ 3 _ _ _ hr).trans rfl
  clear hr
  go_wp2
  go_ret
  exact ⟨rfl, k6.out.1⟩

set_option maxRecDepth 100000 in
set_option maxHeartbeats 2000000 in
theorem iAct5_f (c : Int) (a b : Nat) (h3 : ¬ c < 0) (h4 : ¬ 8 ≤ c) (ha : plB a = true) (hb : plB b = true) (hc : c = 0) (h0 : (FloatKind.f32.format.order b 0 != some .eq) = true) (hal : a < 4294967296) (hbl : b < 4294967296) (w : World) :
    Calls Try.prog 48 #[.agg #[.int .i64 5, .int .i64 c, .float .f32 a, .float .f32 b]] w fun e w' => e = .returned (.bool false) ∧ Below w.heap.size w w' := by
  subst hc
  clear h3 h4
  have k0 : Hid (Kept w [(w.heap.size, #[.int .i64 5, .int .i64 0, .float .f32 a, .float .f32 b], 59)] (w.alloc (.cells #[.int .i64 5, .int .i64 0, .float .f32 a, .float .f32 b] 59))) := hid (((Kept.nil w).push _ _).sub (by simp))
  have Pa := hid (fun w => by have := iPlain a hal w; rw [ha] at this; exact this)
  have Pb := hid (fun w => by have := iPlain b hbl w; rw [hb] at this; exact this)
  clear ha hb hal hbl
  go_enter Try.func48, Try.ntmps48
  go_wp2_with fail
  refine (Pa.out _).mono ?_
  rintro e u1 ⟨rfl, hb1⟩
  have k1 := hid (k0.out.stay hb1)
  clear hb1
  have hr := k1.out.at (x := (w.heap.size, #[.int .i64 5, .int .i64 0, .float .f32 a, .float .f32 b], 59)) (by simp)
  have c0 : u1.cell? ⟨w.heap.size, 0, none⟩ = some (.int .i64 5) := (cell_of_row u1 _ 0 _ _ _ hr).trans rfl
  have c1 : u1.cell? ⟨w.heap.size, 1, none⟩ = some (.int .i64 0) := (cell_of_row u1 _ 1 _ _ _ hr).trans rfl
  have c2 : u1.cell? ⟨w.heap.size, 2, none⟩ = some (.float .f32 a) := (cell_of_row u1 _ 2 _ _ _ hr).trans rfl
  have c3 : u1.cell? ⟨w.heap.size, 3, none⟩ = some (.float .f32 b) := (cell_of_row u1 _ 3 _ _ _ hr).trans rfl
  clear hr
  go_wp2_with fail
  refine (Pb.out _).mono ?_
  rintro e u2 ⟨rfl, hb2⟩
  have k2 := hid (k1.out.stay hb2)
  clear hb2
  clear c0 c1 c2 c3
  have hr := k2.out.at (x := (w.heap.size, #[.int .i64 5, .int .i64 0, .float .f32 a, .float .f32 b], 59)) (by simp)
  have c0 : u2.cell? ⟨w.heap.size, 0, none⟩ = some (.int .i64 5) := (cell_of_row u2 _ 0 _ _ _ hr).trans rfl
  have c1 : u2.cell? ⟨w.heap.size, 1, none⟩ = some (.int .i64 0) := (cell_of_row u2 _ 1 _ _ _ hr).trans rfl
  have c2 : u2.cell? ⟨w.heap.size, 2, none⟩ = some (.float .f32 a) := (cell_of_row u2 _ 2 _ _ _ hr).trans rfl
  have c3 : u2.cell? ⟨w.heap.size, 3, none⟩ = some (.float .f32 b) := (cell_of_row u2 _ 3 _ _ _ hr).trans rfl
  clear hr
  go_wp2_with fail
  refine (iForm_5 _).mono ?_
  rintro e u3 ⟨rfl, hb3⟩
  have k3 := hid (k2.out.stay hb3)
  clear hb3
  clear c0 c1 c2 c3
  have kf := hid (k3.out.push #[.string { data := #[115, 116, 105, 114] }, .string { data := #[70] }] 145)
  go_wp2_with (first | refine wpList_load_row rfl 145 _ rfl u3.heap.size rfl 145 (#[.string { data := #[115, 116, 105, 114] }, .string { data := #[70] }]) (0, 0) _ (kf.out.at (x := (u3.heap.size, #[.string { data := #[115, 116, 105, 114] }, .string { data := #[70] }], 145)) (by simp)) Try.underlying145 rfl (by kernel_rfl) ?_ | refine wpList_load_g rfl 145 _ rfl u3.heap.size rfl 145 (#[.string { data := #[115, 116, 105, 114] }, .string { data := #[70] }]) (0, 0) _ (kf.out.at (x := (u3.heap.size, #[.string { data := #[115, 116, 105, 114] }, .string { data := #[70] }], 145)) (by simp)) Try.underlying145 rfl (by kernel_rfl) ?_)
  refine (iHas { data := #[115, 116, 105, 114] } { data := #[70] } 67 (by decide) (by decide) false (by decide) _).mono ?_
  rintro e u4 ⟨rfl, hb4⟩
  have k4 := hid (kf.out.stay hb4)
  clear hb4
  have hr := k4.out.at (x := (w.heap.size, #[.int .i64 5, .int .i64 0, .float .f32 a, .float .f32 b], 59)) (by simp)
  have c0 : u4.cell? ⟨w.heap.size, 0, none⟩ = some (.int .i64 5) := (cell_of_row u4 _ 0 _ _ _ hr).trans rfl
  have c1 : u4.cell? ⟨w.heap.size, 1, none⟩ = some (.int .i64 0) := (cell_of_row u4 _ 1 _ _ _ hr).trans rfl
  have c2 : u4.cell? ⟨w.heap.size, 2, none⟩ = some (.float .f32 a) := (cell_of_row u4 _ 2 _ _ _ hr).trans rfl
  have c3 : u4.cell? ⟨w.heap.size, 3, none⟩ = some (.float .f32 b) := (cell_of_row u4 _ 3 _ _ _ hr).trans rfl
  clear hr
  go_wp2_with (first | refine wpList_load_row rfl 145 _ rfl u3.heap.size rfl 145 (#[.string { data := #[115, 116, 105, 114] }, .string { data := #[70] }]) (0, 0) _ (k4.out.at (x := (u3.heap.size, #[.string { data := #[115, 116, 105, 114] }, .string { data := #[70] }], 145)) (by simp)) Try.underlying145 rfl (by kernel_rfl) ?_ | refine wpList_load_g rfl 145 _ rfl u3.heap.size rfl 145 (#[.string { data := #[115, 116, 105, 114] }, .string { data := #[70] }]) (0, 0) _ (k4.out.at (x := (u3.heap.size, #[.string { data := #[115, 116, 105, 114] }, .string { data := #[70] }], 145)) (by simp)) Try.underlying145 rfl (by kernel_rfl) ?_)
  refine (iHas { data := #[115, 116, 105, 114] } { data := #[70] } 71 (by decide) (by decide) false (by decide) _).mono ?_
  rintro e u5 ⟨rfl, hb5⟩
  have k5 := hid (k4.out.stay hb5)
  clear hb5
  clear c0 c1 c2 c3
  have hr := k5.out.at (x := (w.heap.size, #[.int .i64 5, .int .i64 0, .float .f32 a, .float .f32 b], 59)) (by simp)
  have c0 : u5.cell? ⟨w.heap.size, 0, none⟩ = some (.int .i64 5) := (cell_of_row u5 _ 0 _ _ _ hr).trans rfl
  have c1 : u5.cell? ⟨w.heap.size, 1, none⟩ = some (.int .i64 0) := (cell_of_row u5 _ 1 _ _ _ hr).trans rfl
  have c2 : u5.cell? ⟨w.heap.size, 2, none⟩ = some (.float .f32 a) := (cell_of_row u5 _ 2 _ _ _ hr).trans rfl
  have c3 : u5.cell? ⟨w.heap.size, 3, none⟩ = some (.float .f32 b) := (cell_of_row u5 _ 3 _ _ _ hr).trans rfl
  clear hr
  go_wp2
  go_ret
  exact ⟨rfl, k5.out.1⟩

set_option maxRecDepth 100000 in
set_option maxHeartbeats 2000000 in
theorem iAct6_c (c : Int) (a b : Nat) (h3 : ¬ c < 0) (h4 : ¬ 8 ≤ c) (ha : plB a = true) (hb : plB b = true) (hc : c ≠ 0) (hal : a < 4294967296) (hbl : b < 4294967296) (w : World) :
    Calls Try.prog 48 #[.agg #[.int .i64 6, .int .i64 c, .float .f32 a, .float .f32 b]] w fun e w' => e = .returned (.bool false) ∧ Below w.heap.size w w' := by
  have k0 : Hid (Kept w [(w.heap.size, #[.int .i64 6, .int .i64 c, .float .f32 a, .float .f32 b], 59)] (w.alloc (.cells #[.int .i64 6, .int .i64 c, .float .f32 a, .float .f32 b] 59))) := hid (((Kept.nil w).push _ _).sub (by simp))
  have Pa := hid (fun w => by have := iPlain a hal w; rw [ha] at this; exact this)
  have Pb := hid (fun w => by have := iPlain b hbl w; rw [hb] at this; exact this)
  clear ha hb hal hbl
  go_enter Try.func48, Try.ntmps48
  go_wp2_with fail
  refine (Pa.out _).mono ?_
  rintro e u1 ⟨rfl, hb1⟩
  have k1 := hid (k0.out.stay hb1)
  clear hb1
  have hr := k1.out.at (x := (w.heap.size, #[.int .i64 6, .int .i64 c, .float .f32 a, .float .f32 b], 59)) (by simp)
  have c0 : u1.cell? ⟨w.heap.size, 0, none⟩ = some (.int .i64 6) := (cell_of_row u1 _ 0 _ _ _ hr).trans rfl
  have c1 : u1.cell? ⟨w.heap.size, 1, none⟩ = some (.int .i64 c) := (cell_of_row u1 _ 1 _ _ _ hr).trans rfl
  have c2 : u1.cell? ⟨w.heap.size, 2, none⟩ = some (.float .f32 a) := (cell_of_row u1 _ 2 _ _ _ hr).trans rfl
  have c3 : u1.cell? ⟨w.heap.size, 3, none⟩ = some (.float .f32 b) := (cell_of_row u1 _ 3 _ _ _ hr).trans rfl
  clear hr
  go_wp2_with fail
  refine (Pb.out _).mono ?_
  rintro e u2 ⟨rfl, hb2⟩
  have k2 := hid (k1.out.stay hb2)
  clear hb2
  clear c0 c1 c2 c3
  have hr := k2.out.at (x := (w.heap.size, #[.int .i64 6, .int .i64 c, .float .f32 a, .float .f32 b], 59)) (by simp)
  have c0 : u2.cell? ⟨w.heap.size, 0, none⟩ = some (.int .i64 6) := (cell_of_row u2 _ 0 _ _ _ hr).trans rfl
  have c1 : u2.cell? ⟨w.heap.size, 1, none⟩ = some (.int .i64 c) := (cell_of_row u2 _ 1 _ _ _ hr).trans rfl
  have c2 : u2.cell? ⟨w.heap.size, 2, none⟩ = some (.float .f32 a) := (cell_of_row u2 _ 2 _ _ _ hr).trans rfl
  have c3 : u2.cell? ⟨w.heap.size, 3, none⟩ = some (.float .f32 b) := (cell_of_row u2 _ 3 _ _ _ hr).trans rfl
  clear hr
  go_wp2_with fail
  refine (iForm_6 _).mono ?_
  rintro e u3 ⟨rfl, hb3⟩
  have k3 := hid (k2.out.stay hb3)
  clear hb3
  clear c0 c1 c2 c3
  have kf := hid (k3.out.push #[.string { data := #[119, 97, 105, 116] }, .string { data := #[78] }] 145)
  go_wp2_with (first | refine wpList_load_row rfl 145 _ rfl u3.heap.size rfl 145 (#[.string { data := #[119, 97, 105, 116] }, .string { data := #[78] }]) (0, 0) _ (kf.out.at (x := (u3.heap.size, #[.string { data := #[119, 97, 105, 116] }, .string { data := #[78] }], 145)) (by simp)) Try.underlying145 rfl (by kernel_rfl) ?_ | refine wpList_load_g rfl 145 _ rfl u3.heap.size rfl 145 (#[.string { data := #[119, 97, 105, 116] }, .string { data := #[78] }]) (0, 0) _ (kf.out.at (x := (u3.heap.size, #[.string { data := #[119, 97, 105, 116] }, .string { data := #[78] }], 145)) (by simp)) Try.underlying145 rfl (by kernel_rfl) ?_)
  refine (iHas { data := #[119, 97, 105, 116] } { data := #[78] } 67 (by decide) (by decide) false (by decide) _).mono ?_
  rintro e u4 ⟨rfl, hb4⟩
  have k4 := hid (kf.out.stay hb4)
  clear hb4
  have hr := k4.out.at (x := (w.heap.size, #[.int .i64 6, .int .i64 c, .float .f32 a, .float .f32 b], 59)) (by simp)
  have c0 : u4.cell? ⟨w.heap.size, 0, none⟩ = some (.int .i64 6) := (cell_of_row u4 _ 0 _ _ _ hr).trans rfl
  have c1 : u4.cell? ⟨w.heap.size, 1, none⟩ = some (.int .i64 c) := (cell_of_row u4 _ 1 _ _ _ hr).trans rfl
  have c2 : u4.cell? ⟨w.heap.size, 2, none⟩ = some (.float .f32 a) := (cell_of_row u4 _ 2 _ _ _ hr).trans rfl
  have c3 : u4.cell? ⟨w.heap.size, 3, none⟩ = some (.float .f32 b) := (cell_of_row u4 _ 3 _ _ _ hr).trans rfl
  clear hr
  go_wp2
  go_ret
  exact ⟨rfl, k4.out.1⟩

set_option maxRecDepth 100000 in
set_option maxHeartbeats 2000000 in
theorem iAct6_f (c : Int) (a b : Nat) (h3 : ¬ c < 0) (h4 : ¬ 8 ≤ c) (ha : plB a = true) (hb : plB b = true) (hc : c = 0) (h0 : (FloatKind.f32.format.order b 0 != some .eq) = true) (hal : a < 4294967296) (hbl : b < 4294967296) (w : World) :
    Calls Try.prog 48 #[.agg #[.int .i64 6, .int .i64 c, .float .f32 a, .float .f32 b]] w fun e w' => e = .returned (.bool false) ∧ Below w.heap.size w w' := by
  subst hc
  clear h3 h4
  have k0 : Hid (Kept w [(w.heap.size, #[.int .i64 6, .int .i64 0, .float .f32 a, .float .f32 b], 59)] (w.alloc (.cells #[.int .i64 6, .int .i64 0, .float .f32 a, .float .f32 b] 59))) := hid (((Kept.nil w).push _ _).sub (by simp))
  have Pa := hid (fun w => by have := iPlain a hal w; rw [ha] at this; exact this)
  have Pb := hid (fun w => by have := iPlain b hbl w; rw [hb] at this; exact this)
  clear ha hb hal hbl
  go_enter Try.func48, Try.ntmps48
  go_wp2_with fail
  refine (Pa.out _).mono ?_
  rintro e u1 ⟨rfl, hb1⟩
  have k1 := hid (k0.out.stay hb1)
  clear hb1
  have hr := k1.out.at (x := (w.heap.size, #[.int .i64 6, .int .i64 0, .float .f32 a, .float .f32 b], 59)) (by simp)
  have c0 : u1.cell? ⟨w.heap.size, 0, none⟩ = some (.int .i64 6) := (cell_of_row u1 _ 0 _ _ _ hr).trans rfl
  have c1 : u1.cell? ⟨w.heap.size, 1, none⟩ = some (.int .i64 0) := (cell_of_row u1 _ 1 _ _ _ hr).trans rfl
  have c2 : u1.cell? ⟨w.heap.size, 2, none⟩ = some (.float .f32 a) := (cell_of_row u1 _ 2 _ _ _ hr).trans rfl
  have c3 : u1.cell? ⟨w.heap.size, 3, none⟩ = some (.float .f32 b) := (cell_of_row u1 _ 3 _ _ _ hr).trans rfl
  clear hr
  go_wp2_with fail
  refine (Pb.out _).mono ?_
  rintro e u2 ⟨rfl, hb2⟩
  have k2 := hid (k1.out.stay hb2)
  clear hb2
  clear c0 c1 c2 c3
  have hr := k2.out.at (x := (w.heap.size, #[.int .i64 6, .int .i64 0, .float .f32 a, .float .f32 b], 59)) (by simp)
  have c0 : u2.cell? ⟨w.heap.size, 0, none⟩ = some (.int .i64 6) := (cell_of_row u2 _ 0 _ _ _ hr).trans rfl
  have c1 : u2.cell? ⟨w.heap.size, 1, none⟩ = some (.int .i64 0) := (cell_of_row u2 _ 1 _ _ _ hr).trans rfl
  have c2 : u2.cell? ⟨w.heap.size, 2, none⟩ = some (.float .f32 a) := (cell_of_row u2 _ 2 _ _ _ hr).trans rfl
  have c3 : u2.cell? ⟨w.heap.size, 3, none⟩ = some (.float .f32 b) := (cell_of_row u2 _ 3 _ _ _ hr).trans rfl
  clear hr
  go_wp2_with fail
  refine (iForm_6 _).mono ?_
  rintro e u3 ⟨rfl, hb3⟩
  have k3 := hid (k2.out.stay hb3)
  clear hb3
  clear c0 c1 c2 c3
  have kf := hid (k3.out.push #[.string { data := #[119, 97, 105, 116] }, .string { data := #[78] }] 145)
  go_wp2_with (first | refine wpList_load_row rfl 145 _ rfl u3.heap.size rfl 145 (#[.string { data := #[119, 97, 105, 116] }, .string { data := #[78] }]) (0, 0) _ (kf.out.at (x := (u3.heap.size, #[.string { data := #[119, 97, 105, 116] }, .string { data := #[78] }], 145)) (by simp)) Try.underlying145 rfl (by kernel_rfl) ?_ | refine wpList_load_g rfl 145 _ rfl u3.heap.size rfl 145 (#[.string { data := #[119, 97, 105, 116] }, .string { data := #[78] }]) (0, 0) _ (kf.out.at (x := (u3.heap.size, #[.string { data := #[119, 97, 105, 116] }, .string { data := #[78] }], 145)) (by simp)) Try.underlying145 rfl (by kernel_rfl) ?_)
  refine (iHas { data := #[119, 97, 105, 116] } { data := #[78] } 67 (by decide) (by decide) false (by decide) _).mono ?_
  rintro e u4 ⟨rfl, hb4⟩
  have k4 := hid (kf.out.stay hb4)
  clear hb4
  have hr := k4.out.at (x := (w.heap.size, #[.int .i64 6, .int .i64 0, .float .f32 a, .float .f32 b], 59)) (by simp)
  have c0 : u4.cell? ⟨w.heap.size, 0, none⟩ = some (.int .i64 6) := (cell_of_row u4 _ 0 _ _ _ hr).trans rfl
  have c1 : u4.cell? ⟨w.heap.size, 1, none⟩ = some (.int .i64 0) := (cell_of_row u4 _ 1 _ _ _ hr).trans rfl
  have c2 : u4.cell? ⟨w.heap.size, 2, none⟩ = some (.float .f32 a) := (cell_of_row u4 _ 2 _ _ _ hr).trans rfl
  have c3 : u4.cell? ⟨w.heap.size, 3, none⟩ = some (.float .f32 b) := (cell_of_row u4 _ 3 _ _ _ hr).trans rfl
  clear hr
  go_wp2_with (first | refine wpList_load_row rfl 145 _ rfl u3.heap.size rfl 145 (#[.string { data := #[119, 97, 105, 116] }, .string { data := #[78] }]) (0, 0) _ (k4.out.at (x := (u3.heap.size, #[.string { data := #[119, 97, 105, 116] }, .string { data := #[78] }], 145)) (by simp)) Try.underlying145 rfl (by kernel_rfl) ?_ | refine wpList_load_g rfl 145 _ rfl u3.heap.size rfl 145 (#[.string { data := #[119, 97, 105, 116] }, .string { data := #[78] }]) (0, 0) _ (k4.out.at (x := (u3.heap.size, #[.string { data := #[119, 97, 105, 116] }, .string { data := #[78] }], 145)) (by simp)) Try.underlying145 rfl (by kernel_rfl) ?_)
  refine (iHas { data := #[119, 97, 105, 116] } { data := #[78] } 71 (by decide) (by decide) false (by decide) _).mono ?_
  rintro e u5 ⟨rfl, hb5⟩
  have k5 := hid (k4.out.stay hb5)
  clear hb5
  clear c0 c1 c2 c3
  have hr := k5.out.at (x := (w.heap.size, #[.int .i64 6, .int .i64 0, .float .f32 a, .float .f32 b], 59)) (by simp)
  have c0 : u5.cell? ⟨w.heap.size, 0, none⟩ = some (.int .i64 6) := (cell_of_row u5 _ 0 _ _ _ hr).trans rfl
  have c1 : u5.cell? ⟨w.heap.size, 1, none⟩ = some (.int .i64 0) := (cell_of_row u5 _ 1 _ _ _ hr).trans rfl
  have c2 : u5.cell? ⟨w.heap.size, 2, none⟩ = some (.float .f32 a) := (cell_of_row u5 _ 2 _ _ _ hr).trans rfl
  have c3 : u5.cell? ⟨w.heap.size, 3, none⟩ = some (.float .f32 b) := (cell_of_row u5 _ 3 _ _ _ hr).trans rfl
  clear hr
  go_wp2
  go_ret
  exact ⟨rfl, k5.out.1⟩

set_option maxRecDepth 100000 in
set_option maxHeartbeats 2000000 in
theorem iAct6_w (c : Int) (a b : Nat) (h3 : ¬ c < 0) (h4 : ¬ 8 ≤ c) (ha : plB a = true) (hb : plB b = true) (hc : c = 0) (h0 : (FloatKind.f32.format.order b 0 != some .eq) = false) (hfa : finB a = true) (hw : whB a = false) (hal : a < 4294967296) (hbl : b < 4294967296) (w : World) :
    Calls Try.prog 48 #[.agg #[.int .i64 6, .int .i64 c, .float .f32 a, .float .f32 b]] w fun e w' => e = .returned (.bool false) ∧ Below w.heap.size w w' := by
  subst hc
  clear h3 h4
  have k0 : Hid (Kept w [(w.heap.size, #[.int .i64 6, .int .i64 0, .float .f32 a, .float .f32 b], 59)] (w.alloc (.cells #[.int .i64 6, .int .i64 0, .float .f32 a, .float .f32 b] 59))) := hid (((Kept.nil w).push _ _).sub (by simp))
  have Pa := hid (fun w => by have := iPlain a hal w; rw [ha] at this; exact this)
  have Pb := hid (fun w => by have := iPlain b hbl w; rw [hb] at this; exact this)
  have HW := hid (fun w => by have := iWhole a hal hfa w; rw [hw] at this; exact this)
  clear hw hfa
  clear ha hb hal hbl
  go_enter Try.func48, Try.ntmps48
  go_wp2_with fail
  refine (Pa.out _).mono ?_
  rintro e u1 ⟨rfl, hb1⟩
  have k1 := hid (k0.out.stay hb1)
  clear hb1
  have hr := k1.out.at (x := (w.heap.size, #[.int .i64 6, .int .i64 0, .float .f32 a, .float .f32 b], 59)) (by simp)
  have c0 : u1.cell? ⟨w.heap.size, 0, none⟩ = some (.int .i64 6) := (cell_of_row u1 _ 0 _ _ _ hr).trans rfl
  have c1 : u1.cell? ⟨w.heap.size, 1, none⟩ = some (.int .i64 0) := (cell_of_row u1 _ 1 _ _ _ hr).trans rfl
  have c2 : u1.cell? ⟨w.heap.size, 2, none⟩ = some (.float .f32 a) := (cell_of_row u1 _ 2 _ _ _ hr).trans rfl
  have c3 : u1.cell? ⟨w.heap.size, 3, none⟩ = some (.float .f32 b) := (cell_of_row u1 _ 3 _ _ _ hr).trans rfl
  clear hr
  go_wp2_with fail
  refine (Pb.out _).mono ?_
  rintro e u2 ⟨rfl, hb2⟩
  have k2 := hid (k1.out.stay hb2)
  clear hb2
  clear c0 c1 c2 c3
  have hr := k2.out.at (x := (w.heap.size, #[.int .i64 6, .int .i64 0, .float .f32 a, .float .f32 b], 59)) (by simp)
  have c0 : u2.cell? ⟨w.heap.size, 0, none⟩ = some (.int .i64 6) := (cell_of_row u2 _ 0 _ _ _ hr).trans rfl
  have c1 : u2.cell? ⟨w.heap.size, 1, none⟩ = some (.int .i64 0) := (cell_of_row u2 _ 1 _ _ _ hr).trans rfl
  have c2 : u2.cell? ⟨w.heap.size, 2, none⟩ = some (.float .f32 a) := (cell_of_row u2 _ 2 _ _ _ hr).trans rfl
  have c3 : u2.cell? ⟨w.heap.size, 3, none⟩ = some (.float .f32 b) := (cell_of_row u2 _ 3 _ _ _ hr).trans rfl
  clear hr
  go_wp2_with fail
  refine (iForm_6 _).mono ?_
  rintro e u3 ⟨rfl, hb3⟩
  have k3 := hid (k2.out.stay hb3)
  clear hb3
  clear c0 c1 c2 c3
  have kf := hid (k3.out.push #[.string { data := #[119, 97, 105, 116] }, .string { data := #[78] }] 145)
  go_wp2_with (first | refine wpList_load_row rfl 145 _ rfl u3.heap.size rfl 145 (#[.string { data := #[119, 97, 105, 116] }, .string { data := #[78] }]) (0, 0) _ (kf.out.at (x := (u3.heap.size, #[.string { data := #[119, 97, 105, 116] }, .string { data := #[78] }], 145)) (by simp)) Try.underlying145 rfl (by kernel_rfl) ?_ | refine wpList_load_g rfl 145 _ rfl u3.heap.size rfl 145 (#[.string { data := #[119, 97, 105, 116] }, .string { data := #[78] }]) (0, 0) _ (kf.out.at (x := (u3.heap.size, #[.string { data := #[119, 97, 105, 116] }, .string { data := #[78] }], 145)) (by simp)) Try.underlying145 rfl (by kernel_rfl) ?_)
  refine (iHas { data := #[119, 97, 105, 116] } { data := #[78] } 67 (by decide) (by decide) false (by decide) _).mono ?_
  rintro e u4 ⟨rfl, hb4⟩
  have k4 := hid (kf.out.stay hb4)
  clear hb4
  have hr := k4.out.at (x := (w.heap.size, #[.int .i64 6, .int .i64 0, .float .f32 a, .float .f32 b], 59)) (by simp)
  have c0 : u4.cell? ⟨w.heap.size, 0, none⟩ = some (.int .i64 6) := (cell_of_row u4 _ 0 _ _ _ hr).trans rfl
  have c1 : u4.cell? ⟨w.heap.size, 1, none⟩ = some (.int .i64 0) := (cell_of_row u4 _ 1 _ _ _ hr).trans rfl
  have c2 : u4.cell? ⟨w.heap.size, 2, none⟩ = some (.float .f32 a) := (cell_of_row u4 _ 2 _ _ _ hr).trans rfl
  have c3 : u4.cell? ⟨w.heap.size, 3, none⟩ = some (.float .f32 b) := (cell_of_row u4 _ 3 _ _ _ hr).trans rfl
  clear hr
  go_wp2_with (first | refine wpList_load_row rfl 145 _ rfl u3.heap.size rfl 145 (#[.string { data := #[119, 97, 105, 116] }, .string { data := #[78] }]) (0, 0) _ (k4.out.at (x := (u3.heap.size, #[.string { data := #[119, 97, 105, 116] }, .string { data := #[78] }], 145)) (by simp)) Try.underlying145 rfl (by kernel_rfl) ?_ | refine wpList_load_g rfl 145 _ rfl u3.heap.size rfl 145 (#[.string { data := #[119, 97, 105, 116] }, .string { data := #[78] }]) (0, 0) _ (k4.out.at (x := (u3.heap.size, #[.string { data := #[119, 97, 105, 116] }, .string { data := #[78] }], 145)) (by simp)) Try.underlying145 rfl (by kernel_rfl) ?_)
  refine (iHas { data := #[119, 97, 105, 116] } { data := #[78] } 71 (by decide) (by decide) false (by decide) _).mono ?_
  rintro e u5 ⟨rfl, hb5⟩
  have k5 := hid (k4.out.stay hb5)
  clear hb5
  clear c0 c1 c2 c3
  have hr := k5.out.at (x := (w.heap.size, #[.int .i64 6, .int .i64 0, .float .f32 a, .float .f32 b], 59)) (by simp)
  have c0 : u5.cell? ⟨w.heap.size, 0, none⟩ = some (.int .i64 6) := (cell_of_row u5 _ 0 _ _ _ hr).trans rfl
  have c1 : u5.cell? ⟨w.heap.size, 1, none⟩ = some (.int .i64 0) := (cell_of_row u5 _ 1 _ _ _ hr).trans rfl
  have c2 : u5.cell? ⟨w.heap.size, 2, none⟩ = some (.float .f32 a) := (cell_of_row u5 _ 2 _ _ _ hr).trans rfl
  have c3 : u5.cell? ⟨w.heap.size, 3, none⟩ = some (.float .f32 b) := (cell_of_row u5 _ 3 _ _ _ hr).trans rfl
  clear hr
  go_wp2_with (first | refine wpList_load_row rfl 145 _ rfl u3.heap.size rfl 145 (#[.string { data := #[119, 97, 105, 116] }, .string { data := #[78] }]) (0, 0) _ (k5.out.at (x := (u3.heap.size, #[.string { data := #[119, 97, 105, 116] }, .string { data := #[78] }], 145)) (by simp)) Try.underlying145 rfl (by kernel_rfl) ?_ | refine wpList_load_g rfl 145 _ rfl u3.heap.size rfl 145 (#[.string { data := #[119, 97, 105, 116] }, .string { data := #[78] }]) (0, 0) _ (k5.out.at (x := (u3.heap.size, #[.string { data := #[119, 97, 105, 116] }, .string { data := #[78] }], 145)) (by simp)) Try.underlying145 rfl (by kernel_rfl) ?_)
  refine (iHas { data := #[119, 97, 105, 116] } { data := #[78] } 78 (by decide) (by decide) true (by decide) _).mono ?_
  rintro e u6 ⟨rfl, hb6⟩
  have k6 := hid (k5.out.stay hb6)
  clear hb6
  clear c0 c1 c2 c3
  have hr := k6.out.at (x := (w.heap.size, #[.int .i64 6, .int .i64 0, .float .f32 a, .float .f32 b], 59)) (by simp)
  have c0 : u6.cell? ⟨w.heap.size, 0, none⟩ = some (.int .i64 6) := (cell_of_row u6 _ 0 _ _ _ hr).trans rfl
  have c1 : u6.cell? ⟨w.heap.size, 1, none⟩ = some (.int .i64 0) := (cell_of_row u6 _ 1 _ _ _ hr).trans rfl
  have c2 : u6.cell? ⟨w.heap.size, 2, none⟩ = some (.float .f32 a) := (cell_of_row u6 _ 2 _ _ _ hr).trans rfl
  have c3 : u6.cell? ⟨w.heap.size, 3, none⟩ = some (.float .f32 b) := (cell_of_row u6 _ 3 _ _ _ hr).trans rfl
  clear hr
  go_wp2_with fail
  refine (HW.out _).mono ?_
  rintro e u7 ⟨rfl, rfl⟩
  go_wp2
  go_ret
  exact ⟨rfl, k6.out.1⟩

set_option maxRecDepth 100000 in
set_option maxHeartbeats 2000000 in
theorem iAct6_g (c : Int) (a b : Nat) (h3 : ¬ c < 0) (h4 : ¬ 8 ≤ c) (ha : plB a = true) (hb : plB b = true) (hc : c = 0) (h0 : (FloatKind.f32.format.order b 0 != some .eq) = false) (hfa : finB a = true) (hw : whB a = true) (hg : (FloatKind.f32.format.order a 0 == some .gt || FloatKind.f32.format.order a 0 == some .eq) = false) (hal : a < 4294967296) (hbl : b < 4294967296) (w : World) :
    Calls Try.prog 48 #[.agg #[.int .i64 6, .int .i64 c, .float .f32 a, .float .f32 b]] w fun e w' => e = .returned (.bool false) ∧ Below w.heap.size w w' := by
  subst hc
  clear h3 h4
  have k0 : Hid (Kept w [(w.heap.size, #[.int .i64 6, .int .i64 0, .float .f32 a, .float .f32 b], 59)] (w.alloc (.cells #[.int .i64 6, .int .i64 0, .float .f32 a, .float .f32 b] 59))) := hid (((Kept.nil w).push _ _).sub (by simp))
  have Pa := hid (fun w => by have := iPlain a hal w; rw [ha] at this; exact this)
  have Pb := hid (fun w => by have := iPlain b hbl w; rw [hb] at this; exact this)
  have HW := hid (fun w => by have := iWhole a hal hfa w; rw [hw] at this; exact this)
  clear hw hfa
  clear ha hb hal hbl
  go_enter Try.func48, Try.ntmps48
  go_wp2_with fail
  refine (Pa.out _).mono ?_
  rintro e u1 ⟨rfl, hb1⟩
  have k1 := hid (k0.out.stay hb1)
  clear hb1
  have hr := k1.out.at (x := (w.heap.size, #[.int .i64 6, .int .i64 0, .float .f32 a, .float .f32 b], 59)) (by simp)
  have c0 : u1.cell? ⟨w.heap.size, 0, none⟩ = some (.int .i64 6) := (cell_of_row u1 _ 0 _ _ _ hr).trans rfl
  have c1 : u1.cell? ⟨w.heap.size, 1, none⟩ = some (.int .i64 0) := (cell_of_row u1 _ 1 _ _ _ hr).trans rfl
  have c2 : u1.cell? ⟨w.heap.size, 2, none⟩ = some (.float .f32 a) := (cell_of_row u1 _ 2 _ _ _ hr).trans rfl
  have c3 : u1.cell? ⟨w.heap.size, 3, none⟩ = some (.float .f32 b) := (cell_of_row u1 _ 3 _ _ _ hr).trans rfl
  clear hr
  go_wp2_with fail
  refine (Pb.out _).mono ?_
  rintro e u2 ⟨rfl, hb2⟩
  have k2 := hid (k1.out.stay hb2)
  clear hb2
  clear c0 c1 c2 c3
  have hr := k2.out.at (x := (w.heap.size, #[.int .i64 6, .int .i64 0, .float .f32 a, .float .f32 b], 59)) (by simp)
  have c0 : u2.cell? ⟨w.heap.size, 0, none⟩ = some (.int .i64 6) := (cell_of_row u2 _ 0 _ _ _ hr).trans rfl
  have c1 : u2.cell? ⟨w.heap.size, 1, none⟩ = some (.int .i64 0) := (cell_of_row u2 _ 1 _ _ _ hr).trans rfl
  have c2 : u2.cell? ⟨w.heap.size, 2, none⟩ = some (.float .f32 a) := (cell_of_row u2 _ 2 _ _ _ hr).trans rfl
  have c3 : u2.cell? ⟨w.heap.size, 3, none⟩ = some (.float .f32 b) := (cell_of_row u2 _ 3 _ _ _ hr).trans rfl
  clear hr
  go_wp2_with fail
  refine (iForm_6 _).mono ?_
  rintro e u3 ⟨rfl, hb3⟩
  have k3 := hid (k2.out.stay hb3)
  clear hb3
  clear c0 c1 c2 c3
  have kf := hid (k3.out.push #[.string { data := #[119, 97, 105, 116] }, .string { data := #[78] }] 145)
  go_wp2_with (first | refine wpList_load_row rfl 145 _ rfl u3.heap.size rfl 145 (#[.string { data := #[119, 97, 105, 116] }, .string { data := #[78] }]) (0, 0) _ (kf.out.at (x := (u3.heap.size, #[.string { data := #[119, 97, 105, 116] }, .string { data := #[78] }], 145)) (by simp)) Try.underlying145 rfl (by kernel_rfl) ?_ | refine wpList_load_g rfl 145 _ rfl u3.heap.size rfl 145 (#[.string { data := #[119, 97, 105, 116] }, .string { data := #[78] }]) (0, 0) _ (kf.out.at (x := (u3.heap.size, #[.string { data := #[119, 97, 105, 116] }, .string { data := #[78] }], 145)) (by simp)) Try.underlying145 rfl (by kernel_rfl) ?_)
  refine (iHas { data := #[119, 97, 105, 116] } { data := #[78] } 67 (by decide) (by decide) false (by decide) _).mono ?_
  rintro e u4 ⟨rfl, hb4⟩
  have k4 := hid (kf.out.stay hb4)
  clear hb4
  have hr := k4.out.at (x := (w.heap.size, #[.int .i64 6, .int .i64 0, .float .f32 a, .float .f32 b], 59)) (by simp)
  have c0 : u4.cell? ⟨w.heap.size, 0, none⟩ = some (.int .i64 6) := (cell_of_row u4 _ 0 _ _ _ hr).trans rfl
  have c1 : u4.cell? ⟨w.heap.size, 1, none⟩ = some (.int .i64 0) := (cell_of_row u4 _ 1 _ _ _ hr).trans rfl
  have c2 : u4.cell? ⟨w.heap.size, 2, none⟩ = some (.float .f32 a) := (cell_of_row u4 _ 2 _ _ _ hr).trans rfl
  have c3 : u4.cell? ⟨w.heap.size, 3, none⟩ = some (.float .f32 b) := (cell_of_row u4 _ 3 _ _ _ hr).trans rfl
  clear hr
  go_wp2_with (first | refine wpList_load_row rfl 145 _ rfl u3.heap.size rfl 145 (#[.string { data := #[119, 97, 105, 116] }, .string { data := #[78] }]) (0, 0) _ (k4.out.at (x := (u3.heap.size, #[.string { data := #[119, 97, 105, 116] }, .string { data := #[78] }], 145)) (by simp)) Try.underlying145 rfl (by kernel_rfl) ?_ | refine wpList_load_g rfl 145 _ rfl u3.heap.size rfl 145 (#[.string { data := #[119, 97, 105, 116] }, .string { data := #[78] }]) (0, 0) _ (k4.out.at (x := (u3.heap.size, #[.string { data := #[119, 97, 105, 116] }, .string { data := #[78] }], 145)) (by simp)) Try.underlying145 rfl (by kernel_rfl) ?_)
  refine (iHas { data := #[119, 97, 105, 116] } { data := #[78] } 71 (by decide) (by decide) false (by decide) _).mono ?_
  rintro e u5 ⟨rfl, hb5⟩
  have k5 := hid (k4.out.stay hb5)
  clear hb5
  clear c0 c1 c2 c3
  have hr := k5.out.at (x := (w.heap.size, #[.int .i64 6, .int .i64 0, .float .f32 a, .float .f32 b], 59)) (by simp)
  have c0 : u5.cell? ⟨w.heap.size, 0, none⟩ = some (.int .i64 6) := (cell_of_row u5 _ 0 _ _ _ hr).trans rfl
  have c1 : u5.cell? ⟨w.heap.size, 1, none⟩ = some (.int .i64 0) := (cell_of_row u5 _ 1 _ _ _ hr).trans rfl
  have c2 : u5.cell? ⟨w.heap.size, 2, none⟩ = some (.float .f32 a) := (cell_of_row u5 _ 2 _ _ _ hr).trans rfl
  have c3 : u5.cell? ⟨w.heap.size, 3, none⟩ = some (.float .f32 b) := (cell_of_row u5 _ 3 _ _ _ hr).trans rfl
  clear hr
  go_wp2_with (first | refine wpList_load_row rfl 145 _ rfl u3.heap.size rfl 145 (#[.string { data := #[119, 97, 105, 116] }, .string { data := #[78] }]) (0, 0) _ (k5.out.at (x := (u3.heap.size, #[.string { data := #[119, 97, 105, 116] }, .string { data := #[78] }], 145)) (by simp)) Try.underlying145 rfl (by kernel_rfl) ?_ | refine wpList_load_g rfl 145 _ rfl u3.heap.size rfl 145 (#[.string { data := #[119, 97, 105, 116] }, .string { data := #[78] }]) (0, 0) _ (k5.out.at (x := (u3.heap.size, #[.string { data := #[119, 97, 105, 116] }, .string { data := #[78] }], 145)) (by simp)) Try.underlying145 rfl (by kernel_rfl) ?_)
  refine (iHas { data := #[119, 97, 105, 116] } { data := #[78] } 78 (by decide) (by decide) true (by decide) _).mono ?_
  rintro e u6 ⟨rfl, hb6⟩
  have k6 := hid (k5.out.stay hb6)
  clear hb6
  clear c0 c1 c2 c3
  have hr := k6.out.at (x := (w.heap.size, #[.int .i64 6, .int .i64 0, .float .f32 a, .float .f32 b], 59)) (by simp)
  have c0 : u6.cell? ⟨w.heap.size, 0, none⟩ = some (.int .i64 6) := (cell_of_row u6 _ 0 _ _ _ hr).trans rfl
  have c1 : u6.cell? ⟨w.heap.size, 1, none⟩ = some (.int .i64 0) := (cell_of_row u6 _ 1 _ _ _ hr).trans rfl
  have c2 : u6.cell? ⟨w.heap.size, 2, none⟩ = some (.float .f32 a) := (cell_of_row u6 _ 2 _ _ _ hr).trans rfl
  have c3 : u6.cell? ⟨w.heap.size, 3, none⟩ = some (.float .f32 b) := (cell_of_row u6 _ 3 _ _ _ hr).trans rfl
  clear hr
  go_wp2_with fail
  refine (HW.out _).mono ?_
  rintro e u7 ⟨rfl, rfl⟩
  go_wp2
  go_ret
  exact ⟨rfl, k6.out.1⟩

set_option maxRecDepth 100000 in
set_option maxHeartbeats 2000000 in
theorem iAct6_l (c : Int) (a b : Nat) (h3 : ¬ c < 0) (h4 : ¬ 8 ≤ c) (ha : plB a = true) (hb : plB b = true) (hc : c = 0) (h0 : (FloatKind.f32.format.order b 0 != some .eq) = false) (hfa : finB a = true) (hw : whB a = true) (hg : (FloatKind.f32.format.order a 0 == some .gt || FloatKind.f32.format.order a 0 == some .eq) = true) (r : Bool) (hl9 : (FloatKind.f32.format.order a 1128792064 == some .lt || FloatKind.f32.format.order a 1128792064 == some .eq) = r) (hal : a < 4294967296) (hbl : b < 4294967296) (w : World) :
    Calls Try.prog 48 #[.agg #[.int .i64 6, .int .i64 c, .float .f32 a, .float .f32 b]] w fun e w' => e = .returned (.bool r) ∧ Below w.heap.size w w' := by
  subst hc
  clear h3 h4
  have k0 : Hid (Kept w [(w.heap.size, #[.int .i64 6, .int .i64 0, .float .f32 a, .float .f32 b], 59)] (w.alloc (.cells #[.int .i64 6, .int .i64 0, .float .f32 a, .float .f32 b] 59))) := hid (((Kept.nil w).push _ _).sub (by simp))
  have Pa := hid (fun w => by have := iPlain a hal w; rw [ha] at this; exact this)
  have Pb := hid (fun w => by have := iPlain b hbl w; rw [hb] at this; exact this)
  have HW := hid (fun w => by have := iWhole a hal hfa w; rw [hw] at this; exact this)
  clear hw hfa
  clear ha hb hal hbl
  go_enter Try.func48, Try.ntmps48
  go_wp2_with fail
  refine (Pa.out _).mono ?_
  rintro e u1 ⟨rfl, hb1⟩
  have k1 := hid (k0.out.stay hb1)
  clear hb1
  have hr := k1.out.at (x := (w.heap.size, #[.int .i64 6, .int .i64 0, .float .f32 a, .float .f32 b], 59)) (by simp)
  have c0 : u1.cell? ⟨w.heap.size, 0, none⟩ = some (.int .i64 6) := (cell_of_row u1 _ 0 _ _ _ hr).trans rfl
  have c1 : u1.cell? ⟨w.heap.size, 1, none⟩ = some (.int .i64 0) := (cell_of_row u1 _ 1 _ _ _ hr).trans rfl
  have c2 : u1.cell? ⟨w.heap.size, 2, none⟩ = some (.float .f32 a) := (cell_of_row u1 _ 2 _ _ _ hr).trans rfl
  have c3 : u1.cell? ⟨w.heap.size, 3, none⟩ = some (.float .f32 b) := (cell_of_row u1 _ 3 _ _ _ hr).trans rfl
  clear hr
  go_wp2_with fail
  refine (Pb.out _).mono ?_
  rintro e u2 ⟨rfl, hb2⟩
  have k2 := hid (k1.out.stay hb2)
  clear hb2
  clear c0 c1 c2 c3
  have hr := k2.out.at (x := (w.heap.size, #[.int .i64 6, .int .i64 0, .float .f32 a, .float .f32 b], 59)) (by simp)
  have c0 : u2.cell? ⟨w.heap.size, 0, none⟩ = some (.int .i64 6) := (cell_of_row u2 _ 0 _ _ _ hr).trans rfl
  have c1 : u2.cell? ⟨w.heap.size, 1, none⟩ = some (.int .i64 0) := (cell_of_row u2 _ 1 _ _ _ hr).trans rfl
  have c2 : u2.cell? ⟨w.heap.size, 2, none⟩ = some (.float .f32 a) := (cell_of_row u2 _ 2 _ _ _ hr).trans rfl
  have c3 : u2.cell? ⟨w.heap.size, 3, none⟩ = some (.float .f32 b) := (cell_of_row u2 _ 3 _ _ _ hr).trans rfl
  clear hr
  go_wp2_with fail
  refine (iForm_6 _).mono ?_
  rintro e u3 ⟨rfl, hb3⟩
  have k3 := hid (k2.out.stay hb3)
  clear hb3
  clear c0 c1 c2 c3
  have kf := hid (k3.out.push #[.string { data := #[119, 97, 105, 116] }, .string { data := #[78] }] 145)
  go_wp2_with (first | refine wpList_load_row rfl 145 _ rfl u3.heap.size rfl 145 (#[.string { data := #[119, 97, 105, 116] }, .string { data := #[78] }]) (0, 0) _ (kf.out.at (x := (u3.heap.size, #[.string { data := #[119, 97, 105, 116] }, .string { data := #[78] }], 145)) (by simp)) Try.underlying145 rfl (by kernel_rfl) ?_ | refine wpList_load_g rfl 145 _ rfl u3.heap.size rfl 145 (#[.string { data := #[119, 97, 105, 116] }, .string { data := #[78] }]) (0, 0) _ (kf.out.at (x := (u3.heap.size, #[.string { data := #[119, 97, 105, 116] }, .string { data := #[78] }], 145)) (by simp)) Try.underlying145 rfl (by kernel_rfl) ?_)
  refine (iHas { data := #[119, 97, 105, 116] } { data := #[78] } 67 (by decide) (by decide) false (by decide) _).mono ?_
  rintro e u4 ⟨rfl, hb4⟩
  have k4 := hid (kf.out.stay hb4)
  clear hb4
  have hr := k4.out.at (x := (w.heap.size, #[.int .i64 6, .int .i64 0, .float .f32 a, .float .f32 b], 59)) (by simp)
  have c0 : u4.cell? ⟨w.heap.size, 0, none⟩ = some (.int .i64 6) := (cell_of_row u4 _ 0 _ _ _ hr).trans rfl
  have c1 : u4.cell? ⟨w.heap.size, 1, none⟩ = some (.int .i64 0) := (cell_of_row u4 _ 1 _ _ _ hr).trans rfl
  have c2 : u4.cell? ⟨w.heap.size, 2, none⟩ = some (.float .f32 a) := (cell_of_row u4 _ 2 _ _ _ hr).trans rfl
  have c3 : u4.cell? ⟨w.heap.size, 3, none⟩ = some (.float .f32 b) := (cell_of_row u4 _ 3 _ _ _ hr).trans rfl
  clear hr
  go_wp2_with (first | refine wpList_load_row rfl 145 _ rfl u3.heap.size rfl 145 (#[.string { data := #[119, 97, 105, 116] }, .string { data := #[78] }]) (0, 0) _ (k4.out.at (x := (u3.heap.size, #[.string { data := #[119, 97, 105, 116] }, .string { data := #[78] }], 145)) (by simp)) Try.underlying145 rfl (by kernel_rfl) ?_ | refine wpList_load_g rfl 145 _ rfl u3.heap.size rfl 145 (#[.string { data := #[119, 97, 105, 116] }, .string { data := #[78] }]) (0, 0) _ (k4.out.at (x := (u3.heap.size, #[.string { data := #[119, 97, 105, 116] }, .string { data := #[78] }], 145)) (by simp)) Try.underlying145 rfl (by kernel_rfl) ?_)
  refine (iHas { data := #[119, 97, 105, 116] } { data := #[78] } 71 (by decide) (by decide) false (by decide) _).mono ?_
  rintro e u5 ⟨rfl, hb5⟩
  have k5 := hid (k4.out.stay hb5)
  clear hb5
  clear c0 c1 c2 c3
  have hr := k5.out.at (x := (w.heap.size, #[.int .i64 6, .int .i64 0, .float .f32 a, .float .f32 b], 59)) (by simp)
  have c0 : u5.cell? ⟨w.heap.size, 0, none⟩ = some (.int .i64 6) := (cell_of_row u5 _ 0 _ _ _ hr).trans rfl
  have c1 : u5.cell? ⟨w.heap.size, 1, none⟩ = some (.int .i64 0) := (cell_of_row u5 _ 1 _ _ _ hr).trans rfl
  have c2 : u5.cell? ⟨w.heap.size, 2, none⟩ = some (.float .f32 a) := (cell_of_row u5 _ 2 _ _ _ hr).trans rfl
  have c3 : u5.cell? ⟨w.heap.size, 3, none⟩ = some (.float .f32 b) := (cell_of_row u5 _ 3 _ _ _ hr).trans rfl
  clear hr
  go_wp2_with (first | refine wpList_load_row rfl 145 _ rfl u3.heap.size rfl 145 (#[.string { data := #[119, 97, 105, 116] }, .string { data := #[78] }]) (0, 0) _ (k5.out.at (x := (u3.heap.size, #[.string { data := #[119, 97, 105, 116] }, .string { data := #[78] }], 145)) (by simp)) Try.underlying145 rfl (by kernel_rfl) ?_ | refine wpList_load_g rfl 145 _ rfl u3.heap.size rfl 145 (#[.string { data := #[119, 97, 105, 116] }, .string { data := #[78] }]) (0, 0) _ (k5.out.at (x := (u3.heap.size, #[.string { data := #[119, 97, 105, 116] }, .string { data := #[78] }], 145)) (by simp)) Try.underlying145 rfl (by kernel_rfl) ?_)
  refine (iHas { data := #[119, 97, 105, 116] } { data := #[78] } 78 (by decide) (by decide) true (by decide) _).mono ?_
  rintro e u6 ⟨rfl, hb6⟩
  have k6 := hid (k5.out.stay hb6)
  clear hb6
  clear c0 c1 c2 c3
  have hr := k6.out.at (x := (w.heap.size, #[.int .i64 6, .int .i64 0, .float .f32 a, .float .f32 b], 59)) (by simp)
  have c0 : u6.cell? ⟨w.heap.size, 0, none⟩ = some (.int .i64 6) := (cell_of_row u6 _ 0 _ _ _ hr).trans rfl
  have c1 : u6.cell? ⟨w.heap.size, 1, none⟩ = some (.int .i64 0) := (cell_of_row u6 _ 1 _ _ _ hr).trans rfl
  have c2 : u6.cell? ⟨w.heap.size, 2, none⟩ = some (.float .f32 a) := (cell_of_row u6 _ 2 _ _ _ hr).trans rfl
  have c3 : u6.cell? ⟨w.heap.size, 3, none⟩ = some (.float .f32 b) := (cell_of_row u6 _ 3 _ _ _ hr).trans rfl
  clear hr
  go_wp2_with fail
  refine (HW.out _).mono ?_
  rintro e u7 ⟨rfl, rfl⟩
  go_wp2
  go_ret
  exact ⟨rfl, k6.out.1⟩

theorem keptDrawn {w0 : World} {l : List (Nat × Array Value × TypeId)} {w : World} (k : Kept w0 l w) (n : Nat) : Kept w0 l (w.drewN n) := ⟨below_drewN k.1 n, fun x hx => k.2 x hx⟩

set_option maxRecDepth 100000 in
theorem sWords (w : World) : Calls Try.prog 181 #[] w fun e w' => e = .returned (.tuple #[.slice (some ⟨w.heap.size, 0, none⟩) 7 7, .slice (some ⟨w.heap.size + 1, 0, none⟩) 7 7, .slice (some ⟨w.heap.size + 1 + 1, 0, none⟩) 7 7]) ∧ w' = (((w.alloc (.cells #[.string { data := #[] }, .string { data := #[104, 101, 97, 116] }, .string { data := #[119, 101, 116] }, .string { data := #[115, 101, 101, 100] }, .string { data := #[110, 117, 99, 108, 101, 105] }, .string { data := #[115, 116, 105, 114] }, .string { data := #[119, 97, 105, 116] }] 9)).alloc (.cells #[.bool false, .bool true, .bool true, .bool true, .bool true, .bool false, .bool false] 4)).alloc (.cells #[.int .i64 0, .int .i64 1, .int .i64 1, .int .i64 2, .int .i64 1, .int .i64 1, .int .i64 1] 3)) := by
  go_enter Try.func181, Try.ntmps181
  go_wp2
  exact bodyPost_ret (results_tmp3 rfl _ _ _) rfl ⟨rfl, rfl⟩

set_option maxRecDepth 100000 in
set_option maxHeartbeats 2000000 in
theorem sAct_k (k : Int) (c : Int) (a b g : Nat) (h : ¬ (1 ≤ k ∧ k ≤ 6)) (hal : a < 4294967296) (hbl : b < 4294967296) (w : World) (hh : w.heap[g]? = some (.cells #[.int .i64 k, .int .i64 c, .float .f32 a, .float .f32 b] 59 (0, 0))) :
    Calls Try.prog 109 #[.pointer (some ⟨g, 0, none⟩)] w fun e w' => e = .returned (.bool false) ∧ Below w.heap.size w w' := by
  have k0 : Hid (Kept w [(g, #[.int .i64 k, .int .i64 c, .float .f32 a, .float .f32 b], 59)] w) := hid ((Kept.nil w).add hh)
  clear hh
  have hr := k0.out.at (x := (g, #[.int .i64 k, .int .i64 c, .float .f32 a, .float .f32 b], 59)) (by simp)
  have c0 : w.cell? ⟨g, 0, none⟩ = some (.int .i64 k) := (cell_of_row w _ 0 _ _ _ hr).trans rfl
  have c1 : w.cell? ⟨g, 1, none⟩ = some (.int .i64 c) := (cell_of_row w _ 1 _ _ _ hr).trans rfl
  have c2 : w.cell? ⟨g, 2, none⟩ = some (.float .f32 a) := (cell_of_row w _ 2 _ _ _ hr).trans rfl
  have c3 : w.cell? ⟨g, 3, none⟩ = some (.float .f32 b) := (cell_of_row w _ 3 _ _ _ hr).trans rfl
  clear hr
  have H := hid h
  clear h hal hbl
  go_enter Try.func109, Try.ntmps109
  go_wp2_with fail
  refine (l00In_f k 1 6 H.out _).mono ?_
  rintro e u0 ⟨rfl, rfl⟩
  go_wp2
  go_ret
  exact ⟨rfl, k0.out.1⟩

set_option maxRecDepth 100000 in
set_option maxHeartbeats 2000000 in
theorem sAct_c (k : Int) (c : Int) (a b g : Nat) (h0 : 1 ≤ k ∧ k ≤ 6) (h : ¬ (0 ≤ c ∧ c ≤ 7)) (hal : a < 4294967296) (hbl : b < 4294967296) (w : World) (hh : w.heap[g]? = some (.cells #[.int .i64 k, .int .i64 c, .float .f32 a, .float .f32 b] 59 (0, 0))) :
    Calls Try.prog 109 #[.pointer (some ⟨g, 0, none⟩)] w fun e w' => e = .returned (.bool false) ∧ Below w.heap.size w w' := by
  have k0 : Hid (Kept w [(g, #[.int .i64 k, .int .i64 c, .float .f32 a, .float .f32 b], 59)] w) := hid ((Kept.nil w).add hh)
  clear hh
  have hr := k0.out.at (x := (g, #[.int .i64 k, .int .i64 c, .float .f32 a, .float .f32 b], 59)) (by simp)
  have c0 : w.cell? ⟨g, 0, none⟩ = some (.int .i64 k) := (cell_of_row w _ 0 _ _ _ hr).trans rfl
  have c1 : w.cell? ⟨g, 1, none⟩ = some (.int .i64 c) := (cell_of_row w _ 1 _ _ _ hr).trans rfl
  have c2 : w.cell? ⟨g, 2, none⟩ = some (.float .f32 a) := (cell_of_row w _ 2 _ _ _ hr).trans rfl
  have c3 : w.cell? ⟨g, 3, none⟩ = some (.float .f32 b) := (cell_of_row w _ 3 _ _ _ hr).trans rfl
  clear hr
  have H0 := hid h0
  have H := hid h
  clear h h0 hal hbl
  go_enter Try.func109, Try.ntmps109
  go_wp2_with fail
  refine (l00In_t k 1 6 H0.out.1 H0.out.2 _).mono ?_
  rintro e u0 ⟨rfl, rfl⟩
  go_wp2_with fail
  refine (l00In_f c 0 7 H.out _).mono ?_
  rintro e u0 ⟨rfl, rfl⟩
  go_wp2
  go_ret
  exact ⟨rfl, k0.out.1⟩

set_option maxRecDepth 100000 in
set_option maxHeartbeats 2000000 in
theorem sAct_a (k : Int) (c : Int) (a b g : Nat) (h0 : 1 ≤ k ∧ k ≤ 6) (h : 0 ≤ c ∧ c ≤ 7) (ha : plB a = false) (hal : a < 4294967296) (hbl : b < 4294967296) (w : World) (hh : w.heap[g]? = some (.cells #[.int .i64 k, .int .i64 c, .float .f32 a, .float .f32 b] 59 (0, 0))) :
    Calls Try.prog 109 #[.pointer (some ⟨g, 0, none⟩)] w fun e w' => e = .returned (.bool false) ∧ Below w.heap.size w w' := by
  have k0 : Hid (Kept w [(g, #[.int .i64 k, .int .i64 c, .float .f32 a, .float .f32 b], 59)] w) := hid ((Kept.nil w).add hh)
  clear hh
  have hr := k0.out.at (x := (g, #[.int .i64 k, .int .i64 c, .float .f32 a, .float .f32 b], 59)) (by simp)
  have c0 : w.cell? ⟨g, 0, none⟩ = some (.int .i64 k) := (cell_of_row w _ 0 _ _ _ hr).trans rfl
  have c1 : w.cell? ⟨g, 1, none⟩ = some (.int .i64 c) := (cell_of_row w _ 1 _ _ _ hr).trans rfl
  have c2 : w.cell? ⟨g, 2, none⟩ = some (.float .f32 a) := (cell_of_row w _ 2 _ _ _ hr).trans rfl
  have c3 : w.cell? ⟨g, 3, none⟩ = some (.float .f32 b) := (cell_of_row w _ 3 _ _ _ hr).trans rfl
  clear hr
  have H0 := hid h0
  have H := hid h
  have Pa := hid (fun w => by have := sPlain a hal w; rw [ha] at this; exact this)
  clear ha h h0 hal hbl
  go_enter Try.func109, Try.ntmps109
  go_wp2_with fail
  refine (l00In_t k 1 6 H0.out.1 H0.out.2 _).mono ?_
  rintro e u0 ⟨rfl, rfl⟩
  go_wp2_with fail
  refine (l00In_t c 0 7 H.out.1 H.out.2 _).mono ?_
  rintro e u0 ⟨rfl, rfl⟩
  go_wp2_with fail
  refine (Pa.out _).mono ?_
  rintro e u1 ⟨rfl, hb1⟩
  have k1 := hid (k0.out.stay hb1)
  clear hb1
  go_wp2
  go_ret
  exact ⟨rfl, k1.out.1⟩

set_option maxRecDepth 100000 in
set_option maxHeartbeats 2000000 in
theorem sAct_b (k : Int) (c : Int) (a b g : Nat) (h0 : 1 ≤ k ∧ k ≤ 6) (h : 0 ≤ c ∧ c ≤ 7) (ha : plB a = true) (hb : plB b = false) (hal : a < 4294967296) (hbl : b < 4294967296) (w : World) (hh : w.heap[g]? = some (.cells #[.int .i64 k, .int .i64 c, .float .f32 a, .float .f32 b] 59 (0, 0))) :
    Calls Try.prog 109 #[.pointer (some ⟨g, 0, none⟩)] w fun e w' => e = .returned (.bool false) ∧ Below w.heap.size w w' := by
  have k0 : Hid (Kept w [(g, #[.int .i64 k, .int .i64 c, .float .f32 a, .float .f32 b], 59)] w) := hid ((Kept.nil w).add hh)
  clear hh
  have hr := k0.out.at (x := (g, #[.int .i64 k, .int .i64 c, .float .f32 a, .float .f32 b], 59)) (by simp)
  have c0 : w.cell? ⟨g, 0, none⟩ = some (.int .i64 k) := (cell_of_row w _ 0 _ _ _ hr).trans rfl
  have c1 : w.cell? ⟨g, 1, none⟩ = some (.int .i64 c) := (cell_of_row w _ 1 _ _ _ hr).trans rfl
  have c2 : w.cell? ⟨g, 2, none⟩ = some (.float .f32 a) := (cell_of_row w _ 2 _ _ _ hr).trans rfl
  have c3 : w.cell? ⟨g, 3, none⟩ = some (.float .f32 b) := (cell_of_row w _ 3 _ _ _ hr).trans rfl
  clear hr
  have H0 := hid h0
  have H := hid h
  have Pa := hid (fun w => by have := sPlain a hal w; rw [ha] at this; exact this)
  have Pb := hid (fun w => by have := sPlain b hbl w; rw [hb] at this; exact this)
  clear ha hb h h0 hal hbl
  go_enter Try.func109, Try.ntmps109
  go_wp2_with fail
  refine (l00In_t k 1 6 H0.out.1 H0.out.2 _).mono ?_
  rintro e u0 ⟨rfl, rfl⟩
  go_wp2_with fail
  refine (l00In_t c 0 7 H.out.1 H.out.2 _).mono ?_
  rintro e u0 ⟨rfl, rfl⟩
  go_wp2_with fail
  refine (Pa.out _).mono ?_
  rintro e u1 ⟨rfl, hb1⟩
  have k1 := hid (k0.out.stay hb1)
  clear hb1
  clear c0 c1 c2 c3
  have hr := k1.out.at (x := (g, #[.int .i64 k, .int .i64 c, .float .f32 a, .float .f32 b], 59)) (by simp)
  have c0 : u1.cell? ⟨g, 0, none⟩ = some (.int .i64 k) := (cell_of_row u1 _ 0 _ _ _ hr).trans rfl
  have c1 : u1.cell? ⟨g, 1, none⟩ = some (.int .i64 c) := (cell_of_row u1 _ 1 _ _ _ hr).trans rfl
  have c2 : u1.cell? ⟨g, 2, none⟩ = some (.float .f32 a) := (cell_of_row u1 _ 2 _ _ _ hr).trans rfl
  have c3 : u1.cell? ⟨g, 3, none⟩ = some (.float .f32 b) := (cell_of_row u1 _ 3 _ _ _ hr).trans rfl
  clear hr
  go_wp2_with fail
  refine (Pb.out _).mono ?_
  rintro e u2 ⟨rfl, hb2⟩
  have k2 := hid (k1.out.stay hb2)
  clear hb2
  go_wp2
  go_ret
  exact ⟨rfl, k2.out.1⟩

set_option maxRecDepth 100000 in
set_option maxHeartbeats 2000000 in
theorem sAct1_t (c : Int) (a b g : Nat) (h : 0 ≤ c ∧ c ≤ 7) (ha : plB a = true) (hb : plB b = true) (h0 : (FloatKind.f32.format.order b 0 != some .eq) = false) (hal : a < 4294967296) (hbl : b < 4294967296) (w : World) (hh : w.heap[g]? = some (.cells #[.int .i64 1, .int .i64 c, .float .f32 a, .float .f32 b] 59 (0, 0))) :
    Calls Try.prog 109 #[.pointer (some ⟨g, 0, none⟩)] w fun e w' => e = .returned (.bool true) ∧ Below w.heap.size w w' := by
  have k0 : Hid (Kept w [(g, #[.int .i64 1, .int .i64 c, .float .f32 a, .float .f32 b], 59)] w) := hid ((Kept.nil w).add hh)
  clear hh
  have hr := k0.out.at (x := (g, #[.int .i64 1, .int .i64 c, .float .f32 a, .float .f32 b], 59)) (by simp)
  have c0 : w.cell? ⟨g, 0, none⟩ = some (.int .i64 1) := (cell_of_row w _ 0 _ _ _ hr).trans rfl
  have c1 : w.cell? ⟨g, 1, none⟩ = some (.int .i64 c) := (cell_of_row w _ 1 _ _ _ hr).trans rfl
  have c2 : w.cell? ⟨g, 2, none⟩ = some (.float .f32 a) := (cell_of_row w _ 2 _ _ _ hr).trans rfl
  have c3 : w.cell? ⟨g, 3, none⟩ = some (.float .f32 b) := (cell_of_row w _ 3 _ _ _ hr).trans rfl
  clear hr
  have H := hid h
  have Pa := hid (fun w => by have := sPlain a hal w; rw [ha] at this; exact this)
  have Pb := hid (fun w => by have := sPlain b hbl w; rw [hb] at this; exact this)
  clear ha hb h hal hbl
  go_enter Try.func109, Try.ntmps109
  go_wp2_with fail
  refine (l00In_t 1 1 6 (by decide) (by decide) _).mono ?_
  rintro e u0 ⟨rfl, rfl⟩
  go_wp2_with fail
  refine (l00In_t c 0 7 H.out.1 H.out.2 _).mono ?_
  rintro e u0 ⟨rfl, rfl⟩
  go_wp2_with fail
  refine (Pa.out _).mono ?_
  rintro e u1 ⟨rfl, hb1⟩
  have k1 := hid (k0.out.stay hb1)
  clear hb1
  clear c0 c1 c2 c3
  have hr := k1.out.at (x := (g, #[.int .i64 1, .int .i64 c, .float .f32 a, .float .f32 b], 59)) (by simp)
  have c0 : u1.cell? ⟨g, 0, none⟩ = some (.int .i64 1) := (cell_of_row u1 _ 0 _ _ _ hr).trans rfl
  have c1 : u1.cell? ⟨g, 1, none⟩ = some (.int .i64 c) := (cell_of_row u1 _ 1 _ _ _ hr).trans rfl
  have c2 : u1.cell? ⟨g, 2, none⟩ = some (.float .f32 a) := (cell_of_row u1 _ 2 _ _ _ hr).trans rfl
  have c3 : u1.cell? ⟨g, 3, none⟩ = some (.float .f32 b) := (cell_of_row u1 _ 3 _ _ _ hr).trans rfl
  clear hr
  go_wp2_with fail
  refine (Pb.out _).mono ?_
  rintro e u2 ⟨rfl, hb2⟩
  have k2 := hid (k1.out.stay hb2)
  clear hb2
  clear c0 c1 c2 c3
  go_wp2_with fail
  refine (sWords _).mono ?_
  rintro e u3 ⟨rfl, h3⟩
  have k3 : Hid (Kept w [(g, #[.int .i64 1, .int .i64 c, .float .f32 a, .float .f32 b], 59), (u2.heap.size + 1 + 1, #[.int .i64 0, .int .i64 1, .int .i64 1, .int .i64 2, .int .i64 1, .int .i64 1, .int .i64 1], 3), (u2.heap.size + 1, #[.bool false, .bool true, .bool true, .bool true, .bool true, .bool false, .bool false], 4)] u3) := hid (by rw [h3]; exact (((k2.out.push #[.string { data := #[] }, .string { data := #[104, 101, 97, 116] }, .string { data := #[119, 101, 116] }, .string { data := #[115, 101, 101, 100] }, .string { data := #[110, 117, 99, 108, 101, 105] }, .string { data := #[115, 116, 105, 114] }, .string { data := #[119, 97, 105, 116] }] 9).push #[.bool false, .bool true, .bool true, .bool true, .bool true, .bool false, .bool false] 4).push #[.int .i64 0, .int .i64 1, .int .i64 1, .int .i64 2, .int .i64 1, .int .i64 1, .int .i64 1] 3).sub (by simp))
  clear h3
  have hr := k3.out.at (x := (g, #[.int .i64 1, .int .i64 c, .float .f32 a, .float .f32 b], 59)) (by simp)
  have c0 : u3.cell? ⟨g, 0, none⟩ = some (.int .i64 1) := (cell_of_row u3 _ 0 _ _ _ hr).trans rfl
  have c1 : u3.cell? ⟨g, 1, none⟩ = some (.int .i64 c) := (cell_of_row u3 _ 1 _ _ _ hr).trans rfl
  have c2 : u3.cell? ⟨g, 2, none⟩ = some (.float .f32 a) := (cell_of_row u3 _ 2 _ _ _ hr).trans rfl
  have c3 : u3.cell? ⟨g, 3, none⟩ = some (.float .f32 b) := (cell_of_row u3 _ 3 _ _ _ hr).trans rfl
  clear hr
  have d1 : u3.cell? ⟨u2.heap.size + 1, 1, none⟩ = some (.bool true) := (cell_of_row u3 _ 1 _ _ _ (k3.out.at (x := (u2.heap.size + 1, #[.bool false, .bool true, .bool true, .bool true, .bool true, .bool false, .bool false], 4)) (by simp))).trans rfl
  have d2 : u3.cell? ⟨u2.heap.size + 1 + 1, 1, none⟩ = some (.int .i64 1) := (cell_of_row u3 _ 1 _ _ _ (k3.out.at (x := (u2.heap.size + 1 + 1, #[.int .i64 0, .int .i64 1, .int .i64 1, .int .i64 2, .int .i64 1, .int .i64 1, .int .i64 1], 3)) (by simp))).trans rfl
  have i1 := fun w => run_indexAt (P := Try.prog) (t := 227) (e := 4) Try.underlying227 (m := 1) (by kernel_rfl) (b := u2.heap.size + 1) (o := 0) (n := 7) (cap := 7) (k := 1) (by omega) w
  have i2 := fun w => run_indexAt (P := Try.prog) (t := 228) (e := 3) Try.underlying228 (m := 1) (by kernel_rfl) (b := u2.heap.size + 1 + 1) (o := 0) (n := 7) (cap := 7) (k := 1) (by omega) w
  simp only [Nat.zero_add, Nat.mul_one, show ((1 : Nat) : Int) = 1 from rfl] at i1 i2
  go_wp2_with fail
  go_quiet (fail)
  go_wp2
  go_ret
  exact ⟨rfl, (keptDrawn k3.out nq).1⟩

set_option maxRecDepth 100000 in
set_option maxHeartbeats 2000000 in
theorem sAct1_f (c : Int) (a b g : Nat) (h : 0 ≤ c ∧ c ≤ 7) (ha : plB a = true) (hb : plB b = true) (h0 : (FloatKind.f32.format.order b 0 != some .eq) = true) (hal : a < 4294967296) (hbl : b < 4294967296) (w : World) (hh : w.heap[g]? = some (.cells #[.int .i64 1, .int .i64 c, .float .f32 a, .float .f32 b] 59 (0, 0))) :
    Calls Try.prog 109 #[.pointer (some ⟨g, 0, none⟩)] w fun e w' => e = .returned (.bool false) ∧ Below w.heap.size w w' := by
  have k0 : Hid (Kept w [(g, #[.int .i64 1, .int .i64 c, .float .f32 a, .float .f32 b], 59)] w) := hid ((Kept.nil w).add hh)
  clear hh
  have hr := k0.out.at (x := (g, #[.int .i64 1, .int .i64 c, .float .f32 a, .float .f32 b], 59)) (by simp)
  have c0 : w.cell? ⟨g, 0, none⟩ = some (.int .i64 1) := (cell_of_row w _ 0 _ _ _ hr).trans rfl
  have c1 : w.cell? ⟨g, 1, none⟩ = some (.int .i64 c) := (cell_of_row w _ 1 _ _ _ hr).trans rfl
  have c2 : w.cell? ⟨g, 2, none⟩ = some (.float .f32 a) := (cell_of_row w _ 2 _ _ _ hr).trans rfl
  have c3 : w.cell? ⟨g, 3, none⟩ = some (.float .f32 b) := (cell_of_row w _ 3 _ _ _ hr).trans rfl
  clear hr
  have H := hid h
  have Pa := hid (fun w => by have := sPlain a hal w; rw [ha] at this; exact this)
  have Pb := hid (fun w => by have := sPlain b hbl w; rw [hb] at this; exact this)
  clear ha hb h hal hbl
  go_enter Try.func109, Try.ntmps109
  go_wp2_with fail
  refine (l00In_t 1 1 6 (by decide) (by decide) _).mono ?_
  rintro e u0 ⟨rfl, rfl⟩
  go_wp2_with fail
  refine (l00In_t c 0 7 H.out.1 H.out.2 _).mono ?_
  rintro e u0 ⟨rfl, rfl⟩
  go_wp2_with fail
  refine (Pa.out _).mono ?_
  rintro e u1 ⟨rfl, hb1⟩
  have k1 := hid (k0.out.stay hb1)
  clear hb1
  clear c0 c1 c2 c3
  have hr := k1.out.at (x := (g, #[.int .i64 1, .int .i64 c, .float .f32 a, .float .f32 b], 59)) (by simp)
  have c0 : u1.cell? ⟨g, 0, none⟩ = some (.int .i64 1) := (cell_of_row u1 _ 0 _ _ _ hr).trans rfl
  have c1 : u1.cell? ⟨g, 1, none⟩ = some (.int .i64 c) := (cell_of_row u1 _ 1 _ _ _ hr).trans rfl
  have c2 : u1.cell? ⟨g, 2, none⟩ = some (.float .f32 a) := (cell_of_row u1 _ 2 _ _ _ hr).trans rfl
  have c3 : u1.cell? ⟨g, 3, none⟩ = some (.float .f32 b) := (cell_of_row u1 _ 3 _ _ _ hr).trans rfl
  clear hr
  go_wp2_with fail
  refine (Pb.out _).mono ?_
  rintro e u2 ⟨rfl, hb2⟩
  have k2 := hid (k1.out.stay hb2)
  clear hb2
  clear c0 c1 c2 c3
  go_wp2_with fail
  refine (sWords _).mono ?_
  rintro e u3 ⟨rfl, h3⟩
  have k3 : Hid (Kept w [(g, #[.int .i64 1, .int .i64 c, .float .f32 a, .float .f32 b], 59), (u2.heap.size + 1 + 1, #[.int .i64 0, .int .i64 1, .int .i64 1, .int .i64 2, .int .i64 1, .int .i64 1, .int .i64 1], 3), (u2.heap.size + 1, #[.bool false, .bool true, .bool true, .bool true, .bool true, .bool false, .bool false], 4)] u3) := hid (by rw [h3]; exact (((k2.out.push #[.string { data := #[] }, .string { data := #[104, 101, 97, 116] }, .string { data := #[119, 101, 116] }, .string { data := #[115, 101, 101, 100] }, .string { data := #[110, 117, 99, 108, 101, 105] }, .string { data := #[115, 116, 105, 114] }, .string { data := #[119, 97, 105, 116] }] 9).push #[.bool false, .bool true, .bool true, .bool true, .bool true, .bool false, .bool false] 4).push #[.int .i64 0, .int .i64 1, .int .i64 1, .int .i64 2, .int .i64 1, .int .i64 1, .int .i64 1] 3).sub (by simp))
  clear h3
  have hr := k3.out.at (x := (g, #[.int .i64 1, .int .i64 c, .float .f32 a, .float .f32 b], 59)) (by simp)
  have c0 : u3.cell? ⟨g, 0, none⟩ = some (.int .i64 1) := (cell_of_row u3 _ 0 _ _ _ hr).trans rfl
  have c1 : u3.cell? ⟨g, 1, none⟩ = some (.int .i64 c) := (cell_of_row u3 _ 1 _ _ _ hr).trans rfl
  have c2 : u3.cell? ⟨g, 2, none⟩ = some (.float .f32 a) := (cell_of_row u3 _ 2 _ _ _ hr).trans rfl
  have c3 : u3.cell? ⟨g, 3, none⟩ = some (.float .f32 b) := (cell_of_row u3 _ 3 _ _ _ hr).trans rfl
  clear hr
  have d1 : u3.cell? ⟨u2.heap.size + 1, 1, none⟩ = some (.bool true) := (cell_of_row u3 _ 1 _ _ _ (k3.out.at (x := (u2.heap.size + 1, #[.bool false, .bool true, .bool true, .bool true, .bool true, .bool false, .bool false], 4)) (by simp))).trans rfl
  have d2 : u3.cell? ⟨u2.heap.size + 1 + 1, 1, none⟩ = some (.int .i64 1) := (cell_of_row u3 _ 1 _ _ _ (k3.out.at (x := (u2.heap.size + 1 + 1, #[.int .i64 0, .int .i64 1, .int .i64 1, .int .i64 2, .int .i64 1, .int .i64 1, .int .i64 1], 3)) (by simp))).trans rfl
  have i1 := fun w => run_indexAt (P := Try.prog) (t := 227) (e := 4) Try.underlying227 (m := 1) (by kernel_rfl) (b := u2.heap.size + 1) (o := 0) (n := 7) (cap := 7) (k := 1) (by omega) w
  have i2 := fun w => run_indexAt (P := Try.prog) (t := 228) (e := 3) Try.underlying228 (m := 1) (by kernel_rfl) (b := u2.heap.size + 1 + 1) (o := 0) (n := 7) (cap := 7) (k := 1) (by omega) w
  simp only [Nat.zero_add, Nat.mul_one, show ((1 : Nat) : Int) = 1 from rfl] at i1 i2
  go_wp2
  go_ret
  exact ⟨rfl, k3.out.1⟩

set_option maxRecDepth 100000 in
set_option maxHeartbeats 2000000 in
theorem sAct2_t (c : Int) (a b g : Nat) (h : 0 ≤ c ∧ c ≤ 7) (ha : plB a = true) (hb : plB b = true) (h0 : (FloatKind.f32.format.order b 0 != some .eq) = false) (hal : a < 4294967296) (hbl : b < 4294967296) (w : World) (hh : w.heap[g]? = some (.cells #[.int .i64 2, .int .i64 c, .float .f32 a, .float .f32 b] 59 (0, 0))) :
    Calls Try.prog 109 #[.pointer (some ⟨g, 0, none⟩)] w fun e w' => e = .returned (.bool true) ∧ Below w.heap.size w w' := by
  have k0 : Hid (Kept w [(g, #[.int .i64 2, .int .i64 c, .float .f32 a, .float .f32 b], 59)] w) := hid ((Kept.nil w).add hh)
  clear hh
  have hr := k0.out.at (x := (g, #[.int .i64 2, .int .i64 c, .float .f32 a, .float .f32 b], 59)) (by simp)
  have c0 : w.cell? ⟨g, 0, none⟩ = some (.int .i64 2) := (cell_of_row w _ 0 _ _ _ hr).trans rfl
  have c1 : w.cell? ⟨g, 1, none⟩ = some (.int .i64 c) := (cell_of_row w _ 1 _ _ _ hr).trans rfl
  have c2 : w.cell? ⟨g, 2, none⟩ = some (.float .f32 a) := (cell_of_row w _ 2 _ _ _ hr).trans rfl
  have c3 : w.cell? ⟨g, 3, none⟩ = some (.float .f32 b) := (cell_of_row w _ 3 _ _ _ hr).trans rfl
  clear hr
  have H := hid h
  have Pa := hid (fun w => by have := sPlain a hal w; rw [ha] at this; exact this)
  have Pb := hid (fun w => by have := sPlain b hbl w; rw [hb] at this; exact this)
  clear ha hb h hal hbl
  go_enter Try.func109, Try.ntmps109
  go_wp2_with fail
  refine (l00In_t 2 1 6 (by decide) (by decide) _).mono ?_
  rintro e u0 ⟨rfl, rfl⟩
  go_wp2_with fail
  refine (l00In_t c 0 7 H.out.1 H.out.2 _).mono ?_
  rintro e u0 ⟨rfl, rfl⟩
  go_wp2_with fail
  refine (Pa.out _).mono ?_
  rintro e u1 ⟨rfl, hb1⟩
  have k1 := hid (k0.out.stay hb1)
  clear hb1
  clear c0 c1 c2 c3
  have hr := k1.out.at (x := (g, #[.int .i64 2, .int .i64 c, .float .f32 a, .float .f32 b], 59)) (by simp)
  have c0 : u1.cell? ⟨g, 0, none⟩ = some (.int .i64 2) := (cell_of_row u1 _ 0 _ _ _ hr).trans rfl
  have c1 : u1.cell? ⟨g, 1, none⟩ = some (.int .i64 c) := (cell_of_row u1 _ 1 _ _ _ hr).trans rfl
  have c2 : u1.cell? ⟨g, 2, none⟩ = some (.float .f32 a) := (cell_of_row u1 _ 2 _ _ _ hr).trans rfl
  have c3 : u1.cell? ⟨g, 3, none⟩ = some (.float .f32 b) := (cell_of_row u1 _ 3 _ _ _ hr).trans rfl
  clear hr
  go_wp2_with fail
  refine (Pb.out _).mono ?_
  rintro e u2 ⟨rfl, hb2⟩
  have k2 := hid (k1.out.stay hb2)
  clear hb2
  clear c0 c1 c2 c3
  go_wp2_with fail
  refine (sWords _).mono ?_
  rintro e u3 ⟨rfl, h3⟩
  have k3 : Hid (Kept w [(g, #[.int .i64 2, .int .i64 c, .float .f32 a, .float .f32 b], 59), (u2.heap.size + 1 + 1, #[.int .i64 0, .int .i64 1, .int .i64 1, .int .i64 2, .int .i64 1, .int .i64 1, .int .i64 1], 3), (u2.heap.size + 1, #[.bool false, .bool true, .bool true, .bool true, .bool true, .bool false, .bool false], 4)] u3) := hid (by rw [h3]; exact (((k2.out.push #[.string { data := #[] }, .string { data := #[104, 101, 97, 116] }, .string { data := #[119, 101, 116] }, .string { data := #[115, 101, 101, 100] }, .string { data := #[110, 117, 99, 108, 101, 105] }, .string { data := #[115, 116, 105, 114] }, .string { data := #[119, 97, 105, 116] }] 9).push #[.bool false, .bool true, .bool true, .bool true, .bool true, .bool false, .bool false] 4).push #[.int .i64 0, .int .i64 1, .int .i64 1, .int .i64 2, .int .i64 1, .int .i64 1, .int .i64 1] 3).sub (by simp))
  clear h3
  have hr := k3.out.at (x := (g, #[.int .i64 2, .int .i64 c, .float .f32 a, .float .f32 b], 59)) (by simp)
  have c0 : u3.cell? ⟨g, 0, none⟩ = some (.int .i64 2) := (cell_of_row u3 _ 0 _ _ _ hr).trans rfl
  have c1 : u3.cell? ⟨g, 1, none⟩ = some (.int .i64 c) := (cell_of_row u3 _ 1 _ _ _ hr).trans rfl
  have c2 : u3.cell? ⟨g, 2, none⟩ = some (.float .f32 a) := (cell_of_row u3 _ 2 _ _ _ hr).trans rfl
  have c3 : u3.cell? ⟨g, 3, none⟩ = some (.float .f32 b) := (cell_of_row u3 _ 3 _ _ _ hr).trans rfl
  clear hr
  have d1 : u3.cell? ⟨u2.heap.size + 1, 2, none⟩ = some (.bool true) := (cell_of_row u3 _ 2 _ _ _ (k3.out.at (x := (u2.heap.size + 1, #[.bool false, .bool true, .bool true, .bool true, .bool true, .bool false, .bool false], 4)) (by simp))).trans rfl
  have d2 : u3.cell? ⟨u2.heap.size + 1 + 1, 2, none⟩ = some (.int .i64 1) := (cell_of_row u3 _ 2 _ _ _ (k3.out.at (x := (u2.heap.size + 1 + 1, #[.int .i64 0, .int .i64 1, .int .i64 1, .int .i64 2, .int .i64 1, .int .i64 1, .int .i64 1], 3)) (by simp))).trans rfl
  have i1 := fun w => run_indexAt (P := Try.prog) (t := 227) (e := 4) Try.underlying227 (m := 1) (by kernel_rfl) (b := u2.heap.size + 1) (o := 0) (n := 7) (cap := 7) (k := 2) (by omega) w
  have i2 := fun w => run_indexAt (P := Try.prog) (t := 228) (e := 3) Try.underlying228 (m := 1) (by kernel_rfl) (b := u2.heap.size + 1 + 1) (o := 0) (n := 7) (cap := 7) (k := 2) (by omega) w
  simp only [Nat.zero_add, Nat.mul_one, show ((2 : Nat) : Int) = 2 from rfl] at i1 i2
  go_wp2_with fail
  go_quiet (fail)
  go_wp2
  go_ret
  exact ⟨rfl, (keptDrawn k3.out nq).1⟩

set_option maxRecDepth 100000 in
set_option maxHeartbeats 2000000 in
theorem sAct2_f (c : Int) (a b g : Nat) (h : 0 ≤ c ∧ c ≤ 7) (ha : plB a = true) (hb : plB b = true) (h0 : (FloatKind.f32.format.order b 0 != some .eq) = true) (hal : a < 4294967296) (hbl : b < 4294967296) (w : World) (hh : w.heap[g]? = some (.cells #[.int .i64 2, .int .i64 c, .float .f32 a, .float .f32 b] 59 (0, 0))) :
    Calls Try.prog 109 #[.pointer (some ⟨g, 0, none⟩)] w fun e w' => e = .returned (.bool false) ∧ Below w.heap.size w w' := by
  have k0 : Hid (Kept w [(g, #[.int .i64 2, .int .i64 c, .float .f32 a, .float .f32 b], 59)] w) := hid ((Kept.nil w).add hh)
  clear hh
  have hr := k0.out.at (x := (g, #[.int .i64 2, .int .i64 c, .float .f32 a, .float .f32 b], 59)) (by simp)
  have c0 : w.cell? ⟨g, 0, none⟩ = some (.int .i64 2) := (cell_of_row w _ 0 _ _ _ hr).trans rfl
  have c1 : w.cell? ⟨g, 1, none⟩ = some (.int .i64 c) := (cell_of_row w _ 1 _ _ _ hr).trans rfl
  have c2 : w.cell? ⟨g, 2, none⟩ = some (.float .f32 a) := (cell_of_row w _ 2 _ _ _ hr).trans rfl
  have c3 : w.cell? ⟨g, 3, none⟩ = some (.float .f32 b) := (cell_of_row w _ 3 _ _ _ hr).trans rfl
  clear hr
  have H := hid h
  have Pa := hid (fun w => by have := sPlain a hal w; rw [ha] at this; exact this)
  have Pb := hid (fun w => by have := sPlain b hbl w; rw [hb] at this; exact this)
  clear ha hb h hal hbl
  go_enter Try.func109, Try.ntmps109
  go_wp2_with fail
  refine (l00In_t 2 1 6 (by decide) (by decide) _).mono ?_
  rintro e u0 ⟨rfl, rfl⟩
  go_wp2_with fail
  refine (l00In_t c 0 7 H.out.1 H.out.2 _).mono ?_
  rintro e u0 ⟨rfl, rfl⟩
  go_wp2_with fail
  refine (Pa.out _).mono ?_
  rintro e u1 ⟨rfl, hb1⟩
  have k1 := hid (k0.out.stay hb1)
  clear hb1
  clear c0 c1 c2 c3
  have hr := k1.out.at (x := (g, #[.int .i64 2, .int .i64 c, .float .f32 a, .float .f32 b], 59)) (by simp)
  have c0 : u1.cell? ⟨g, 0, none⟩ = some (.int .i64 2) := (cell_of_row u1 _ 0 _ _ _ hr).trans rfl
  have c1 : u1.cell? ⟨g, 1, none⟩ = some (.int .i64 c) := (cell_of_row u1 _ 1 _ _ _ hr).trans rfl
  have c2 : u1.cell? ⟨g, 2, none⟩ = some (.float .f32 a) := (cell_of_row u1 _ 2 _ _ _ hr).trans rfl
  have c3 : u1.cell? ⟨g, 3, none⟩ = some (.float .f32 b) := (cell_of_row u1 _ 3 _ _ _ hr).trans rfl
  clear hr
  go_wp2_with fail
  refine (Pb.out _).mono ?_
  rintro e u2 ⟨rfl, hb2⟩
  have k2 := hid (k1.out.stay hb2)
  clear hb2
  clear c0 c1 c2 c3
  go_wp2_with fail
  refine (sWords _).mono ?_
  rintro e u3 ⟨rfl, h3⟩
  have k3 : Hid (Kept w [(g, #[.int .i64 2, .int .i64 c, .float .f32 a, .float .f32 b], 59), (u2.heap.size + 1 + 1, #[.int .i64 0, .int .i64 1, .int .i64 1, .int .i64 2, .int .i64 1, .int .i64 1, .int .i64 1], 3), (u2.heap.size + 1, #[.bool false, .bool true, .bool true, .bool true, .bool true, .bool false, .bool false], 4)] u3) := hid (by rw [h3]; exact (((k2.out.push #[.string { data := #[] }, .string { data := #[104, 101, 97, 116] }, .string { data := #[119, 101, 116] }, .string { data := #[115, 101, 101, 100] }, .string { data := #[110, 117, 99, 108, 101, 105] }, .string { data := #[115, 116, 105, 114] }, .string { data := #[119, 97, 105, 116] }] 9).push #[.bool false, .bool true, .bool true, .bool true, .bool true, .bool false, .bool false] 4).push #[.int .i64 0, .int .i64 1, .int .i64 1, .int .i64 2, .int .i64 1, .int .i64 1, .int .i64 1] 3).sub (by simp))
  clear h3
  have hr := k3.out.at (x := (g, #[.int .i64 2, .int .i64 c, .float .f32 a, .float .f32 b], 59)) (by simp)
  have c0 : u3.cell? ⟨g, 0, none⟩ = some (.int .i64 2) := (cell_of_row u3 _ 0 _ _ _ hr).trans rfl
  have c1 : u3.cell? ⟨g, 1, none⟩ = some (.int .i64 c) := (cell_of_row u3 _ 1 _ _ _ hr).trans rfl
  have c2 : u3.cell? ⟨g, 2, none⟩ = some (.float .f32 a) := (cell_of_row u3 _ 2 _ _ _ hr).trans rfl
  have c3 : u3.cell? ⟨g, 3, none⟩ = some (.float .f32 b) := (cell_of_row u3 _ 3 _ _ _ hr).trans rfl
  clear hr
  have d1 : u3.cell? ⟨u2.heap.size + 1, 2, none⟩ = some (.bool true) := (cell_of_row u3 _ 2 _ _ _ (k3.out.at (x := (u2.heap.size + 1, #[.bool false, .bool true, .bool true, .bool true, .bool true, .bool false, .bool false], 4)) (by simp))).trans rfl
  have d2 : u3.cell? ⟨u2.heap.size + 1 + 1, 2, none⟩ = some (.int .i64 1) := (cell_of_row u3 _ 2 _ _ _ (k3.out.at (x := (u2.heap.size + 1 + 1, #[.int .i64 0, .int .i64 1, .int .i64 1, .int .i64 2, .int .i64 1, .int .i64 1, .int .i64 1], 3)) (by simp))).trans rfl
  have i1 := fun w => run_indexAt (P := Try.prog) (t := 227) (e := 4) Try.underlying227 (m := 1) (by kernel_rfl) (b := u2.heap.size + 1) (o := 0) (n := 7) (cap := 7) (k := 2) (by omega) w
  have i2 := fun w => run_indexAt (P := Try.prog) (t := 228) (e := 3) Try.underlying228 (m := 1) (by kernel_rfl) (b := u2.heap.size + 1 + 1) (o := 0) (n := 7) (cap := 7) (k := 2) (by omega) w
  simp only [Nat.zero_add, Nat.mul_one, show ((2 : Nat) : Int) = 2 from rfl] at i1 i2
  go_wp2
  go_ret
  exact ⟨rfl, k3.out.1⟩

set_option maxRecDepth 100000 in
set_option maxHeartbeats 2000000 in
theorem sAct4_t (c : Int) (a b g : Nat) (h : 0 ≤ c ∧ c ≤ 7) (ha : plB a = true) (hb : plB b = true) (h0 : (FloatKind.f32.format.order b 0 != some .eq) = false) (hal : a < 4294967296) (hbl : b < 4294967296) (w : World) (hh : w.heap[g]? = some (.cells #[.int .i64 4, .int .i64 c, .float .f32 a, .float .f32 b] 59 (0, 0))) :
    Calls Try.prog 109 #[.pointer (some ⟨g, 0, none⟩)] w fun e w' => e = .returned (.bool true) ∧ Below w.heap.size w w' := by
  have k0 : Hid (Kept w [(g, #[.int .i64 4, .int .i64 c, .float .f32 a, .float .f32 b], 59)] w) := hid ((Kept.nil w).add hh)
  clear hh
  have hr := k0.out.at (x := (g, #[.int .i64 4, .int .i64 c, .float .f32 a, .float .f32 b], 59)) (by simp)
  have c0 : w.cell? ⟨g, 0, none⟩ = some (.int .i64 4) := (cell_of_row w _ 0 _ _ _ hr).trans rfl
  have c1 : w.cell? ⟨g, 1, none⟩ = some (.int .i64 c) := (cell_of_row w _ 1 _ _ _ hr).trans rfl
  have c2 : w.cell? ⟨g, 2, none⟩ = some (.float .f32 a) := (cell_of_row w _ 2 _ _ _ hr).trans rfl
  have c3 : w.cell? ⟨g, 3, none⟩ = some (.float .f32 b) := (cell_of_row w _ 3 _ _ _ hr).trans rfl
  clear hr
  have H := hid h
  have Pa := hid (fun w => by have := sPlain a hal w; rw [ha] at this; exact this)
  have Pb := hid (fun w => by have := sPlain b hbl w; rw [hb] at this; exact this)
  clear ha hb h hal hbl
  go_enter Try.func109, Try.ntmps109
  go_wp2_with fail
  refine (l00In_t 4 1 6 (by decide) (by decide) _).mono ?_
  rintro e u0 ⟨rfl, rfl⟩
  go_wp2_with fail
  refine (l00In_t c 0 7 H.out.1 H.out.2 _).mono ?_
  rintro e u0 ⟨rfl, rfl⟩
  go_wp2_with fail
  refine (Pa.out _).mono ?_
  rintro e u1 ⟨rfl, hb1⟩
  have k1 := hid (k0.out.stay hb1)
  clear hb1
  clear c0 c1 c2 c3
  have hr := k1.out.at (x := (g, #[.int .i64 4, .int .i64 c, .float .f32 a, .float .f32 b], 59)) (by simp)
  have c0 : u1.cell? ⟨g, 0, none⟩ = some (.int .i64 4) := (cell_of_row u1 _ 0 _ _ _ hr).trans rfl
  have c1 : u1.cell? ⟨g, 1, none⟩ = some (.int .i64 c) := (cell_of_row u1 _ 1 _ _ _ hr).trans rfl
  have c2 : u1.cell? ⟨g, 2, none⟩ = some (.float .f32 a) := (cell_of_row u1 _ 2 _ _ _ hr).trans rfl
  have c3 : u1.cell? ⟨g, 3, none⟩ = some (.float .f32 b) := (cell_of_row u1 _ 3 _ _ _ hr).trans rfl
  clear hr
  go_wp2_with fail
  refine (Pb.out _).mono ?_
  rintro e u2 ⟨rfl, hb2⟩
  have k2 := hid (k1.out.stay hb2)
  clear hb2
  clear c0 c1 c2 c3
  go_wp2_with fail
  refine (sWords _).mono ?_
  rintro e u3 ⟨rfl, h3⟩
  have k3 : Hid (Kept w [(g, #[.int .i64 4, .int .i64 c, .float .f32 a, .float .f32 b], 59), (u2.heap.size + 1 + 1, #[.int .i64 0, .int .i64 1, .int .i64 1, .int .i64 2, .int .i64 1, .int .i64 1, .int .i64 1], 3), (u2.heap.size + 1, #[.bool false, .bool true, .bool true, .bool true, .bool true, .bool false, .bool false], 4)] u3) := hid (by rw [h3]; exact (((k2.out.push #[.string { data := #[] }, .string { data := #[104, 101, 97, 116] }, .string { data := #[119, 101, 116] }, .string { data := #[115, 101, 101, 100] }, .string { data := #[110, 117, 99, 108, 101, 105] }, .string { data := #[115, 116, 105, 114] }, .string { data := #[119, 97, 105, 116] }] 9).push #[.bool false, .bool true, .bool true, .bool true, .bool true, .bool false, .bool false] 4).push #[.int .i64 0, .int .i64 1, .int .i64 1, .int .i64 2, .int .i64 1, .int .i64 1, .int .i64 1] 3).sub (by simp))
  clear h3
  have hr := k3.out.at (x := (g, #[.int .i64 4, .int .i64 c, .float .f32 a, .float .f32 b], 59)) (by simp)
  have c0 : u3.cell? ⟨g, 0, none⟩ = some (.int .i64 4) := (cell_of_row u3 _ 0 _ _ _ hr).trans rfl
  have c1 : u3.cell? ⟨g, 1, none⟩ = some (.int .i64 c) := (cell_of_row u3 _ 1 _ _ _ hr).trans rfl
  have c2 : u3.cell? ⟨g, 2, none⟩ = some (.float .f32 a) := (cell_of_row u3 _ 2 _ _ _ hr).trans rfl
  have c3 : u3.cell? ⟨g, 3, none⟩ = some (.float .f32 b) := (cell_of_row u3 _ 3 _ _ _ hr).trans rfl
  clear hr
  have d1 : u3.cell? ⟨u2.heap.size + 1, 4, none⟩ = some (.bool true) := (cell_of_row u3 _ 4 _ _ _ (k3.out.at (x := (u2.heap.size + 1, #[.bool false, .bool true, .bool true, .bool true, .bool true, .bool false, .bool false], 4)) (by simp))).trans rfl
  have d2 : u3.cell? ⟨u2.heap.size + 1 + 1, 4, none⟩ = some (.int .i64 1) := (cell_of_row u3 _ 4 _ _ _ (k3.out.at (x := (u2.heap.size + 1 + 1, #[.int .i64 0, .int .i64 1, .int .i64 1, .int .i64 2, .int .i64 1, .int .i64 1, .int .i64 1], 3)) (by simp))).trans rfl
  have i1 := fun w => run_indexAt (P := Try.prog) (t := 227) (e := 4) Try.underlying227 (m := 1) (by kernel_rfl) (b := u2.heap.size + 1) (o := 0) (n := 7) (cap := 7) (k := 4) (by omega) w
  have i2 := fun w => run_indexAt (P := Try.prog) (t := 228) (e := 3) Try.underlying228 (m := 1) (by kernel_rfl) (b := u2.heap.size + 1 + 1) (o := 0) (n := 7) (cap := 7) (k := 4) (by omega) w
  simp only [Nat.zero_add, Nat.mul_one, show ((4 : Nat) : Int) = 4 from rfl] at i1 i2
  go_wp2_with fail
  go_quiet (fail)
  go_wp2
  go_ret
  exact ⟨rfl, (keptDrawn k3.out nq).1⟩

set_option maxRecDepth 100000 in
set_option maxHeartbeats 2000000 in
theorem sAct4_f (c : Int) (a b g : Nat) (h : 0 ≤ c ∧ c ≤ 7) (ha : plB a = true) (hb : plB b = true) (h0 : (FloatKind.f32.format.order b 0 != some .eq) = true) (hal : a < 4294967296) (hbl : b < 4294967296) (w : World) (hh : w.heap[g]? = some (.cells #[.int .i64 4, .int .i64 c, .float .f32 a, .float .f32 b] 59 (0, 0))) :
    Calls Try.prog 109 #[.pointer (some ⟨g, 0, none⟩)] w fun e w' => e = .returned (.bool false) ∧ Below w.heap.size w w' := by
  have k0 : Hid (Kept w [(g, #[.int .i64 4, .int .i64 c, .float .f32 a, .float .f32 b], 59)] w) := hid ((Kept.nil w).add hh)
  clear hh
  have hr := k0.out.at (x := (g, #[.int .i64 4, .int .i64 c, .float .f32 a, .float .f32 b], 59)) (by simp)
  have c0 : w.cell? ⟨g, 0, none⟩ = some (.int .i64 4) := (cell_of_row w _ 0 _ _ _ hr).trans rfl
  have c1 : w.cell? ⟨g, 1, none⟩ = some (.int .i64 c) := (cell_of_row w _ 1 _ _ _ hr).trans rfl
  have c2 : w.cell? ⟨g, 2, none⟩ = some (.float .f32 a) := (cell_of_row w _ 2 _ _ _ hr).trans rfl
  have c3 : w.cell? ⟨g, 3, none⟩ = some (.float .f32 b) := (cell_of_row w _ 3 _ _ _ hr).trans rfl
  clear hr
  have H := hid h
  have Pa := hid (fun w => by have := sPlain a hal w; rw [ha] at this; exact this)
  have Pb := hid (fun w => by have := sPlain b hbl w; rw [hb] at this; exact this)
  clear ha hb h hal hbl
  go_enter Try.func109, Try.ntmps109
  go_wp2_with fail
  refine (l00In_t 4 1 6 (by decide) (by decide) _).mono ?_
  rintro e u0 ⟨rfl, rfl⟩
  go_wp2_with fail
  refine (l00In_t c 0 7 H.out.1 H.out.2 _).mono ?_
  rintro e u0 ⟨rfl, rfl⟩
  go_wp2_with fail
  refine (Pa.out _).mono ?_
  rintro e u1 ⟨rfl, hb1⟩
  have k1 := hid (k0.out.stay hb1)
  clear hb1
  clear c0 c1 c2 c3
  have hr := k1.out.at (x := (g, #[.int .i64 4, .int .i64 c, .float .f32 a, .float .f32 b], 59)) (by simp)
  have c0 : u1.cell? ⟨g, 0, none⟩ = some (.int .i64 4) := (cell_of_row u1 _ 0 _ _ _ hr).trans rfl
  have c1 : u1.cell? ⟨g, 1, none⟩ = some (.int .i64 c) := (cell_of_row u1 _ 1 _ _ _ hr).trans rfl
  have c2 : u1.cell? ⟨g, 2, none⟩ = some (.float .f32 a) := (cell_of_row u1 _ 2 _ _ _ hr).trans rfl
  have c3 : u1.cell? ⟨g, 3, none⟩ = some (.float .f32 b) := (cell_of_row u1 _ 3 _ _ _ hr).trans rfl
  clear hr
  go_wp2_with fail
  refine (Pb.out _).mono ?_
  rintro e u2 ⟨rfl, hb2⟩
  have k2 := hid (k1.out.stay hb2)
  clear hb2
  clear c0 c1 c2 c3
  go_wp2_with fail
  refine (sWords _).mono ?_
  rintro e u3 ⟨rfl, h3⟩
  have k3 : Hid (Kept w [(g, #[.int .i64 4, .int .i64 c, .float .f32 a, .float .f32 b], 59), (u2.heap.size + 1 + 1, #[.int .i64 0, .int .i64 1, .int .i64 1, .int .i64 2, .int .i64 1, .int .i64 1, .int .i64 1], 3), (u2.heap.size + 1, #[.bool false, .bool true, .bool true, .bool true, .bool true, .bool false, .bool false], 4)] u3) := hid (by rw [h3]; exact (((k2.out.push #[.string { data := #[] }, .string { data := #[104, 101, 97, 116] }, .string { data := #[119, 101, 116] }, .string { data := #[115, 101, 101, 100] }, .string { data := #[110, 117, 99, 108, 101, 105] }, .string { data := #[115, 116, 105, 114] }, .string { data := #[119, 97, 105, 116] }] 9).push #[.bool false, .bool true, .bool true, .bool true, .bool true, .bool false, .bool false] 4).push #[.int .i64 0, .int .i64 1, .int .i64 1, .int .i64 2, .int .i64 1, .int .i64 1, .int .i64 1] 3).sub (by simp))
  clear h3
  have hr := k3.out.at (x := (g, #[.int .i64 4, .int .i64 c, .float .f32 a, .float .f32 b], 59)) (by simp)
  have c0 : u3.cell? ⟨g, 0, none⟩ = some (.int .i64 4) := (cell_of_row u3 _ 0 _ _ _ hr).trans rfl
  have c1 : u3.cell? ⟨g, 1, none⟩ = some (.int .i64 c) := (cell_of_row u3 _ 1 _ _ _ hr).trans rfl
  have c2 : u3.cell? ⟨g, 2, none⟩ = some (.float .f32 a) := (cell_of_row u3 _ 2 _ _ _ hr).trans rfl
  have c3 : u3.cell? ⟨g, 3, none⟩ = some (.float .f32 b) := (cell_of_row u3 _ 3 _ _ _ hr).trans rfl
  clear hr
  have d1 : u3.cell? ⟨u2.heap.size + 1, 4, none⟩ = some (.bool true) := (cell_of_row u3 _ 4 _ _ _ (k3.out.at (x := (u2.heap.size + 1, #[.bool false, .bool true, .bool true, .bool true, .bool true, .bool false, .bool false], 4)) (by simp))).trans rfl
  have d2 : u3.cell? ⟨u2.heap.size + 1 + 1, 4, none⟩ = some (.int .i64 1) := (cell_of_row u3 _ 4 _ _ _ (k3.out.at (x := (u2.heap.size + 1 + 1, #[.int .i64 0, .int .i64 1, .int .i64 1, .int .i64 2, .int .i64 1, .int .i64 1, .int .i64 1], 3)) (by simp))).trans rfl
  have i1 := fun w => run_indexAt (P := Try.prog) (t := 227) (e := 4) Try.underlying227 (m := 1) (by kernel_rfl) (b := u2.heap.size + 1) (o := 0) (n := 7) (cap := 7) (k := 4) (by omega) w
  have i2 := fun w => run_indexAt (P := Try.prog) (t := 228) (e := 3) Try.underlying228 (m := 1) (by kernel_rfl) (b := u2.heap.size + 1 + 1) (o := 0) (n := 7) (cap := 7) (k := 4) (by omega) w
  simp only [Nat.zero_add, Nat.mul_one, show ((4 : Nat) : Int) = 4 from rfl] at i1 i2
  go_wp2
  go_ret
  exact ⟨rfl, k3.out.1⟩

set_option maxRecDepth 100000 in
set_option maxHeartbeats 2000000 in
theorem sAct3_t (c : Int) (a b g : Nat) (h : 0 ≤ c ∧ c ≤ 7) (ha : plB a = true) (hb : plB b = true) (hal : a < 4294967296) (hbl : b < 4294967296) (w : World) (hh : w.heap[g]? = some (.cells #[.int .i64 3, .int .i64 c, .float .f32 a, .float .f32 b] 59 (0, 0))) :
    Calls Try.prog 109 #[.pointer (some ⟨g, 0, none⟩)] w fun e w' => e = .returned (.bool true) ∧ Below w.heap.size w w' := by
  have k0 : Hid (Kept w [(g, #[.int .i64 3, .int .i64 c, .float .f32 a, .float .f32 b], 59)] w) := hid ((Kept.nil w).add hh)
  clear hh
  have hr := k0.out.at (x := (g, #[.int .i64 3, .int .i64 c, .float .f32 a, .float .f32 b], 59)) (by simp)
  have c0 : w.cell? ⟨g, 0, none⟩ = some (.int .i64 3) := (cell_of_row w _ 0 _ _ _ hr).trans rfl
  have c1 : w.cell? ⟨g, 1, none⟩ = some (.int .i64 c) := (cell_of_row w _ 1 _ _ _ hr).trans rfl
  have c2 : w.cell? ⟨g, 2, none⟩ = some (.float .f32 a) := (cell_of_row w _ 2 _ _ _ hr).trans rfl
  have c3 : w.cell? ⟨g, 3, none⟩ = some (.float .f32 b) := (cell_of_row w _ 3 _ _ _ hr).trans rfl
  clear hr
  have H := hid h
  have Pa := hid (fun w => by have := sPlain a hal w; rw [ha] at this; exact this)
  have Pb := hid (fun w => by have := sPlain b hbl w; rw [hb] at this; exact this)
  clear ha hb h hal hbl
  go_enter Try.func109, Try.ntmps109
  go_wp2_with fail
  refine (l00In_t 3 1 6 (by decide) (by decide) _).mono ?_
  rintro e u0 ⟨rfl, rfl⟩
  go_wp2_with fail
  refine (l00In_t c 0 7 H.out.1 H.out.2 _).mono ?_
  rintro e u0 ⟨rfl, rfl⟩
  go_wp2_with fail
  refine (Pa.out _).mono ?_
  rintro e u1 ⟨rfl, hb1⟩
  have k1 := hid (k0.out.stay hb1)
  clear hb1
  clear c0 c1 c2 c3
  have hr := k1.out.at (x := (g, #[.int .i64 3, .int .i64 c, .float .f32 a, .float .f32 b], 59)) (by simp)
  have c0 : u1.cell? ⟨g, 0, none⟩ = some (.int .i64 3) := (cell_of_row u1 _ 0 _ _ _ hr).trans rfl
  have c1 : u1.cell? ⟨g, 1, none⟩ = some (.int .i64 c) := (cell_of_row u1 _ 1 _ _ _ hr).trans rfl
  have c2 : u1.cell? ⟨g, 2, none⟩ = some (.float .f32 a) := (cell_of_row u1 _ 2 _ _ _ hr).trans rfl
  have c3 : u1.cell? ⟨g, 3, none⟩ = some (.float .f32 b) := (cell_of_row u1 _ 3 _ _ _ hr).trans rfl
  clear hr
  go_wp2_with fail
  refine (Pb.out _).mono ?_
  rintro e u2 ⟨rfl, hb2⟩
  have k2 := hid (k1.out.stay hb2)
  clear hb2
  clear c0 c1 c2 c3
  go_wp2_with fail
  refine (sWords _).mono ?_
  rintro e u3 ⟨rfl, h3⟩
  have k3 : Hid (Kept w [(g, #[.int .i64 3, .int .i64 c, .float .f32 a, .float .f32 b], 59), (u2.heap.size + 1 + 1, #[.int .i64 0, .int .i64 1, .int .i64 1, .int .i64 2, .int .i64 1, .int .i64 1, .int .i64 1], 3), (u2.heap.size + 1, #[.bool false, .bool true, .bool true, .bool true, .bool true, .bool false, .bool false], 4)] u3) := hid (by rw [h3]; exact (((k2.out.push #[.string { data := #[] }, .string { data := #[104, 101, 97, 116] }, .string { data := #[119, 101, 116] }, .string { data := #[115, 101, 101, 100] }, .string { data := #[110, 117, 99, 108, 101, 105] }, .string { data := #[115, 116, 105, 114] }, .string { data := #[119, 97, 105, 116] }] 9).push #[.bool false, .bool true, .bool true, .bool true, .bool true, .bool false, .bool false] 4).push #[.int .i64 0, .int .i64 1, .int .i64 1, .int .i64 2, .int .i64 1, .int .i64 1, .int .i64 1] 3).sub (by simp))
  clear h3
  have hr := k3.out.at (x := (g, #[.int .i64 3, .int .i64 c, .float .f32 a, .float .f32 b], 59)) (by simp)
  have c0 : u3.cell? ⟨g, 0, none⟩ = some (.int .i64 3) := (cell_of_row u3 _ 0 _ _ _ hr).trans rfl
  have c1 : u3.cell? ⟨g, 1, none⟩ = some (.int .i64 c) := (cell_of_row u3 _ 1 _ _ _ hr).trans rfl
  have c2 : u3.cell? ⟨g, 2, none⟩ = some (.float .f32 a) := (cell_of_row u3 _ 2 _ _ _ hr).trans rfl
  have c3 : u3.cell? ⟨g, 3, none⟩ = some (.float .f32 b) := (cell_of_row u3 _ 3 _ _ _ hr).trans rfl
  clear hr
  have d1 : u3.cell? ⟨u2.heap.size + 1, 3, none⟩ = some (.bool true) := (cell_of_row u3 _ 3 _ _ _ (k3.out.at (x := (u2.heap.size + 1, #[.bool false, .bool true, .bool true, .bool true, .bool true, .bool false, .bool false], 4)) (by simp))).trans rfl
  have d2 : u3.cell? ⟨u2.heap.size + 1 + 1, 3, none⟩ = some (.int .i64 2) := (cell_of_row u3 _ 3 _ _ _ (k3.out.at (x := (u2.heap.size + 1 + 1, #[.int .i64 0, .int .i64 1, .int .i64 1, .int .i64 2, .int .i64 1, .int .i64 1, .int .i64 1], 3)) (by simp))).trans rfl
  have i1 := fun w => run_indexAt (P := Try.prog) (t := 227) (e := 4) Try.underlying227 (m := 1) (by kernel_rfl) (b := u2.heap.size + 1) (o := 0) (n := 7) (cap := 7) (k := 3) (by omega) w
  have i2 := fun w => run_indexAt (P := Try.prog) (t := 228) (e := 3) Try.underlying228 (m := 1) (by kernel_rfl) (b := u2.heap.size + 1 + 1) (o := 0) (n := 7) (cap := 7) (k := 3) (by omega) w
  simp only [Nat.zero_add, Nat.mul_one, show ((3 : Nat) : Int) = 3 from rfl] at i1 i2
  go_wp2_with fail
  go_quiet (fail)
  go_wp2
  go_ret
  exact ⟨rfl, (keptDrawn k3.out nq).1⟩

set_option maxRecDepth 100000 in
set_option maxHeartbeats 2000000 in
theorem sAct5_c (c : Int) (a b g : Nat) (h : 0 ≤ c ∧ c ≤ 7) (ha : plB a = true) (hb : plB b = true) (hc : c ≠ 0) (hal : a < 4294967296) (hbl : b < 4294967296) (w : World) (hh : w.heap[g]? = some (.cells #[.int .i64 5, .int .i64 c, .float .f32 a, .float .f32 b] 59 (0, 0))) :
    Calls Try.prog 109 #[.pointer (some ⟨g, 0, none⟩)] w fun e w' => e = .returned (.bool false) ∧ Below w.heap.size w w' := by
  have k0 : Hid (Kept w [(g, #[.int .i64 5, .int .i64 c, .float .f32 a, .float .f32 b], 59)] w) := hid ((Kept.nil w).add hh)
  clear hh
  have hr := k0.out.at (x := (g, #[.int .i64 5, .int .i64 c, .float .f32 a, .float .f32 b], 59)) (by simp)
  have c0 : w.cell? ⟨g, 0, none⟩ = some (.int .i64 5) := (cell_of_row w _ 0 _ _ _ hr).trans rfl
  have c1 : w.cell? ⟨g, 1, none⟩ = some (.int .i64 c) := (cell_of_row w _ 1 _ _ _ hr).trans rfl
  have c2 : w.cell? ⟨g, 2, none⟩ = some (.float .f32 a) := (cell_of_row w _ 2 _ _ _ hr).trans rfl
  have c3 : w.cell? ⟨g, 3, none⟩ = some (.float .f32 b) := (cell_of_row w _ 3 _ _ _ hr).trans rfl
  clear hr
  have H := hid h
  have Pa := hid (fun w => by have := sPlain a hal w; rw [ha] at this; exact this)
  have Pb := hid (fun w => by have := sPlain b hbl w; rw [hb] at this; exact this)
  clear ha hb h hal hbl
  go_enter Try.func109, Try.ntmps109
  go_wp2_with fail
  refine (l00In_t 5 1 6 (by decide) (by decide) _).mono ?_
  rintro e u0 ⟨rfl, rfl⟩
  go_wp2_with fail
  refine (l00In_t c 0 7 H.out.1 H.out.2 _).mono ?_
  rintro e u0 ⟨rfl, rfl⟩
  go_wp2_with fail
  refine (Pa.out _).mono ?_
  rintro e u1 ⟨rfl, hb1⟩
  have k1 := hid (k0.out.stay hb1)
  clear hb1
  clear c0 c1 c2 c3
  have hr := k1.out.at (x := (g, #[.int .i64 5, .int .i64 c, .float .f32 a, .float .f32 b], 59)) (by simp)
  have c0 : u1.cell? ⟨g, 0, none⟩ = some (.int .i64 5) := (cell_of_row u1 _ 0 _ _ _ hr).trans rfl
  have c1 : u1.cell? ⟨g, 1, none⟩ = some (.int .i64 c) := (cell_of_row u1 _ 1 _ _ _ hr).trans rfl
  have c2 : u1.cell? ⟨g, 2, none⟩ = some (.float .f32 a) := (cell_of_row u1 _ 2 _ _ _ hr).trans rfl
  have c3 : u1.cell? ⟨g, 3, none⟩ = some (.float .f32 b) := (cell_of_row u1 _ 3 _ _ _ hr).trans rfl
  clear hr
  go_wp2_with fail
  refine (Pb.out _).mono ?_
  rintro e u2 ⟨rfl, hb2⟩
  have k2 := hid (k1.out.stay hb2)
  clear hb2
  clear c0 c1 c2 c3
  go_wp2_with fail
  refine (sWords _).mono ?_
  rintro e u3 ⟨rfl, h3⟩
  have k3 : Hid (Kept w [(g, #[.int .i64 5, .int .i64 c, .float .f32 a, .float .f32 b], 59), (u2.heap.size + 1 + 1, #[.int .i64 0, .int .i64 1, .int .i64 1, .int .i64 2, .int .i64 1, .int .i64 1, .int .i64 1], 3), (u2.heap.size + 1, #[.bool false, .bool true, .bool true, .bool true, .bool true, .bool false, .bool false], 4)] u3) := hid (by rw [h3]; exact (((k2.out.push #[.string { data := #[] }, .string { data := #[104, 101, 97, 116] }, .string { data := #[119, 101, 116] }, .string { data := #[115, 101, 101, 100] }, .string { data := #[110, 117, 99, 108, 101, 105] }, .string { data := #[115, 116, 105, 114] }, .string { data := #[119, 97, 105, 116] }] 9).push #[.bool false, .bool true, .bool true, .bool true, .bool true, .bool false, .bool false] 4).push #[.int .i64 0, .int .i64 1, .int .i64 1, .int .i64 2, .int .i64 1, .int .i64 1, .int .i64 1] 3).sub (by simp))
  clear h3
  have hr := k3.out.at (x := (g, #[.int .i64 5, .int .i64 c, .float .f32 a, .float .f32 b], 59)) (by simp)
  have c0 : u3.cell? ⟨g, 0, none⟩ = some (.int .i64 5) := (cell_of_row u3 _ 0 _ _ _ hr).trans rfl
  have c1 : u3.cell? ⟨g, 1, none⟩ = some (.int .i64 c) := (cell_of_row u3 _ 1 _ _ _ hr).trans rfl
  have c2 : u3.cell? ⟨g, 2, none⟩ = some (.float .f32 a) := (cell_of_row u3 _ 2 _ _ _ hr).trans rfl
  have c3 : u3.cell? ⟨g, 3, none⟩ = some (.float .f32 b) := (cell_of_row u3 _ 3 _ _ _ hr).trans rfl
  clear hr
  have d1 : u3.cell? ⟨u2.heap.size + 1, 5, none⟩ = some (.bool false) := (cell_of_row u3 _ 5 _ _ _ (k3.out.at (x := (u2.heap.size + 1, #[.bool false, .bool true, .bool true, .bool true, .bool true, .bool false, .bool false], 4)) (by simp))).trans rfl
  have d2 : u3.cell? ⟨u2.heap.size + 1 + 1, 5, none⟩ = some (.int .i64 1) := (cell_of_row u3 _ 5 _ _ _ (k3.out.at (x := (u2.heap.size + 1 + 1, #[.int .i64 0, .int .i64 1, .int .i64 1, .int .i64 2, .int .i64 1, .int .i64 1, .int .i64 1], 3)) (by simp))).trans rfl
  have i1 := fun w => run_indexAt (P := Try.prog) (t := 227) (e := 4) Try.underlying227 (m := 1) (by kernel_rfl) (b := u2.heap.size + 1) (o := 0) (n := 7) (cap := 7) (k := 5) (by omega) w
  have i2 := fun w => run_indexAt (P := Try.prog) (t := 228) (e := 3) Try.underlying228 (m := 1) (by kernel_rfl) (b := u2.heap.size + 1 + 1) (o := 0) (n := 7) (cap := 7) (k := 5) (by omega) w
  simp only [Nat.zero_add, Nat.mul_one, show ((5 : Nat) : Int) = 5 from rfl] at i1 i2
  go_wp2
  go_ret
  exact ⟨rfl, k3.out.1⟩

set_option maxRecDepth 100000 in
set_option maxHeartbeats 2000000 in
theorem sAct5_t (c : Int) (a b g : Nat) (h : 0 ≤ c ∧ c ≤ 7) (ha : plB a = true) (hb : plB b = true) (hc : c = 0) (h0 : (FloatKind.f32.format.order b 0 != some .eq) = false) (hal : a < 4294967296) (hbl : b < 4294967296) (w : World) (hh : w.heap[g]? = some (.cells #[.int .i64 5, .int .i64 c, .float .f32 a, .float .f32 b] 59 (0, 0))) :
    Calls Try.prog 109 #[.pointer (some ⟨g, 0, none⟩)] w fun e w' => e = .returned (.bool true) ∧ Below w.heap.size w w' := by
  subst hc
  clear h
  have h : (0 : Int) ≤ 0 ∧ (0 : Int) ≤ 7 := by decide
  have k0 : Hid (Kept w [(g, #[.int .i64 5, .int .i64 0, .float .f32 a, .float .f32 b], 59)] w) := hid ((Kept.nil w).add hh)
  clear hh
  have hr := k0.out.at (x := (g, #[.int .i64 5, .int .i64 0, .float .f32 a, .float .f32 b], 59)) (by simp)
  have c0 : w.cell? ⟨g, 0, none⟩ = some (.int .i64 5) := (cell_of_row w _ 0 _ _ _ hr).trans rfl
  have c1 : w.cell? ⟨g, 1, none⟩ = some (.int .i64 0) := (cell_of_row w _ 1 _ _ _ hr).trans rfl
  have c2 : w.cell? ⟨g, 2, none⟩ = some (.float .f32 a) := (cell_of_row w _ 2 _ _ _ hr).trans rfl
  have c3 : w.cell? ⟨g, 3, none⟩ = some (.float .f32 b) := (cell_of_row w _ 3 _ _ _ hr).trans rfl
  clear hr
  have H := hid h
  have Pa := hid (fun w => by have := sPlain a hal w; rw [ha] at this; exact this)
  have Pb := hid (fun w => by have := sPlain b hbl w; rw [hb] at this; exact this)
  clear ha hb h hal hbl
  go_enter Try.func109, Try.ntmps109
  go_wp2_with fail
  refine (l00In_t 5 1 6 (by decide) (by decide) _).mono ?_
  rintro e u0 ⟨rfl, rfl⟩
  go_wp2_with fail
  refine (l00In_t 0 0 7 H.out.1 H.out.2 _).mono ?_
  rintro e u0 ⟨rfl, rfl⟩
  go_wp2_with fail
  refine (Pa.out _).mono ?_
  rintro e u1 ⟨rfl, hb1⟩
  have k1 := hid (k0.out.stay hb1)
  clear hb1
  clear c0 c1 c2 c3
  have hr := k1.out.at (x := (g, #[.int .i64 5, .int .i64 0, .float .f32 a, .float .f32 b], 59)) (by simp)
  have c0 : u1.cell? ⟨g, 0, none⟩ = some (.int .i64 5) := (cell_of_row u1 _ 0 _ _ _ hr).trans rfl
  have c1 : u1.cell? ⟨g, 1, none⟩ = some (.int .i64 0) := (cell_of_row u1 _ 1 _ _ _ hr).trans rfl
  have c2 : u1.cell? ⟨g, 2, none⟩ = some (.float .f32 a) := (cell_of_row u1 _ 2 _ _ _ hr).trans rfl
  have c3 : u1.cell? ⟨g, 3, none⟩ = some (.float .f32 b) := (cell_of_row u1 _ 3 _ _ _ hr).trans rfl
  clear hr
  go_wp2_with fail
  refine (Pb.out _).mono ?_
  rintro e u2 ⟨rfl, hb2⟩
  have k2 := hid (k1.out.stay hb2)
  clear hb2
  clear c0 c1 c2 c3
  go_wp2_with fail
  refine (sWords _).mono ?_
  rintro e u3 ⟨rfl, h3⟩
  have k3 : Hid (Kept w [(g, #[.int .i64 5, .int .i64 0, .float .f32 a, .float .f32 b], 59), (u2.heap.size + 1 + 1, #[.int .i64 0, .int .i64 1, .int .i64 1, .int .i64 2, .int .i64 1, .int .i64 1, .int .i64 1], 3), (u2.heap.size + 1, #[.bool false, .bool true, .bool true, .bool true, .bool true, .bool false, .bool false], 4)] u3) := hid (by rw [h3]; exact (((k2.out.push #[.string { data := #[] }, .string { data := #[104, 101, 97, 116] }, .string { data := #[119, 101, 116] }, .string { data := #[115, 101, 101, 100] }, .string { data := #[110, 117, 99, 108, 101, 105] }, .string { data := #[115, 116, 105, 114] }, .string { data := #[119, 97, 105, 116] }] 9).push #[.bool false, .bool true, .bool true, .bool true, .bool true, .bool false, .bool false] 4).push #[.int .i64 0, .int .i64 1, .int .i64 1, .int .i64 2, .int .i64 1, .int .i64 1, .int .i64 1] 3).sub (by simp))
  clear h3
  have hr := k3.out.at (x := (g, #[.int .i64 5, .int .i64 0, .float .f32 a, .float .f32 b], 59)) (by simp)
  have c0 : u3.cell? ⟨g, 0, none⟩ = some (.int .i64 5) := (cell_of_row u3 _ 0 _ _ _ hr).trans rfl
  have c1 : u3.cell? ⟨g, 1, none⟩ = some (.int .i64 0) := (cell_of_row u3 _ 1 _ _ _ hr).trans rfl
  have c2 : u3.cell? ⟨g, 2, none⟩ = some (.float .f32 a) := (cell_of_row u3 _ 2 _ _ _ hr).trans rfl
  have c3 : u3.cell? ⟨g, 3, none⟩ = some (.float .f32 b) := (cell_of_row u3 _ 3 _ _ _ hr).trans rfl
  clear hr
  have d1 : u3.cell? ⟨u2.heap.size + 1, 5, none⟩ = some (.bool false) := (cell_of_row u3 _ 5 _ _ _ (k3.out.at (x := (u2.heap.size + 1, #[.bool false, .bool true, .bool true, .bool true, .bool true, .bool false, .bool false], 4)) (by simp))).trans rfl
  have d2 : u3.cell? ⟨u2.heap.size + 1 + 1, 5, none⟩ = some (.int .i64 1) := (cell_of_row u3 _ 5 _ _ _ (k3.out.at (x := (u2.heap.size + 1 + 1, #[.int .i64 0, .int .i64 1, .int .i64 1, .int .i64 2, .int .i64 1, .int .i64 1, .int .i64 1], 3)) (by simp))).trans rfl
  have i1 := fun w => run_indexAt (P := Try.prog) (t := 227) (e := 4) Try.underlying227 (m := 1) (by kernel_rfl) (b := u2.heap.size + 1) (o := 0) (n := 7) (cap := 7) (k := 5) (by omega) w
  have i2 := fun w => run_indexAt (P := Try.prog) (t := 228) (e := 3) Try.underlying228 (m := 1) (by kernel_rfl) (b := u2.heap.size + 1 + 1) (o := 0) (n := 7) (cap := 7) (k := 5) (by omega) w
  simp only [Nat.zero_add, Nat.mul_one, show ((5 : Nat) : Int) = 5 from rfl] at i1 i2
  go_wp2_with fail
  go_quiet (fail)
  go_wp2
  go_ret
  exact ⟨rfl, (keptDrawn k3.out nq).1⟩

set_option maxRecDepth 100000 in
set_option maxHeartbeats 2000000 in
theorem sAct5_f (c : Int) (a b g : Nat) (h : 0 ≤ c ∧ c ≤ 7) (ha : plB a = true) (hb : plB b = true) (hc : c = 0) (h0 : (FloatKind.f32.format.order b 0 != some .eq) = true) (hal : a < 4294967296) (hbl : b < 4294967296) (w : World) (hh : w.heap[g]? = some (.cells #[.int .i64 5, .int .i64 c, .float .f32 a, .float .f32 b] 59 (0, 0))) :
    Calls Try.prog 109 #[.pointer (some ⟨g, 0, none⟩)] w fun e w' => e = .returned (.bool false) ∧ Below w.heap.size w w' := by
  subst hc
  clear h
  have h : (0 : Int) ≤ 0 ∧ (0 : Int) ≤ 7 := by decide
  have k0 : Hid (Kept w [(g, #[.int .i64 5, .int .i64 0, .float .f32 a, .float .f32 b], 59)] w) := hid ((Kept.nil w).add hh)
  clear hh
  have hr := k0.out.at (x := (g, #[.int .i64 5, .int .i64 0, .float .f32 a, .float .f32 b], 59)) (by simp)
  have c0 : w.cell? ⟨g, 0, none⟩ = some (.int .i64 5) := (cell_of_row w _ 0 _ _ _ hr).trans rfl
  have c1 : w.cell? ⟨g, 1, none⟩ = some (.int .i64 0) := (cell_of_row w _ 1 _ _ _ hr).trans rfl
  have c2 : w.cell? ⟨g, 2, none⟩ = some (.float .f32 a) := (cell_of_row w _ 2 _ _ _ hr).trans rfl
  have c3 : w.cell? ⟨g, 3, none⟩ = some (.float .f32 b) := (cell_of_row w _ 3 _ _ _ hr).trans rfl
  clear hr
  have H := hid h
  have Pa := hid (fun w => by have := sPlain a hal w; rw [ha] at this; exact this)
  have Pb := hid (fun w => by have := sPlain b hbl w; rw [hb] at this; exact this)
  clear ha hb h hal hbl
  go_enter Try.func109, Try.ntmps109
  go_wp2_with fail
  refine (l00In_t 5 1 6 (by decide) (by decide) _).mono ?_
  rintro e u0 ⟨rfl, rfl⟩
  go_wp2_with fail
  refine (l00In_t 0 0 7 H.out.1 H.out.2 _).mono ?_
  rintro e u0 ⟨rfl, rfl⟩
  go_wp2_with fail
  refine (Pa.out _).mono ?_
  rintro e u1 ⟨rfl, hb1⟩
  have k1 := hid (k0.out.stay hb1)
  clear hb1
  clear c0 c1 c2 c3
  have hr := k1.out.at (x := (g, #[.int .i64 5, .int .i64 0, .float .f32 a, .float .f32 b], 59)) (by simp)
  have c0 : u1.cell? ⟨g, 0, none⟩ = some (.int .i64 5) := (cell_of_row u1 _ 0 _ _ _ hr).trans rfl
  have c1 : u1.cell? ⟨g, 1, none⟩ = some (.int .i64 0) := (cell_of_row u1 _ 1 _ _ _ hr).trans rfl
  have c2 : u1.cell? ⟨g, 2, none⟩ = some (.float .f32 a) := (cell_of_row u1 _ 2 _ _ _ hr).trans rfl
  have c3 : u1.cell? ⟨g, 3, none⟩ = some (.float .f32 b) := (cell_of_row u1 _ 3 _ _ _ hr).trans rfl
  clear hr
  go_wp2_with fail
  refine (Pb.out _).mono ?_
  rintro e u2 ⟨rfl, hb2⟩
  have k2 := hid (k1.out.stay hb2)
  clear hb2
  clear c0 c1 c2 c3
  go_wp2_with fail
  refine (sWords _).mono ?_
  rintro e u3 ⟨rfl, h3⟩
  have k3 : Hid (Kept w [(g, #[.int .i64 5, .int .i64 0, .float .f32 a, .float .f32 b], 59), (u2.heap.size + 1 + 1, #[.int .i64 0, .int .i64 1, .int .i64 1, .int .i64 2, .int .i64 1, .int .i64 1, .int .i64 1], 3), (u2.heap.size + 1, #[.bool false, .bool true, .bool true, .bool true, .bool true, .bool false, .bool false], 4)] u3) := hid (by rw [h3]; exact (((k2.out.push #[.string { data := #[] }, .string { data := #[104, 101, 97, 116] }, .string { data := #[119, 101, 116] }, .string { data := #[115, 101, 101, 100] }, .string { data := #[110, 117, 99, 108, 101, 105] }, .string { data := #[115, 116, 105, 114] }, .string { data := #[119, 97, 105, 116] }] 9).push #[.bool false, .bool true, .bool true, .bool true, .bool true, .bool false, .bool false] 4).push #[.int .i64 0, .int .i64 1, .int .i64 1, .int .i64 2, .int .i64 1, .int .i64 1, .int .i64 1] 3).sub (by simp))
  clear h3
  have hr := k3.out.at (x := (g, #[.int .i64 5, .int .i64 0, .float .f32 a, .float .f32 b], 59)) (by simp)
  have c0 : u3.cell? ⟨g, 0, none⟩ = some (.int .i64 5) := (cell_of_row u3 _ 0 _ _ _ hr).trans rfl
  have c1 : u3.cell? ⟨g, 1, none⟩ = some (.int .i64 0) := (cell_of_row u3 _ 1 _ _ _ hr).trans rfl
  have c2 : u3.cell? ⟨g, 2, none⟩ = some (.float .f32 a) := (cell_of_row u3 _ 2 _ _ _ hr).trans rfl
  have c3 : u3.cell? ⟨g, 3, none⟩ = some (.float .f32 b) := (cell_of_row u3 _ 3 _ _ _ hr).trans rfl
  clear hr
  have d1 : u3.cell? ⟨u2.heap.size + 1, 5, none⟩ = some (.bool false) := (cell_of_row u3 _ 5 _ _ _ (k3.out.at (x := (u2.heap.size + 1, #[.bool false, .bool true, .bool true, .bool true, .bool true, .bool false, .bool false], 4)) (by simp))).trans rfl
  have d2 : u3.cell? ⟨u2.heap.size + 1 + 1, 5, none⟩ = some (.int .i64 1) := (cell_of_row u3 _ 5 _ _ _ (k3.out.at (x := (u2.heap.size + 1 + 1, #[.int .i64 0, .int .i64 1, .int .i64 1, .int .i64 2, .int .i64 1, .int .i64 1, .int .i64 1], 3)) (by simp))).trans rfl
  have i1 := fun w => run_indexAt (P := Try.prog) (t := 227) (e := 4) Try.underlying227 (m := 1) (by kernel_rfl) (b := u2.heap.size + 1) (o := 0) (n := 7) (cap := 7) (k := 5) (by omega) w
  have i2 := fun w => run_indexAt (P := Try.prog) (t := 228) (e := 3) Try.underlying228 (m := 1) (by kernel_rfl) (b := u2.heap.size + 1 + 1) (o := 0) (n := 7) (cap := 7) (k := 5) (by omega) w
  simp only [Nat.zero_add, Nat.mul_one, show ((5 : Nat) : Int) = 5 from rfl] at i1 i2
  go_wp2
  go_ret
  exact ⟨rfl, k3.out.1⟩

set_option maxRecDepth 100000 in
set_option maxHeartbeats 2000000 in
theorem sAct6_c (c : Int) (a b g : Nat) (h : 0 ≤ c ∧ c ≤ 7) (ha : plB a = true) (hb : plB b = true) (hc : c ≠ 0) (hal : a < 4294967296) (hbl : b < 4294967296) (w : World) (hh : w.heap[g]? = some (.cells #[.int .i64 6, .int .i64 c, .float .f32 a, .float .f32 b] 59 (0, 0))) :
    Calls Try.prog 109 #[.pointer (some ⟨g, 0, none⟩)] w fun e w' => e = .returned (.bool false) ∧ Below w.heap.size w w' := by
  have k0 : Hid (Kept w [(g, #[.int .i64 6, .int .i64 c, .float .f32 a, .float .f32 b], 59)] w) := hid ((Kept.nil w).add hh)
  clear hh
  have hr := k0.out.at (x := (g, #[.int .i64 6, .int .i64 c, .float .f32 a, .float .f32 b], 59)) (by simp)
  have c0 : w.cell? ⟨g, 0, none⟩ = some (.int .i64 6) := (cell_of_row w _ 0 _ _ _ hr).trans rfl
  have c1 : w.cell? ⟨g, 1, none⟩ = some (.int .i64 c) := (cell_of_row w _ 1 _ _ _ hr).trans rfl
  have c2 : w.cell? ⟨g, 2, none⟩ = some (.float .f32 a) := (cell_of_row w _ 2 _ _ _ hr).trans rfl
  have c3 : w.cell? ⟨g, 3, none⟩ = some (.float .f32 b) := (cell_of_row w _ 3 _ _ _ hr).trans rfl
  clear hr
  have H := hid h
  have Pa := hid (fun w => by have := sPlain a hal w; rw [ha] at this; exact this)
  have Pb := hid (fun w => by have := sPlain b hbl w; rw [hb] at this; exact this)
  clear ha hb h hal hbl
  go_enter Try.func109, Try.ntmps109
  go_wp2_with fail
  refine (l00In_t 6 1 6 (by decide) (by decide) _).mono ?_
  rintro e u0 ⟨rfl, rfl⟩
  go_wp2_with fail
  refine (l00In_t c 0 7 H.out.1 H.out.2 _).mono ?_
  rintro e u0 ⟨rfl, rfl⟩
  go_wp2_with fail
  refine (Pa.out _).mono ?_
  rintro e u1 ⟨rfl, hb1⟩
  have k1 := hid (k0.out.stay hb1)
  clear hb1
  clear c0 c1 c2 c3
  have hr := k1.out.at (x := (g, #[.int .i64 6, .int .i64 c, .float .f32 a, .float .f32 b], 59)) (by simp)
  have c0 : u1.cell? ⟨g, 0, none⟩ = some (.int .i64 6) := (cell_of_row u1 _ 0 _ _ _ hr).trans rfl
  have c1 : u1.cell? ⟨g, 1, none⟩ = some (.int .i64 c) := (cell_of_row u1 _ 1 _ _ _ hr).trans rfl
  have c2 : u1.cell? ⟨g, 2, none⟩ = some (.float .f32 a) := (cell_of_row u1 _ 2 _ _ _ hr).trans rfl
  have c3 : u1.cell? ⟨g, 3, none⟩ = some (.float .f32 b) := (cell_of_row u1 _ 3 _ _ _ hr).trans rfl
  clear hr
  go_wp2_with fail
  refine (Pb.out _).mono ?_
  rintro e u2 ⟨rfl, hb2⟩
  have k2 := hid (k1.out.stay hb2)
  clear hb2
  clear c0 c1 c2 c3
  go_wp2_with fail
  refine (sWords _).mono ?_
  rintro e u3 ⟨rfl, h3⟩
  have k3 : Hid (Kept w [(g, #[.int .i64 6, .int .i64 c, .float .f32 a, .float .f32 b], 59), (u2.heap.size + 1 + 1, #[.int .i64 0, .int .i64 1, .int .i64 1, .int .i64 2, .int .i64 1, .int .i64 1, .int .i64 1], 3), (u2.heap.size + 1, #[.bool false, .bool true, .bool true, .bool true, .bool true, .bool false, .bool false], 4)] u3) := hid (by rw [h3]; exact (((k2.out.push #[.string { data := #[] }, .string { data := #[104, 101, 97, 116] }, .string { data := #[119, 101, 116] }, .string { data := #[115, 101, 101, 100] }, .string { data := #[110, 117, 99, 108, 101, 105] }, .string { data := #[115, 116, 105, 114] }, .string { data := #[119, 97, 105, 116] }] 9).push #[.bool false, .bool true, .bool true, .bool true, .bool true, .bool false, .bool false] 4).push #[.int .i64 0, .int .i64 1, .int .i64 1, .int .i64 2, .int .i64 1, .int .i64 1, .int .i64 1] 3).sub (by simp))
  clear h3
  have hr := k3.out.at (x := (g, #[.int .i64 6, .int .i64 c, .float .f32 a, .float .f32 b], 59)) (by simp)
  have c0 : u3.cell? ⟨g, 0, none⟩ = some (.int .i64 6) := (cell_of_row u3 _ 0 _ _ _ hr).trans rfl
  have c1 : u3.cell? ⟨g, 1, none⟩ = some (.int .i64 c) := (cell_of_row u3 _ 1 _ _ _ hr).trans rfl
  have c2 : u3.cell? ⟨g, 2, none⟩ = some (.float .f32 a) := (cell_of_row u3 _ 2 _ _ _ hr).trans rfl
  have c3 : u3.cell? ⟨g, 3, none⟩ = some (.float .f32 b) := (cell_of_row u3 _ 3 _ _ _ hr).trans rfl
  clear hr
  have d1 : u3.cell? ⟨u2.heap.size + 1, 6, none⟩ = some (.bool false) := (cell_of_row u3 _ 6 _ _ _ (k3.out.at (x := (u2.heap.size + 1, #[.bool false, .bool true, .bool true, .bool true, .bool true, .bool false, .bool false], 4)) (by simp))).trans rfl
  have d2 : u3.cell? ⟨u2.heap.size + 1 + 1, 6, none⟩ = some (.int .i64 1) := (cell_of_row u3 _ 6 _ _ _ (k3.out.at (x := (u2.heap.size + 1 + 1, #[.int .i64 0, .int .i64 1, .int .i64 1, .int .i64 2, .int .i64 1, .int .i64 1, .int .i64 1], 3)) (by simp))).trans rfl
  have i1 := fun w => run_indexAt (P := Try.prog) (t := 227) (e := 4) Try.underlying227 (m := 1) (by kernel_rfl) (b := u2.heap.size + 1) (o := 0) (n := 7) (cap := 7) (k := 6) (by omega) w
  have i2 := fun w => run_indexAt (P := Try.prog) (t := 228) (e := 3) Try.underlying228 (m := 1) (by kernel_rfl) (b := u2.heap.size + 1 + 1) (o := 0) (n := 7) (cap := 7) (k := 6) (by omega) w
  simp only [Nat.zero_add, Nat.mul_one, show ((6 : Nat) : Int) = 6 from rfl] at i1 i2
  go_wp2
  go_ret
  exact ⟨rfl, k3.out.1⟩

set_option maxRecDepth 100000 in
set_option maxHeartbeats 2000000 in
theorem sAct6_f (c : Int) (a b g : Nat) (h : 0 ≤ c ∧ c ≤ 7) (ha : plB a = true) (hb : plB b = true) (hc : c = 0) (h0 : (FloatKind.f32.format.order b 0 != some .eq) = true) (hal : a < 4294967296) (hbl : b < 4294967296) (w : World) (hh : w.heap[g]? = some (.cells #[.int .i64 6, .int .i64 c, .float .f32 a, .float .f32 b] 59 (0, 0))) :
    Calls Try.prog 109 #[.pointer (some ⟨g, 0, none⟩)] w fun e w' => e = .returned (.bool false) ∧ Below w.heap.size w w' := by
  subst hc
  clear h
  have h : (0 : Int) ≤ 0 ∧ (0 : Int) ≤ 7 := by decide
  have k0 : Hid (Kept w [(g, #[.int .i64 6, .int .i64 0, .float .f32 a, .float .f32 b], 59)] w) := hid ((Kept.nil w).add hh)
  clear hh
  have hr := k0.out.at (x := (g, #[.int .i64 6, .int .i64 0, .float .f32 a, .float .f32 b], 59)) (by simp)
  have c0 : w.cell? ⟨g, 0, none⟩ = some (.int .i64 6) := (cell_of_row w _ 0 _ _ _ hr).trans rfl
  have c1 : w.cell? ⟨g, 1, none⟩ = some (.int .i64 0) := (cell_of_row w _ 1 _ _ _ hr).trans rfl
  have c2 : w.cell? ⟨g, 2, none⟩ = some (.float .f32 a) := (cell_of_row w _ 2 _ _ _ hr).trans rfl
  have c3 : w.cell? ⟨g, 3, none⟩ = some (.float .f32 b) := (cell_of_row w _ 3 _ _ _ hr).trans rfl
  clear hr
  have H := hid h
  have Pa := hid (fun w => by have := sPlain a hal w; rw [ha] at this; exact this)
  have Pb := hid (fun w => by have := sPlain b hbl w; rw [hb] at this; exact this)
  clear ha hb h hal hbl
  go_enter Try.func109, Try.ntmps109
  go_wp2_with fail
  refine (l00In_t 6 1 6 (by decide) (by decide) _).mono ?_
  rintro e u0 ⟨rfl, rfl⟩
  go_wp2_with fail
  refine (l00In_t 0 0 7 H.out.1 H.out.2 _).mono ?_
  rintro e u0 ⟨rfl, rfl⟩
  go_wp2_with fail
  refine (Pa.out _).mono ?_
  rintro e u1 ⟨rfl, hb1⟩
  have k1 := hid (k0.out.stay hb1)
  clear hb1
  clear c0 c1 c2 c3
  have hr := k1.out.at (x := (g, #[.int .i64 6, .int .i64 0, .float .f32 a, .float .f32 b], 59)) (by simp)
  have c0 : u1.cell? ⟨g, 0, none⟩ = some (.int .i64 6) := (cell_of_row u1 _ 0 _ _ _ hr).trans rfl
  have c1 : u1.cell? ⟨g, 1, none⟩ = some (.int .i64 0) := (cell_of_row u1 _ 1 _ _ _ hr).trans rfl
  have c2 : u1.cell? ⟨g, 2, none⟩ = some (.float .f32 a) := (cell_of_row u1 _ 2 _ _ _ hr).trans rfl
  have c3 : u1.cell? ⟨g, 3, none⟩ = some (.float .f32 b) := (cell_of_row u1 _ 3 _ _ _ hr).trans rfl
  clear hr
  go_wp2_with fail
  refine (Pb.out _).mono ?_
  rintro e u2 ⟨rfl, hb2⟩
  have k2 := hid (k1.out.stay hb2)
  clear hb2
  clear c0 c1 c2 c3
  go_wp2_with fail
  refine (sWords _).mono ?_
  rintro e u3 ⟨rfl, h3⟩
  have k3 : Hid (Kept w [(g, #[.int .i64 6, .int .i64 0, .float .f32 a, .float .f32 b], 59), (u2.heap.size + 1 + 1, #[.int .i64 0, .int .i64 1, .int .i64 1, .int .i64 2, .int .i64 1, .int .i64 1, .int .i64 1], 3), (u2.heap.size + 1, #[.bool false, .bool true, .bool true, .bool true, .bool true, .bool false, .bool false], 4)] u3) := hid (by rw [h3]; exact (((k2.out.push #[.string { data := #[] }, .string { data := #[104, 101, 97, 116] }, .string { data := #[119, 101, 116] }, .string { data := #[115, 101, 101, 100] }, .string { data := #[110, 117, 99, 108, 101, 105] }, .string { data := #[115, 116, 105, 114] }, .string { data := #[119, 97, 105, 116] }] 9).push #[.bool false, .bool true, .bool true, .bool true, .bool true, .bool false, .bool false] 4).push #[.int .i64 0, .int .i64 1, .int .i64 1, .int .i64 2, .int .i64 1, .int .i64 1, .int .i64 1] 3).sub (by simp))
  clear h3
  have hr := k3.out.at (x := (g, #[.int .i64 6, .int .i64 0, .float .f32 a, .float .f32 b], 59)) (by simp)
  have c0 : u3.cell? ⟨g, 0, none⟩ = some (.int .i64 6) := (cell_of_row u3 _ 0 _ _ _ hr).trans rfl
  have c1 : u3.cell? ⟨g, 1, none⟩ = some (.int .i64 0) := (cell_of_row u3 _ 1 _ _ _ hr).trans rfl
  have c2 : u3.cell? ⟨g, 2, none⟩ = some (.float .f32 a) := (cell_of_row u3 _ 2 _ _ _ hr).trans rfl
  have c3 : u3.cell? ⟨g, 3, none⟩ = some (.float .f32 b) := (cell_of_row u3 _ 3 _ _ _ hr).trans rfl
  clear hr
  have d1 : u3.cell? ⟨u2.heap.size + 1, 6, none⟩ = some (.bool false) := (cell_of_row u3 _ 6 _ _ _ (k3.out.at (x := (u2.heap.size + 1, #[.bool false, .bool true, .bool true, .bool true, .bool true, .bool false, .bool false], 4)) (by simp))).trans rfl
  have d2 : u3.cell? ⟨u2.heap.size + 1 + 1, 6, none⟩ = some (.int .i64 1) := (cell_of_row u3 _ 6 _ _ _ (k3.out.at (x := (u2.heap.size + 1 + 1, #[.int .i64 0, .int .i64 1, .int .i64 1, .int .i64 2, .int .i64 1, .int .i64 1, .int .i64 1], 3)) (by simp))).trans rfl
  have i1 := fun w => run_indexAt (P := Try.prog) (t := 227) (e := 4) Try.underlying227 (m := 1) (by kernel_rfl) (b := u2.heap.size + 1) (o := 0) (n := 7) (cap := 7) (k := 6) (by omega) w
  have i2 := fun w => run_indexAt (P := Try.prog) (t := 228) (e := 3) Try.underlying228 (m := 1) (by kernel_rfl) (b := u2.heap.size + 1 + 1) (o := 0) (n := 7) (cap := 7) (k := 6) (by omega) w
  simp only [Nat.zero_add, Nat.mul_one, show ((6 : Nat) : Int) = 6 from rfl] at i1 i2
  go_wp2
  go_ret
  exact ⟨rfl, k3.out.1⟩

set_option maxRecDepth 100000 in
set_option maxHeartbeats 2000000 in
theorem sAct6_g (c : Int) (a b g : Nat) (h : 0 ≤ c ∧ c ≤ 7) (ha : plB a = true) (hb : plB b = true) (hc : c = 0) (h0 : (FloatKind.f32.format.order b 0 != some .eq) = false) (hg : (FloatKind.f32.format.order a 0 == some .gt || FloatKind.f32.format.order a 0 == some .eq) = false) (hal : a < 4294967296) (hbl : b < 4294967296) (w : World) (hh : w.heap[g]? = some (.cells #[.int .i64 6, .int .i64 c, .float .f32 a, .float .f32 b] 59 (0, 0))) :
    Calls Try.prog 109 #[.pointer (some ⟨g, 0, none⟩)] w fun e w' => e = .returned (.bool false) ∧ Below w.heap.size w w' := by
  subst hc
  clear h
  have h : (0 : Int) ≤ 0 ∧ (0 : Int) ≤ 7 := by decide
  have k0 : Hid (Kept w [(g, #[.int .i64 6, .int .i64 0, .float .f32 a, .float .f32 b], 59)] w) := hid ((Kept.nil w).add hh)
  clear hh
  have hr := k0.out.at (x := (g, #[.int .i64 6, .int .i64 0, .float .f32 a, .float .f32 b], 59)) (by simp)
  have c0 : w.cell? ⟨g, 0, none⟩ = some (.int .i64 6) := (cell_of_row w _ 0 _ _ _ hr).trans rfl
  have c1 : w.cell? ⟨g, 1, none⟩ = some (.int .i64 0) := (cell_of_row w _ 1 _ _ _ hr).trans rfl
  have c2 : w.cell? ⟨g, 2, none⟩ = some (.float .f32 a) := (cell_of_row w _ 2 _ _ _ hr).trans rfl
  have c3 : w.cell? ⟨g, 3, none⟩ = some (.float .f32 b) := (cell_of_row w _ 3 _ _ _ hr).trans rfl
  clear hr
  have H := hid h
  have Pa := hid (fun w => by have := sPlain a hal w; rw [ha] at this; exact this)
  have Pb := hid (fun w => by have := sPlain b hbl w; rw [hb] at this; exact this)
  clear ha hb h hal hbl
  go_enter Try.func109, Try.ntmps109
  go_wp2_with fail
  refine (l00In_t 6 1 6 (by decide) (by decide) _).mono ?_
  rintro e u0 ⟨rfl, rfl⟩
  go_wp2_with fail
  refine (l00In_t 0 0 7 H.out.1 H.out.2 _).mono ?_
  rintro e u0 ⟨rfl, rfl⟩
  go_wp2_with fail
  refine (Pa.out _).mono ?_
  rintro e u1 ⟨rfl, hb1⟩
  have k1 := hid (k0.out.stay hb1)
  clear hb1
  clear c0 c1 c2 c3
  have hr := k1.out.at (x := (g, #[.int .i64 6, .int .i64 0, .float .f32 a, .float .f32 b], 59)) (by simp)
  have c0 : u1.cell? ⟨g, 0, none⟩ = some (.int .i64 6) := (cell_of_row u1 _ 0 _ _ _ hr).trans rfl
  have c1 : u1.cell? ⟨g, 1, none⟩ = some (.int .i64 0) := (cell_of_row u1 _ 1 _ _ _ hr).trans rfl
  have c2 : u1.cell? ⟨g, 2, none⟩ = some (.float .f32 a) := (cell_of_row u1 _ 2 _ _ _ hr).trans rfl
  have c3 : u1.cell? ⟨g, 3, none⟩ = some (.float .f32 b) := (cell_of_row u1 _ 3 _ _ _ hr).trans rfl
  clear hr
  go_wp2_with fail
  refine (Pb.out _).mono ?_
  rintro e u2 ⟨rfl, hb2⟩
  have k2 := hid (k1.out.stay hb2)
  clear hb2
  clear c0 c1 c2 c3
  go_wp2_with fail
  refine (sWords _).mono ?_
  rintro e u3 ⟨rfl, h3⟩
  have k3 : Hid (Kept w [(g, #[.int .i64 6, .int .i64 0, .float .f32 a, .float .f32 b], 59), (u2.heap.size + 1 + 1, #[.int .i64 0, .int .i64 1, .int .i64 1, .int .i64 2, .int .i64 1, .int .i64 1, .int .i64 1], 3), (u2.heap.size + 1, #[.bool false, .bool true, .bool true, .bool true, .bool true, .bool false, .bool false], 4)] u3) := hid (by rw [h3]; exact (((k2.out.push #[.string { data := #[] }, .string { data := #[104, 101, 97, 116] }, .string { data := #[119, 101, 116] }, .string { data := #[115, 101, 101, 100] }, .string { data := #[110, 117, 99, 108, 101, 105] }, .string { data := #[115, 116, 105, 114] }, .string { data := #[119, 97, 105, 116] }] 9).push #[.bool false, .bool true, .bool true, .bool true, .bool true, .bool false, .bool false] 4).push #[.int .i64 0, .int .i64 1, .int .i64 1, .int .i64 2, .int .i64 1, .int .i64 1, .int .i64 1] 3).sub (by simp))
  clear h3
  have hr := k3.out.at (x := (g, #[.int .i64 6, .int .i64 0, .float .f32 a, .float .f32 b], 59)) (by simp)
  have c0 : u3.cell? ⟨g, 0, none⟩ = some (.int .i64 6) := (cell_of_row u3 _ 0 _ _ _ hr).trans rfl
  have c1 : u3.cell? ⟨g, 1, none⟩ = some (.int .i64 0) := (cell_of_row u3 _ 1 _ _ _ hr).trans rfl
  have c2 : u3.cell? ⟨g, 2, none⟩ = some (.float .f32 a) := (cell_of_row u3 _ 2 _ _ _ hr).trans rfl
  have c3 : u3.cell? ⟨g, 3, none⟩ = some (.float .f32 b) := (cell_of_row u3 _ 3 _ _ _ hr).trans rfl
  clear hr
  have d1 : u3.cell? ⟨u2.heap.size + 1, 6, none⟩ = some (.bool false) := (cell_of_row u3 _ 6 _ _ _ (k3.out.at (x := (u2.heap.size + 1, #[.bool false, .bool true, .bool true, .bool true, .bool true, .bool false, .bool false], 4)) (by simp))).trans rfl
  have d2 : u3.cell? ⟨u2.heap.size + 1 + 1, 6, none⟩ = some (.int .i64 1) := (cell_of_row u3 _ 6 _ _ _ (k3.out.at (x := (u2.heap.size + 1 + 1, #[.int .i64 0, .int .i64 1, .int .i64 1, .int .i64 2, .int .i64 1, .int .i64 1, .int .i64 1], 3)) (by simp))).trans rfl
  have i1 := fun w => run_indexAt (P := Try.prog) (t := 227) (e := 4) Try.underlying227 (m := 1) (by kernel_rfl) (b := u2.heap.size + 1) (o := 0) (n := 7) (cap := 7) (k := 6) (by omega) w
  have i2 := fun w => run_indexAt (P := Try.prog) (t := 228) (e := 3) Try.underlying228 (m := 1) (by kernel_rfl) (b := u2.heap.size + 1 + 1) (o := 0) (n := 7) (cap := 7) (k := 6) (by omega) w
  simp only [Nat.zero_add, Nat.mul_one, show ((6 : Nat) : Int) = 6 from rfl] at i1 i2
  go_wp2_with fail
  go_quiet (fail)
  go_wp2
  go_ret
  exact ⟨rfl, (keptDrawn k3.out nq).1⟩

set_option maxRecDepth 100000 in
set_option maxHeartbeats 2000000 in
theorem sAct6_l (c : Int) (a b g : Nat) (h : 0 ≤ c ∧ c ≤ 7) (ha : plB a = true) (hb : plB b = true) (hc : c = 0) (h0 : (FloatKind.f32.format.order b 0 != some .eq) = false) (hg : (FloatKind.f32.format.order a 0 == some .gt || FloatKind.f32.format.order a 0 == some .eq) = true) (hl9 : (FloatKind.f32.format.order a 1128792064 == some .lt || FloatKind.f32.format.order a 1128792064 == some .eq) = false) (hal : a < 4294967296) (hbl : b < 4294967296) (w : World) (hh : w.heap[g]? = some (.cells #[.int .i64 6, .int .i64 c, .float .f32 a, .float .f32 b] 59 (0, 0))) :
    Calls Try.prog 109 #[.pointer (some ⟨g, 0, none⟩)] w fun e w' => e = .returned (.bool false) ∧ Below w.heap.size w w' := by
  subst hc
  clear h
  have h : (0 : Int) ≤ 0 ∧ (0 : Int) ≤ 7 := by decide
  have k0 : Hid (Kept w [(g, #[.int .i64 6, .int .i64 0, .float .f32 a, .float .f32 b], 59)] w) := hid ((Kept.nil w).add hh)
  clear hh
  have hr := k0.out.at (x := (g, #[.int .i64 6, .int .i64 0, .float .f32 a, .float .f32 b], 59)) (by simp)
  have c0 : w.cell? ⟨g, 0, none⟩ = some (.int .i64 6) := (cell_of_row w _ 0 _ _ _ hr).trans rfl
  have c1 : w.cell? ⟨g, 1, none⟩ = some (.int .i64 0) := (cell_of_row w _ 1 _ _ _ hr).trans rfl
  have c2 : w.cell? ⟨g, 2, none⟩ = some (.float .f32 a) := (cell_of_row w _ 2 _ _ _ hr).trans rfl
  have c3 : w.cell? ⟨g, 3, none⟩ = some (.float .f32 b) := (cell_of_row w _ 3 _ _ _ hr).trans rfl
  clear hr
  have H := hid h
  have Pa := hid (fun w => by have := sPlain a hal w; rw [ha] at this; exact this)
  have Pb := hid (fun w => by have := sPlain b hbl w; rw [hb] at this; exact this)
  clear ha hb h hal hbl
  go_enter Try.func109, Try.ntmps109
  go_wp2_with fail
  refine (l00In_t 6 1 6 (by decide) (by decide) _).mono ?_
  rintro e u0 ⟨rfl, rfl⟩
  go_wp2_with fail
  refine (l00In_t 0 0 7 H.out.1 H.out.2 _).mono ?_
  rintro e u0 ⟨rfl, rfl⟩
  go_wp2_with fail
  refine (Pa.out _).mono ?_
  rintro e u1 ⟨rfl, hb1⟩
  have k1 := hid (k0.out.stay hb1)
  clear hb1
  clear c0 c1 c2 c3
  have hr := k1.out.at (x := (g, #[.int .i64 6, .int .i64 0, .float .f32 a, .float .f32 b], 59)) (by simp)
  have c0 : u1.cell? ⟨g, 0, none⟩ = some (.int .i64 6) := (cell_of_row u1 _ 0 _ _ _ hr).trans rfl
  have c1 : u1.cell? ⟨g, 1, none⟩ = some (.int .i64 0) := (cell_of_row u1 _ 1 _ _ _ hr).trans rfl
  have c2 : u1.cell? ⟨g, 2, none⟩ = some (.float .f32 a) := (cell_of_row u1 _ 2 _ _ _ hr).trans rfl
  have c3 : u1.cell? ⟨g, 3, none⟩ = some (.float .f32 b) := (cell_of_row u1 _ 3 _ _ _ hr).trans rfl
  clear hr
  go_wp2_with fail
  refine (Pb.out _).mono ?_
  rintro e u2 ⟨rfl, hb2⟩
  have k2 := hid (k1.out.stay hb2)
  clear hb2
  clear c0 c1 c2 c3
  go_wp2_with fail
  refine (sWords _).mono ?_
  rintro e u3 ⟨rfl, h3⟩
  have k3 : Hid (Kept w [(g, #[.int .i64 6, .int .i64 0, .float .f32 a, .float .f32 b], 59), (u2.heap.size + 1 + 1, #[.int .i64 0, .int .i64 1, .int .i64 1, .int .i64 2, .int .i64 1, .int .i64 1, .int .i64 1], 3), (u2.heap.size + 1, #[.bool false, .bool true, .bool true, .bool true, .bool true, .bool false, .bool false], 4)] u3) := hid (by rw [h3]; exact (((k2.out.push #[.string { data := #[] }, .string { data := #[104, 101, 97, 116] }, .string { data := #[119, 101, 116] }, .string { data := #[115, 101, 101, 100] }, .string { data := #[110, 117, 99, 108, 101, 105] }, .string { data := #[115, 116, 105, 114] }, .string { data := #[119, 97, 105, 116] }] 9).push #[.bool false, .bool true, .bool true, .bool true, .bool true, .bool false, .bool false] 4).push #[.int .i64 0, .int .i64 1, .int .i64 1, .int .i64 2, .int .i64 1, .int .i64 1, .int .i64 1] 3).sub (by simp))
  clear h3
  have hr := k3.out.at (x := (g, #[.int .i64 6, .int .i64 0, .float .f32 a, .float .f32 b], 59)) (by simp)
  have c0 : u3.cell? ⟨g, 0, none⟩ = some (.int .i64 6) := (cell_of_row u3 _ 0 _ _ _ hr).trans rfl
  have c1 : u3.cell? ⟨g, 1, none⟩ = some (.int .i64 0) := (cell_of_row u3 _ 1 _ _ _ hr).trans rfl
  have c2 : u3.cell? ⟨g, 2, none⟩ = some (.float .f32 a) := (cell_of_row u3 _ 2 _ _ _ hr).trans rfl
  have c3 : u3.cell? ⟨g, 3, none⟩ = some (.float .f32 b) := (cell_of_row u3 _ 3 _ _ _ hr).trans rfl
  clear hr
  have d1 : u3.cell? ⟨u2.heap.size + 1, 6, none⟩ = some (.bool false) := (cell_of_row u3 _ 6 _ _ _ (k3.out.at (x := (u2.heap.size + 1, #[.bool false, .bool true, .bool true, .bool true, .bool true, .bool false, .bool false], 4)) (by simp))).trans rfl
  have d2 : u3.cell? ⟨u2.heap.size + 1 + 1, 6, none⟩ = some (.int .i64 1) := (cell_of_row u3 _ 6 _ _ _ (k3.out.at (x := (u2.heap.size + 1 + 1, #[.int .i64 0, .int .i64 1, .int .i64 1, .int .i64 2, .int .i64 1, .int .i64 1, .int .i64 1], 3)) (by simp))).trans rfl
  have i1 := fun w => run_indexAt (P := Try.prog) (t := 227) (e := 4) Try.underlying227 (m := 1) (by kernel_rfl) (b := u2.heap.size + 1) (o := 0) (n := 7) (cap := 7) (k := 6) (by omega) w
  have i2 := fun w => run_indexAt (P := Try.prog) (t := 228) (e := 3) Try.underlying228 (m := 1) (by kernel_rfl) (b := u2.heap.size + 1 + 1) (o := 0) (n := 7) (cap := 7) (k := 6) (by omega) w
  simp only [Nat.zero_add, Nat.mul_one, show ((6 : Nat) : Int) = 6 from rfl] at i1 i2
  go_wp2_with fail
  go_quiet (fail)
  go_wp2
  go_ret
  exact ⟨rfl, (keptDrawn k3.out nq).1⟩

set_option maxRecDepth 100000 in
set_option maxHeartbeats 2000000 in
theorem sAct6_n (c : Int) (a b g : Nat) (h : 0 ≤ c ∧ c ≤ 7) (ha : plB a = true) (hb : plB b = true) (hc : c = 0) (h0 : (FloatKind.f32.format.order b 0 != some .eq) = false) (hg : (FloatKind.f32.format.order a 0 == some .gt || FloatKind.f32.format.order a 0 == some .eq) = true) (hl9 : (FloatKind.f32.format.order a 1128792064 == some .lt || FloatKind.f32.format.order a 1128792064 == some .eq) = true) {N : Nat} (hN : floatToIntVal .f32 a .i64 = some (N : Int)) (r : Bool) (he : (FloatKind.f32.format.order (wS N) a == some .eq) = r) (hal : a < 4294967296) (hbl : b < 4294967296) (w : World) (hh : w.heap[g]? = some (.cells #[.int .i64 6, .int .i64 c, .float .f32 a, .float .f32 b] 59 (0, 0))) :
    Calls Try.prog 109 #[.pointer (some ⟨g, 0, none⟩)] w fun e w' => e = .returned (.bool r) ∧ Below w.heap.size w w' := by
  subst hc
  clear h
  have h : (0 : Int) ≤ 0 ∧ (0 : Int) ≤ 7 := by decide
  have k0 : Hid (Kept w [(g, #[.int .i64 6, .int .i64 0, .float .f32 a, .float .f32 b], 59)] w) := hid ((Kept.nil w).add hh)
  clear hh
  have hr := k0.out.at (x := (g, #[.int .i64 6, .int .i64 0, .float .f32 a, .float .f32 b], 59)) (by simp)
  have c0 : w.cell? ⟨g, 0, none⟩ = some (.int .i64 6) := (cell_of_row w _ 0 _ _ _ hr).trans rfl
  have c1 : w.cell? ⟨g, 1, none⟩ = some (.int .i64 0) := (cell_of_row w _ 1 _ _ _ hr).trans rfl
  have c2 : w.cell? ⟨g, 2, none⟩ = some (.float .f32 a) := (cell_of_row w _ 2 _ _ _ hr).trans rfl
  have c3 : w.cell? ⟨g, 3, none⟩ = some (.float .f32 b) := (cell_of_row w _ 3 _ _ _ hr).trans rfl
  clear hr
  have H := hid h
  have Pa := hid (fun w => by have := sPlain a hal w; rw [ha] at this; exact this)
  have Pb := hid (fun w => by have := sPlain b hbl w; rw [hb] at this; exact this)
  have cv1 := fun w => run_convert_float_int (P := Try.prog) w 22 2 .f32 .i64 a (N : Int) (by rw [Try.underlying22]; rfl) Try.underlying2 hN
  have cv2 : ∀ w, (convert 2 22 (.int .i64 (N : Int))).run Try.prog w = .ok (.float .f32 (wS N)) w := fun w => run_convert_int_float (P := Try.prog) w 2 22 .i64 .f32 (N : Int) (by rw [Try.underlying2]; rfl) Try.underlying22
  generalize wS N = cw at cv2 he
  clear hN
  clear ha hb h hal hbl
  go_enter Try.func109, Try.ntmps109
  go_wp2_with fail
  refine (l00In_t 6 1 6 (by decide) (by decide) _).mono ?_
  rintro e u0 ⟨rfl, rfl⟩
  go_wp2_with fail
  refine (l00In_t 0 0 7 H.out.1 H.out.2 _).mono ?_
  rintro e u0 ⟨rfl, rfl⟩
  go_wp2_with fail
  refine (Pa.out _).mono ?_
  rintro e u1 ⟨rfl, hb1⟩
  have k1 := hid (k0.out.stay hb1)
  clear hb1
  clear c0 c1 c2 c3
  have hr := k1.out.at (x := (g, #[.int .i64 6, .int .i64 0, .float .f32 a, .float .f32 b], 59)) (by simp)
  have c0 : u1.cell? ⟨g, 0, none⟩ = some (.int .i64 6) := (cell_of_row u1 _ 0 _ _ _ hr).trans rfl
  have c1 : u1.cell? ⟨g, 1, none⟩ = some (.int .i64 0) := (cell_of_row u1 _ 1 _ _ _ hr).trans rfl
  have c2 : u1.cell? ⟨g, 2, none⟩ = some (.float .f32 a) := (cell_of_row u1 _ 2 _ _ _ hr).trans rfl
  have c3 : u1.cell? ⟨g, 3, none⟩ = some (.float .f32 b) := (cell_of_row u1 _ 3 _ _ _ hr).trans rfl
  clear hr
  go_wp2_with fail
  refine (Pb.out _).mono ?_
  rintro e u2 ⟨rfl, hb2⟩
  have k2 := hid (k1.out.stay hb2)
  clear hb2
  clear c0 c1 c2 c3
  go_wp2_with fail
  refine (sWords _).mono ?_
  rintro e u3 ⟨rfl, h3⟩
  have k3 : Hid (Kept w [(g, #[.int .i64 6, .int .i64 0, .float .f32 a, .float .f32 b], 59), (u2.heap.size + 1 + 1, #[.int .i64 0, .int .i64 1, .int .i64 1, .int .i64 2, .int .i64 1, .int .i64 1, .int .i64 1], 3), (u2.heap.size + 1, #[.bool false, .bool true, .bool true, .bool true, .bool true, .bool false, .bool false], 4)] u3) := hid (by rw [h3]; exact (((k2.out.push #[.string { data := #[] }, .string { data := #[104, 101, 97, 116] }, .string { data := #[119, 101, 116] }, .string { data := #[115, 101, 101, 100] }, .string { data := #[110, 117, 99, 108, 101, 105] }, .string { data := #[115, 116, 105, 114] }, .string { data := #[119, 97, 105, 116] }] 9).push #[.bool false, .bool true, .bool true, .bool true, .bool true, .bool false, .bool false] 4).push #[.int .i64 0, .int .i64 1, .int .i64 1, .int .i64 2, .int .i64 1, .int .i64 1, .int .i64 1] 3).sub (by simp))
  clear h3
  have hr := k3.out.at (x := (g, #[.int .i64 6, .int .i64 0, .float .f32 a, .float .f32 b], 59)) (by simp)
  have c0 : u3.cell? ⟨g, 0, none⟩ = some (.int .i64 6) := (cell_of_row u3 _ 0 _ _ _ hr).trans rfl
  have c1 : u3.cell? ⟨g, 1, none⟩ = some (.int .i64 0) := (cell_of_row u3 _ 1 _ _ _ hr).trans rfl
  have c2 : u3.cell? ⟨g, 2, none⟩ = some (.float .f32 a) := (cell_of_row u3 _ 2 _ _ _ hr).trans rfl
  have c3 : u3.cell? ⟨g, 3, none⟩ = some (.float .f32 b) := (cell_of_row u3 _ 3 _ _ _ hr).trans rfl
  clear hr
  have d1 : u3.cell? ⟨u2.heap.size + 1, 6, none⟩ = some (.bool false) := (cell_of_row u3 _ 6 _ _ _ (k3.out.at (x := (u2.heap.size + 1, #[.bool false, .bool true, .bool true, .bool true, .bool true, .bool false, .bool false], 4)) (by simp))).trans rfl
  have d2 : u3.cell? ⟨u2.heap.size + 1 + 1, 6, none⟩ = some (.int .i64 1) := (cell_of_row u3 _ 6 _ _ _ (k3.out.at (x := (u2.heap.size + 1 + 1, #[.int .i64 0, .int .i64 1, .int .i64 1, .int .i64 2, .int .i64 1, .int .i64 1, .int .i64 1], 3)) (by simp))).trans rfl
  have i1 := fun w => run_indexAt (P := Try.prog) (t := 227) (e := 4) Try.underlying227 (m := 1) (by kernel_rfl) (b := u2.heap.size + 1) (o := 0) (n := 7) (cap := 7) (k := 6) (by omega) w
  have i2 := fun w => run_indexAt (P := Try.prog) (t := 228) (e := 3) Try.underlying228 (m := 1) (by kernel_rfl) (b := u2.heap.size + 1 + 1) (o := 0) (n := 7) (cap := 7) (k := 6) (by omega) w
  simp only [Nat.zero_add, Nat.mul_one, show ((6 : Nat) : Int) = 6 from rfl] at i1 i2
  go_wp2_with fail
  go_quiet (fail)
  go_wp2
  go_ret
  exact ⟨rfl, (keptDrawn k3.out nq).1⟩

theorem words_cons : ∀ (v : List Char) (r : List Char), (∀ c ∈ v, c ≠ Char.ofNat 32) → wordsSigns (v ++ Char.ofNat 32 :: r) = v :: wordsSigns r
  | [], r, _ => rfl
  | c :: v, r, h => by
    have ih := words_cons v r (fun x hx => h x (by simp [hx]))
    have hc : c ≠ Char.ofNat 32 := h c (by simp)
    show wordsSigns (c :: (v ++ Char.ofNat 32 :: r)) = _
    rw [wordsSigns.eq_3 _ _ (fun e => hc e), ih]

def w0 : List Nat := [104, 97, 114, 110, 101, 115, 115]

def w1 : List Nat := [53, 97, 52, 54, 101, 53, 53, 98, 52, 48, 102, 99, 98, 48, 100, 53, 101, 48, 49, 101, 56, 48, 53, 99, 49, 55, 97, 101, 51, 99, 102, 101, 51, 57, 102, 97, 57, 48, 50, 97, 52, 102, 51, 54, 53, 53, 99, 101, 97, 98, 98, 53, 98, 48, 101, 56, 48, 101, 102, 55, 55, 99, 53, 48]

def w2 : List Nat := [99, 117, 116]

def w3 : List Nat := [97, 116, 32, 108, 111, 111, 112, 46, 101, 120, 97, 109, 112, 108, 101, 47, 103, 48, 49, 50, 50, 52, 47, 108, 97, 119, 115, 46, 70, 110, 69, 120, 97, 99, 116, 86, 97, 108, 105, 100, 67, 111, 108, 117, 109, 110, 32, 108, 111, 111, 112, 46, 101, 120, 97, 109, 112, 108, 101, 47, 103, 48, 49, 50, 50, 52, 47, 108, 97, 119, 115, 46, 70, 110, 69, 120, 97, 99, 116, 83, 97, 109, 101, 67, 111, 108, 117, 109, 110, 32, 108, 111, 111, 112, 46, 101, 120, 97, 109, 112, 108, 101, 47, 103, 48, 49, 50, 50, 52, 47, 108, 97, 119, 115, 46, 70, 110, 69, 120, 97, 99, 116, 83, 116, 105, 108, 108, 67, 111, 108, 117, 109, 110, 32, 108, 111, 111, 112, 46, 101, 120, 97, 109, 112, 108, 101, 47, 103, 48, 49, 50, 50, 52, 47, 108, 97, 119, 115, 46, 70, 110, 69, 120, 97, 99, 116, 70, 97, 108, 108, 83, 104, 97, 114, 101, 115, 32, 108, 111, 111, 112, 46, 101, 120, 97, 109, 112, 108, 101, 47, 103, 48, 49, 50, 50, 52, 47, 108, 97, 119, 115, 46, 70, 110, 69, 120, 97, 99, 116, 83, 101, 116, 116, 108, 101, 79, 110, 99, 101, 32, 108, 111, 111, 112, 46, 101, 120, 97, 109, 112, 108, 101, 47, 103, 48, 49, 50, 50, 52, 47, 108, 97, 119, 115, 46, 70, 110, 69, 120, 97, 99, 116, 71, 114, 111, 119, 67, 111, 108, 117, 109, 110, 32, 108, 111, 111, 112, 46, 101, 120, 97, 109, 112, 108, 101, 47, 103, 48, 49, 50, 50, 52, 47, 108, 97, 119, 115, 46, 70, 110, 69, 120, 97, 99, 116, 83, 116, 105, 114, 67, 111, 108, 117, 109, 110, 32, 108, 111, 111, 112, 46, 101, 120, 97, 109, 112, 108, 101, 47, 103, 48, 49, 50, 50, 52, 47, 108, 97, 119, 115, 46, 70, 110, 69, 120, 97, 99, 116, 87, 97, 116, 101, 114, 79, 102, 67, 111, 108, 117, 109, 110, 32, 108, 111, 111, 112, 46, 101, 120, 97, 109, 112, 108, 101, 47, 103, 48, 49, 50, 50, 52, 47, 108, 97, 119, 115, 46, 70, 110, 69, 120, 97, 99, 116, 82, 97, 105, 110, 79, 102, 32, 108, 111, 111, 112, 46, 101, 120, 97, 109, 112, 108, 101, 47, 103, 48, 49, 50, 50, 52, 47, 108, 97, 119, 115, 46, 70, 110, 69, 120, 97, 99, 116, 67, 108, 111, 117, 100, 66, 97, 115, 101, 32, 108, 111, 111, 112, 46, 101, 120, 97, 109, 112, 108, 101, 47, 103, 48, 49, 50, 50, 52, 47, 108, 97, 119, 115, 46, 70, 110, 69, 120, 97, 99, 116, 86, 97, 108, 105, 100, 65, 99, 116, 32, 108, 111, 111, 112, 46, 101, 120, 97, 109, 112, 108, 101, 47, 103, 48, 49, 50, 50, 52, 47, 108, 97, 119, 115, 46, 70, 110, 69, 120, 97, 99, 116, 85, 110, 105, 116, 65, 116, 32, 108, 111, 111, 112, 46, 101, 120, 97, 109, 112, 108, 101, 47, 103, 48, 49, 50, 50, 52, 47, 108, 97, 119, 115, 46, 70, 110, 69, 120, 97, 99, 116, 67, 111, 108, 108, 105, 100, 101, 80, 97, 105, 114, 115, 32, 108, 111, 111, 112, 46, 101, 120, 97, 109, 112, 108, 101, 47, 103, 48, 49, 50, 50, 52, 47, 108, 97, 119, 115, 46, 70, 110, 69, 120, 97, 99, 116, 71, 114, 111, 119, 79, 110, 99, 101, 32, 108, 111, 111, 112, 46, 101, 120, 97, 109, 112, 108, 101, 47, 103, 48, 49, 50, 50, 52, 47, 108, 97, 119, 115, 46, 70, 110, 69, 120, 97, 99, 116, 71, 114, 111, 119, 83, 116, 101, 112, 115, 32, 108, 111, 111, 112, 46, 101, 120, 97, 109, 112, 108, 101, 47, 103, 48, 49, 50, 50, 52, 47, 108, 97, 119, 115, 46, 70, 110, 69, 120, 97, 99, 116, 83, 116, 101, 112, 115, 84, 111, 68, 114, 121, 32, 108, 111, 111, 112, 46, 101, 120, 97, 109, 112, 108, 101, 47, 103, 48, 49, 50, 50, 52, 47, 108, 97, 119, 115, 46, 70, 110, 69, 120, 97, 99, 116, 83, 116, 101, 97, 100, 121, 83, 111, 117, 110, 100, 105, 110, 103, 32, 108, 111, 111, 112, 46, 101, 120, 97, 109, 112, 108, 101, 47, 103, 48, 49, 50, 50, 52, 47, 108, 97, 119, 115, 46, 70, 110, 69, 120, 97, 99, 116, 82, 105, 115, 101, 73, 110, 32, 108, 111, 111, 112, 46, 101, 120, 97, 109, 112, 108, 101, 47, 103, 48, 49, 50, 50, 52, 47, 108, 97, 119, 115, 46, 70, 110, 69, 120, 97, 99, 116, 84, 104, 105, 114, 100, 82, 111, 111, 116]

def letters (l : List Nat) : List Char := l.map Char.ofNat

theorem head_reads : Try.prog.initOrder = String.ofList (letters w0 ++ Char.ofNat 32 :: (letters w1 ++ Char.ofNat 32 :: (letters w2 ++ Char.ofNat 32 :: letters w3))) := by kernel_rfl

theorem no_blank {l : List Nat} (h : l.all (fun n => Char.ofNat n != Char.ofNat 32) = true) : ∀ c ∈ letters l, c ≠ Char.ofNat 32 := by
  intro c hc
  obtain ⟨n, hn, rfl⟩ := List.mem_map.1 hc
  have := List.all_eq_true.1 h n hn
  simpa using this

theorem h0 : letters w0 = "harness".toList := by kernel_rfl

theorem h2 : letters w2 = "cut".toList := by kernel_rfl

theorem sums : isSumSigns (letters w1) = true := by kernel_rfl

theorem words : wordsSigns Try.prog.initOrder.toList = "harness".toList :: letters w1 :: "cut".toList :: wordsSigns (letters w3) := by
  rw [head_reads, String.toList_ofList, words_cons _ _ (no_blank (by decide +kernel)), words_cons _ _ (no_blank (by decide +kernel)), words_cons _ _ (no_blank (by decide +kernel)), h0, h2]

theorem behind : ∃ r, behindMainWord (wordsSigns Try.prog.initOrder.toList) = "cut".toList :: r := by
  refine ⟨wordsSigns (letters w3), ?_⟩
  rw [words]
  generalize wordsSigns (letters w3) = r
  have hs := sums
  generalize letters w1 = v at hs
  unfold behindMainWord
  simp [hs]

theorem not_later : Try.prog.laysLater = false := by kernel_rfl

theorem no_reflect : Try.prog.bearsReflect = false := by kernel_rfl

theorem no_doors : Try.prog.doorFits [] = true := by kernel_rfl

theorem strips (r : List (List Char)) : stripLifts liftWords ("cut".toList :: r) = ([], "cut".toList :: r) := by kernel_rfl

theorem may_enter_of (P : Program) (r : List (List Char)) (h : behindMainWord (wordsSigns P.initOrder.toList) = "cut".toList :: r) (h1 : P.laysLater = false) (h2 : P.bearsReflect = false) (h3 : P.doorFits [] = true) : P.mayEnter = true := by
  unfold Program.mayEnter
  rw [h]
  dsimp only
  rw [strips, h1, h2, h3]
  kernel_rfl

theorem lifts_final_of (P : Program) (r : List (List Char)) (h : behindMainWord (wordsSigns P.initOrder.toList) = "cut".toList :: r) : P.liftsFinal = false := by
  unfold Program.liftsFinal Program.headLifts
  rw [h]
  dsimp only
  rw [strips]
  kernel_rfl

theorem made_of (P : Program) (r : List (List Char)) (h : behindMainWord (wordsSigns P.initOrder.toList) = "cut".toList :: r) : P.make = some .cut := by
  unfold Program.make
  rw [h]
  kernel_rfl

theorem may_enter : Try.prog.mayEnter = true := let ⟨r, h⟩ := behind; may_enter_of _ r h not_later no_reflect no_doors

theorem lifts_final : Try.prog.liftsFinal = false := let ⟨r, h⟩ := behind; lifts_final_of _ r h

theorem made : Try.prog.make = some .cut := let ⟨r, h⟩ := behind; made_of _ r h

theorem laid : laidOutB Try.prog = true := by kernel_rfl

theorem rowed : mapsRowed Try.prog = true := by kernel_rfl

theorem no_stops : Try.prog.stops = [] := by kernel_rfl

theorem no_knobs : Try.prog.stopKnobs = [] := by kernel_rfl

theorem plain_keys : Try.prog.plainKeys = false := by kernel_rfl

theorem stops_heard : Try.prog.stopsHeard = true := by kernel_rfl

theorem arr1 {α : Type} {cs : Array α} (h : cs.size = 1) : ∃ c0, cs = #[c0] := by
  obtain ⟨l⟩ := cs
  match l, h with
  | [a], _ => exact ⟨a, rfl⟩

theorem own : ownKnob Try.prog.godebug = none := by kernel_rfl

theorem cells4 : Try.prog.cellsOf 57 = 4 := by kernel_rfl

theorem types4 : Try.prog.cellTypes Try.prog.depth 57 = some [2, 2, 22, 22] := by kernel_rfl

theorem rdt : Try.prog.readableRec 57 = true ∧ 57 < Try.prog.types.size := ⟨by kernel_rfl, of_decide_eq_true (by kernel_rfl)⟩

theorem toAct (k c : Int) (a b : Nat) (w : World) :
    Calls Try.prog 47 #[.agg #[.int .i64 k, .int .i64 c, .float .f32 a, .float .f32 b]] w fun e w' => e = .returned (.agg #[.int .i64 k, .int .i64 c, .float .f32 a, .float .f32 b]) ∧ Below w.heap.size w w' := by
  have k0 : Hid (Kept w [(w.heap.size + 1, #[.int .i64 k, .int .i64 c, .float .f32 a, .float .f32 b], 59)] (((w.alloc (.cells #[.int .i64 k, .int .i64 c, .float .f32 a, .float .f32 b] 57)).alloc (.cells #[.int .i64 k, .int .i64 c, .float .f32 a, .float .f32 b] 59)).alloc (.cells #[.int .i64 k, .int .i64 c, .float .f32 a, .float .f32 b] 59))) := hid (((((Kept.nil w).push _ _).push _ _).push _ _).sub (by simp))
  go_enter Try.func47, Try.ntmps47
  go_wp2
  exact bodyPost_ret (results_cell_row rfl _ _ (w.heap.size + 1) 59 #[.int .i64 k, .int .i64 c, .float .f32 a, .float .f32 b] (0, 0) _ rfl (k0.out.at (x := (w.heap.size + 1, #[.int .i64 k, .int .i64 c, .float .f32 a, .float .f32 b], 59)) (by simp)) Try.underlying59 rfl (by kernel_rfl)) rfl ⟨rfl, k0.out.1⟩

theorem sValid_of (k c : Int) (a b : Nat) (r : Bool) (h : ∀ g (w : World), w.heap[g]? = some (.cells #[.int .i64 k, .int .i64 c, .float .f32 a, .float .f32 b] 59 (0, 0)) → Calls Try.prog 109 #[.pointer (some ⟨g, 0, none⟩)] w fun e w' => e = .returned (.bool r) ∧ Below w.heap.size w w') (w : World) :
    Calls Try.prog 46 #[.agg #[.int .i64 k, .int .i64 c, .float .f32 a, .float .f32 b]] w fun e w' => e = .returned (.bool r) ∧ Below w.heap.size w w' := by
  have H := hid h
  have k0 : Hid (Kept w [(w.heap.size, #[.int .i64 k, .int .i64 c, .float .f32 a, .float .f32 b], 59)] (w.alloc (.cells #[.int .i64 k, .int .i64 c, .float .f32 a, .float .f32 b] 59))) := hid (((Kept.nil w).push _ _).sub (by simp))
  clear h
  go_enter Try.func46, Try.ntmps46
  go_wp2_with fail
  refine (H.out _ _ (k0.out.at (x := (w.heap.size, #[.int .i64 k, .int .i64 c, .float .f32 a, .float .f32 b], 59)) (by simp))).mono ?_
  rintro e u ⟨rfl, hb⟩
  have k1 := hid (k0.out.stay hb)
  go_wp2
  go_ret
  exact ⟨rfl, k1.out.1⟩

theorem range_a {a : Nat} (ha : a < 4294967296) (hp : plB a = true) (hg : (FloatKind.f32.format.order a 0 == some .gt || FloatKind.f32.format.order a 0 == some .eq) = true) (hl : (FloatKind.f32.format.order a 1128792064 == some .lt || FloatKind.f32.format.order a 1128792064 == some .eq) = true) : a < INF ∧ a ≤ 1128792064 := by
  unfold plB at hp
  rw [Bool.and_eq_true, decide_eq_true_eq] at hp
  have hw : FW a := ⟨ha, finB_iff.1 hp.1⟩
  have h0 : FW 0 := ⟨by decide, by decide⟩
  have hI := INF_val
  have hm2 := hw.2
  have h1 : (S.order a 0 == some .gt || S.order a 0 == some .eq) = true := hg
  have h2 : (S.order a 1128792064 == some .lt || S.order a 1128792064 == some .eq) = true := hl
  rw [order_sv hw h0, show sv 0 = 0 by decide] at h1
  have h3 : 0 ≤ sv a := by
    rcases Int.lt_trichotomy (sv a) 0 with h | h | h
    · rw [Int.compare_eq_lt.2 h] at h1; exact absurd h1 (by decide)
    · omega
    · omega
  have h4 : a < 2147483648 := by
    rcases Nat.lt_or_ge a 2147483648 with h | h
    · exact h
    · exfalso
      unfold sv at h3
      rw [if_pos h] at h3
      have hmz : mg a ≠ 0 := by unfold mg; omega
      have := val_lt (x := 0) (y := mg a) (by omega)
      omega
  have hm : mg a = a := by unfold mg; omega
  rw [hm] at hm2
  refine ⟨hm2, ?_⟩
  rw [order_lt hm2 (by decide)] at h2
  rcases Nat.lt_or_ge 1128792064 a with h | h
  · rw [Nat.compare_eq_gt.2 h] at h2; exact absurd h2 (by decide)
  · exact h

/-- Both, with one answer. -/
theorem act_both (k c : Int) (a b : Nat) (ha : a < 4294967296) (hb : b < 4294967296) : ∃ r : Bool,
    (∀ w, Calls Try.prog 48 #[.agg #[.int .i64 k, .int .i64 c, .float .f32 a, .float .f32 b]] w fun e w' => e = .returned (.bool r) ∧ Below w.heap.size w w') ∧
    (∀ g (w : World), w.heap[g]? = some (.cells #[.int .i64 k, .int .i64 c, .float .f32 a, .float .f32 b] 59 (0, 0)) → Calls Try.prog 109 #[.pointer (some ⟨g, 0, none⟩)] w fun e w' => e = .returned (.bool r) ∧ Below w.heap.size w w') := by
  by_cases hk : 1 ≤ k ∧ k ≤ 6
  · by_cases hc : 0 ≤ c ∧ c ≤ 7
    · have n1 : ¬ k < 1 := by omega
      have n2 : ¬ 6 < k := by omega
      have n3 : ¬ c < 0 := by omega
      have n4 : ¬ 8 ≤ c := by omega
      rcases pa : plB a with _ | _
      · exact ⟨false, fun w => iAct_a k c a b n1 n2 n3 n4 pa ha hb w, fun g w hh => sAct_a k c a b g hk hc pa ha hb w hh⟩
      · rcases pb : plB b with _ | _
        · exact ⟨false, fun w => iAct_b k c a b n1 n2 n3 n4 pa pb ha hb w, fun g w hh => sAct_b k c a b g hk hc pa pb ha hb w hh⟩
        · have hx : k = 1 ∨ k = 2 ∨ k = 3 ∨ k = 4 ∨ k = 5 ∨ k = 6 := by omega
          clear n1 n2 hk
          rcases hx with rfl | rfl | rfl | rfl | rfl | rfl
          · rcases h0 : (FloatKind.f32.format.order b 0 != some .eq) with _ | _
            · exact ⟨true, fun w => iAct1_t c a b n3 n4 pa pb h0 ha hb w, fun g w hh => sAct1_t c a b g hc pa pb h0 ha hb w hh⟩
            · exact ⟨false, fun w => iAct1_f c a b n3 n4 pa pb h0 ha hb w, fun g w hh => sAct1_f c a b g hc pa pb h0 ha hb w hh⟩
          · rcases h0 : (FloatKind.f32.format.order b 0 != some .eq) with _ | _
            · exact ⟨true, fun w => iAct2_t c a b n3 n4 pa pb h0 ha hb w, fun g w hh => sAct2_t c a b g hc pa pb h0 ha hb w hh⟩
            · exact ⟨false, fun w => iAct2_f c a b n3 n4 pa pb h0 ha hb w, fun g w hh => sAct2_f c a b g hc pa pb h0 ha hb w hh⟩
          · exact ⟨true, fun w => iAct3_t c a b n3 n4 pa pb ha hb w, fun g w hh => sAct3_t c a b g hc pa pb ha hb w hh⟩
          · rcases h0 : (FloatKind.f32.format.order b 0 != some .eq) with _ | _
            · exact ⟨true, fun w => iAct4_t c a b n3 n4 pa pb h0 ha hb w, fun g w hh => sAct4_t c a b g hc pa pb h0 ha hb w hh⟩
            · exact ⟨false, fun w => iAct4_f c a b n3 n4 pa pb h0 ha hb w, fun g w hh => sAct4_f c a b g hc pa pb h0 ha hb w hh⟩
          · by_cases hz : c = 0
            · rcases h0 : (FloatKind.f32.format.order b 0 != some .eq) with _ | _
              · exact ⟨true, fun w => iAct5_t c a b n3 n4 pa pb hz h0 ha hb w, fun g w hh => sAct5_t c a b g hc pa pb hz h0 ha hb w hh⟩
              · exact ⟨false, fun w => iAct5_f c a b n3 n4 pa pb hz h0 ha hb w, fun g w hh => sAct5_f c a b g hc pa pb hz h0 ha hb w hh⟩
            · exact ⟨false, fun w => iAct5_c c a b n3 n4 pa pb hz ha hb w, fun g w hh => sAct5_c c a b g hc pa pb hz ha hb w hh⟩
          · by_cases hz : c = 0
            · rcases h0 : (FloatKind.f32.format.order b 0 != some .eq) with _ | _
              · have hfa : finB a = true := by unfold plB at pa; rw [Bool.and_eq_true] at pa; exact pa.1
                rcases hg : (FloatKind.f32.format.order a 0 == some .gt || FloatKind.f32.format.order a 0 == some .eq) with _ | _
                · rcases hw : whB a with _ | _
                  · exact ⟨false, fun w => iAct6_w c a b n3 n4 pa pb hz h0 hfa hw ha hb w, fun g w hh => sAct6_g c a b g hc pa pb hz h0 hg ha hb w hh⟩
                  · exact ⟨false, fun w => iAct6_g c a b n3 n4 pa pb hz h0 hfa hw hg ha hb w, fun g w hh => sAct6_g c a b g hc pa pb hz h0 hg ha hb w hh⟩
                · rcases hl : (FloatKind.f32.format.order a 1128792064 == some .lt || FloatKind.f32.format.order a 1128792064 == some .eq) with _ | _
                  · rcases hw : whB a with _ | _
                    · exact ⟨false, fun w => iAct6_w c a b n3 n4 pa pb hz h0 hfa hw ha hb w, fun g w hh => sAct6_l c a b g hc pa pb hz h0 hg hl ha hb w hh⟩
                    · exact ⟨false, fun w => iAct6_l c a b n3 n4 pa pb hz h0 hfa hw hg false hl ha hb w, fun g w hh => sAct6_l c a b g hc pa pb hz h0 hg hl ha hb w hh⟩
                  · obtain ⟨q1, q2⟩ := range_a ha pa hg hl
                    obtain ⟨N, _, hN, hK, _, he⟩ := whole_f q1 q2
                    have hwe : whB a = (FloatKind.f32.format.order (wS N) a == some .eq) := by unfold whB; rw [hK]; exact he
                    rcases hw : whB a with _ | _
                    · exact ⟨false, fun w => iAct6_w c a b n3 n4 pa pb hz h0 hfa hw ha hb w, fun g w hh => sAct6_n c a b g hc pa pb hz h0 hg hl hN false (hwe.symm.trans hw) ha hb w hh⟩
                    · exact ⟨true, fun w => iAct6_l c a b n3 n4 pa pb hz h0 hfa hw hg true hl ha hb w, fun g w hh => sAct6_n c a b g hc pa pb hz h0 hg hl hN true (hwe.symm.trans hw) ha hb w hh⟩
              · exact ⟨false, fun w => iAct6_f c a b n3 n4 pa pb hz h0 ha hb w, fun g w hh => sAct6_f c a b g hc pa pb hz h0 ha hb w hh⟩
            · exact ⟨false, fun w => iAct6_c c a b n3 n4 pa pb hz ha hb w, fun g w hh => sAct6_c c a b g hc pa pb hz ha hb w hh⟩
    · exact ⟨false, fun w => iAct_r k c a b (by omega) ha hb w, fun g w hh => sAct_c k c a b g hk hc ha hb w hh⟩
  · exact ⟨false, fun w => iAct_r k c a b (by omega) ha hb w, fun g w hh => sAct_k k c a b g hk ha hb w hh⟩

theorem lawValidAct (k c : Int) (a b : Nat) (ha : a < 4294967296) (hb : b < 4294967296) (w : World) :
    Calls Try.prog 13 #[.agg #[.int .i64 k, .int .i64 c, .float .f32 a, .float .f32 b]] w fun e w' => e = .returned (.bool true) ∧ Below w.heap.size w w' := by
  obtain ⟨r, hI, hS⟩ := act_both k c a b ha hb
  have HI := hid hI
  have HS := hid (sValid_of k c a b r hS)
  have k0 : Hid (Kept w [(w.heap.size, #[.int .i64 k, .int .i64 c, .float .f32 a, .float .f32 b], 57)] (w.alloc (.cells #[.int .i64 k, .int .i64 c, .float .f32 a, .float .f32 b] 57))) := hid (((Kept.nil w).push _ _).sub (by simp))
  clear hI hS ha hb
  cases r
  all_goals
    go_enter Try.func13, Try.ntmps13
    go_wp2_with fail
    refine (toAct k c a b _).mono ?_
    rintro e u1 ⟨rfl, b1⟩
    have k1 := hid (k0.out.stay b1)
    clear b1
    go_wp2_with fail
    refine (HS.out _).mono ?_
    rintro e u2 ⟨rfl, b2⟩
    have k2 := hid (k1.out.stay b2)
    clear b2
    go_wp2_with (refine wpList_load_row rfl 57 _ rfl w.heap.size rfl 57 #[.int .i64 k, .int .i64 c, .float .f32 a, .float .f32 b] (0, 0) _ (k2.out.at (x := (w.heap.size, #[.int .i64 k, .int .i64 c, .float .f32 a, .float .f32 b], 57)) (by simp)) Try.underlying57 rfl (by kernel_rfl) ?_)
    refine (toAct k c a b _).mono ?_
    rintro e u3 ⟨rfl, b3⟩
    have k3 := hid (k2.out.stay b3)
    clear b3
    go_wp2_with fail
    refine (HI.out _).mono ?_
    rintro e u4 ⟨rfl, b4⟩
    have k4 := hid (k3.out.stay b4)
    clear b4
    go_wp2
    go_ret
    exact ⟨rfl, k4.out.1⟩
end Go.Proofs.Ytllkjockdogagaa

namespace Go.Proofs.Ytllkjockdogagaa.fnExactValidAct
open Go.RowKit Go.Fl Go.ChangeShapes Go.WideShapes Go.ChangeAt

set_option maxHeartbeats 2000000 in
theorem closed : joinedFacts Try.prog 13 Try.f13 Rows.fnExactValidActSpec Rows.fnExactValidActRow = true := by
  unfold joinedFacts
  simp only [Bool.and_eq_true]
  exact ⟨⟨⟨⟨⟨⟨⟨⟨⟨⟨⟨⟨⟨⟨⟨⟨⟨⟨⟨⟨⟨⟨⟨⟨⟨⟨⟨⟨⟨⟨⟨(by as_aux_lemma => kernel_rfl),
    laid⟩,
    rowed⟩,
    (by as_aux_lemma => kernel_rfl)⟩,
    (by as_aux_lemma => kernel_rfl)⟩,
    (by as_aux_lemma => kernel_rfl)⟩,
    (by rw [no_stops]; rfl)⟩,
    (by as_aux_lemma => kernel_rfl)⟩,
    (by rw [no_knobs]; rfl)⟩,
    (by as_aux_lemma => kernel_rfl)⟩,
    (by as_aux_lemma => kernel_rfl)⟩,
    (by as_aux_lemma => kernel_rfl)⟩,
    (by as_aux_lemma => kernel_rfl)⟩,
    (by as_aux_lemma => kernel_rfl)⟩,
    (by as_aux_lemma => kernel_rfl)⟩,
    (by as_aux_lemma => kernel_rfl)⟩,
    (by as_aux_lemma => kernel_rfl)⟩,
    (by as_aux_lemma => kernel_rfl)⟩,
    (by as_aux_lemma => kernel_rfl)⟩,
    (by as_aux_lemma => kernel_rfl)⟩,
    (by as_aux_lemma => kernel_rfl)⟩,
    (by as_aux_lemma => kernel_rfl)⟩,
    (show (Rows.fnExactValidActRow.plainKeys == Try.prog.plainKeys) = true by rw [plain_keys]; rfl)⟩,
    (by as_aux_lemma => kernel_rfl)⟩,
    stops_heard⟩,
    may_enter⟩,
    (show (Rows.fnExactValidActRow.lifted == Try.prog.liftsFinal) = true by rw [lifts_final]; rfl)⟩,
    (show (Try.prog.make == some Rows.fnExactValidActRow.make) = true by rw [made]; rfl)⟩,
    (by as_aux_lemma => kernel_rfl)⟩,
    (by as_aux_lemma => kernel_rfl)⟩,
    (by as_aux_lemma => kernel_rfl)⟩,
    (by as_aux_lemma => kernel_rfl)⟩

set_option maxRecDepth 100000 in
theorem lifted (os : Os) (started : os.Started) (H : Type) (enc : TypeId × Value → H) :
    ReturnsInHanded {} Try.checked os 13 .any (Rows.fnExactValidActSpec.pre6 enc Try.prog Try.f13 Rows.fnExactValidActRow.domain false) (Rows.fnExactValidActSpec.post enc Try.prog Try.f13 false true false false) := by
  refine LawFrame.lifted (C := Try.checked) (fn := Try.f13) (n := 1) (tb := 4) started own (by kernel_rfl) Try.func13 laid ?_ rfl rfl ?_ rfl Try.underlying4
    (ChangeSpec.witness6 (enc := enc) (C := Try.checked) false ⟨#[], #[.agg #[.int .i64 0, .int .i64 0, .float .f32 0, .float .f32 0]], []⟩ 8 (by kernel_rfl) (by kernel_rfl) (by kernel_rfl) (by kernel_rfl)) ?_
  · intro t ht
    simp only [Try.params13, List.mem_cons, List.not_mem_nil, or_false] at ht
    subst ht; exact rdt
  · intro ds hd
    match ds, hd with
    | [_], _ => rfl
  · intro W base args ds ps hval hn _
    obtain ⟨v0, rfl⟩ : ∃ v0, args = #[v0] := arr1 hn
    obtain ⟨k0, q0, a0, b0, rfl, hk0, hq0, ha0, hb0⟩ := open_act Try.underlying57 rfl Try.underlying22 Try.underlying2 cells4 types4 (hval 0 57 v0 rfl rfl)
    exact lawValidAct k0 q0 a0 b0 ha0 hb0 W

theorem over : Rows.fnExactValidActRow.holds Try.pinned (OpenSpec.ofChange Rows.fnExactValidActSpec) :=
  OpenClaim.holds_of_wide 13 Try.f13 rfl rfl rfl rfl rfl rfl rfl ⟨rfl, rfl, rfl, rfl, rfl⟩ rfl rfl rfl rfl rfl (by kernel_rfl) Try.func13 closed
    (of_decide_eq_true (by kernel_rfl)) (by unfold Func.isWrapper; rw [if_neg (by decide +kernel)]; exact ⟨rfl, rfl⟩)
    (fun os started H enc _ => lifted os started H enc)

theorem proved : Rows.FnExactValidActSaid := over
#print axioms proved
end Go.Proofs.Ytllkjockdogagaa.fnExactValidAct
