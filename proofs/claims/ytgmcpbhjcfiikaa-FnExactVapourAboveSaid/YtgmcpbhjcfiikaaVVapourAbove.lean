import Derived.Test.YtgmcpbhjcfiikaaCVapourAbove
import Derived.Test.YtgmcpbhjcfiikaaChecked
import Derived.Test.YtgmcpbhjcfiikaaRows
import Derived.Laws.FloatArith
import Derived.ProofKit
import Derived.WalkKit
import Derived.WalkLawsBesides
import Derived.WalkSpells
import Derived.Deep.QuietTactic
import Derived.BigQuiet
import Derived.Deep.RegionHeld3
import Derived.ChangeKeysEq
import Derived.Laws.BitsAllLaws
import Derived.Deep.MidRow
import Derived.Deep.WholeRow
import Derived.StillTailTactics
import Derived.Deep.Slices
import Derived.ChangeSame
import Derived.OrdersIn
import Derived.ControlIn
import Derived.RangeFuncSeq
import Derived.RangeFuncNested
import Derived.RangeFuncLeaves
import Derived.RangeFuncBox
import Derived.OwnWalkIn
import Derived.TacticsInMore
import Derived.LoopNIn
import Derived.LoopIn
import Derived.Shelf.Abstract
import Derived.ArgAppend
import Derived.Lib.SliceRun
import Derived.Below
import Derived.Laws.AppendOwn
import Derived.OpenShut
/- The law FnExactVapourAbove of chapter 1: at every argument the call returns true, and what was there before it is as it was. -/
namespace Go.Proofs.Ytgmcpbhjcfiikaa
open Go.RowKit Go.Fl

@[go_sem] theorem ext_f64bits (y : Nat) (w : World) : (callFunc 230 #[.float .f64 y]).run Try.prog w = .ok (.value (.int .u64 y)) w := by
  rw [run_callFunc_extern Try.func230 (by kernel_rfl) (by kernel_rfl) (by kernel_rfl) (e := Extern.MathFloatBits.float64bits) (by kernel_rfl)]
  rfl

@[go_sem] theorem ext_f64from (n : Int) (w : World) : (callFunc 204 #[.int .u64 n]).run Try.prog w = .ok (.value (.float .f64 n.toNat)) w := by
  rw [run_callFunc_extern Try.func204 (by kernel_rfl) (by kernel_rfl) (by kernel_rfl) (e := Extern.MathFloatBits.float64frombits) (by kernel_rfl)]
  rfl

theorem hid {p : Prop} (h : p) : Hid p := h

theorem clear_sign (y : Nat) (h : y < 18446744073709551616) : (bits BinOp.andNot IntKind.u64 (y : Int) 9223372036854775808).toNat = y % 9223372036854775808 := by
  rw [u64_andNot _ _ (by omega) (by omega) (by omega) (by omega)]
  rw [Int.toNat_natCast, Int.toNat_natCast]
  exact Nat.and_two_pow_sub_one_eq_mod y 63

theorem abs_f64 (y : Nat) (h : y < 18446744073709551616) (w : World) :
    Calls Try.prog 215 #[.float .f64 y] w fun e w' => e = .returned (.float .f64 (y % 9223372036854775808)) ∧ w = w' := by
  have hc := hid (clear_sign y h)
  clear h
  go_enter Try.func215, Try.ntmps215
  go_wp2
  go_ret
  exact ⟨by simp [hc.out], rfl⟩

theorem isNaN_f64 (y : Nat) (w : World) :
    Calls Try.prog 168 #[.float .f64 y] w fun e w' => e = .returned (.bool (FloatKind.f64.format.order y y != some .eq)) ∧ w = w' := by
  go_enter Try.func168, Try.ntmps168
  go_wp2
  go_ret
  exact ⟨rfl, rfl⟩

theorem isInf_f64 (y : Nat) (h : y < 18446744073709551616) (w : World) :
    Calls Try.prog 169 #[.float .f64 y, .int .i64 0] w fun e w' => e = .returned (.bool (FloatKind.f64.format.order (y % 9223372036854775808) 9218868437227405311 == some .gt)) ∧ w = w' := by
  have hc := hid h
  clear h
  go_enter Try.func169, Try.ntmps169
  go_wp2_with (go_at_call 215; refine (abs_f64 y hc.out _).mono ?_; rintro e w' ⟨rfl, rfl⟩)
  go_ret
  exact ⟨rfl, rfl⟩

theorem isFinite_t (x : Nat) (hx : x < 4294967296) (h : finB x = true) (w : World) :
    Calls Try.prog 96 #[.float .f32 x] w fun e w' => e = .returned (.bool true) ∧ w = w' := by
  rw [finB_iff] at h
  have hc := fun w => run_conv_wid (P := Try.prog) w 23 30 x hx Try.underlying23 Try.underlying30 h
  obtain ⟨a, b, m, e, hr⟩ := read_wid_fin hx h
  have hn : (FloatKind.f64.format.order (wid x) (wid x) != some .eq) = false := by
    show (D.order (wid x) (wid x) != some .eq) = false
    rw [order_self hr]; rfl
  have hi : (FloatKind.f64.format.order (wid x % 9223372036854775808) 9218868437227405311 == some .gt) = false := by
    show (D.order (wid x % 9223372036854775808) 9218868437227405311 == some .gt) = false
    rw [b, order_ltD a (by decide)]
    rw [DINF_val] at a
    have hle : wid (mg x) ≤ 9218868437227405311 := by omega
    rcases Nat.lt_or_eq_of_le hle with h' | h'
    · rw [Nat.compare_eq_lt.2 h']; rfl
    · rw [Nat.compare_eq_eq.2 h']; rfl
  have hw : wid x < 18446744073709551616 := D.write_lt _
  have Hn := hid hn
  have Hi := hid hi
  have Hw := hid hw
  clear hn hi hw hr a b h hx
  go_enter Try.func96, Try.ntmps96
  go_wp2_with (first | (go_at_call 168; refine (isNaN_f64 (wid x) _).mono ?_; rintro e w' ⟨rfl, rfl⟩; rw [Hn.out]) | (go_at_call 169; refine (isInf_f64 (wid x) Hw.out _).mono ?_; rintro e w' ⟨rfl, rfl⟩; rw [Hi.out]))
  go_ret
  exact ⟨rfl, rfl⟩

theorem isFinite_f (x : Nat) (hx : x < 4294967296) (h : finB x = false) (w : World) :
    Calls Try.prog 96 #[.float .f32 x] w fun e w' => e = .returned (.bool false) ∧ Below w.heap.size w w' := by
  rw [finB_iff'] at h
  rcases Nat.lt_or_eq_of_le h with h | h
  · obtain ⟨z, hc, h1, _⟩ := run_conv_nan (P := Try.prog) w 23 30 x Try.underlying23 Try.underlying30 h
    obtain ⟨s, t, hr⟩ := read_nanD h1
    have Hn := hid (show (FloatKind.f64.format.order z z != some .eq) = true by
      show (D.order z z != some .eq) = true
      rw [order_nan hr]; rfl)
    clear h h1 hr hx
    go_enter Try.func96, Try.ntmps96
    go_wp2_with (go_at_call 168; refine (isNaN_f64 z _).mono ?_; rintro e w' ⟨rfl, rfl⟩; rw [Hn.out])
    go_ret
    exact ⟨rfl, (Below.refl _ _).drew⟩
  · obtain ⟨z, hc, h1, h2⟩ := run_conv_inf (P := Try.prog) w 23 30 x hx Try.underlying23 Try.underlying30 h.symm
    have hr : D.read z = .infinity (decide (9223372036854775808 ≤ z)) := by rw [read_signD h2, h1, read_DINF]
    have Hn := hid (show (FloatKind.f64.format.order z z != some .eq) = false by
      show (D.order z z != some .eq) = false
      rw [order_inf hr]; rfl)
    have Hi := hid (show (FloatKind.f64.format.order (z % 9223372036854775808) 9218868437227405311 == some .gt) = true by
      rw [h1]; decide)
    have H2 := hid h2
    clear h h1 hr hx h2
    go_enter Try.func96, Try.ntmps96
    go_wp2_with (first | (go_at_call 168; refine (isNaN_f64 z _).mono ?_; rintro e w' ⟨rfl, rfl⟩; rw [Hn.out]) | (go_at_call 169; refine (isInf_f64 z H2.out _).mono ?_; rintro e w' ⟨rfl, rfl⟩; rw [Hi.out]))
    go_ret
    exact ⟨rfl, Below.refl _ _⟩

theorem signbit_f64 (y : Nat) (w : World) :
    Calls Try.prog 205 #[.float .f64 y] w fun e w' => e = .returned (.bool (decide (wrap64 (y : Int) < 0))) ∧ w = w' := by
  go_enter Try.func205, Try.ntmps205
  go_wp2
  go_ret
  exact ⟨rfl, rfl⟩

theorem and_sign (y : Nat) (h : y < 18446744073709551616) : (decide (wrap64 (y : Int) < 0)) = decide (9223372036854775808 ≤ y) := by
  unfold wrap64
  by_cases h' : 9223372036854775808 ≤ y
  · rw [decide_eq_true h']; simp; omega
  · rw [decide_eq_false h']; simp; omega

theorem isAmount_t (x : Nat) (h : amtB x = true) (w : World) :
    Calls Try.prog 139 #[.float .f32 x] w fun e w' => e = .returned (.bool true) ∧ w = w' := by
  have hf := amt_fin h
  rw [amtB_iff, INF_val] at h
  have hx : x < 4294967296 := by omega
  have hc := fun w => run_conv_wid (P := Try.prog) w 23 30 x hx Try.underlying23 Try.underlying30 (finB_iff.1 hf)
  have hw : wid x < 18446744073709551616 := D.write_lt _
  have Hs := hid (show (decide (wrap64 (wid x : Int) < 0)) = false by
    rw [and_sign _ hw]
    have := (wid_val (x := x) (by rw [INF_val]; omega)).1
    rw [DINF_val] at this
    simp; omega)
  have Hx := hid hx
  have Hf := hid hf
  clear h hf hx hw
  go_enter Try.func139, Try.ntmps139
  go_wp2_with (first | (go_at_call 96; refine (isFinite_t x Hx.out Hf.out _).mono ?_; rintro e w' ⟨rfl, rfl⟩) | (go_at_call 205; refine (signbit_f64 (wid x) _).mono ?_; rintro e w' ⟨rfl, rfl⟩; rw [Hs.out]))
  go_ret
  exact ⟨rfl, rfl⟩

theorem isAmount_f (x : Nat) (hx : x < 4294967296) (h : amtB x = false) (w : World) :
    Calls Try.prog 139 #[.float .f32 x] w fun e w' => e = .returned (.bool false) ∧ Below w.heap.size w w' := by
  rcases hf : finB x with _ | _
  · have Hx := hid hx
    have Hf := hid hf
    clear h hf hx
    go_enter Try.func139, Try.ntmps139
    go_wp2_with (go_at_call 96; refine (isFinite_f x Hx.out Hf.out _).mono ?_; rintro e w' ⟨rfl, hb⟩)
    go_ret
    exact ⟨rfl, hb⟩
  · have hc := fun w => run_conv_wid (P := Try.prog) w 23 30 x hx Try.underlying23 Try.underlying30 (finB_iff.1 hf)
    have hw : wid x < 18446744073709551616 := D.write_lt _
    have Hs := hid (show (decide (wrap64 (wid x : Int) < 0)) = true by
      rw [and_sign _ hw, wid_fin hx (finB_iff.1 hf)]
      rw [amtB_iff', INF_val] at h
      rw [finB_iff, INF_val] at hf
      unfold mg at hf ⊢
      rw [if_pos (by omega)]
      simp)
    have Hx := hid hx
    have Hf := hid hf
    clear h hf hx hw
    go_enter Try.func139, Try.ntmps139
    go_wp2_with (first | (go_at_call 96; refine (isFinite_t x Hx.out Hf.out _).mono ?_; rintro e w' ⟨rfl, rfl⟩) | (go_at_call 205; refine (signbit_f64 (wid x) _).mono ?_; rintro e w' ⟨rfl, rfl⟩; rw [Hs.out]))
    go_ret
    exact ⟨rfl, Below.refl _ _⟩

@[go_sem] theorem ext_f32bits (y : Nat) (w : World) : (callFunc 194 #[.float .f32 y]).run Try.prog w = .ok (.value (.int .u32 y)) w := by
  rw [run_callFunc_extern Try.func194 (by kernel_rfl) (by kernel_rfl) (by kernel_rfl) (e := Extern.MathFloatBits.float32bits) (by kernel_rfl)]
  rfl

theorem sFinite_t (x : Nat) (hx : x < 4294967296) (h : finB x = true) (w : World) :
    Calls Try.prog 89 #[.float .f32 x] w fun e w' => e = .returned (.bool true) ∧ w = w' := by
  have hr := fun w => run_float_arith (P := Try.prog) w .sub 23 .f32 x x 0 (sub_self_fin hx h)
  clear h hx
  go_enter Try.func89, Try.ntmps89
  go_wp2
  go_ret
  exact ⟨rfl, rfl⟩

theorem sAmount_t (x : Nat) (h : amtB x = true) (w : World) :
    Calls Try.prog 125 #[.float .f32 x] w fun e w' => e = .returned (.bool true) ∧ w = w' := by
  have hf := amt_fin h
  have h' := amtB_iff.1 h
  have hx : x < 4294967296 := by rw [INF_val] at h'; omega
  have Hx := hid hx
  have Hf := hid hf
  by_cases h0 : x = 0
  · subst h0
    clear h hf h' hx
    go_enter Try.func125, Try.ntmps125
    go_wp2_with (go_at_call 89; refine (sFinite_t 0 Hx.out Hf.out _).mono ?_; rintro e w' ⟨rfl, rfl⟩)
    go_ret
    exact ⟨rfl, rfl⟩
  · have hg : (FloatKind.f32.format.order x 0 == some .gt) = true := by
      show (S.order x 0 == some .gt) = true
      rw [order_zero_pos h', Nat.compare_eq_gt.2 (by omega)]; rfl
    clear h hf h' hx h0
    go_enter Try.func125, Try.ntmps125
    go_wp2_with (go_at_call 89; refine (sFinite_t x Hx.out Hf.out _).mono ?_; rintro e w' ⟨rfl, rfl⟩)
    go_ret
    exact ⟨rfl, rfl⟩

def Share (x : Nat) : Prop := x ≤ 1065353216

theorem share_amt {x : Nat} (h : Share x) : amtB x = true := by unfold Share at h; rw [amtB_iff, INF_val]; omega

theorem l00In_t (n a b : Int) (h1 : a ≤ n) (h2 : n ≤ b) (w : World) :
    Calls Try.prog 91 #[.int .i64 n, .int .i64 a, .int .i64 b] w fun e w' => e = .returned (.bool true) ∧ w = w' := by
  go_enter Try.func91, Try.ntmps91
  go_wp2
  go_ret
  exact ⟨by first | rfl | (simp; done) | (simp; omega), rfl⟩

theorem l00In_f (n a b : Int) (hn : ¬ (a ≤ n ∧ n ≤ b)) (w : World) :
    Calls Try.prog 91 #[.int .i64 n, .int .i64 a, .int .i64 b] w fun e w' => e = .returned (.bool false) ∧ w = w' := by
  by_cases h0 : a ≤ n
  · have h3 : b < n := by omega
    clear hn
    go_enter Try.func91, Try.ntmps91
    go_wp2
    go_ret
    exact ⟨by first | rfl | (simp; done) | (simp; omega), rfl⟩
  · have h3 : n < a := by omega
    have h4 : decide (a ≤ n) = false := by simp; omega
    clear hn h0
    go_enter Try.func91, Try.ntmps91
    go_wp2
    go_ret
    exact ⟨by simp, rfl⟩

theorem leq_one_t {x : Nat} (h : Share x) : (FloatKind.f32.format.order x 1065353216 == some .lt || FloatKind.f32.format.order x 1065353216 == some .eq) = true := by
  show (S.order x 1065353216 == some .lt || S.order x 1065353216 == some .eq) = true
  rw [order_lt (amtB_iff.1 (share_amt h)) (by decide)]
  unfold Share at h
  rcases Nat.lt_or_eq_of_le h with h | h
  · rw [Nat.compare_eq_lt.2 h]; rfl
  · rw [Nat.compare_eq_eq.2 h]; rfl

theorem iShare_t (x : Nat) (h : Share x) (w : World) :
    Calls Try.prog 97 #[.float .f32 x] w fun e w' => e = .returned (.bool true) ∧ w = w' := by
  have ho := leq_one_t h
  have Ha := hid (share_amt h)
  clear h
  go_enter Try.func97, Try.ntmps97
  go_wp2_with fail
  refine (isAmount_t x Ha.out _).mono ?_
  rintro e w1 ⟨rfl, rfl⟩
  go_wp2
  go_ret
  exact ⟨by first | rfl | (simp; done), rfl⟩

theorem loose {P : Program} {f : FuncId} {args : Array Value} {w : World} {v : Value} (h : Calls P f args w fun e w' => e = .returned v ∧ w = w') : Calls P f args w fun e w' => e = .returned v ∧ Below w.heap.size w w' :=
  h.mono fun _ _ ⟨a, b⟩ => ⟨a, b ▸ Below.refl _ _⟩

theorem alloc_air (a : Operand → Value) (d : Option Tmp) (t : TypeId) (ps : String) (af : Array Edge) (gd : Option (Nat × Bool)) (w : World) :
    (execOp a ⟨d, .alloc 44, t, ps, af, gd⟩).run Try.prog w = .ok (.value (.pointer (some ⟨w.heap.size, 0, none⟩))) (w.alloc (.cells (#[.float .f32 0, .float .f32 0]) 44)) := by
  unfold execOp
  go_simp

theorem info_air : (Try.prog.info? 44).map (·.size) = some 2 := by kernel_rfl

theorem info_lair : (Try.prog.info? 41).map (·.size) = some 2 := by kernel_rfl

set_option maxRecDepth 100000 in
theorem toAir (h v : Nat) (w : World) :
    Calls Try.prog 53 #[.agg #[.float .f32 h, .float .f32 v]] w fun e w' => e = .returned (.agg #[.float .f32 h, .float .f32 v]) ∧ Below w.heap.size w w' := by
  have k0 : Hid (Kept w [(w.heap.size + 1, #[.float .f32 h, .float .f32 v], 44)] (((w.alloc (.cells #[.float .f32 h, .float .f32 v] 41)).alloc (.cells #[.float .f32 h, .float .f32 v] 44)).alloc (.cells #[.float .f32 h, .float .f32 v] 44))) := hid (((((Kept.nil w).push _ _).push _ _).push _ _).sub (by simp))
  go_enter Try.func53, Try.ntmps53
  go_wp2
  exact bodyPost_ret (results_cell_row rfl _ _ (w.heap.size + 1) 44 #[.float .f32 h, .float .f32 v] (0, 0) _ rfl (k0.out.at (x := (w.heap.size + 1, #[.float .f32 h, .float .f32 v], 44)) (by simp)) Try.underlying44 rfl info_air) rfl ⟨rfl, k0.out.1⟩

theorem iHeat (x : Nat) (q : Bool) (hq : heatB x = q) (w : World) :
    Calls Try.prog 214 #[.float .f32 x] w fun e w' => e = .returned (.bool q) ∧ w = w' := by
  have h1 : heatB x = ((FloatKind.f32.format.order x 3262119936 == some .gt || FloatKind.f32.format.order x 3262119936 == some .eq) && (FloatKind.f32.format.order x 1114636288 == some .lt || FloatKind.f32.format.order x 1114636288 == some .eq)) := rfl
  rw [h1] at hq
  clear h1
  rcases a : (FloatKind.f32.format.order x 3262119936 == some .gt || FloatKind.f32.format.order x 3262119936 == some .eq) with _ | _
  · rw [a] at hq
    simp only [Bool.false_and] at hq
    subst hq
    go_enter Try.func214, Try.ntmps214
    go_wp2
    go_ret
    exact ⟨rfl, rfl⟩
  · rw [a] at hq
    simp only [Bool.true_and] at hq
    cases q
    all_goals
      go_enter Try.func214, Try.ntmps214
      go_wp2
      go_ret
      exact ⟨rfl, rfl⟩

theorem sHeat (x : Nat) (q : Bool) (hq : heatB x = q) (w : World) :
    Calls Try.prog 173 #[.float .f32 x] w fun e w' => e = .returned (.bool q) ∧ w = w' := by
  have h1 : heatB x = ((FloatKind.f32.format.order x 3262119936 == some .gt || FloatKind.f32.format.order x 3262119936 == some .eq) && (FloatKind.f32.format.order x 1114636288 == some .lt || FloatKind.f32.format.order x 1114636288 == some .eq)) := rfl
  rw [h1] at hq
  clear h1
  rcases a : (FloatKind.f32.format.order x 3262119936 == some .gt || FloatKind.f32.format.order x 3262119936 == some .eq) with _ | _
  · rw [a] at hq
    simp only [Bool.false_and] at hq
    subst hq
    go_enter Try.func173, Try.ntmps173
    go_wp2
    go_ret
    exact ⟨rfl, rfl⟩
  · rw [a] at hq
    simp only [Bool.true_and] at hq
    cases q
    all_goals
      go_enter Try.func173, Try.ntmps173
      go_wp2
      go_ret
      exact ⟨rfl, rfl⟩

set_option maxRecDepth 100000 in
theorem iValidAir (h v : Nat) (hv : v < 4294967296) (q : Bool) (hq : airB h v = q) (w : World) :
    Calls Try.prog 167 #[.agg #[.float .f32 h, .float .f32 v]] w fun e w' => e = .returned (.bool q) ∧ Below w.heap.size w w' := by
  have b0 := boxed w (.cells #[.float .f32 h, .float .f32 v] 44)
  have Hv := hid hv
  have e1 : airB h v = (heatB h && amtB v && vapB v) := rfl
  rw [e1] at hq
  clear hv e1
  rcases a : heatB h with _ | _
  · have Ha := hid a
    rw [a] at hq
    simp only [Bool.false_and] at hq
    subst hq
    clear a
    go_enter Try.func167, Try.ntmps167
    go_wp2_with fail
    refine (iHeat h false Ha.out _).mono ?_
    rintro e w1 ⟨rfl, rfl⟩
    go_wp2
    go_ret
    exact ⟨rfl, b0⟩
  · have Ha := hid a
    rw [a] at hq
    clear a
    rcases b : amtB v with _ | _
    · have Hb := hid b
      rw [b] at hq
      simp only [Bool.and_false, Bool.false_and] at hq
      subst hq
      clear b
      go_enter Try.func167, Try.ntmps167
      go_wp2_with fail
      refine (iHeat h true Ha.out _).mono ?_
      rintro e w1 ⟨rfl, rfl⟩
      go_wp2_with fail
      refine (isAmount_f v Hv.out Hb.out _).mono ?_
      rintro e w1 ⟨rfl, hb1⟩
      go_wp2
      go_ret
      exact ⟨rfl, stp b0 (Nat.le_refl _) hb1⟩
    · have Hb := hid b
      rw [b] at hq
      simp only [Bool.true_and] at hq
      have hc : (FloatKind.f32.format.order v 1148846080 == some .lt || FloatKind.f32.format.order v 1148846080 == some .eq) = q := hq
      clear b hq
      cases q
      all_goals
        go_enter Try.func167, Try.ntmps167
        go_wp2_with fail
        refine (iHeat h true Ha.out _).mono ?_
        rintro e w1 ⟨rfl, rfl⟩
        go_wp2_with fail
        refine (isAmount_t v Hb.out _).mono ?_
        rintro e w1 ⟨rfl, rfl⟩
        go_wp2
        go_ret
        exact ⟨rfl, b0⟩

theorem iMixN (a b x : Nat) (M : MixF a b x) (w : World) :
    Calls Try.prog 210 #[.float .f32 a, .float .f32 b, .float .f32 x] w fun e w' => e = .returned (.float .f32 (mixW a b x)) ∧ w = w' := by
  have h1 := fun w => run_float_arith (P := Try.prog) w .sub 23 .f32 _ _ _ M.r
  have h2 := fun w => run_float_arith (P := Try.prog) w .mul 23 .f32 _ _ _ M.m1
  have h3 := fun w => run_float_arith (P := Try.prog) w .mul 23 .f32 _ _ _ M.m2
  have h4 := fun w => run_float_arith (P := Try.prog) w .add 23 .f32 _ _ _ M.s
  clear M
  go_enter Try.func210, Try.ntmps210
  go_wp2
  go_ret
  exact ⟨rfl, rfl⟩

theorem run_mixN3 (a : Act) (x0 : Operand) (v0 : Value) (h0 : a.eval x0 = v0) (x1 : Operand) (v1 : Value) (h1 : a.eval x1 = v1) (x2 : Operand) (v2 : Value) (h2 : a.eval x2 = v2) (d : Option Tmp) (ats : Array TypeId) (t : TypeId) (ps : String) (af : Array Edge) (gd : Option (Nat × Bool)) (w : World) :
    (execOp a.eval ⟨d, .call { callee := .value (.func 210), args := #[x0, x1, x2], argTypes := ats }, t, ps, af, gd⟩).run Try.prog w = .ok (.enter 210 #[v0, v1, v2]) w := by
  subst h0 h1 h2
  unfold execOp
  go_simp

set_option maxRecDepth 100000 in
set_option maxHeartbeats 2000000 in
theorem iMixAir_ok (ah av bh bv x : Nat) (hv1 : av < 4294967296) (hq1 : airB ah av = true) (hv2 : bv < 4294967296) (hq2 : airB bh bv = true) (hx : Share x) (M1 : MixF ah bh x) (M2 : MixF av bv x) (hr : airB (mixW ah bh x) (mixW av bv x) = true) (w : World) :
    Calls Try.prog 157 #[.agg #[.float .f32 ah, .float .f32 av], .agg #[.float .f32 bh, .float .f32 bv], .float .f32 x] w fun e w' => e = .returned (.tuple #[.agg #[.float .f32 (mixW ah bh x), .float .f32 (mixW av bv x)], .int .i64 0]) ∧ Below w.heap.size w w' := by
  have k0 : Hid (Kept w [(w.heap.size, #[.float .f32 ah, .float .f32 av], 44), (w.heap.size + 1, #[.float .f32 bh, .float .f32 bv], 44), (w.heap.size + 1 + 1, #[.float .f32 0, .float .f32 0], 44)] (((w.alloc (.cells (#[.float .f32 ah, .float .f32 av]) 44)).alloc (.cells (#[.float .f32 bh, .float .f32 bv]) 44)).alloc (.cells (#[.float .f32 0, .float .f32 0]) 44))) := hid (((((Kept.nil w).push (#[.float .f32 ah, .float .f32 av]) 44).push (#[.float .f32 bh, .float .f32 bv]) 44).push (#[.float .f32 0, .float .f32 0]) 44).sub (by simp))
  have Hhv1 := hid hv1
  have Hhq1 := hid hq1
  have Hhv2 := hid hv2
  have Hhq2 := hid hq2
  have Hhx := hid hx
  have HM1 := hid M1
  have HM2 := hid M2
  have Hhr := hid hr
  clear hv1 hq1 hv2 hq2 hx M1 M2 hr
  go_enter Try.func157, Try.ntmps157
  go_wp2_with (first | (refine wpList_load_row rfl 44 _ rfl (w.heap.size) rfl 44 (#[.float .f32 ah, .float .f32 av]) (0, 0) _ (k0.out.at (x := (w.heap.size, #[.float .f32 ah, .float .f32 av], 44)) (by simp)) Try.underlying44 rfl (info_air) ?_))
  refine (iValidAir ah av Hhv1.out true Hhq1.out _).mono ?_
  rintro e w0 ⟨rfl, hb0⟩
  have k1 := hid (k0.out.stay hb0)
  clear hb0
  go_wp2_with (first | (refine wpList_load_g rfl 44 _ rfl (w.heap.size + 1) rfl 44 (#[.float .f32 bh, .float .f32 bv]) (0, 0) _ (k1.out.at (x := (w.heap.size + 1, #[.float .f32 bh, .float .f32 bv], 44)) (by simp)) Try.underlying44 rfl (info_air) ?_))
  refine (iValidAir bh bv Hhv2.out true Hhq2.out _).mono ?_
  rintro e w1 ⟨rfl, hb1⟩
  have k2 := hid (k1.out.stay hb1)
  clear hb1
  go_wp2_with fail
  refine (iShare_t x Hhx.out _).mono ?_
  rintro e w2 ⟨rfl, rfl⟩
  go_wp2_with fail
  rename_i Q1 K1 hK1
  have key : ∀ (a0 : Nat) (w1 : World), Hid (Kept w [(a0, #[.float .f32 (mixW ah bh x), .float .f32 (mixW av bv x)], 44), (w.heap.size, #[.float .f32 ah, .float .f32 av], 44), (w.heap.size + 1, #[.float .f32 bh, .float .f32 bv], 44), (w.heap.size + 1 + 1, #[.float .f32 0, .float .f32 0], 44)] w1) → K1 { tmps := (.agg #[.float .f32 ah, .float .f32 av] :: .agg #[.float .f32 bh, .float .f32 bv] :: .float .f32 x :: .pointer (some ⟨w.heap.size, 0, none⟩) :: .pointer (some ⟨w.heap.size + 1, 0, none⟩) :: undef :: .pointer (some ⟨w.heap.size + 1 + 1, 0, none⟩) :: .int .i64 0 :: .pointer (some ⟨a0, 0, none⟩) :: .agg #[.float .f32 ah, .float .f32 av] :: .bool true :: .bool false :: .bool false :: .agg #[.float .f32 bh, .float .f32 bv] :: .bool true :: .bool false :: .bool false :: undef :: .float .f32 x :: .bool true :: .bool false :: undef :: .pointer (some ⟨w.heap.size, 0, none⟩) :: .float .f32 ah :: .pointer (some ⟨w.heap.size + 1, 0, none⟩) :: .float .f32 bh :: .float .f32 x :: .float .f32 (mixW ah bh x) :: .pointer (some ⟨w.heap.size, 1, none⟩) :: .float .f32 av :: .pointer (some ⟨w.heap.size + 1, 1, none⟩) :: .float .f32 bv :: .float .f32 x :: .float .f32 (mixW av bv x) :: .agg #[.float .f32 (mixW ah bh x), .float .f32 (mixW av bv x)] :: undef :: undef :: undef :: undef :: undef :: []).toArray, defers := [] } w1 := by
    intro a0 w1 k1
    clear k2
    go_wp2_with (first | (refine wpList_load_row rfl 44 _ rfl (a0) rfl 44 (#[.float .f32 (mixW ah bh x), .float .f32 (mixW av bv x)]) (0, 0) _ (k1.out.at (x := (a0, #[.float .f32 (mixW ah bh x), .float .f32 (mixW av bv x)], 44)) (by simp)) Try.underlying44 rfl (info_air) ?_))
    refine (iValidAir _ _ HM2.out.lt true Hhr.out _).mono ?_
    rintro e w50 ⟨rfl, hb50⟩
    have k51 := hid (k1.out.stay hb50)
    clear hb50
    go_wp2_with (first | (refine wpList_load_row rfl 44 _ rfl (a0) rfl 44 (#[.float .f32 (mixW ah bh x), .float .f32 (mixW av bv x)]) (0, 0) _ (k51.out.at (x := (a0, #[.float .f32 (mixW ah bh x), .float .f32 (mixW av bv x)], 44)) (by simp)) Try.underlying44 rfl (info_air) ?_) | (refine wpList_store_row rfl 44 _ _ rfl (w.heap.size + 1 + 1) (#[.float .f32 (mixW ah bh x), .float .f32 (mixW av bv x)]) rfl rfl 44 _ (k51.out.at (x := (w.heap.size + 1 + 1, #[.float .f32 0, .float .f32 0], 44)) (by simp)) (info_air) (by simp) (by simp [Value.oneCell']) ?_))
    exact bodyPost_ret (results_row_tmp rfl _ _ (w.heap.size + 1 + 1) 44 (#[.float .f32 (mixW ah bh x), .float .f32 (mixW av bv x)]) (0, 0) _ rfl (setRow_heap _ _ _ _ _ _ (k51.out.at (x := (w.heap.size + 1 + 1, #[.float .f32 0, .float .f32 0], 44)) (by simp))) Try.underlying44 rfl info_air) rfl ⟨rfl, below_row k51.out.1 (by omega) _⟩
  refine region_kept (w0 := w) (l := [(w.heap.size, #[.float .f32 ah, .float .f32 av], 44), (w.heap.size + 1, #[.float .f32 bh, .float .f32 bv], 44), (w.heap.size + 1 + 1, #[.float .f32 0, .float .f32 0], 44)]) 15 #[false, false, false, false, false, false, false, false, false, false, false, false, false, false, false] (by kernel_rfl) rfl rfl ?_
  have kd := k2.out.drew
  clear k2
  generalize World.drew _ = wd at kd ⊢
  refine take_val 0 { tmps := (.agg #[.float .f32 ah, .float .f32 av] :: .agg #[.float .f32 bh, .float .f32 bv] :: .float .f32 x :: .pointer (some ⟨w.heap.size, 0, none⟩) :: .pointer (some ⟨w.heap.size + 1, 0, none⟩) :: undef :: .pointer (some ⟨w.heap.size + 1 + 1, 0, none⟩) :: .int .i64 0 :: undef :: .agg #[.float .f32 ah, .float .f32 av] :: .bool true :: .bool false :: .bool false :: .agg #[.float .f32 bh, .float .f32 bv] :: .bool true :: .bool false :: .bool false :: undef :: .float .f32 x :: .bool true :: .bool false :: undef :: .pointer (some ⟨w.heap.size, 0, none⟩) :: undef :: undef :: undef :: undef :: undef :: undef :: undef :: undef :: undef :: undef :: undef :: undef :: undef :: undef :: undef :: undef :: undef :: []).toArray, defers := [] } #[true, false, false, false, false, false, false, false, false, false, false, false, false, false, false] (.pointer (some ⟨w.heap.size, 0, none⟩)) rfl (by rfl) (by kernel_rfl) (by kernel_rfl) (by kernel_rfl) (fun w => by unfold execOp; go_simp) (by rfl) (by rfl) (kd) ?_
  refine take_cell 1 { tmps := (.agg #[.float .f32 ah, .float .f32 av] :: .agg #[.float .f32 bh, .float .f32 bv] :: .float .f32 x :: .pointer (some ⟨w.heap.size, 0, none⟩) :: .pointer (some ⟨w.heap.size + 1, 0, none⟩) :: undef :: .pointer (some ⟨w.heap.size + 1 + 1, 0, none⟩) :: .int .i64 0 :: undef :: .agg #[.float .f32 ah, .float .f32 av] :: .bool true :: .bool false :: .bool false :: .agg #[.float .f32 bh, .float .f32 bv] :: .bool true :: .bool false :: .bool false :: undef :: .float .f32 x :: .bool true :: .bool false :: undef :: .pointer (some ⟨w.heap.size, 0, none⟩) :: .float .f32 ah :: undef :: undef :: undef :: undef :: undef :: undef :: undef :: undef :: undef :: undef :: undef :: undef :: undef :: undef :: undef :: undef :: []).toArray, defers := [] } #[true, true, false, false, false, false, false, false, false, false, false, false, false, false, false] (.float .f32 ah) rfl (by rfl) (by kernel_rfl) (by kernel_rfl) (by kernel_rfl) (fun wq hS => by have hcell : wq.cell? ⟨w.heap.size, 0, none⟩ = some (.float .f32 ah) := (cell_of_row wq (w.heap.size) 0 _ _ _ (hS.at (x := (w.heap.size, #[.float .f32 ah, .float .f32 av], 44)) (by simp))).trans rfl; clear hS; unfold execOp; go_simp) (by rfl) (by rfl) (kd) ?_
  refine take_val 2 { tmps := (.agg #[.float .f32 ah, .float .f32 av] :: .agg #[.float .f32 bh, .float .f32 bv] :: .float .f32 x :: .pointer (some ⟨w.heap.size, 0, none⟩) :: .pointer (some ⟨w.heap.size + 1, 0, none⟩) :: undef :: .pointer (some ⟨w.heap.size + 1 + 1, 0, none⟩) :: .int .i64 0 :: undef :: .agg #[.float .f32 ah, .float .f32 av] :: .bool true :: .bool false :: .bool false :: .agg #[.float .f32 bh, .float .f32 bv] :: .bool true :: .bool false :: .bool false :: undef :: .float .f32 x :: .bool true :: .bool false :: undef :: .pointer (some ⟨w.heap.size, 0, none⟩) :: .float .f32 ah :: .pointer (some ⟨w.heap.size + 1, 0, none⟩) :: undef :: undef :: undef :: undef :: undef :: undef :: undef :: undef :: undef :: undef :: undef :: undef :: undef :: undef :: undef :: []).toArray, defers := [] } #[true, true, true, false, false, false, false, false, false, false, false, false, false, false, false] (.pointer (some ⟨w.heap.size + 1, 0, none⟩)) rfl (by rfl) (by kernel_rfl) (by kernel_rfl) (by kernel_rfl) (fun w => by unfold execOp; go_simp) (by rfl) (by rfl) (kd) ?_
  refine take_cell 3 { tmps := (.agg #[.float .f32 ah, .float .f32 av] :: .agg #[.float .f32 bh, .float .f32 bv] :: .float .f32 x :: .pointer (some ⟨w.heap.size, 0, none⟩) :: .pointer (some ⟨w.heap.size + 1, 0, none⟩) :: undef :: .pointer (some ⟨w.heap.size + 1 + 1, 0, none⟩) :: .int .i64 0 :: undef :: .agg #[.float .f32 ah, .float .f32 av] :: .bool true :: .bool false :: .bool false :: .agg #[.float .f32 bh, .float .f32 bv] :: .bool true :: .bool false :: .bool false :: undef :: .float .f32 x :: .bool true :: .bool false :: undef :: .pointer (some ⟨w.heap.size, 0, none⟩) :: .float .f32 ah :: .pointer (some ⟨w.heap.size + 1, 0, none⟩) :: .float .f32 bh :: undef :: undef :: undef :: undef :: undef :: undef :: undef :: undef :: undef :: undef :: undef :: undef :: undef :: undef :: []).toArray, defers := [] } #[true, true, true, true, false, false, false, false, false, false, false, false, false, false, false] (.float .f32 bh) rfl (by rfl) (by kernel_rfl) (by kernel_rfl) (by kernel_rfl) (fun wq hS => by have hcell : wq.cell? ⟨w.heap.size + 1, 0, none⟩ = some (.float .f32 bh) := (cell_of_row wq (w.heap.size + 1) 0 _ _ _ (hS.at (x := (w.heap.size + 1, #[.float .f32 bh, .float .f32 bv], 44)) (by simp))).trans rfl; clear hS; unfold execOp; go_simp) (by rfl) (by rfl) (kd) ?_
  refine take_val 4 { tmps := (.agg #[.float .f32 ah, .float .f32 av] :: .agg #[.float .f32 bh, .float .f32 bv] :: .float .f32 x :: .pointer (some ⟨w.heap.size, 0, none⟩) :: .pointer (some ⟨w.heap.size + 1, 0, none⟩) :: undef :: .pointer (some ⟨w.heap.size + 1 + 1, 0, none⟩) :: .int .i64 0 :: undef :: .agg #[.float .f32 ah, .float .f32 av] :: .bool true :: .bool false :: .bool false :: .agg #[.float .f32 bh, .float .f32 bv] :: .bool true :: .bool false :: .bool false :: undef :: .float .f32 x :: .bool true :: .bool false :: undef :: .pointer (some ⟨w.heap.size, 0, none⟩) :: .float .f32 ah :: .pointer (some ⟨w.heap.size + 1, 0, none⟩) :: .float .f32 bh :: .float .f32 x :: undef :: undef :: undef :: undef :: undef :: undef :: undef :: undef :: undef :: undef :: undef :: undef :: undef :: []).toArray, defers := [] } #[true, true, true, true, true, false, false, false, false, false, false, false, false, false, false] (.float .f32 x) rfl (by rfl) (by kernel_rfl) (by kernel_rfl) (by kernel_rfl) (fun w => by rfl) (by rfl) (by rfl) (kd) ?_
  refine take_val 6 { tmps := (.agg #[.float .f32 ah, .float .f32 av] :: .agg #[.float .f32 bh, .float .f32 bv] :: .float .f32 x :: .pointer (some ⟨w.heap.size, 0, none⟩) :: .pointer (some ⟨w.heap.size + 1, 0, none⟩) :: undef :: .pointer (some ⟨w.heap.size + 1 + 1, 0, none⟩) :: .int .i64 0 :: undef :: .agg #[.float .f32 ah, .float .f32 av] :: .bool true :: .bool false :: .bool false :: .agg #[.float .f32 bh, .float .f32 bv] :: .bool true :: .bool false :: .bool false :: undef :: .float .f32 x :: .bool true :: .bool false :: undef :: .pointer (some ⟨w.heap.size, 0, none⟩) :: .float .f32 ah :: .pointer (some ⟨w.heap.size + 1, 0, none⟩) :: .float .f32 bh :: .float .f32 x :: undef :: .pointer (some ⟨w.heap.size, 1, none⟩) :: undef :: undef :: undef :: undef :: undef :: undef :: undef :: undef :: undef :: undef :: undef :: []).toArray, defers := [] } #[true, true, true, true, true, false, true, false, false, false, false, false, false, false, false] (.pointer (some ⟨w.heap.size, 1, none⟩)) rfl (by rfl) (by kernel_rfl) (by kernel_rfl) (by kernel_rfl) (fun w => by unfold execOp; go_simp) (by rfl) (by rfl) (kd) ?_
  refine take_cell 7 { tmps := (.agg #[.float .f32 ah, .float .f32 av] :: .agg #[.float .f32 bh, .float .f32 bv] :: .float .f32 x :: .pointer (some ⟨w.heap.size, 0, none⟩) :: .pointer (some ⟨w.heap.size + 1, 0, none⟩) :: undef :: .pointer (some ⟨w.heap.size + 1 + 1, 0, none⟩) :: .int .i64 0 :: undef :: .agg #[.float .f32 ah, .float .f32 av] :: .bool true :: .bool false :: .bool false :: .agg #[.float .f32 bh, .float .f32 bv] :: .bool true :: .bool false :: .bool false :: undef :: .float .f32 x :: .bool true :: .bool false :: undef :: .pointer (some ⟨w.heap.size, 0, none⟩) :: .float .f32 ah :: .pointer (some ⟨w.heap.size + 1, 0, none⟩) :: .float .f32 bh :: .float .f32 x :: undef :: .pointer (some ⟨w.heap.size, 1, none⟩) :: .float .f32 av :: undef :: undef :: undef :: undef :: undef :: undef :: undef :: undef :: undef :: undef :: []).toArray, defers := [] } #[true, true, true, true, true, false, true, true, false, false, false, false, false, false, false] (.float .f32 av) rfl (by rfl) (by kernel_rfl) (by kernel_rfl) (by kernel_rfl) (fun wq hS => by have hcell : wq.cell? ⟨w.heap.size, 1, none⟩ = some (.float .f32 av) := (cell_of_row wq (w.heap.size) 1 _ _ _ (hS.at (x := (w.heap.size, #[.float .f32 ah, .float .f32 av], 44)) (by simp))).trans rfl; clear hS; unfold execOp; go_simp) (by rfl) (by rfl) (kd) ?_
  refine take_val 8 { tmps := (.agg #[.float .f32 ah, .float .f32 av] :: .agg #[.float .f32 bh, .float .f32 bv] :: .float .f32 x :: .pointer (some ⟨w.heap.size, 0, none⟩) :: .pointer (some ⟨w.heap.size + 1, 0, none⟩) :: undef :: .pointer (some ⟨w.heap.size + 1 + 1, 0, none⟩) :: .int .i64 0 :: undef :: .agg #[.float .f32 ah, .float .f32 av] :: .bool true :: .bool false :: .bool false :: .agg #[.float .f32 bh, .float .f32 bv] :: .bool true :: .bool false :: .bool false :: undef :: .float .f32 x :: .bool true :: .bool false :: undef :: .pointer (some ⟨w.heap.size, 0, none⟩) :: .float .f32 ah :: .pointer (some ⟨w.heap.size + 1, 0, none⟩) :: .float .f32 bh :: .float .f32 x :: undef :: .pointer (some ⟨w.heap.size, 1, none⟩) :: .float .f32 av :: .pointer (some ⟨w.heap.size + 1, 1, none⟩) :: undef :: undef :: undef :: undef :: undef :: undef :: undef :: undef :: undef :: []).toArray, defers := [] } #[true, true, true, true, true, false, true, true, true, false, false, false, false, false, false] (.pointer (some ⟨w.heap.size + 1, 1, none⟩)) rfl (by rfl) (by kernel_rfl) (by kernel_rfl) (by kernel_rfl) (fun w => by unfold execOp; go_simp) (by rfl) (by rfl) (kd) ?_
  refine take_cell 9 { tmps := (.agg #[.float .f32 ah, .float .f32 av] :: .agg #[.float .f32 bh, .float .f32 bv] :: .float .f32 x :: .pointer (some ⟨w.heap.size, 0, none⟩) :: .pointer (some ⟨w.heap.size + 1, 0, none⟩) :: undef :: .pointer (some ⟨w.heap.size + 1 + 1, 0, none⟩) :: .int .i64 0 :: undef :: .agg #[.float .f32 ah, .float .f32 av] :: .bool true :: .bool false :: .bool false :: .agg #[.float .f32 bh, .float .f32 bv] :: .bool true :: .bool false :: .bool false :: undef :: .float .f32 x :: .bool true :: .bool false :: undef :: .pointer (some ⟨w.heap.size, 0, none⟩) :: .float .f32 ah :: .pointer (some ⟨w.heap.size + 1, 0, none⟩) :: .float .f32 bh :: .float .f32 x :: undef :: .pointer (some ⟨w.heap.size, 1, none⟩) :: .float .f32 av :: .pointer (some ⟨w.heap.size + 1, 1, none⟩) :: .float .f32 bv :: undef :: undef :: undef :: undef :: undef :: undef :: undef :: undef :: []).toArray, defers := [] } #[true, true, true, true, true, false, true, true, true, true, false, false, false, false, false] (.float .f32 bv) rfl (by rfl) (by kernel_rfl) (by kernel_rfl) (by kernel_rfl) (fun wq hS => by have hcell : wq.cell? ⟨w.heap.size + 1, 1, none⟩ = some (.float .f32 bv) := (cell_of_row wq (w.heap.size + 1) 1 _ _ _ (hS.at (x := (w.heap.size + 1, #[.float .f32 bh, .float .f32 bv], 44)) (by simp))).trans rfl; clear hS; unfold execOp; go_simp) (by rfl) (by rfl) (kd) ?_
  refine take_val 10 { tmps := (.agg #[.float .f32 ah, .float .f32 av] :: .agg #[.float .f32 bh, .float .f32 bv] :: .float .f32 x :: .pointer (some ⟨w.heap.size, 0, none⟩) :: .pointer (some ⟨w.heap.size + 1, 0, none⟩) :: undef :: .pointer (some ⟨w.heap.size + 1 + 1, 0, none⟩) :: .int .i64 0 :: undef :: .agg #[.float .f32 ah, .float .f32 av] :: .bool true :: .bool false :: .bool false :: .agg #[.float .f32 bh, .float .f32 bv] :: .bool true :: .bool false :: .bool false :: undef :: .float .f32 x :: .bool true :: .bool false :: undef :: .pointer (some ⟨w.heap.size, 0, none⟩) :: .float .f32 ah :: .pointer (some ⟨w.heap.size + 1, 0, none⟩) :: .float .f32 bh :: .float .f32 x :: undef :: .pointer (some ⟨w.heap.size, 1, none⟩) :: .float .f32 av :: .pointer (some ⟨w.heap.size + 1, 1, none⟩) :: .float .f32 bv :: .float .f32 x :: undef :: undef :: undef :: undef :: undef :: undef :: undef :: []).toArray, defers := [] } #[true, true, true, true, true, false, true, true, true, true, true, false, false, false, false] (.float .f32 x) rfl (by rfl) (by kernel_rfl) (by kernel_rfl) (by kernel_rfl) (fun w => by rfl) (by rfl) (by rfl) (kd) ?_
  refine wpAnyH_ready (rs := [5, 13]) (by kernel_rfl) (by simp) ?_
  refine callK 5 { tmps := (.agg #[.float .f32 ah, .float .f32 av] :: .agg #[.float .f32 bh, .float .f32 bv] :: .float .f32 x :: .pointer (some ⟨w.heap.size, 0, none⟩) :: .pointer (some ⟨w.heap.size + 1, 0, none⟩) :: undef :: .pointer (some ⟨w.heap.size + 1 + 1, 0, none⟩) :: .int .i64 0 :: undef :: .agg #[.float .f32 ah, .float .f32 av] :: .bool true :: .bool false :: .bool false :: .agg #[.float .f32 bh, .float .f32 bv] :: .bool true :: .bool false :: .bool false :: undef :: .float .f32 x :: .bool true :: .bool false :: undef :: .pointer (some ⟨w.heap.size, 0, none⟩) :: .float .f32 ah :: .pointer (some ⟨w.heap.size + 1, 0, none⟩) :: .float .f32 bh :: .float .f32 x :: .float .f32 (mixW ah bh x) :: .pointer (some ⟨w.heap.size, 1, none⟩) :: .float .f32 av :: .pointer (some ⟨w.heap.size + 1, 1, none⟩) :: .float .f32 bv :: .float .f32 x :: undef :: undef :: undef :: undef :: undef :: undef :: undef :: []).toArray, defers := [] } #[true, true, true, true, true, true, true, true, true, true, true, false, false, false, false] (.float .f32 (mixW ah bh x)) kd rfl (by rfl) 210 #[.float .f32 ah, .float .f32 bh, .float .f32 x] (run_mixN3 _ _ _ rfl _ _ rfl _ _ rfl _ _ _ _ _ _) (by rfl) (by rfl) (loose (iMixN _ _ _ HM1.out _)) (fun w1 k1 => ?_) ?_
  · refine ⟨k1, ?_⟩
    refine wpAnyH_ready (rs := [11, 13]) (by kernel_rfl) (by simp) ?_
    refine callK 11 { tmps := (.agg #[.float .f32 ah, .float .f32 av] :: .agg #[.float .f32 bh, .float .f32 bv] :: .float .f32 x :: .pointer (some ⟨w.heap.size, 0, none⟩) :: .pointer (some ⟨w.heap.size + 1, 0, none⟩) :: undef :: .pointer (some ⟨w.heap.size + 1 + 1, 0, none⟩) :: .int .i64 0 :: undef :: .agg #[.float .f32 ah, .float .f32 av] :: .bool true :: .bool false :: .bool false :: .agg #[.float .f32 bh, .float .f32 bv] :: .bool true :: .bool false :: .bool false :: undef :: .float .f32 x :: .bool true :: .bool false :: undef :: .pointer (some ⟨w.heap.size, 0, none⟩) :: .float .f32 ah :: .pointer (some ⟨w.heap.size + 1, 0, none⟩) :: .float .f32 bh :: .float .f32 x :: .float .f32 (mixW ah bh x) :: .pointer (some ⟨w.heap.size, 1, none⟩) :: .float .f32 av :: .pointer (some ⟨w.heap.size + 1, 1, none⟩) :: .float .f32 bv :: .float .f32 x :: .float .f32 (mixW av bv x) :: undef :: undef :: undef :: undef :: undef :: undef :: []).toArray, defers := [] } #[true, true, true, true, true, true, true, true, true, true, true, true, false, false, false] (.float .f32 (mixW av bv x)) k1 rfl (by rfl) 210 #[.float .f32 av, .float .f32 bv, .float .f32 x] (run_mixN3 _ _ _ rfl _ _ rfl _ _ rfl _ _ _ _ _ _) (by rfl) (by rfl) (loose (iMixN _ _ _ HM2.out _)) (fun w2 k2 => ?_) ?_
    · refine ⟨k2, ?_⟩
      refine take_val 12 { tmps := (.agg #[.float .f32 ah, .float .f32 av] :: .agg #[.float .f32 bh, .float .f32 bv] :: .float .f32 x :: .pointer (some ⟨w.heap.size, 0, none⟩) :: .pointer (some ⟨w.heap.size + 1, 0, none⟩) :: undef :: .pointer (some ⟨w.heap.size + 1 + 1, 0, none⟩) :: .int .i64 0 :: undef :: .agg #[.float .f32 ah, .float .f32 av] :: .bool true :: .bool false :: .bool false :: .agg #[.float .f32 bh, .float .f32 bv] :: .bool true :: .bool false :: .bool false :: undef :: .float .f32 x :: .bool true :: .bool false :: undef :: .pointer (some ⟨w.heap.size, 0, none⟩) :: .float .f32 ah :: .pointer (some ⟨w.heap.size + 1, 0, none⟩) :: .float .f32 bh :: .float .f32 x :: .float .f32 (mixW ah bh x) :: .pointer (some ⟨w.heap.size, 1, none⟩) :: .float .f32 av :: .pointer (some ⟨w.heap.size + 1, 1, none⟩) :: .float .f32 bv :: .float .f32 x :: .float .f32 (mixW av bv x) :: .agg #[.float .f32 (mixW ah bh x), .float .f32 (mixW av bv x)] :: undef :: undef :: undef :: undef :: undef :: []).toArray, defers := [] } #[true, true, true, true, true, true, true, true, true, true, true, true, true, false, false] (.agg #[.float .f32 (mixW ah bh x), .float .f32 (mixW av bv x)]) rfl (by rfl) (by kernel_rfl) (by kernel_rfl) (by kernel_rfl) (fun w => by unfold execOp; go_simp) (by rfl) (by rfl) (k2) ?_
      refine wpAnyH_ready (rs := [13]) (by kernel_rfl) (by simp) ?_
      refine allocK 13 (fun g3 => { tmps := (.agg #[.float .f32 ah, .float .f32 av] :: .agg #[.float .f32 bh, .float .f32 bv] :: .float .f32 x :: .pointer (some ⟨w.heap.size, 0, none⟩) :: .pointer (some ⟨w.heap.size + 1, 0, none⟩) :: undef :: .pointer (some ⟨w.heap.size + 1 + 1, 0, none⟩) :: .int .i64 0 :: .pointer (some ⟨g3, 0, none⟩) :: .agg #[.float .f32 ah, .float .f32 av] :: .bool true :: .bool false :: .bool false :: .agg #[.float .f32 bh, .float .f32 bv] :: .bool true :: .bool false :: .bool false :: undef :: .float .f32 x :: .bool true :: .bool false :: undef :: .pointer (some ⟨w.heap.size, 0, none⟩) :: .float .f32 ah :: .pointer (some ⟨w.heap.size + 1, 0, none⟩) :: .float .f32 bh :: .float .f32 x :: .float .f32 (mixW ah bh x) :: .pointer (some ⟨w.heap.size, 1, none⟩) :: .float .f32 av :: .pointer (some ⟨w.heap.size + 1, 1, none⟩) :: .float .f32 bv :: .float .f32 x :: .float .f32 (mixW av bv x) :: .agg #[.float .f32 (mixW ah bh x), .float .f32 (mixW av bv x)] :: undef :: undef :: undef :: undef :: undef :: []).toArray, defers := [] }) #[true, true, true, true, true, true, true, true, true, true, true, true, true, true, false] k2 rfl (by rfl) (#[.float .f32 0, .float .f32 0]) 44 (alloc_air _ _ _ _ _ _ _) (fun g => by rfl) (by rfl) (fun w3 g3 k3 hB3 hn3 => ?_) AllReadyH.nil
      refine ⟨k3.tail, ?_⟩
      refine wpAnyH_ready (rs := [14]) (by kernel_rfl) (by simp) ?_
      refine storeK 14 { tmps := (.agg #[.float .f32 ah, .float .f32 av] :: .agg #[.float .f32 bh, .float .f32 bv] :: .float .f32 x :: .pointer (some ⟨w.heap.size, 0, none⟩) :: .pointer (some ⟨w.heap.size + 1, 0, none⟩) :: undef :: .pointer (some ⟨w.heap.size + 1 + 1, 0, none⟩) :: .int .i64 0 :: .pointer (some ⟨g3, 0, none⟩) :: .agg #[.float .f32 ah, .float .f32 av] :: .bool true :: .bool false :: .bool false :: .agg #[.float .f32 bh, .float .f32 bv] :: .bool true :: .bool false :: .bool false :: undef :: .float .f32 x :: .bool true :: .bool false :: undef :: .pointer (some ⟨w.heap.size, 0, none⟩) :: .float .f32 ah :: .pointer (some ⟨w.heap.size + 1, 0, none⟩) :: .float .f32 bh :: .float .f32 x :: .float .f32 (mixW ah bh x) :: .pointer (some ⟨w.heap.size, 1, none⟩) :: .float .f32 av :: .pointer (some ⟨w.heap.size + 1, 1, none⟩) :: .float .f32 bv :: .float .f32 x :: .float .f32 (mixW av bv x) :: .agg #[.float .f32 (mixW ah bh x), .float .f32 (mixW av bv x)] :: undef :: undef :: undef :: undef :: undef :: []).toArray, defers := [] } #[true, true, true, true, true, true, true, true, true, true, true, true, true, true, true] k3 hB3 hn3 rfl (by rfl) 44 _ _ rfl (#[.float .f32 (mixW ah bh x), .float .f32 (mixW av bv x)]) (by rfl) (by rfl) (info_air) (by simp) (by simp [Value.oneCell']) (by rfl) (by rfl) (fun w4 k4 => ?_) AllReadyH.nil
      refine ⟨k4.tail, ?_⟩
      exact wpAnyH_done (by kernel_rfl) (NoPanic.normal (key g3 _ (hid k4))) _
    refine allocK 13 (fun g5 => { tmps := (.agg #[.float .f32 ah, .float .f32 av] :: .agg #[.float .f32 bh, .float .f32 bv] :: .float .f32 x :: .pointer (some ⟨w.heap.size, 0, none⟩) :: .pointer (some ⟨w.heap.size + 1, 0, none⟩) :: undef :: .pointer (some ⟨w.heap.size + 1 + 1, 0, none⟩) :: .int .i64 0 :: .pointer (some ⟨g5, 0, none⟩) :: .agg #[.float .f32 ah, .float .f32 av] :: .bool true :: .bool false :: .bool false :: .agg #[.float .f32 bh, .float .f32 bv] :: .bool true :: .bool false :: .bool false :: undef :: .float .f32 x :: .bool true :: .bool false :: undef :: .pointer (some ⟨w.heap.size, 0, none⟩) :: .float .f32 ah :: .pointer (some ⟨w.heap.size + 1, 0, none⟩) :: .float .f32 bh :: .float .f32 x :: .float .f32 (mixW ah bh x) :: .pointer (some ⟨w.heap.size, 1, none⟩) :: .float .f32 av :: .pointer (some ⟨w.heap.size + 1, 1, none⟩) :: .float .f32 bv :: .float .f32 x :: undef :: undef :: undef :: undef :: undef :: undef :: undef :: []).toArray, defers := [] }) #[true, true, true, true, true, true, true, true, true, true, true, false, false, true, false] k1 rfl (by rfl) (#[.float .f32 0, .float .f32 0]) 44 (alloc_air _ _ _ _ _ _ _) (fun g => by rfl) (by rfl) (fun w5 g5 k5 hB5 hn5 => ?_) AllReadyH.nil
    refine ⟨k5.tail, ?_⟩
    refine wpAnyH_ready (rs := [11]) (by kernel_rfl) (by simp) ?_
    refine callK 11 { tmps := (.agg #[.float .f32 ah, .float .f32 av] :: .agg #[.float .f32 bh, .float .f32 bv] :: .float .f32 x :: .pointer (some ⟨w.heap.size, 0, none⟩) :: .pointer (some ⟨w.heap.size + 1, 0, none⟩) :: undef :: .pointer (some ⟨w.heap.size + 1 + 1, 0, none⟩) :: .int .i64 0 :: .pointer (some ⟨g5, 0, none⟩) :: .agg #[.float .f32 ah, .float .f32 av] :: .bool true :: .bool false :: .bool false :: .agg #[.float .f32 bh, .float .f32 bv] :: .bool true :: .bool false :: .bool false :: undef :: .float .f32 x :: .bool true :: .bool false :: undef :: .pointer (some ⟨w.heap.size, 0, none⟩) :: .float .f32 ah :: .pointer (some ⟨w.heap.size + 1, 0, none⟩) :: .float .f32 bh :: .float .f32 x :: .float .f32 (mixW ah bh x) :: .pointer (some ⟨w.heap.size, 1, none⟩) :: .float .f32 av :: .pointer (some ⟨w.heap.size + 1, 1, none⟩) :: .float .f32 bv :: .float .f32 x :: .float .f32 (mixW av bv x) :: undef :: undef :: undef :: undef :: undef :: undef :: []).toArray, defers := [] } #[true, true, true, true, true, true, true, true, true, true, true, true, false, true, false] (.float .f32 (mixW av bv x)) k5 rfl (by rfl) 210 #[.float .f32 av, .float .f32 bv, .float .f32 x] (run_mixN3 _ _ _ rfl _ _ rfl _ _ rfl _ _ _ _ _ _) (by rfl) (by rfl) (loose (iMixN _ _ _ HM2.out _)) (fun w6 k6 => ?_) AllReadyH.nil
    refine ⟨k6.tail, ?_⟩
    refine take_val 12 { tmps := (.agg #[.float .f32 ah, .float .f32 av] :: .agg #[.float .f32 bh, .float .f32 bv] :: .float .f32 x :: .pointer (some ⟨w.heap.size, 0, none⟩) :: .pointer (some ⟨w.heap.size + 1, 0, none⟩) :: undef :: .pointer (some ⟨w.heap.size + 1 + 1, 0, none⟩) :: .int .i64 0 :: .pointer (some ⟨g5, 0, none⟩) :: .agg #[.float .f32 ah, .float .f32 av] :: .bool true :: .bool false :: .bool false :: .agg #[.float .f32 bh, .float .f32 bv] :: .bool true :: .bool false :: .bool false :: undef :: .float .f32 x :: .bool true :: .bool false :: undef :: .pointer (some ⟨w.heap.size, 0, none⟩) :: .float .f32 ah :: .pointer (some ⟨w.heap.size + 1, 0, none⟩) :: .float .f32 bh :: .float .f32 x :: .float .f32 (mixW ah bh x) :: .pointer (some ⟨w.heap.size, 1, none⟩) :: .float .f32 av :: .pointer (some ⟨w.heap.size + 1, 1, none⟩) :: .float .f32 bv :: .float .f32 x :: .float .f32 (mixW av bv x) :: .agg #[.float .f32 (mixW ah bh x), .float .f32 (mixW av bv x)] :: undef :: undef :: undef :: undef :: undef :: []).toArray, defers := [] } #[true, true, true, true, true, true, true, true, true, true, true, true, true, true, false] (.agg #[.float .f32 (mixW ah bh x), .float .f32 (mixW av bv x)]) rfl (by rfl) (by kernel_rfl) (by kernel_rfl) (by kernel_rfl) (fun w => by unfold execOp; go_simp) (by rfl) (by rfl) (k6.tail) ?_
    refine wpAnyH_ready (rs := [14]) (by kernel_rfl) (by simp) ?_
    refine storeK 14 { tmps := (.agg #[.float .f32 ah, .float .f32 av] :: .agg #[.float .f32 bh, .float .f32 bv] :: .float .f32 x :: .pointer (some ⟨w.heap.size, 0, none⟩) :: .pointer (some ⟨w.heap.size + 1, 0, none⟩) :: undef :: .pointer (some ⟨w.heap.size + 1 + 1, 0, none⟩) :: .int .i64 0 :: .pointer (some ⟨g5, 0, none⟩) :: .agg #[.float .f32 ah, .float .f32 av] :: .bool true :: .bool false :: .bool false :: .agg #[.float .f32 bh, .float .f32 bv] :: .bool true :: .bool false :: .bool false :: undef :: .float .f32 x :: .bool true :: .bool false :: undef :: .pointer (some ⟨w.heap.size, 0, none⟩) :: .float .f32 ah :: .pointer (some ⟨w.heap.size + 1, 0, none⟩) :: .float .f32 bh :: .float .f32 x :: .float .f32 (mixW ah bh x) :: .pointer (some ⟨w.heap.size, 1, none⟩) :: .float .f32 av :: .pointer (some ⟨w.heap.size + 1, 1, none⟩) :: .float .f32 bv :: .float .f32 x :: .float .f32 (mixW av bv x) :: .agg #[.float .f32 (mixW ah bh x), .float .f32 (mixW av bv x)] :: undef :: undef :: undef :: undef :: undef :: []).toArray, defers := [] } #[true, true, true, true, true, true, true, true, true, true, true, true, true, true, true] k6 hB5 hn5 rfl (by rfl) 44 _ _ rfl (#[.float .f32 (mixW ah bh x), .float .f32 (mixW av bv x)]) (by rfl) (by rfl) (info_air) (by simp) (by simp [Value.oneCell']) (by rfl) (by rfl) (fun w7 k7 => ?_) AllReadyH.nil
    refine ⟨k7.tail, ?_⟩
    exact wpAnyH_done (by kernel_rfl) (NoPanic.normal (key g5 _ (hid k7))) _
  refine allocK 13 (fun g8 => { tmps := (.agg #[.float .f32 ah, .float .f32 av] :: .agg #[.float .f32 bh, .float .f32 bv] :: .float .f32 x :: .pointer (some ⟨w.heap.size, 0, none⟩) :: .pointer (some ⟨w.heap.size + 1, 0, none⟩) :: undef :: .pointer (some ⟨w.heap.size + 1 + 1, 0, none⟩) :: .int .i64 0 :: .pointer (some ⟨g8, 0, none⟩) :: .agg #[.float .f32 ah, .float .f32 av] :: .bool true :: .bool false :: .bool false :: .agg #[.float .f32 bh, .float .f32 bv] :: .bool true :: .bool false :: .bool false :: undef :: .float .f32 x :: .bool true :: .bool false :: undef :: .pointer (some ⟨w.heap.size, 0, none⟩) :: .float .f32 ah :: .pointer (some ⟨w.heap.size + 1, 0, none⟩) :: .float .f32 bh :: .float .f32 x :: undef :: .pointer (some ⟨w.heap.size, 1, none⟩) :: .float .f32 av :: .pointer (some ⟨w.heap.size + 1, 1, none⟩) :: .float .f32 bv :: .float .f32 x :: undef :: undef :: undef :: undef :: undef :: undef :: undef :: []).toArray, defers := [] }) #[true, true, true, true, true, false, true, true, true, true, true, false, false, true, false] kd rfl (by rfl) (#[.float .f32 0, .float .f32 0]) 44 (alloc_air _ _ _ _ _ _ _) (fun g => by rfl) (by rfl) (fun w8 g8 k8 hB8 hn8 => ?_) AllReadyH.nil
  refine ⟨k8.tail, ?_⟩
  refine wpAnyH_ready (rs := [5]) (by kernel_rfl) (by simp) ?_
  refine callK 5 { tmps := (.agg #[.float .f32 ah, .float .f32 av] :: .agg #[.float .f32 bh, .float .f32 bv] :: .float .f32 x :: .pointer (some ⟨w.heap.size, 0, none⟩) :: .pointer (some ⟨w.heap.size + 1, 0, none⟩) :: undef :: .pointer (some ⟨w.heap.size + 1 + 1, 0, none⟩) :: .int .i64 0 :: .pointer (some ⟨g8, 0, none⟩) :: .agg #[.float .f32 ah, .float .f32 av] :: .bool true :: .bool false :: .bool false :: .agg #[.float .f32 bh, .float .f32 bv] :: .bool true :: .bool false :: .bool false :: undef :: .float .f32 x :: .bool true :: .bool false :: undef :: .pointer (some ⟨w.heap.size, 0, none⟩) :: .float .f32 ah :: .pointer (some ⟨w.heap.size + 1, 0, none⟩) :: .float .f32 bh :: .float .f32 x :: .float .f32 (mixW ah bh x) :: .pointer (some ⟨w.heap.size, 1, none⟩) :: .float .f32 av :: .pointer (some ⟨w.heap.size + 1, 1, none⟩) :: .float .f32 bv :: .float .f32 x :: undef :: undef :: undef :: undef :: undef :: undef :: undef :: []).toArray, defers := [] } #[true, true, true, true, true, true, true, true, true, true, true, false, false, true, false] (.float .f32 (mixW ah bh x)) k8 rfl (by rfl) 210 #[.float .f32 ah, .float .f32 bh, .float .f32 x] (run_mixN3 _ _ _ rfl _ _ rfl _ _ rfl _ _ _ _ _ _) (by rfl) (by rfl) (loose (iMixN _ _ _ HM1.out _)) (fun w9 k9 => ?_) AllReadyH.nil
  refine ⟨k9.tail, ?_⟩
  refine wpAnyH_ready (rs := [11]) (by kernel_rfl) (by simp) ?_
  refine callK 11 { tmps := (.agg #[.float .f32 ah, .float .f32 av] :: .agg #[.float .f32 bh, .float .f32 bv] :: .float .f32 x :: .pointer (some ⟨w.heap.size, 0, none⟩) :: .pointer (some ⟨w.heap.size + 1, 0, none⟩) :: undef :: .pointer (some ⟨w.heap.size + 1 + 1, 0, none⟩) :: .int .i64 0 :: .pointer (some ⟨g8, 0, none⟩) :: .agg #[.float .f32 ah, .float .f32 av] :: .bool true :: .bool false :: .bool false :: .agg #[.float .f32 bh, .float .f32 bv] :: .bool true :: .bool false :: .bool false :: undef :: .float .f32 x :: .bool true :: .bool false :: undef :: .pointer (some ⟨w.heap.size, 0, none⟩) :: .float .f32 ah :: .pointer (some ⟨w.heap.size + 1, 0, none⟩) :: .float .f32 bh :: .float .f32 x :: .float .f32 (mixW ah bh x) :: .pointer (some ⟨w.heap.size, 1, none⟩) :: .float .f32 av :: .pointer (some ⟨w.heap.size + 1, 1, none⟩) :: .float .f32 bv :: .float .f32 x :: .float .f32 (mixW av bv x) :: undef :: undef :: undef :: undef :: undef :: undef :: []).toArray, defers := [] } #[true, true, true, true, true, true, true, true, true, true, true, true, false, true, false] (.float .f32 (mixW av bv x)) k9 rfl (by rfl) 210 #[.float .f32 av, .float .f32 bv, .float .f32 x] (run_mixN3 _ _ _ rfl _ _ rfl _ _ rfl _ _ _ _ _ _) (by rfl) (by rfl) (loose (iMixN _ _ _ HM2.out _)) (fun w10 k10 => ?_) AllReadyH.nil
  refine ⟨k10.tail, ?_⟩
  refine take_val 12 { tmps := (.agg #[.float .f32 ah, .float .f32 av] :: .agg #[.float .f32 bh, .float .f32 bv] :: .float .f32 x :: .pointer (some ⟨w.heap.size, 0, none⟩) :: .pointer (some ⟨w.heap.size + 1, 0, none⟩) :: undef :: .pointer (some ⟨w.heap.size + 1 + 1, 0, none⟩) :: .int .i64 0 :: .pointer (some ⟨g8, 0, none⟩) :: .agg #[.float .f32 ah, .float .f32 av] :: .bool true :: .bool false :: .bool false :: .agg #[.float .f32 bh, .float .f32 bv] :: .bool true :: .bool false :: .bool false :: undef :: .float .f32 x :: .bool true :: .bool false :: undef :: .pointer (some ⟨w.heap.size, 0, none⟩) :: .float .f32 ah :: .pointer (some ⟨w.heap.size + 1, 0, none⟩) :: .float .f32 bh :: .float .f32 x :: .float .f32 (mixW ah bh x) :: .pointer (some ⟨w.heap.size, 1, none⟩) :: .float .f32 av :: .pointer (some ⟨w.heap.size + 1, 1, none⟩) :: .float .f32 bv :: .float .f32 x :: .float .f32 (mixW av bv x) :: .agg #[.float .f32 (mixW ah bh x), .float .f32 (mixW av bv x)] :: undef :: undef :: undef :: undef :: undef :: []).toArray, defers := [] } #[true, true, true, true, true, true, true, true, true, true, true, true, true, true, false] (.agg #[.float .f32 (mixW ah bh x), .float .f32 (mixW av bv x)]) rfl (by rfl) (by kernel_rfl) (by kernel_rfl) (by kernel_rfl) (fun w => by unfold execOp; go_simp) (by rfl) (by rfl) (k10.tail) ?_
  refine wpAnyH_ready (rs := [14]) (by kernel_rfl) (by simp) ?_
  refine storeK 14 { tmps := (.agg #[.float .f32 ah, .float .f32 av] :: .agg #[.float .f32 bh, .float .f32 bv] :: .float .f32 x :: .pointer (some ⟨w.heap.size, 0, none⟩) :: .pointer (some ⟨w.heap.size + 1, 0, none⟩) :: undef :: .pointer (some ⟨w.heap.size + 1 + 1, 0, none⟩) :: .int .i64 0 :: .pointer (some ⟨g8, 0, none⟩) :: .agg #[.float .f32 ah, .float .f32 av] :: .bool true :: .bool false :: .bool false :: .agg #[.float .f32 bh, .float .f32 bv] :: .bool true :: .bool false :: .bool false :: undef :: .float .f32 x :: .bool true :: .bool false :: undef :: .pointer (some ⟨w.heap.size, 0, none⟩) :: .float .f32 ah :: .pointer (some ⟨w.heap.size + 1, 0, none⟩) :: .float .f32 bh :: .float .f32 x :: .float .f32 (mixW ah bh x) :: .pointer (some ⟨w.heap.size, 1, none⟩) :: .float .f32 av :: .pointer (some ⟨w.heap.size + 1, 1, none⟩) :: .float .f32 bv :: .float .f32 x :: .float .f32 (mixW av bv x) :: .agg #[.float .f32 (mixW ah bh x), .float .f32 (mixW av bv x)] :: undef :: undef :: undef :: undef :: undef :: []).toArray, defers := [] } #[true, true, true, true, true, true, true, true, true, true, true, true, true, true, true] k10 hB8 hn8 rfl (by rfl) 44 _ _ rfl (#[.float .f32 (mixW ah bh x), .float .f32 (mixW av bv x)]) (by rfl) (by rfl) (info_air) (by simp) (by simp [Value.oneCell']) (by rfl) (by rfl) (fun w11 k11 => ?_) AllReadyH.nil
  refine ⟨k11.tail, ?_⟩
  exact wpAnyH_done (by kernel_rfl) (NoPanic.normal (key g8 _ (hid k11))) _

set_option maxRecDepth 100000 in
set_option maxHeartbeats 2000000 in
theorem iMixAir_state (ah av bh bv x : Nat) (hv1 : av < 4294967296) (hq1 : airB ah av = true) (hv2 : bv < 4294967296) (hq2 : airB bh bv = true) (hx : Share x) (M1 : MixF ah bh x) (M2 : MixF av bv x) (hr : airB (mixW ah bh x) (mixW av bv x) = false) (w : World) :
    Calls Try.prog 157 #[.agg #[.float .f32 ah, .float .f32 av], .agg #[.float .f32 bh, .float .f32 bv], .float .f32 x] w fun e w' => e = .returned (.tuple #[.agg #[.float .f32 0, .float .f32 0], .int .i64 4]) ∧ Below w.heap.size w w' := by
  have k0 : Hid (Kept w [(w.heap.size, #[.float .f32 ah, .float .f32 av], 44), (w.heap.size + 1, #[.float .f32 bh, .float .f32 bv], 44), (w.heap.size + 1 + 1, #[.float .f32 0, .float .f32 0], 44)] (((w.alloc (.cells (#[.float .f32 ah, .float .f32 av]) 44)).alloc (.cells (#[.float .f32 bh, .float .f32 bv]) 44)).alloc (.cells (#[.float .f32 0, .float .f32 0]) 44))) := hid (((((Kept.nil w).push (#[.float .f32 ah, .float .f32 av]) 44).push (#[.float .f32 bh, .float .f32 bv]) 44).push (#[.float .f32 0, .float .f32 0]) 44).sub (by simp))
  have Hhv1 := hid hv1
  have Hhq1 := hid hq1
  have Hhv2 := hid hv2
  have Hhq2 := hid hq2
  have Hhx := hid hx
  have HM1 := hid M1
  have HM2 := hid M2
  have Hhr := hid hr
  clear hv1 hq1 hv2 hq2 hx M1 M2 hr
  go_enter Try.func157, Try.ntmps157
  go_wp2_with (first | (refine wpList_load_row rfl 44 _ rfl (w.heap.size) rfl 44 (#[.float .f32 ah, .float .f32 av]) (0, 0) _ (k0.out.at (x := (w.heap.size, #[.float .f32 ah, .float .f32 av], 44)) (by simp)) Try.underlying44 rfl (info_air) ?_))
  refine (iValidAir ah av Hhv1.out true Hhq1.out _).mono ?_
  rintro e w0 ⟨rfl, hb0⟩
  have k1 := hid (k0.out.stay hb0)
  clear hb0
  go_wp2_with (first | (refine wpList_load_g rfl 44 _ rfl (w.heap.size + 1) rfl 44 (#[.float .f32 bh, .float .f32 bv]) (0, 0) _ (k1.out.at (x := (w.heap.size + 1, #[.float .f32 bh, .float .f32 bv], 44)) (by simp)) Try.underlying44 rfl (info_air) ?_))
  refine (iValidAir bh bv Hhv2.out true Hhq2.out _).mono ?_
  rintro e w1 ⟨rfl, hb1⟩
  have k2 := hid (k1.out.stay hb1)
  clear hb1
  go_wp2_with fail
  refine (iShare_t x Hhx.out _).mono ?_
  rintro e w2 ⟨rfl, rfl⟩
  go_wp2_with fail
  rename_i Q1 K1 hK1
  have key : ∀ (a0 : Nat) (w1 : World), Hid (Kept w [(a0, #[.float .f32 (mixW ah bh x), .float .f32 (mixW av bv x)], 44), (w.heap.size, #[.float .f32 ah, .float .f32 av], 44), (w.heap.size + 1, #[.float .f32 bh, .float .f32 bv], 44), (w.heap.size + 1 + 1, #[.float .f32 0, .float .f32 0], 44)] w1) → K1 { tmps := (.agg #[.float .f32 ah, .float .f32 av] :: .agg #[.float .f32 bh, .float .f32 bv] :: .float .f32 x :: .pointer (some ⟨w.heap.size, 0, none⟩) :: .pointer (some ⟨w.heap.size + 1, 0, none⟩) :: undef :: .pointer (some ⟨w.heap.size + 1 + 1, 0, none⟩) :: .int .i64 0 :: .pointer (some ⟨a0, 0, none⟩) :: .agg #[.float .f32 ah, .float .f32 av] :: .bool true :: .bool false :: .bool false :: .agg #[.float .f32 bh, .float .f32 bv] :: .bool true :: .bool false :: .bool false :: undef :: .float .f32 x :: .bool true :: .bool false :: undef :: .pointer (some ⟨w.heap.size, 0, none⟩) :: .float .f32 ah :: .pointer (some ⟨w.heap.size + 1, 0, none⟩) :: .float .f32 bh :: .float .f32 x :: .float .f32 (mixW ah bh x) :: .pointer (some ⟨w.heap.size, 1, none⟩) :: .float .f32 av :: .pointer (some ⟨w.heap.size + 1, 1, none⟩) :: .float .f32 bv :: .float .f32 x :: .float .f32 (mixW av bv x) :: .agg #[.float .f32 (mixW ah bh x), .float .f32 (mixW av bv x)] :: undef :: undef :: undef :: undef :: undef :: []).toArray, defers := [] } w1 := by
    intro a0 w1 k1
    clear k2
    go_wp2_with (first | (refine wpList_load_row rfl 44 _ rfl (a0) rfl 44 (#[.float .f32 (mixW ah bh x), .float .f32 (mixW av bv x)]) (0, 0) _ (k1.out.at (x := (a0, #[.float .f32 (mixW ah bh x), .float .f32 (mixW av bv x)], 44)) (by simp)) Try.underlying44 rfl (info_air) ?_))
    refine (iValidAir _ _ HM2.out.lt false Hhr.out _).mono ?_
    rintro e w50 ⟨rfl, hb50⟩
    have k51 := hid (k1.out.stay hb50)
    clear hb50
    go_wp2_with (first | (refine wpList_store_row rfl 44 _ _ rfl (w.heap.size + 1 + 1) (#[.float .f32 0, .float .f32 0]) rfl rfl 44 _ (k51.out.at (x := (w.heap.size + 1 + 1, #[.float .f32 0, .float .f32 0], 44)) (by simp)) (info_air) (by simp) (by simp [Value.oneCell']) ?_))
    exact bodyPost_ret (results_row_tmp rfl _ _ (w.heap.size + 1 + 1) 44 (#[.float .f32 0, .float .f32 0]) (0, 0) _ rfl (setRow_heap _ _ _ _ _ _ (k51.out.at (x := (w.heap.size + 1 + 1, #[.float .f32 0, .float .f32 0], 44)) (by simp))) Try.underlying44 rfl info_air) rfl ⟨rfl, below_row k51.out.1 (by omega) _⟩
  refine region_kept (w0 := w) (l := [(w.heap.size, #[.float .f32 ah, .float .f32 av], 44), (w.heap.size + 1, #[.float .f32 bh, .float .f32 bv], 44), (w.heap.size + 1 + 1, #[.float .f32 0, .float .f32 0], 44)]) 15 #[false, false, false, false, false, false, false, false, false, false, false, false, false, false, false] (by kernel_rfl) rfl rfl ?_
  have kd := k2.out.drew
  clear k2
  generalize World.drew _ = wd at kd ⊢
  refine take_val 0 { tmps := (.agg #[.float .f32 ah, .float .f32 av] :: .agg #[.float .f32 bh, .float .f32 bv] :: .float .f32 x :: .pointer (some ⟨w.heap.size, 0, none⟩) :: .pointer (some ⟨w.heap.size + 1, 0, none⟩) :: undef :: .pointer (some ⟨w.heap.size + 1 + 1, 0, none⟩) :: .int .i64 0 :: undef :: .agg #[.float .f32 ah, .float .f32 av] :: .bool true :: .bool false :: .bool false :: .agg #[.float .f32 bh, .float .f32 bv] :: .bool true :: .bool false :: .bool false :: undef :: .float .f32 x :: .bool true :: .bool false :: undef :: .pointer (some ⟨w.heap.size, 0, none⟩) :: undef :: undef :: undef :: undef :: undef :: undef :: undef :: undef :: undef :: undef :: undef :: undef :: undef :: undef :: undef :: undef :: undef :: []).toArray, defers := [] } #[true, false, false, false, false, false, false, false, false, false, false, false, false, false, false] (.pointer (some ⟨w.heap.size, 0, none⟩)) rfl (by rfl) (by kernel_rfl) (by kernel_rfl) (by kernel_rfl) (fun w => by unfold execOp; go_simp) (by rfl) (by rfl) (kd) ?_
  refine take_cell 1 { tmps := (.agg #[.float .f32 ah, .float .f32 av] :: .agg #[.float .f32 bh, .float .f32 bv] :: .float .f32 x :: .pointer (some ⟨w.heap.size, 0, none⟩) :: .pointer (some ⟨w.heap.size + 1, 0, none⟩) :: undef :: .pointer (some ⟨w.heap.size + 1 + 1, 0, none⟩) :: .int .i64 0 :: undef :: .agg #[.float .f32 ah, .float .f32 av] :: .bool true :: .bool false :: .bool false :: .agg #[.float .f32 bh, .float .f32 bv] :: .bool true :: .bool false :: .bool false :: undef :: .float .f32 x :: .bool true :: .bool false :: undef :: .pointer (some ⟨w.heap.size, 0, none⟩) :: .float .f32 ah :: undef :: undef :: undef :: undef :: undef :: undef :: undef :: undef :: undef :: undef :: undef :: undef :: undef :: undef :: undef :: undef :: []).toArray, defers := [] } #[true, true, false, false, false, false, false, false, false, false, false, false, false, false, false] (.float .f32 ah) rfl (by rfl) (by kernel_rfl) (by kernel_rfl) (by kernel_rfl) (fun wq hS => by have hcell : wq.cell? ⟨w.heap.size, 0, none⟩ = some (.float .f32 ah) := (cell_of_row wq (w.heap.size) 0 _ _ _ (hS.at (x := (w.heap.size, #[.float .f32 ah, .float .f32 av], 44)) (by simp))).trans rfl; clear hS; unfold execOp; go_simp) (by rfl) (by rfl) (kd) ?_
  refine take_val 2 { tmps := (.agg #[.float .f32 ah, .float .f32 av] :: .agg #[.float .f32 bh, .float .f32 bv] :: .float .f32 x :: .pointer (some ⟨w.heap.size, 0, none⟩) :: .pointer (some ⟨w.heap.size + 1, 0, none⟩) :: undef :: .pointer (some ⟨w.heap.size + 1 + 1, 0, none⟩) :: .int .i64 0 :: undef :: .agg #[.float .f32 ah, .float .f32 av] :: .bool true :: .bool false :: .bool false :: .agg #[.float .f32 bh, .float .f32 bv] :: .bool true :: .bool false :: .bool false :: undef :: .float .f32 x :: .bool true :: .bool false :: undef :: .pointer (some ⟨w.heap.size, 0, none⟩) :: .float .f32 ah :: .pointer (some ⟨w.heap.size + 1, 0, none⟩) :: undef :: undef :: undef :: undef :: undef :: undef :: undef :: undef :: undef :: undef :: undef :: undef :: undef :: undef :: undef :: []).toArray, defers := [] } #[true, true, true, false, false, false, false, false, false, false, false, false, false, false, false] (.pointer (some ⟨w.heap.size + 1, 0, none⟩)) rfl (by rfl) (by kernel_rfl) (by kernel_rfl) (by kernel_rfl) (fun w => by unfold execOp; go_simp) (by rfl) (by rfl) (kd) ?_
  refine take_cell 3 { tmps := (.agg #[.float .f32 ah, .float .f32 av] :: .agg #[.float .f32 bh, .float .f32 bv] :: .float .f32 x :: .pointer (some ⟨w.heap.size, 0, none⟩) :: .pointer (some ⟨w.heap.size + 1, 0, none⟩) :: undef :: .pointer (some ⟨w.heap.size + 1 + 1, 0, none⟩) :: .int .i64 0 :: undef :: .agg #[.float .f32 ah, .float .f32 av] :: .bool true :: .bool false :: .bool false :: .agg #[.float .f32 bh, .float .f32 bv] :: .bool true :: .bool false :: .bool false :: undef :: .float .f32 x :: .bool true :: .bool false :: undef :: .pointer (some ⟨w.heap.size, 0, none⟩) :: .float .f32 ah :: .pointer (some ⟨w.heap.size + 1, 0, none⟩) :: .float .f32 bh :: undef :: undef :: undef :: undef :: undef :: undef :: undef :: undef :: undef :: undef :: undef :: undef :: undef :: undef :: []).toArray, defers := [] } #[true, true, true, true, false, false, false, false, false, false, false, false, false, false, false] (.float .f32 bh) rfl (by rfl) (by kernel_rfl) (by kernel_rfl) (by kernel_rfl) (fun wq hS => by have hcell : wq.cell? ⟨w.heap.size + 1, 0, none⟩ = some (.float .f32 bh) := (cell_of_row wq (w.heap.size + 1) 0 _ _ _ (hS.at (x := (w.heap.size + 1, #[.float .f32 bh, .float .f32 bv], 44)) (by simp))).trans rfl; clear hS; unfold execOp; go_simp) (by rfl) (by rfl) (kd) ?_
  refine take_val 4 { tmps := (.agg #[.float .f32 ah, .float .f32 av] :: .agg #[.float .f32 bh, .float .f32 bv] :: .float .f32 x :: .pointer (some ⟨w.heap.size, 0, none⟩) :: .pointer (some ⟨w.heap.size + 1, 0, none⟩) :: undef :: .pointer (some ⟨w.heap.size + 1 + 1, 0, none⟩) :: .int .i64 0 :: undef :: .agg #[.float .f32 ah, .float .f32 av] :: .bool true :: .bool false :: .bool false :: .agg #[.float .f32 bh, .float .f32 bv] :: .bool true :: .bool false :: .bool false :: undef :: .float .f32 x :: .bool true :: .bool false :: undef :: .pointer (some ⟨w.heap.size, 0, none⟩) :: .float .f32 ah :: .pointer (some ⟨w.heap.size + 1, 0, none⟩) :: .float .f32 bh :: .float .f32 x :: undef :: undef :: undef :: undef :: undef :: undef :: undef :: undef :: undef :: undef :: undef :: undef :: undef :: []).toArray, defers := [] } #[true, true, true, true, true, false, false, false, false, false, false, false, false, false, false] (.float .f32 x) rfl (by rfl) (by kernel_rfl) (by kernel_rfl) (by kernel_rfl) (fun w => by rfl) (by rfl) (by rfl) (kd) ?_
  refine take_val 6 { tmps := (.agg #[.float .f32 ah, .float .f32 av] :: .agg #[.float .f32 bh, .float .f32 bv] :: .float .f32 x :: .pointer (some ⟨w.heap.size, 0, none⟩) :: .pointer (some ⟨w.heap.size + 1, 0, none⟩) :: undef :: .pointer (some ⟨w.heap.size + 1 + 1, 0, none⟩) :: .int .i64 0 :: undef :: .agg #[.float .f32 ah, .float .f32 av] :: .bool true :: .bool false :: .bool false :: .agg #[.float .f32 bh, .float .f32 bv] :: .bool true :: .bool false :: .bool false :: undef :: .float .f32 x :: .bool true :: .bool false :: undef :: .pointer (some ⟨w.heap.size, 0, none⟩) :: .float .f32 ah :: .pointer (some ⟨w.heap.size + 1, 0, none⟩) :: .float .f32 bh :: .float .f32 x :: undef :: .pointer (some ⟨w.heap.size, 1, none⟩) :: undef :: undef :: undef :: undef :: undef :: undef :: undef :: undef :: undef :: undef :: undef :: []).toArray, defers := [] } #[true, true, true, true, true, false, true, false, false, false, false, false, false, false, false] (.pointer (some ⟨w.heap.size, 1, none⟩)) rfl (by rfl) (by kernel_rfl) (by kernel_rfl) (by kernel_rfl) (fun w => by unfold execOp; go_simp) (by rfl) (by rfl) (kd) ?_
  refine take_cell 7 { tmps := (.agg #[.float .f32 ah, .float .f32 av] :: .agg #[.float .f32 bh, .float .f32 bv] :: .float .f32 x :: .pointer (some ⟨w.heap.size, 0, none⟩) :: .pointer (some ⟨w.heap.size + 1, 0, none⟩) :: undef :: .pointer (some ⟨w.heap.size + 1 + 1, 0, none⟩) :: .int .i64 0 :: undef :: .agg #[.float .f32 ah, .float .f32 av] :: .bool true :: .bool false :: .bool false :: .agg #[.float .f32 bh, .float .f32 bv] :: .bool true :: .bool false :: .bool false :: undef :: .float .f32 x :: .bool true :: .bool false :: undef :: .pointer (some ⟨w.heap.size, 0, none⟩) :: .float .f32 ah :: .pointer (some ⟨w.heap.size + 1, 0, none⟩) :: .float .f32 bh :: .float .f32 x :: undef :: .pointer (some ⟨w.heap.size, 1, none⟩) :: .float .f32 av :: undef :: undef :: undef :: undef :: undef :: undef :: undef :: undef :: undef :: undef :: []).toArray, defers := [] } #[true, true, true, true, true, false, true, true, false, false, false, false, false, false, false] (.float .f32 av) rfl (by rfl) (by kernel_rfl) (by kernel_rfl) (by kernel_rfl) (fun wq hS => by have hcell : wq.cell? ⟨w.heap.size, 1, none⟩ = some (.float .f32 av) := (cell_of_row wq (w.heap.size) 1 _ _ _ (hS.at (x := (w.heap.size, #[.float .f32 ah, .float .f32 av], 44)) (by simp))).trans rfl; clear hS; unfold execOp; go_simp) (by rfl) (by rfl) (kd) ?_
  refine take_val 8 { tmps := (.agg #[.float .f32 ah, .float .f32 av] :: .agg #[.float .f32 bh, .float .f32 bv] :: .float .f32 x :: .pointer (some ⟨w.heap.size, 0, none⟩) :: .pointer (some ⟨w.heap.size + 1, 0, none⟩) :: undef :: .pointer (some ⟨w.heap.size + 1 + 1, 0, none⟩) :: .int .i64 0 :: undef :: .agg #[.float .f32 ah, .float .f32 av] :: .bool true :: .bool false :: .bool false :: .agg #[.float .f32 bh, .float .f32 bv] :: .bool true :: .bool false :: .bool false :: undef :: .float .f32 x :: .bool true :: .bool false :: undef :: .pointer (some ⟨w.heap.size, 0, none⟩) :: .float .f32 ah :: .pointer (some ⟨w.heap.size + 1, 0, none⟩) :: .float .f32 bh :: .float .f32 x :: undef :: .pointer (some ⟨w.heap.size, 1, none⟩) :: .float .f32 av :: .pointer (some ⟨w.heap.size + 1, 1, none⟩) :: undef :: undef :: undef :: undef :: undef :: undef :: undef :: undef :: undef :: []).toArray, defers := [] } #[true, true, true, true, true, false, true, true, true, false, false, false, false, false, false] (.pointer (some ⟨w.heap.size + 1, 1, none⟩)) rfl (by rfl) (by kernel_rfl) (by kernel_rfl) (by kernel_rfl) (fun w => by unfold execOp; go_simp) (by rfl) (by rfl) (kd) ?_
  refine take_cell 9 { tmps := (.agg #[.float .f32 ah, .float .f32 av] :: .agg #[.float .f32 bh, .float .f32 bv] :: .float .f32 x :: .pointer (some ⟨w.heap.size, 0, none⟩) :: .pointer (some ⟨w.heap.size + 1, 0, none⟩) :: undef :: .pointer (some ⟨w.heap.size + 1 + 1, 0, none⟩) :: .int .i64 0 :: undef :: .agg #[.float .f32 ah, .float .f32 av] :: .bool true :: .bool false :: .bool false :: .agg #[.float .f32 bh, .float .f32 bv] :: .bool true :: .bool false :: .bool false :: undef :: .float .f32 x :: .bool true :: .bool false :: undef :: .pointer (some ⟨w.heap.size, 0, none⟩) :: .float .f32 ah :: .pointer (some ⟨w.heap.size + 1, 0, none⟩) :: .float .f32 bh :: .float .f32 x :: undef :: .pointer (some ⟨w.heap.size, 1, none⟩) :: .float .f32 av :: .pointer (some ⟨w.heap.size + 1, 1, none⟩) :: .float .f32 bv :: undef :: undef :: undef :: undef :: undef :: undef :: undef :: undef :: []).toArray, defers := [] } #[true, true, true, true, true, false, true, true, true, true, false, false, false, false, false] (.float .f32 bv) rfl (by rfl) (by kernel_rfl) (by kernel_rfl) (by kernel_rfl) (fun wq hS => by have hcell : wq.cell? ⟨w.heap.size + 1, 1, none⟩ = some (.float .f32 bv) := (cell_of_row wq (w.heap.size + 1) 1 _ _ _ (hS.at (x := (w.heap.size + 1, #[.float .f32 bh, .float .f32 bv], 44)) (by simp))).trans rfl; clear hS; unfold execOp; go_simp) (by rfl) (by rfl) (kd) ?_
  refine take_val 10 { tmps := (.agg #[.float .f32 ah, .float .f32 av] :: .agg #[.float .f32 bh, .float .f32 bv] :: .float .f32 x :: .pointer (some ⟨w.heap.size, 0, none⟩) :: .pointer (some ⟨w.heap.size + 1, 0, none⟩) :: undef :: .pointer (some ⟨w.heap.size + 1 + 1, 0, none⟩) :: .int .i64 0 :: undef :: .agg #[.float .f32 ah, .float .f32 av] :: .bool true :: .bool false :: .bool false :: .agg #[.float .f32 bh, .float .f32 bv] :: .bool true :: .bool false :: .bool false :: undef :: .float .f32 x :: .bool true :: .bool false :: undef :: .pointer (some ⟨w.heap.size, 0, none⟩) :: .float .f32 ah :: .pointer (some ⟨w.heap.size + 1, 0, none⟩) :: .float .f32 bh :: .float .f32 x :: undef :: .pointer (some ⟨w.heap.size, 1, none⟩) :: .float .f32 av :: .pointer (some ⟨w.heap.size + 1, 1, none⟩) :: .float .f32 bv :: .float .f32 x :: undef :: undef :: undef :: undef :: undef :: undef :: undef :: []).toArray, defers := [] } #[true, true, true, true, true, false, true, true, true, true, true, false, false, false, false] (.float .f32 x) rfl (by rfl) (by kernel_rfl) (by kernel_rfl) (by kernel_rfl) (fun w => by rfl) (by rfl) (by rfl) (kd) ?_
  refine wpAnyH_ready (rs := [5, 13]) (by kernel_rfl) (by simp) ?_
  refine callK 5 { tmps := (.agg #[.float .f32 ah, .float .f32 av] :: .agg #[.float .f32 bh, .float .f32 bv] :: .float .f32 x :: .pointer (some ⟨w.heap.size, 0, none⟩) :: .pointer (some ⟨w.heap.size + 1, 0, none⟩) :: undef :: .pointer (some ⟨w.heap.size + 1 + 1, 0, none⟩) :: .int .i64 0 :: undef :: .agg #[.float .f32 ah, .float .f32 av] :: .bool true :: .bool false :: .bool false :: .agg #[.float .f32 bh, .float .f32 bv] :: .bool true :: .bool false :: .bool false :: undef :: .float .f32 x :: .bool true :: .bool false :: undef :: .pointer (some ⟨w.heap.size, 0, none⟩) :: .float .f32 ah :: .pointer (some ⟨w.heap.size + 1, 0, none⟩) :: .float .f32 bh :: .float .f32 x :: .float .f32 (mixW ah bh x) :: .pointer (some ⟨w.heap.size, 1, none⟩) :: .float .f32 av :: .pointer (some ⟨w.heap.size + 1, 1, none⟩) :: .float .f32 bv :: .float .f32 x :: undef :: undef :: undef :: undef :: undef :: undef :: undef :: []).toArray, defers := [] } #[true, true, true, true, true, true, true, true, true, true, true, false, false, false, false] (.float .f32 (mixW ah bh x)) kd rfl (by rfl) 210 #[.float .f32 ah, .float .f32 bh, .float .f32 x] (run_mixN3 _ _ _ rfl _ _ rfl _ _ rfl _ _ _ _ _ _) (by rfl) (by rfl) (loose (iMixN _ _ _ HM1.out _)) (fun w1 k1 => ?_) ?_
  · refine ⟨k1, ?_⟩
    refine wpAnyH_ready (rs := [11, 13]) (by kernel_rfl) (by simp) ?_
    refine callK 11 { tmps := (.agg #[.float .f32 ah, .float .f32 av] :: .agg #[.float .f32 bh, .float .f32 bv] :: .float .f32 x :: .pointer (some ⟨w.heap.size, 0, none⟩) :: .pointer (some ⟨w.heap.size + 1, 0, none⟩) :: undef :: .pointer (some ⟨w.heap.size + 1 + 1, 0, none⟩) :: .int .i64 0 :: undef :: .agg #[.float .f32 ah, .float .f32 av] :: .bool true :: .bool false :: .bool false :: .agg #[.float .f32 bh, .float .f32 bv] :: .bool true :: .bool false :: .bool false :: undef :: .float .f32 x :: .bool true :: .bool false :: undef :: .pointer (some ⟨w.heap.size, 0, none⟩) :: .float .f32 ah :: .pointer (some ⟨w.heap.size + 1, 0, none⟩) :: .float .f32 bh :: .float .f32 x :: .float .f32 (mixW ah bh x) :: .pointer (some ⟨w.heap.size, 1, none⟩) :: .float .f32 av :: .pointer (some ⟨w.heap.size + 1, 1, none⟩) :: .float .f32 bv :: .float .f32 x :: .float .f32 (mixW av bv x) :: undef :: undef :: undef :: undef :: undef :: undef :: []).toArray, defers := [] } #[true, true, true, true, true, true, true, true, true, true, true, true, false, false, false] (.float .f32 (mixW av bv x)) k1 rfl (by rfl) 210 #[.float .f32 av, .float .f32 bv, .float .f32 x] (run_mixN3 _ _ _ rfl _ _ rfl _ _ rfl _ _ _ _ _ _) (by rfl) (by rfl) (loose (iMixN _ _ _ HM2.out _)) (fun w2 k2 => ?_) ?_
    · refine ⟨k2, ?_⟩
      refine take_val 12 { tmps := (.agg #[.float .f32 ah, .float .f32 av] :: .agg #[.float .f32 bh, .float .f32 bv] :: .float .f32 x :: .pointer (some ⟨w.heap.size, 0, none⟩) :: .pointer (some ⟨w.heap.size + 1, 0, none⟩) :: undef :: .pointer (some ⟨w.heap.size + 1 + 1, 0, none⟩) :: .int .i64 0 :: undef :: .agg #[.float .f32 ah, .float .f32 av] :: .bool true :: .bool false :: .bool false :: .agg #[.float .f32 bh, .float .f32 bv] :: .bool true :: .bool false :: .bool false :: undef :: .float .f32 x :: .bool true :: .bool false :: undef :: .pointer (some ⟨w.heap.size, 0, none⟩) :: .float .f32 ah :: .pointer (some ⟨w.heap.size + 1, 0, none⟩) :: .float .f32 bh :: .float .f32 x :: .float .f32 (mixW ah bh x) :: .pointer (some ⟨w.heap.size, 1, none⟩) :: .float .f32 av :: .pointer (some ⟨w.heap.size + 1, 1, none⟩) :: .float .f32 bv :: .float .f32 x :: .float .f32 (mixW av bv x) :: .agg #[.float .f32 (mixW ah bh x), .float .f32 (mixW av bv x)] :: undef :: undef :: undef :: undef :: undef :: []).toArray, defers := [] } #[true, true, true, true, true, true, true, true, true, true, true, true, true, false, false] (.agg #[.float .f32 (mixW ah bh x), .float .f32 (mixW av bv x)]) rfl (by rfl) (by kernel_rfl) (by kernel_rfl) (by kernel_rfl) (fun w => by unfold execOp; go_simp) (by rfl) (by rfl) (k2) ?_
      refine wpAnyH_ready (rs := [13]) (by kernel_rfl) (by simp) ?_
      refine allocK 13 (fun g3 => { tmps := (.agg #[.float .f32 ah, .float .f32 av] :: .agg #[.float .f32 bh, .float .f32 bv] :: .float .f32 x :: .pointer (some ⟨w.heap.size, 0, none⟩) :: .pointer (some ⟨w.heap.size + 1, 0, none⟩) :: undef :: .pointer (some ⟨w.heap.size + 1 + 1, 0, none⟩) :: .int .i64 0 :: .pointer (some ⟨g3, 0, none⟩) :: .agg #[.float .f32 ah, .float .f32 av] :: .bool true :: .bool false :: .bool false :: .agg #[.float .f32 bh, .float .f32 bv] :: .bool true :: .bool false :: .bool false :: undef :: .float .f32 x :: .bool true :: .bool false :: undef :: .pointer (some ⟨w.heap.size, 0, none⟩) :: .float .f32 ah :: .pointer (some ⟨w.heap.size + 1, 0, none⟩) :: .float .f32 bh :: .float .f32 x :: .float .f32 (mixW ah bh x) :: .pointer (some ⟨w.heap.size, 1, none⟩) :: .float .f32 av :: .pointer (some ⟨w.heap.size + 1, 1, none⟩) :: .float .f32 bv :: .float .f32 x :: .float .f32 (mixW av bv x) :: .agg #[.float .f32 (mixW ah bh x), .float .f32 (mixW av bv x)] :: undef :: undef :: undef :: undef :: undef :: []).toArray, defers := [] }) #[true, true, true, true, true, true, true, true, true, true, true, true, true, true, false] k2 rfl (by rfl) (#[.float .f32 0, .float .f32 0]) 44 (alloc_air _ _ _ _ _ _ _) (fun g => by rfl) (by rfl) (fun w3 g3 k3 hB3 hn3 => ?_) AllReadyH.nil
      refine ⟨k3.tail, ?_⟩
      refine wpAnyH_ready (rs := [14]) (by kernel_rfl) (by simp) ?_
      refine storeK 14 { tmps := (.agg #[.float .f32 ah, .float .f32 av] :: .agg #[.float .f32 bh, .float .f32 bv] :: .float .f32 x :: .pointer (some ⟨w.heap.size, 0, none⟩) :: .pointer (some ⟨w.heap.size + 1, 0, none⟩) :: undef :: .pointer (some ⟨w.heap.size + 1 + 1, 0, none⟩) :: .int .i64 0 :: .pointer (some ⟨g3, 0, none⟩) :: .agg #[.float .f32 ah, .float .f32 av] :: .bool true :: .bool false :: .bool false :: .agg #[.float .f32 bh, .float .f32 bv] :: .bool true :: .bool false :: .bool false :: undef :: .float .f32 x :: .bool true :: .bool false :: undef :: .pointer (some ⟨w.heap.size, 0, none⟩) :: .float .f32 ah :: .pointer (some ⟨w.heap.size + 1, 0, none⟩) :: .float .f32 bh :: .float .f32 x :: .float .f32 (mixW ah bh x) :: .pointer (some ⟨w.heap.size, 1, none⟩) :: .float .f32 av :: .pointer (some ⟨w.heap.size + 1, 1, none⟩) :: .float .f32 bv :: .float .f32 x :: .float .f32 (mixW av bv x) :: .agg #[.float .f32 (mixW ah bh x), .float .f32 (mixW av bv x)] :: undef :: undef :: undef :: undef :: undef :: []).toArray, defers := [] } #[true, true, true, true, true, true, true, true, true, true, true, true, true, true, true] k3 hB3 hn3 rfl (by rfl) 44 _ _ rfl (#[.float .f32 (mixW ah bh x), .float .f32 (mixW av bv x)]) (by rfl) (by rfl) (info_air) (by simp) (by simp [Value.oneCell']) (by rfl) (by rfl) (fun w4 k4 => ?_) AllReadyH.nil
      refine ⟨k4.tail, ?_⟩
      exact wpAnyH_done (by kernel_rfl) (NoPanic.normal (key g3 _ (hid k4))) _
    refine allocK 13 (fun g5 => { tmps := (.agg #[.float .f32 ah, .float .f32 av] :: .agg #[.float .f32 bh, .float .f32 bv] :: .float .f32 x :: .pointer (some ⟨w.heap.size, 0, none⟩) :: .pointer (some ⟨w.heap.size + 1, 0, none⟩) :: undef :: .pointer (some ⟨w.heap.size + 1 + 1, 0, none⟩) :: .int .i64 0 :: .pointer (some ⟨g5, 0, none⟩) :: .agg #[.float .f32 ah, .float .f32 av] :: .bool true :: .bool false :: .bool false :: .agg #[.float .f32 bh, .float .f32 bv] :: .bool true :: .bool false :: .bool false :: undef :: .float .f32 x :: .bool true :: .bool false :: undef :: .pointer (some ⟨w.heap.size, 0, none⟩) :: .float .f32 ah :: .pointer (some ⟨w.heap.size + 1, 0, none⟩) :: .float .f32 bh :: .float .f32 x :: .float .f32 (mixW ah bh x) :: .pointer (some ⟨w.heap.size, 1, none⟩) :: .float .f32 av :: .pointer (some ⟨w.heap.size + 1, 1, none⟩) :: .float .f32 bv :: .float .f32 x :: undef :: undef :: undef :: undef :: undef :: undef :: undef :: []).toArray, defers := [] }) #[true, true, true, true, true, true, true, true, true, true, true, false, false, true, false] k1 rfl (by rfl) (#[.float .f32 0, .float .f32 0]) 44 (alloc_air _ _ _ _ _ _ _) (fun g => by rfl) (by rfl) (fun w5 g5 k5 hB5 hn5 => ?_) AllReadyH.nil
    refine ⟨k5.tail, ?_⟩
    refine wpAnyH_ready (rs := [11]) (by kernel_rfl) (by simp) ?_
    refine callK 11 { tmps := (.agg #[.float .f32 ah, .float .f32 av] :: .agg #[.float .f32 bh, .float .f32 bv] :: .float .f32 x :: .pointer (some ⟨w.heap.size, 0, none⟩) :: .pointer (some ⟨w.heap.size + 1, 0, none⟩) :: undef :: .pointer (some ⟨w.heap.size + 1 + 1, 0, none⟩) :: .int .i64 0 :: .pointer (some ⟨g5, 0, none⟩) :: .agg #[.float .f32 ah, .float .f32 av] :: .bool true :: .bool false :: .bool false :: .agg #[.float .f32 bh, .float .f32 bv] :: .bool true :: .bool false :: .bool false :: undef :: .float .f32 x :: .bool true :: .bool false :: undef :: .pointer (some ⟨w.heap.size, 0, none⟩) :: .float .f32 ah :: .pointer (some ⟨w.heap.size + 1, 0, none⟩) :: .float .f32 bh :: .float .f32 x :: .float .f32 (mixW ah bh x) :: .pointer (some ⟨w.heap.size, 1, none⟩) :: .float .f32 av :: .pointer (some ⟨w.heap.size + 1, 1, none⟩) :: .float .f32 bv :: .float .f32 x :: .float .f32 (mixW av bv x) :: undef :: undef :: undef :: undef :: undef :: undef :: []).toArray, defers := [] } #[true, true, true, true, true, true, true, true, true, true, true, true, false, true, false] (.float .f32 (mixW av bv x)) k5 rfl (by rfl) 210 #[.float .f32 av, .float .f32 bv, .float .f32 x] (run_mixN3 _ _ _ rfl _ _ rfl _ _ rfl _ _ _ _ _ _) (by rfl) (by rfl) (loose (iMixN _ _ _ HM2.out _)) (fun w6 k6 => ?_) AllReadyH.nil
    refine ⟨k6.tail, ?_⟩
    refine take_val 12 { tmps := (.agg #[.float .f32 ah, .float .f32 av] :: .agg #[.float .f32 bh, .float .f32 bv] :: .float .f32 x :: .pointer (some ⟨w.heap.size, 0, none⟩) :: .pointer (some ⟨w.heap.size + 1, 0, none⟩) :: undef :: .pointer (some ⟨w.heap.size + 1 + 1, 0, none⟩) :: .int .i64 0 :: .pointer (some ⟨g5, 0, none⟩) :: .agg #[.float .f32 ah, .float .f32 av] :: .bool true :: .bool false :: .bool false :: .agg #[.float .f32 bh, .float .f32 bv] :: .bool true :: .bool false :: .bool false :: undef :: .float .f32 x :: .bool true :: .bool false :: undef :: .pointer (some ⟨w.heap.size, 0, none⟩) :: .float .f32 ah :: .pointer (some ⟨w.heap.size + 1, 0, none⟩) :: .float .f32 bh :: .float .f32 x :: .float .f32 (mixW ah bh x) :: .pointer (some ⟨w.heap.size, 1, none⟩) :: .float .f32 av :: .pointer (some ⟨w.heap.size + 1, 1, none⟩) :: .float .f32 bv :: .float .f32 x :: .float .f32 (mixW av bv x) :: .agg #[.float .f32 (mixW ah bh x), .float .f32 (mixW av bv x)] :: undef :: undef :: undef :: undef :: undef :: []).toArray, defers := [] } #[true, true, true, true, true, true, true, true, true, true, true, true, true, true, false] (.agg #[.float .f32 (mixW ah bh x), .float .f32 (mixW av bv x)]) rfl (by rfl) (by kernel_rfl) (by kernel_rfl) (by kernel_rfl) (fun w => by unfold execOp; go_simp) (by rfl) (by rfl) (k6.tail) ?_
    refine wpAnyH_ready (rs := [14]) (by kernel_rfl) (by simp) ?_
    refine storeK 14 { tmps := (.agg #[.float .f32 ah, .float .f32 av] :: .agg #[.float .f32 bh, .float .f32 bv] :: .float .f32 x :: .pointer (some ⟨w.heap.size, 0, none⟩) :: .pointer (some ⟨w.heap.size + 1, 0, none⟩) :: undef :: .pointer (some ⟨w.heap.size + 1 + 1, 0, none⟩) :: .int .i64 0 :: .pointer (some ⟨g5, 0, none⟩) :: .agg #[.float .f32 ah, .float .f32 av] :: .bool true :: .bool false :: .bool false :: .agg #[.float .f32 bh, .float .f32 bv] :: .bool true :: .bool false :: .bool false :: undef :: .float .f32 x :: .bool true :: .bool false :: undef :: .pointer (some ⟨w.heap.size, 0, none⟩) :: .float .f32 ah :: .pointer (some ⟨w.heap.size + 1, 0, none⟩) :: .float .f32 bh :: .float .f32 x :: .float .f32 (mixW ah bh x) :: .pointer (some ⟨w.heap.size, 1, none⟩) :: .float .f32 av :: .pointer (some ⟨w.heap.size + 1, 1, none⟩) :: .float .f32 bv :: .float .f32 x :: .float .f32 (mixW av bv x) :: .agg #[.float .f32 (mixW ah bh x), .float .f32 (mixW av bv x)] :: undef :: undef :: undef :: undef :: undef :: []).toArray, defers := [] } #[true, true, true, true, true, true, true, true, true, true, true, true, true, true, true] k6 hB5 hn5 rfl (by rfl) 44 _ _ rfl (#[.float .f32 (mixW ah bh x), .float .f32 (mixW av bv x)]) (by rfl) (by rfl) (info_air) (by simp) (by simp [Value.oneCell']) (by rfl) (by rfl) (fun w7 k7 => ?_) AllReadyH.nil
    refine ⟨k7.tail, ?_⟩
    exact wpAnyH_done (by kernel_rfl) (NoPanic.normal (key g5 _ (hid k7))) _
  refine allocK 13 (fun g8 => { tmps := (.agg #[.float .f32 ah, .float .f32 av] :: .agg #[.float .f32 bh, .float .f32 bv] :: .float .f32 x :: .pointer (some ⟨w.heap.size, 0, none⟩) :: .pointer (some ⟨w.heap.size + 1, 0, none⟩) :: undef :: .pointer (some ⟨w.heap.size + 1 + 1, 0, none⟩) :: .int .i64 0 :: .pointer (some ⟨g8, 0, none⟩) :: .agg #[.float .f32 ah, .float .f32 av] :: .bool true :: .bool false :: .bool false :: .agg #[.float .f32 bh, .float .f32 bv] :: .bool true :: .bool false :: .bool false :: undef :: .float .f32 x :: .bool true :: .bool false :: undef :: .pointer (some ⟨w.heap.size, 0, none⟩) :: .float .f32 ah :: .pointer (some ⟨w.heap.size + 1, 0, none⟩) :: .float .f32 bh :: .float .f32 x :: undef :: .pointer (some ⟨w.heap.size, 1, none⟩) :: .float .f32 av :: .pointer (some ⟨w.heap.size + 1, 1, none⟩) :: .float .f32 bv :: .float .f32 x :: undef :: undef :: undef :: undef :: undef :: undef :: undef :: []).toArray, defers := [] }) #[true, true, true, true, true, false, true, true, true, true, true, false, false, true, false] kd rfl (by rfl) (#[.float .f32 0, .float .f32 0]) 44 (alloc_air _ _ _ _ _ _ _) (fun g => by rfl) (by rfl) (fun w8 g8 k8 hB8 hn8 => ?_) AllReadyH.nil
  refine ⟨k8.tail, ?_⟩
  refine wpAnyH_ready (rs := [5]) (by kernel_rfl) (by simp) ?_
  refine callK 5 { tmps := (.agg #[.float .f32 ah, .float .f32 av] :: .agg #[.float .f32 bh, .float .f32 bv] :: .float .f32 x :: .pointer (some ⟨w.heap.size, 0, none⟩) :: .pointer (some ⟨w.heap.size + 1, 0, none⟩) :: undef :: .pointer (some ⟨w.heap.size + 1 + 1, 0, none⟩) :: .int .i64 0 :: .pointer (some ⟨g8, 0, none⟩) :: .agg #[.float .f32 ah, .float .f32 av] :: .bool true :: .bool false :: .bool false :: .agg #[.float .f32 bh, .float .f32 bv] :: .bool true :: .bool false :: .bool false :: undef :: .float .f32 x :: .bool true :: .bool false :: undef :: .pointer (some ⟨w.heap.size, 0, none⟩) :: .float .f32 ah :: .pointer (some ⟨w.heap.size + 1, 0, none⟩) :: .float .f32 bh :: .float .f32 x :: .float .f32 (mixW ah bh x) :: .pointer (some ⟨w.heap.size, 1, none⟩) :: .float .f32 av :: .pointer (some ⟨w.heap.size + 1, 1, none⟩) :: .float .f32 bv :: .float .f32 x :: undef :: undef :: undef :: undef :: undef :: undef :: undef :: []).toArray, defers := [] } #[true, true, true, true, true, true, true, true, true, true, true, false, false, true, false] (.float .f32 (mixW ah bh x)) k8 rfl (by rfl) 210 #[.float .f32 ah, .float .f32 bh, .float .f32 x] (run_mixN3 _ _ _ rfl _ _ rfl _ _ rfl _ _ _ _ _ _) (by rfl) (by rfl) (loose (iMixN _ _ _ HM1.out _)) (fun w9 k9 => ?_) AllReadyH.nil
  refine ⟨k9.tail, ?_⟩
  refine wpAnyH_ready (rs := [11]) (by kernel_rfl) (by simp) ?_
  refine callK 11 { tmps := (.agg #[.float .f32 ah, .float .f32 av] :: .agg #[.float .f32 bh, .float .f32 bv] :: .float .f32 x :: .pointer (some ⟨w.heap.size, 0, none⟩) :: .pointer (some ⟨w.heap.size + 1, 0, none⟩) :: undef :: .pointer (some ⟨w.heap.size + 1 + 1, 0, none⟩) :: .int .i64 0 :: .pointer (some ⟨g8, 0, none⟩) :: .agg #[.float .f32 ah, .float .f32 av] :: .bool true :: .bool false :: .bool false :: .agg #[.float .f32 bh, .float .f32 bv] :: .bool true :: .bool false :: .bool false :: undef :: .float .f32 x :: .bool true :: .bool false :: undef :: .pointer (some ⟨w.heap.size, 0, none⟩) :: .float .f32 ah :: .pointer (some ⟨w.heap.size + 1, 0, none⟩) :: .float .f32 bh :: .float .f32 x :: .float .f32 (mixW ah bh x) :: .pointer (some ⟨w.heap.size, 1, none⟩) :: .float .f32 av :: .pointer (some ⟨w.heap.size + 1, 1, none⟩) :: .float .f32 bv :: .float .f32 x :: .float .f32 (mixW av bv x) :: undef :: undef :: undef :: undef :: undef :: undef :: []).toArray, defers := [] } #[true, true, true, true, true, true, true, true, true, true, true, true, false, true, false] (.float .f32 (mixW av bv x)) k9 rfl (by rfl) 210 #[.float .f32 av, .float .f32 bv, .float .f32 x] (run_mixN3 _ _ _ rfl _ _ rfl _ _ rfl _ _ _ _ _ _) (by rfl) (by rfl) (loose (iMixN _ _ _ HM2.out _)) (fun w10 k10 => ?_) AllReadyH.nil
  refine ⟨k10.tail, ?_⟩
  refine take_val 12 { tmps := (.agg #[.float .f32 ah, .float .f32 av] :: .agg #[.float .f32 bh, .float .f32 bv] :: .float .f32 x :: .pointer (some ⟨w.heap.size, 0, none⟩) :: .pointer (some ⟨w.heap.size + 1, 0, none⟩) :: undef :: .pointer (some ⟨w.heap.size + 1 + 1, 0, none⟩) :: .int .i64 0 :: .pointer (some ⟨g8, 0, none⟩) :: .agg #[.float .f32 ah, .float .f32 av] :: .bool true :: .bool false :: .bool false :: .agg #[.float .f32 bh, .float .f32 bv] :: .bool true :: .bool false :: .bool false :: undef :: .float .f32 x :: .bool true :: .bool false :: undef :: .pointer (some ⟨w.heap.size, 0, none⟩) :: .float .f32 ah :: .pointer (some ⟨w.heap.size + 1, 0, none⟩) :: .float .f32 bh :: .float .f32 x :: .float .f32 (mixW ah bh x) :: .pointer (some ⟨w.heap.size, 1, none⟩) :: .float .f32 av :: .pointer (some ⟨w.heap.size + 1, 1, none⟩) :: .float .f32 bv :: .float .f32 x :: .float .f32 (mixW av bv x) :: .agg #[.float .f32 (mixW ah bh x), .float .f32 (mixW av bv x)] :: undef :: undef :: undef :: undef :: undef :: []).toArray, defers := [] } #[true, true, true, true, true, true, true, true, true, true, true, true, true, true, false] (.agg #[.float .f32 (mixW ah bh x), .float .f32 (mixW av bv x)]) rfl (by rfl) (by kernel_rfl) (by kernel_rfl) (by kernel_rfl) (fun w => by unfold execOp; go_simp) (by rfl) (by rfl) (k10.tail) ?_
  refine wpAnyH_ready (rs := [14]) (by kernel_rfl) (by simp) ?_
  refine storeK 14 { tmps := (.agg #[.float .f32 ah, .float .f32 av] :: .agg #[.float .f32 bh, .float .f32 bv] :: .float .f32 x :: .pointer (some ⟨w.heap.size, 0, none⟩) :: .pointer (some ⟨w.heap.size + 1, 0, none⟩) :: undef :: .pointer (some ⟨w.heap.size + 1 + 1, 0, none⟩) :: .int .i64 0 :: .pointer (some ⟨g8, 0, none⟩) :: .agg #[.float .f32 ah, .float .f32 av] :: .bool true :: .bool false :: .bool false :: .agg #[.float .f32 bh, .float .f32 bv] :: .bool true :: .bool false :: .bool false :: undef :: .float .f32 x :: .bool true :: .bool false :: undef :: .pointer (some ⟨w.heap.size, 0, none⟩) :: .float .f32 ah :: .pointer (some ⟨w.heap.size + 1, 0, none⟩) :: .float .f32 bh :: .float .f32 x :: .float .f32 (mixW ah bh x) :: .pointer (some ⟨w.heap.size, 1, none⟩) :: .float .f32 av :: .pointer (some ⟨w.heap.size + 1, 1, none⟩) :: .float .f32 bv :: .float .f32 x :: .float .f32 (mixW av bv x) :: .agg #[.float .f32 (mixW ah bh x), .float .f32 (mixW av bv x)] :: undef :: undef :: undef :: undef :: undef :: []).toArray, defers := [] } #[true, true, true, true, true, true, true, true, true, true, true, true, true, true, true] k10 hB8 hn8 rfl (by rfl) 44 _ _ rfl (#[.float .f32 (mixW ah bh x), .float .f32 (mixW av bv x)]) (by rfl) (by rfl) (info_air) (by simp) (by simp [Value.oneCell']) (by rfl) (by rfl) (fun w11 k11 => ?_) AllReadyH.nil
  refine ⟨k11.tail, ?_⟩
  exact wpAnyH_done (by kernel_rfl) (NoPanic.normal (key g8 _ (hid k11))) _

theorem iHgt (x : Nat) (hx : x < 4294967296) (q : Bool) (hq : hgtB x = q) (w : World) :
    Calls Try.prog 166 #[.float .f32 x] w fun e w' => e = .returned (.bool q) ∧ Below w.heap.size w w' := by
  have e1 : hgtB x = (amtB x && (FloatKind.f32.format.order x 1106247680 == some .lt || FloatKind.f32.format.order x 1106247680 == some .eq)) := rfl
  rw [e1] at hq
  have Hx := hid hx
  clear e1 hx
  rcases a : amtB x with _ | _
  · have Ha := hid a
    rw [a] at hq
    simp only [Bool.false_and] at hq
    subst hq
    clear a
    go_enter Try.func166, Try.ntmps166
    go_wp2_with fail
    refine (isAmount_f x Hx.out Ha.out _).mono ?_
    rintro e w1 ⟨rfl, hb1⟩
    go_wp2
    go_ret
    exact ⟨rfl, hb1⟩
  · have Ha := hid a
    rw [a] at hq
    simp only [Bool.true_and] at hq
    clear a
    cases q
    all_goals
      go_enter Try.func166, Try.ntmps166
      go_wp2_with fail
      refine (isAmount_t x Ha.out _).mono ?_
      rintro e w1 ⟨rfl, rfl⟩
      go_wp2
      go_ret
      exact ⟨rfl, Below.refl _ _⟩

set_option maxRecDepth 100000 in
theorem sAirAt_t (h v : Nat) (hq : airB h v = true) (w : World) (g o : Nat) (c0 : w.cell? ⟨g, o, none⟩ = some (.float .f32 h)) (c1 : w.cell? ⟨g, o + 1, none⟩ = some (.float .f32 v)) :
    Calls Try.prog 101 #[.pointer (some ⟨g, o, none⟩)] w fun e w' => e = .returned (.bool true) ∧ w = w' := by
  obtain ⟨a, b, c⟩ := airB_iff.1 hq
  have hc : (FloatKind.f32.format.order v 1148846080 == some .lt || FloatKind.f32.format.order v 1148846080 == some .eq) = true := c
  have Ha := hid a
  have Hb := hid b
  clear a b c hq
  go_enter Try.func101, Try.ntmps101
  go_wp2_with fail
  refine (sHeat h true Ha.out _).mono ?_
  rintro e w1 ⟨rfl, rfl⟩
  go_wp2_with fail
  refine (sAmount_t v Hb.out _).mono ?_
  rintro e w1 ⟨rfl, rfl⟩
  go_wp2
  go_ret
  exact ⟨rfl, rfl⟩

set_option maxRecDepth 100000 in
theorem iValidParcel (a h v : Nat) (ha : a < 4294967296) (hv : v < 4294967296) (q : Bool) (hq : parB a h v = q) (w : World) :
    Calls Try.prog 95 #[.agg #[.float .f32 a, .float .f32 h, .float .f32 v]] w fun e w' => e = .returned (.bool q) ∧ Below w.heap.size w w' := by
  have b0 := boxed w (.cells #[.float .f32 a, .float .f32 h, .float .f32 v] 46)
  have A0 := hid (parAt.new w a h v 46)
  have Ha := hid ha
  have Hv := hid hv
  have e1 : parB a h v = (hgtB a && airB h v) := rfl
  rw [e1] at hq
  clear ha hv e1
  rcases x : hgtB a with _ | _
  · have Hx := hid x
    rw [x] at hq
    simp only [Bool.false_and] at hq
    subst hq
    clear x
    go_enter Try.func95, Try.ntmps95
    go_wp2_with fail
    refine (iHgt a Ha.out false Hx.out _).mono ?_
    rintro e w1 ⟨rfl, hb1⟩
    go_wp2
    go_ret
    exact ⟨rfl, stp b0 (Nat.le_refl _) hb1⟩
  · have Hx := hid x
    rw [x] at hq
    simp only [Bool.true_and] at hq
    have Hq := hid hq
    clear x hq
    go_enter Try.func95, Try.ntmps95
    go_wp2_with fail
    refine (iHgt a Ha.out true Hx.out _).mono ?_
    rintro e w1 ⟨rfl, hb1⟩
    have A1 := hid (A0.out.stay hb1)
    have b1 := stp b0 (Nat.le_refl _) hb1
    go_wp2_with (refine wpList_load_air (by rfl) 44 _ rfl w.heap.size rfl a h v 46 A1.out _ Try.underlying44 rfl info_air ?_)
    refine (iValidAir h v Hv.out q Hq.out _).mono ?_
    rintro e w2 ⟨rfl, hb2⟩
    cases q
    all_goals
      go_wp2
      go_ret
      exact ⟨rfl, stp b1 (Nat.le_refl _) hb2⟩

theorem info_lev : (Try.prog.info? 111).map (·.size) = some 3 := by kernel_rfl

set_option maxRecDepth 100000 in
set_option maxHeartbeats 2000000 in
theorem sMixAt (ah av bh bv x : Nat) (M1 : MixF ah bh x) (M2 : MixF av bv x) (w : World) (g o k p : Nat)
    (hC : ∀ w', Below w.heap.size w w' → w'.cell? ⟨g, o, none⟩ = some (.float .f32 ah) ∧ w'.cell? ⟨g, o + 1, none⟩ = some (.float .f32 av) ∧ w'.cell? ⟨k, p, none⟩ = some (.float .f32 bh) ∧ w'.cell? ⟨k, p + 1, none⟩ = some (.float .f32 bv)) :
    Calls Try.prog 156 #[.pointer (some ⟨g, o, none⟩), .pointer (some ⟨k, p, none⟩), .float .f32 x] w fun e w' => e = .returned (.agg #[.float .f32 (mixW ah bh x), .float .f32 (mixW av bv x)]) ∧ Below w.heap.size w w' := by
  have k0 := hid ((Kept.nil w).push #[.float .f32 0, .float .f32 0] 44)
  have HN0 := hid (Kept.nil w).fresh
  have HB0 := hid (Nat.le_refl w.heap.size)
  have HC := hid hC
  have hr := hid (fun w => run_float_arith (P := Try.prog) w .sub 23 .f32 _ _ _ M1.r)
  have h1ah := hid (fun w => run_float_arith (P := Try.prog) w .mul 23 .f32 _ _ _ M1.m1)
  have h2bh := hid (fun w => run_float_arith (P := Try.prog) w .mul 23 .f32 _ _ _ M1.m2)
  have h3h := hid (fun w => run_float_arith (P := Try.prog) w .add 23 .f32 _ _ _ M1.s)
  have h1av := hid (fun w => run_float_arith (P := Try.prog) w .mul 23 .f32 _ _ _ M2.m1)
  have h2bv := hid (fun w => run_float_arith (P := Try.prog) w .mul 23 .f32 _ _ _ M2.m2)
  have h3v := hid (fun w => run_float_arith (P := Try.prog) w .add 23 .f32 _ _ _ M2.s)
  clear M1 M2 hC
  go_enter Try.func156, Try.ntmps156
  go_wp2_with fail
  refine region_kept (w0 := w) (l := []) 30 #[false, false, false, false, false, false, false, false, false, false, false, false, false, false, false, false, false, false, false, false, false, false, false, false, false, false, false, false, false, false] (by kernel_rfl) rfl rfl ?_
  have kd := k0.out.drew
  generalize World.drew _ = wd at kd ⊢
  clear k0
  refine take_val 0 _ _ (.pointer (some ⟨g, o, none⟩)) rfl (by rfl) (by kernel_rfl) (by kernel_rfl) (by kernel_rfl) (fun w => by rfl) rfl rfl kd.tail ?_
  simp only [Act.put, List.setIfInBounds_toArray, List.set_cons_zero, List.set_cons_succ]
  refine take_val 1 _ _ (.pointer (some ⟨g, o, none⟩)) rfl (by rfl) (by kernel_rfl) (by kernel_rfl) (by kernel_rfl) (fun w => by unfold execOp; go_simp) rfl rfl kd.tail ?_
  simp only [Act.put, List.setIfInBounds_toArray, List.set_cons_zero, List.set_cons_succ]
  refine take_val 2 _ _ (.pointer (some ⟨g, o, none⟩)) rfl (by rfl) (by kernel_rfl) (by kernel_rfl) (by kernel_rfl) (fun w => by unfold execOp; go_simp) rfl rfl kd.tail ?_
  simp only [Act.put, List.setIfInBounds_toArray, List.set_cons_zero, List.set_cons_succ]
  refine take_cell 3 _ _ (.float .f32 ah) rfl (by rfl) (by kernel_rfl) (by kernel_rfl) (by kernel_rfl) (fun wq hS => by have hcell : wq.cell? ⟨g, o, none⟩ = some (.float .f32 ah) := (HC.out wq hS.1).1; clear hS; unfold execOp; go_simp) rfl rfl kd.tail ?_
  simp only [Act.put, List.setIfInBounds_toArray, List.set_cons_zero, List.set_cons_succ]
  refine take_val 4 _ _ (.float .f32 x) rfl (by rfl) (by kernel_rfl) (by kernel_rfl) (by kernel_rfl) (fun w => by rfl) rfl rfl kd.tail ?_
  simp only [Act.put, List.setIfInBounds_toArray, List.set_cons_zero, List.set_cons_succ]
  refine take_val 5 _ _ (.float .f32 (restF x)) rfl (by rfl) (by kernel_rfl) (by kernel_rfl) (by kernel_rfl) (fun w => run_binop_val _ _ _ _ (by rfl) (by rfl) (by simp [eqGuard]) (hr.out w)) rfl rfl kd.tail ?_
  simp only [Act.put, List.setIfInBounds_toArray, List.set_cons_zero, List.set_cons_succ]
  refine take_val 6 _ _ (.float .f32 (fmul ah (restF x))) rfl (by rfl) (by kernel_rfl) (by kernel_rfl) (by kernel_rfl) (fun w => run_binop_val _ _ _ _ (by rfl) (by rfl) (by simp [eqGuard]) (h1ah.out w)) rfl rfl kd.tail ?_
  simp only [Act.put, List.setIfInBounds_toArray, List.set_cons_zero, List.set_cons_succ]
  refine take_val 7 _ _ (.pointer (some ⟨k, p, none⟩)) rfl (by rfl) (by kernel_rfl) (by kernel_rfl) (by kernel_rfl) (fun w => by rfl) rfl rfl kd.tail ?_
  simp only [Act.put, List.setIfInBounds_toArray, List.set_cons_zero, List.set_cons_succ]
  refine take_val 8 _ _ (.pointer (some ⟨k, p, none⟩)) rfl (by rfl) (by kernel_rfl) (by kernel_rfl) (by kernel_rfl) (fun w => by unfold execOp; go_simp) rfl rfl kd.tail ?_
  simp only [Act.put, List.setIfInBounds_toArray, List.set_cons_zero, List.set_cons_succ]
  refine take_val 9 _ _ (.pointer (some ⟨k, p, none⟩)) rfl (by rfl) (by kernel_rfl) (by kernel_rfl) (by kernel_rfl) (fun w => by unfold execOp; go_simp) rfl rfl kd.tail ?_
  simp only [Act.put, List.setIfInBounds_toArray, List.set_cons_zero, List.set_cons_succ]
  refine take_cell 10 _ _ (.float .f32 bh) rfl (by rfl) (by kernel_rfl) (by kernel_rfl) (by kernel_rfl) (fun wq hS => by have hcell : wq.cell? ⟨k, p, none⟩ = some (.float .f32 bh) := (HC.out wq hS.1).2.2.1; clear hS; unfold execOp; go_simp) rfl rfl kd.tail ?_
  simp only [Act.put, List.setIfInBounds_toArray, List.set_cons_zero, List.set_cons_succ]
  refine take_val 11 _ _ (.float .f32 x) rfl (by rfl) (by kernel_rfl) (by kernel_rfl) (by kernel_rfl) (fun w => by rfl) rfl rfl kd.tail ?_
  simp only [Act.put, List.setIfInBounds_toArray, List.set_cons_zero, List.set_cons_succ]
  refine take_val 12 _ _ (.float .f32 (fmul bh x)) rfl (by rfl) (by kernel_rfl) (by kernel_rfl) (by kernel_rfl) (fun w => run_binop_val _ _ _ _ (by rfl) (by rfl) (by simp [eqGuard]) (h2bh.out w)) rfl rfl kd.tail ?_
  simp only [Act.put, List.setIfInBounds_toArray, List.set_cons_zero, List.set_cons_succ]
  refine take_val 13 _ _ (.float .f32 (mixW ah bh x)) rfl (by rfl) (by kernel_rfl) (by kernel_rfl) (by kernel_rfl) (fun w => run_binop_val _ _ _ _ (by rfl) (by rfl) (by simp [eqGuard]) (h3h.out w)) rfl rfl kd.tail ?_
  simp only [Act.put, List.setIfInBounds_toArray, List.set_cons_zero, List.set_cons_succ]
  refine take_val 14 _ _ (.pointer (some ⟨g, o, none⟩)) rfl (by rfl) (by kernel_rfl) (by kernel_rfl) (by kernel_rfl) (fun w => by rfl) rfl rfl kd.tail ?_
  simp only [Act.put, List.setIfInBounds_toArray, List.set_cons_zero, List.set_cons_succ]
  refine take_val 15 _ _ (.pointer (some ⟨g, o, none⟩)) rfl (by rfl) (by kernel_rfl) (by kernel_rfl) (by kernel_rfl) (fun w => by unfold execOp; go_simp) rfl rfl kd.tail ?_
  simp only [Act.put, List.setIfInBounds_toArray, List.set_cons_zero, List.set_cons_succ]
  refine take_val 16 _ _ (.pointer (some ⟨g, o + 1, none⟩)) rfl (by rfl) (by kernel_rfl) (by kernel_rfl) (by kernel_rfl) (fun w => by unfold execOp; go_simp) rfl rfl kd.tail ?_
  simp only [Act.put, List.setIfInBounds_toArray, List.set_cons_zero, List.set_cons_succ]
  refine take_cell 17 _ _ (.float .f32 av) rfl (by rfl) (by kernel_rfl) (by kernel_rfl) (by kernel_rfl) (fun wq hS => by have hcell : wq.cell? ⟨g, o + 1, none⟩ = some (.float .f32 av) := (HC.out wq hS.1).2.1; clear hS; unfold execOp; go_simp) rfl rfl kd.tail ?_
  simp only [Act.put, List.setIfInBounds_toArray, List.set_cons_zero, List.set_cons_succ]
  refine take_val 18 _ _ (.float .f32 x) rfl (by rfl) (by kernel_rfl) (by kernel_rfl) (by kernel_rfl) (fun w => by rfl) rfl rfl kd.tail ?_
  simp only [Act.put, List.setIfInBounds_toArray, List.set_cons_zero, List.set_cons_succ]
  refine take_val 19 _ _ (.float .f32 (restF x)) rfl (by rfl) (by kernel_rfl) (by kernel_rfl) (by kernel_rfl) (fun w => run_binop_val _ _ _ _ (by rfl) (by rfl) (by simp [eqGuard]) (hr.out w)) rfl rfl kd.tail ?_
  simp only [Act.put, List.setIfInBounds_toArray, List.set_cons_zero, List.set_cons_succ]
  refine take_val 20 _ _ (.float .f32 (fmul av (restF x))) rfl (by rfl) (by kernel_rfl) (by kernel_rfl) (by kernel_rfl) (fun w => run_binop_val _ _ _ _ (by rfl) (by rfl) (by simp [eqGuard]) (h1av.out w)) rfl rfl kd.tail ?_
  simp only [Act.put, List.setIfInBounds_toArray, List.set_cons_zero, List.set_cons_succ]
  refine take_val 21 _ _ (.pointer (some ⟨k, p, none⟩)) rfl (by rfl) (by kernel_rfl) (by kernel_rfl) (by kernel_rfl) (fun w => by rfl) rfl rfl kd.tail ?_
  simp only [Act.put, List.setIfInBounds_toArray, List.set_cons_zero, List.set_cons_succ]
  refine take_val 22 _ _ (.pointer (some ⟨k, p, none⟩)) rfl (by rfl) (by kernel_rfl) (by kernel_rfl) (by kernel_rfl) (fun w => by unfold execOp; go_simp) rfl rfl kd.tail ?_
  simp only [Act.put, List.setIfInBounds_toArray, List.set_cons_zero, List.set_cons_succ]
  refine take_val 23 _ _ (.pointer (some ⟨k, p + 1, none⟩)) rfl (by rfl) (by kernel_rfl) (by kernel_rfl) (by kernel_rfl) (fun w => by unfold execOp; go_simp) rfl rfl kd.tail ?_
  simp only [Act.put, List.setIfInBounds_toArray, List.set_cons_zero, List.set_cons_succ]
  refine take_cell 24 _ _ (.float .f32 bv) rfl (by rfl) (by kernel_rfl) (by kernel_rfl) (by kernel_rfl) (fun wq hS => by have hcell : wq.cell? ⟨k, p + 1, none⟩ = some (.float .f32 bv) := (HC.out wq hS.1).2.2.2; clear hS; unfold execOp; go_simp) rfl rfl kd.tail ?_
  simp only [Act.put, List.setIfInBounds_toArray, List.set_cons_zero, List.set_cons_succ]
  refine take_val 25 _ _ (.float .f32 x) rfl (by rfl) (by kernel_rfl) (by kernel_rfl) (by kernel_rfl) (fun w => by rfl) rfl rfl kd.tail ?_
  simp only [Act.put, List.setIfInBounds_toArray, List.set_cons_zero, List.set_cons_succ]
  refine take_val 26 _ _ (.float .f32 (fmul bv x)) rfl (by rfl) (by kernel_rfl) (by kernel_rfl) (by kernel_rfl) (fun w => run_binop_val _ _ _ _ (by rfl) (by rfl) (by simp [eqGuard]) (h2bv.out w)) rfl rfl kd.tail ?_
  simp only [Act.put, List.setIfInBounds_toArray, List.set_cons_zero, List.set_cons_succ]
  refine take_val 27 _ _ (.float .f32 (mixW av bv x)) rfl (by rfl) (by kernel_rfl) (by kernel_rfl) (by kernel_rfl) (fun w => run_binop_val _ _ _ _ (by rfl) (by rfl) (by simp [eqGuard]) (h3v.out w)) rfl rfl kd.tail ?_
  simp only [Act.put, List.setIfInBounds_toArray, List.set_cons_zero, List.set_cons_succ]
  refine take_val 28 _ _ (.agg #[.float .f32 (mixW ah bh x), .float .f32 (mixW av bv x)]) rfl (by rfl) (by kernel_rfl) (by kernel_rfl) (by kernel_rfl) (fun w => by unfold execOp; go_simp) rfl rfl kd.tail ?_
  simp only [Act.put, List.setIfInBounds_toArray, List.set_cons_zero, List.set_cons_succ]
  refine wpAnyH_ready (rs := [29]) (by kernel_rfl) (by simp) ?_
  refine storeK 29 _ _ kd HB0.out HN0.out rfl (by rfl) 44 _ _ rfl (#[.float .f32 (mixW ah bh x), .float .f32 (mixW av bv x)]) rfl rfl (info_air) (by simp) (by simp [Value.oneCell']) rfl rfl (fun w1 k1 => ?_) AllReadyH.nil
  refine ⟨k1.tail, ?_⟩
  refine wpAnyH_done (by kernel_rfl) (NoPanic.normal ?_) _
  go_wp2
  exact bodyPost_ret (results_cell_row rfl _ _ (w.heap.size) 44 (#[.float .f32 (mixW ah bh x), .float .f32 (mixW av bv x)]) (0, 0) _ rfl (k1.at (x := (w.heap.size, _, _)) (by simp)) Try.underlying44 rfl info_air) rfl ⟨rfl, k1.1⟩

theorem info_llev : (Try.prog.info? 113).map (·.size) = some 3 := by kernel_rfl

theorem infoz_lev : (Try.prog.info? 111).map (fun i => (i.zero, i.size, i.bytes)) = some (some (.agg #[.float .f32 0, .float .f32 0, .float .f32 0]), 3, 12) := by kernel_rfl

theorem sameFloat2 (a b : Nat) (h : Same2 a b) (w : World) :
    Calls Try.prog 23 #[.float .f64 a, .float .f64 b] w fun e w' => e = .returned (.bool true) ∧ w = w' := by
  obtain ⟨h1, h2⟩ := h
  rcases h1 with ⟨h1, rfl⟩ | ⟨h1, h3, h4, h5⟩
  · have hn : (FloatKind.f64.format.order a a != some .eq) = false := by
      show (Ieee.Format.order D a a != some .eq) = false
      rw [h1]; rfl
    have hq : (FloatKind.f64.format.order a a == some .eq) = true := by
      show (Ieee.Format.order D a a == some .eq) = true
      rw [h1]; rfl
    rcases hz : (FloatKind.f64.format.order a 0 == some .eq) with _ | _
    · clear h1 h2
      go_enter Try.func23, Try.ntmps23
      go_wp2
      go_ret
      exact ⟨by simp, rfl⟩
    · obtain ⟨q, hd⟩ := h2 h1 (beq_iff_eq.1 hz)
      have hdiv := fun w => run_float_arith (P := Try.prog) w .quo 30 .f64 4607182418800017408 a q hd
      clear h1 h2 hd
      go_enter Try.func23, Try.ntmps23
      go_wp2
      go_ret
      exact ⟨by simp, rfl⟩
  · have hn : (FloatKind.f64.format.order a a != some .eq) = true := by
      show (Ieee.Format.order D a a != some .eq) = true
      rw [h1]; rfl
    have hm : (FloatKind.f64.format.order b b != some .eq) = true := by
      show (Ieee.Format.order D b b != some .eq) = true
      rw [h3]; rfl
    clear h1 h2 h3 h4 h5
    go_enter Try.func23, Try.ntmps23
    go_wp2
    go_ret
    exact ⟨by simp, rfl⟩

theorem eqAir_any (h v : Nat) (hh : h < 4294967296) (hv : v < 4294967296) (w : World) :
    Calls Try.prog 55 #[.agg #[.float .f32 h, .float .f32 v], .agg #[.float .f32 h, .float .f32 v]] w fun e w' => e = .returned (.bool true) ∧ Below w.heap.size w w' := by
  obtain ⟨z0, f0, c0, d0, s0⟩ := conv_any (P := Try.prog) 23 30 h hh Try.underlying23 Try.underlying30
  obtain ⟨z1, f1, c1, d1, s1⟩ := conv_any (P := Try.prog) 23 30 v hv Try.underlying23 Try.underlying30
  have S0 := hid s0
  have S1 := hid s1
  have D0 := hid d0
  have D1 := hid d1
  have k0 : Hid (Kept w [(w.heap.size + 1, #[.float .f32 h, .float .f32 v], 44), (w.heap.size, #[.float .f32 h, .float .f32 v], 44)] ((w.alloc (.cells #[.float .f32 h, .float .f32 v] 44)).alloc (.cells #[.float .f32 h, .float .f32 v] 44))) := hid ((((Kept.nil w).push _ _).push _ _).sub (by simp))
  have k2 := hid (kept_wf (kept_wf k0.out (D0.out _)) (D0.out _))
  have e0 : (f0 (f0 ((w.alloc (.cells #[.float .f32 h, .float .f32 v] 44)).alloc (.cells #[.float .f32 h, .float .f32 v] 44)))).cell? ⟨w.heap.size, 1, none⟩ = some (.float .f32 v) := (cell_of_row _ (w.heap.size) 1 _ _ _ (k2.out.at (x := (w.heap.size, #[.float .f32 h, .float .f32 v], 44)) (by simp))).trans rfl
  have e1 : (f0 ((w.alloc (.cells #[.float .f32 h, .float .f32 v] 44)).alloc (.cells #[.float .f32 h, .float .f32 v] 44))).cell? ⟨w.heap.size + 1, 0, none⟩ = some (.float .f32 h) := (cell_of_row _ (w.heap.size + 1) 0 _ _ _ ((kept_wf k0.out (D0.out _)).at (x := (w.heap.size + 1, #[.float .f32 h, .float .f32 v], 44)) (by simp))).trans rfl
  have e2 : (f1 (f0 (f0 ((w.alloc (.cells #[.float .f32 h, .float .f32 v] 44)).alloc (.cells #[.float .f32 h, .float .f32 v] 44))))).cell? ⟨w.heap.size + 1, 1, none⟩ = some (.float .f32 v) := (cell_of_row _ (w.heap.size + 1) 1 _ _ _ ((kept_wf k2.out (D1.out _)).at (x := (w.heap.size + 1, #[.float .f32 h, .float .f32 v], 44)) (by simp))).trans rfl
  clear hh hv s0 s1 d0 d1
  go_enter Try.func55, Try.ntmps55
  go_wp2_with fail
  refine (sameFloat2 _ _ (S0.out _ _) _).mono ?_
  rintro e w1 ⟨rfl, rfl⟩
  go_wp2_with fail
  refine (sameFloat2 _ _ (S1.out _ _) _).mono ?_
  rintro e w1 ⟨rfl, rfl⟩
  go_wp2
  go_ret
  exact ⟨rfl, (kept_wf (kept_wf k2.out (D1.out _)) (D1.out _)).1⟩

set_option maxRecDepth 100000 in
theorem eqLevel_any (a h v : Nat) (ha : a < 4294967296) (hh : h < 4294967296) (hv : v < 4294967296) (w : World) :
    Calls Try.prog 82 #[.agg #[.float .f32 a, .float .f32 h, .float .f32 v], .agg #[.float .f32 a, .float .f32 h, .float .f32 v]] w fun e w' => e = .returned (.bool true) ∧ Below w.heap.size w w' := by
  obtain ⟨z0, f0, c0, d0, s0⟩ := conv_any (P := Try.prog) 23 30 a ha Try.underlying23 Try.underlying30
  have S0 := hid s0
  have D0 := hid d0
  have Hh := hid hh
  have Hv := hid hv
  have k0 : Hid (Kept w [(w.heap.size + 1, #[.float .f32 a, .float .f32 h, .float .f32 v], 111), (w.heap.size, #[.float .f32 a, .float .f32 h, .float .f32 v], 111)] ((w.alloc (.cells #[.float .f32 a, .float .f32 h, .float .f32 v] 111)).alloc (.cells #[.float .f32 a, .float .f32 h, .float .f32 v] 111))) := hid ((((Kept.nil w).push _ _).push _ _).sub (by simp))
  have k2 := hid (kept_wf (kept_wf k0.out (D0.out _)) (D0.out _))
  have e1 : (f0 ((w.alloc (.cells #[.float .f32 a, .float .f32 h, .float .f32 v] 111)).alloc (.cells #[.float .f32 a, .float .f32 h, .float .f32 v] 111))).cell? ⟨w.heap.size + 1, 0, none⟩ = some (.float .f32 a) := (cell_of_row _ (w.heap.size + 1) 0 _ _ _ ((kept_wf k0.out (D0.out _)).at (x := (w.heap.size + 1, #[.float .f32 a, .float .f32 h, .float .f32 v], 111)) (by simp))).trans rfl
  have A0 : Hid (parAt (f0 (f0 ((w.alloc (.cells #[.float .f32 a, .float .f32 h, .float .f32 v] 111)).alloc (.cells #[.float .f32 a, .float .f32 h, .float .f32 v] 111)))) w.heap.size a h v 111) := hid (k2.out.at (x := (w.heap.size, _, _)) (by simp))
  have A1 : Hid (parAt (f0 (f0 ((w.alloc (.cells #[.float .f32 a, .float .f32 h, .float .f32 v] 111)).alloc (.cells #[.float .f32 a, .float .f32 h, .float .f32 v] 111)))) (w.heap.size + 1) a h v 111) := hid (k2.out.at (x := (w.heap.size + 1, _, _)) (by simp))
  clear ha hh hv s0 d0
  go_enter Try.func82, Try.ntmps82
  go_wp2_with fail
  refine (sameFloat2 _ _ (S0.out _ _) _).mono ?_
  rintro e w1 ⟨rfl, rfl⟩
  go_wp2_with (first | (refine wpList_load_air (by rfl) 44 _ rfl w.heap.size rfl a h v 111 A0.out _ Try.underlying44 rfl info_air ?_) | (refine wpList_load_air (by rfl) 44 _ rfl (w.heap.size + 1) rfl a h v 111 A1.out _ Try.underlying44 rfl info_air ?_))
  refine (eqAir_any h v Hh.out Hv.out _).mono ?_
  rintro e w2 ⟨rfl, hb2⟩
  go_wp2
  go_ret
  exact ⟨rfl, (k2.out.stay hb2).1⟩

set_option maxRecDepth 100000 in
theorem toLevel (a h v : Nat) (w : World) :
    Calls Try.prog 78 #[.agg #[.float .f32 a, .float .f32 h, .float .f32 v]] w fun e w' => e = .returned (.agg #[.float .f32 a, .float .f32 h, .float .f32 v]) ∧ Below w.heap.size w w' := by
  have k0 : Hid (Kept w [(w.heap.size + 1 + 1, #[.float .f32 a, .float .f32 0, .float .f32 0], 111), (w.heap.size + 1, #[.float .f32 0, .float .f32 0, .float .f32 0], 111)] (((w.alloc (.cells #[.float .f32 a, .float .f32 h, .float .f32 v] 113)).alloc (.cells #[.float .f32 0, .float .f32 0, .float .f32 0] 111)).alloc (.cells #[.float .f32 a, .float .f32 0, .float .f32 0] 111))) := hid (((((Kept.nil w).push _ _).push _ _).push _ _).sub (by simp))
  have A0 : Hid (parAt (((w.alloc (.cells #[.float .f32 a, .float .f32 h, .float .f32 v] 113)).alloc (.cells #[.float .f32 0, .float .f32 0, .float .f32 0] 111)).alloc (.cells #[.float .f32 a, .float .f32 0, .float .f32 0] 111)) w.heap.size a h v 113) := hid (((((Kept.nil w).push _ _).push _ _).push _ _).at (x := (w.heap.size, #[.float .f32 a, .float .f32 h, .float .f32 v], 113)) (by simp))
  go_enter Try.func78, Try.ntmps78
  go_wp2_with (refine wpList_load_air (by rfl) 41 _ rfl w.heap.size rfl a h v 113 A0.out _ Try.underlying41 rfl info_lair ?_)
  refine (toAir h v _).mono ?_
  rintro e w1 ⟨rfl, hb1⟩
  have k1 := hid (k0.out.stay hb1)
  clear k0 A0 hb1
  have tok1 : True := trivial
  go_wp2_with (first | (have _t := tok1; refine store_air (w0 := w) (l := [(w.heap.size + 1, #[.float .f32 0, .float .f32 0, .float .f32 0], 111)]) rfl 44 _ _ rfl (w.heap.size + 1 + 1) rfl h v rfl a 0 0 111 k1.out (by omega) (by simp) info_air ?_; intro w2 k2; have k2 := hid k2; clear tok1) | (have _t := k2; refine wpList_load_row rfl 111 _ rfl (w.heap.size + 1 + 1) rfl 111 (#[.float .f32 a, .float .f32 h, .float .f32 v]) (0, 0) _ (k2.out.at (x := (w.heap.size + 1 + 1, #[.float .f32 a, .float .f32 h, .float .f32 v], 111)) (by simp)) Try.underlying111 rfl (info_lev) ?_) | (have _t := k2; refine store_kept (w0 := w) (l := []) rfl 111 _ _ rfl (w.heap.size + 1) (#[.float .f32 a, .float .f32 h, .float .f32 v]) rfl rfl 111 (#[.float .f32 0, .float .f32 0, .float .f32 0]) (k2.out.sub (by simp)) (by omega) (by simp) (info_lev) (by simp) (by simp [Value.oneCell']) ?_; intro w3 k3; have k3 := hid k3))
  exact bodyPost_ret (results_cell_row rfl _ _ (w.heap.size + 1) 111 #[.float .f32 a, .float .f32 h, .float .f32 v] (0, 0) _ rfl (k3.out.at (x := (w.heap.size + 1, #[.float .f32 a, .float .f32 h, .float .f32 v], 111)) (by simp)) Try.underlying111 rfl info_lev) rfl ⟨rfl, k3.out.1⟩

theorem szLevels_ok (p : Option Addr) (n cap : Nat) (hn : n ≤ 1048576) (w : World) :
    Calls Try.prog 19 #[.slice p n cap, .int .i64 1048576] w fun e w' => e = .returned (.int .i64 (1048576 - (n : Int))) ∧ w = w' := by
  have h1 : IntKind.i64.wrap (1048576 - (n : Int)) = 1048576 - (n : Int) := by rw [IntKind.wrap_i64]; omega
  have h2 : ¬ (1048576 - (n : Int) < 0) := by omega
  go_enter Try.func19, Try.ntmps19
  go_wp2
  go_ret
  exact ⟨rfl, rfl⟩

theorem szLevels_no (p : Option Addr) (n cap : Nat) (hn : 1048576 < n) (hm : n ≤ maxLen) (w : World) :
    Calls Try.prog 19 #[.slice p n cap, .int .i64 1048576] w fun e w' => e = .returned (.int .i64 (-1)) ∧ w = w' := by
  have hm' : n ≤ 9223372036854775807 := hm
  have h1 : IntKind.i64.wrap (1048576 - (n : Int)) = 1048576 - (n : Int) := by rw [IntKind.wrap_i64]; omega
  have h2 : (1048576 - (n : Int) < 0) := by omega
  go_enter Try.func19, Try.ntmps19
  go_wp2
  go_ret
  exact ⟨rfl, rfl⟩

set_option maxRecDepth 100000 in
set_option maxHeartbeats 1000000 in
theorem toLevels (s : Value) (n : Nat) (x : Nat → Nat) (_hx : ∀ k, x k < 4294967296) (w : World) (hs : Rd w s n x) (hn : n ≤ 1048576) :
    Calls Try.prog 21 #[s] w fun e w' => ∃ g, e = .returned (.slice (some ⟨g, 0, none⟩) n n) ∧ Rd w' (.slice (some ⟨g, 0, none⟩) n n) n x ∧ Below w.heap.size w w' := by
  obtain ⟨p, cap, rfl, hc⟩ := hs
  have HC := hid hc
  have hmk := fun w => run_make3 (P := Try.prog) (t := 27) (e := 111) Try.underlying27 infoz_lev hn w
  have k0 : Hid (Kept w [(w.heap.size, vls (3 * n) (flw (part3 x 0)), 111)] (w.alloc (.cells (vls (3 * n) (flw fun _ => 0)) 111))) := hid (by rw [part3_zero]; exact (Kept.nil w).push _ _)
  clear hc
  go_enter Try.func21, Try.ntmps21
  go_wp2_with fail
  go_loopw [4] (fun i wr => ∃ k : Nat, k ≤ n ∧ i = .int .i64 k ∧ Hid (Kept w [(w.heap.size, vls (3 * n) (flw (part3 x k)), 111)] wr)) (fun i _ => n - (intOf i).toNat)
  case atStart => exact ⟨0, by omega, rfl, k0⟩
  case round =>
    obtain ⟨k, hk, rfl, h0⟩ := hrel
    clear k0 hmk
    by_cases hlt : k < n
    · have HK := hid hlt
      have hk3 : (k : Int) < (n : Int) := by omega
      obtain ⟨b, o, rfl, hcell⟩ := HC.out (by omega)
      have R1 := hid (fun wq (hb : Below w.heap.size w wq) => row3 (w := wq) (n := n) (x := x) (b := b) (o := o) (fun j hj => by have h1 := hcell j hj; rw [hb.cell (block_lt_of_cell h1)]; exact h1) HK.out)
      clear hcell
      have i1 := fun w => run_indexAt (P := Try.prog) (t := 22) (e := 113) Try.underlying22 info_llev (b := b) (o := o) (n := n) (cap := cap) (k := k) hlt w
      have i2 := fun w9 => run_indexAt (P := Try.prog) (t := 27) (e := 111) Try.underlying27 info_lev (b := w.heap.size) (o := 0) (n := n) (cap := n) (k := k) hlt w9
      simp only [Nat.zero_add] at i2
      go_wp2_with (refine wpList_load_mid rfl 113 _ rfl b (o + k * 3) rfl _ _ (R1.out _ h0.out.1) Try.underlying113 rfl info_llev ?_)
      refine (toLevel _ _ _ _).mono ?_
      rintro e w1 ⟨rfl, hb1⟩
      have h1 := hid (h0.out.stay hb1)
      have V1 : Hid (vAt w1 w.heap.size (3 * n) (flw (part3 x k)) 111) := hid (h1.out.at (x := (w.heap.size, vls (3 * n) (flw (part3 x k)), 111)) (by simp))
      clear i1
      go_wp2_with (refine wpList_store_mid rfl 111 _ _ rfl w.heap.size (k * 3) #[.float .f32 (x (k * 3)), .float .f32 (x (k * 3 + 1)), .float .f32 (x (k * 3 + 2))] rfl rfl (V1.out.there (k * 3) 3 (by have := HK.out; omega)) info_lev (by simp [Value.oneCell']) ?_)
      clear i2
      go_wp2
      go_roundw
      case rel => exact ⟨k + 1, by omega, by go_num, hid (by have h2 := h1.out.three (Nat.le_refl _) (by simp) (k * 3) (x (k * 3)) (x (k * 3 + 1)) (x (k * 3 + 2)); rw [part3_step] at h2; exact h2)⟩
      case measure => simp [intOf]; omega
    · obtain rfl : k = n := by omega
      go_wp2
      go_ret
      exact ⟨w.heap.size, rfl, Rd.of_vAt (vAt.part (T := 111) (k := k) (h0.out.at (x := (w.heap.size, vls (3 * k) (flw (part3 x k)), 111)) (by simp)) (Nat.le_refl _)) (Nat.le_refl _) _, h0.out.1⟩

set_option maxRecDepth 100000 in
set_option maxHeartbeats 1000000 in
theorem eqLevels (s t : Value) (n : Nat) (x : Nat → Nat) (hx : ∀ k, x k < 4294967296) (w : World) (hs : Rd w s n x) (ht : Rd w t n x) (hn : n ≤ 1048576) :
    Calls Try.prog 24 #[s, t] w fun e w' => e = .returned (.bool true) ∧ Below w.heap.size w w' := by
  obtain ⟨p, cap, rfl, hc⟩ := hs
  obtain ⟨p', cap', rfl, hc'⟩ := ht
  have HC := hid hc
  have HC' := hid hc'
  have HX := hid hx
  clear hc hc' hx
  go_enter Try.func24, Try.ntmps24
  go_wp2_with fail
  go_loopw [5] (fun i wr => ∃ k : Nat, k ≤ n ∧ i = .int .i64 k ∧ Hid (Kept w [] wr)) (fun i _ => n - (intOf i).toNat)
  case atStart => exact ⟨0, by omega, rfl, hid (Kept.nil w)⟩
  case round =>
    obtain ⟨k, hk, rfl, h0⟩ := hrel
    by_cases hlt : k < n
    · have HK := hid hlt
      have hk3 : (k : Int) < (n : Int) := by omega
      obtain ⟨b, o, rfl, hcell⟩ := HC.out (by omega)
      obtain ⟨b', o', rfl, hcell'⟩ := HC'.out (by omega)
      have R1 := hid (fun wq (hb : Below w.heap.size w wq) => row3 (w := wq) (n := n) (x := x) (b := b) (o := o) (fun j hj => by have h1 := hcell j hj; rw [hb.cell (block_lt_of_cell h1)]; exact h1) HK.out)
      have R2 := hid (fun wq (hb : Below w.heap.size w wq) => row3 (w := wq) (n := n) (x := x) (b := b') (o := o') (fun j hj => by have h1 := hcell' j hj; rw [hb.cell (block_lt_of_cell h1)]; exact h1) HK.out)
      clear hcell hcell'
      go_wp2_with fail
      refine region_kept (w0 := w) (l := []) 10 #[false, false, false, false, false, false, false, false, false, false] (by kernel_rfl) rfl rfl ?_
      have kd := h0.out.drew
      generalize World.drew _ = wd at kd ⊢
      refine take_val 0 _ _ (.slice (some ⟨b, o, none⟩) n cap) rfl (by rfl) (by kernel_rfl) (by kernel_rfl) (by kernel_rfl) (fun w => by rfl) rfl rfl kd ?_
      simp only [Act.put, List.setIfInBounds_toArray, List.set_cons_zero, List.set_cons_succ]
      refine take_val 1 _ _ (.int .i64 (k : Int)) rfl (by rfl) (by kernel_rfl) (by kernel_rfl) (by kernel_rfl) (fun w => by rfl) rfl rfl kd ?_
      simp only [Act.put, List.setIfInBounds_toArray, List.set_cons_zero, List.set_cons_succ]
      refine take_val 2 _ _ (.pointer (some ⟨b, o + k * 3, none⟩)) rfl (by rfl) (by kernel_rfl) (by kernel_rfl) (by kernel_rfl) (fun w => run_index_op _ _ rfl rfl (run_indexAt Try.underlying27 info_lev HK.out w)) rfl rfl kd ?_
      simp only [Act.put, List.setIfInBounds_toArray, List.set_cons_zero, List.set_cons_succ]
      refine take_cell 3 _ _ (.agg #[.float .f32 (x (k * 3)), .float .f32 (x (k * 3 + 1)), .float .f32 (x (k * 3 + 2))]) rfl (by rfl) (by kernel_rfl) (by kernel_rfl) (by kernel_rfl) (fun wq hS => run_load_mid 111 _ b (o + k * 3) [.float .f32 (x (k * 3)), .float .f32 (x (k * 3 + 1)), .float .f32 (x (k * 3 + 2))] rfl (R1.out _ hS.1) _ Try.underlying111 rfl info_lev) rfl rfl kd ?_
      simp only [Act.put, List.setIfInBounds_toArray, List.set_cons_zero, List.set_cons_succ]
      refine take_val 4 _ _ (.slice (some ⟨b', o', none⟩) n cap') rfl (by rfl) (by kernel_rfl) (by kernel_rfl) (by kernel_rfl) (fun w => by rfl) rfl rfl kd ?_
      simp only [Act.put, List.setIfInBounds_toArray, List.set_cons_zero, List.set_cons_succ]
      refine take_val 5 _ _ (.int .i64 (k : Int)) rfl (by rfl) (by kernel_rfl) (by kernel_rfl) (by kernel_rfl) (fun w => by rfl) rfl rfl kd ?_
      simp only [Act.put, List.setIfInBounds_toArray, List.set_cons_zero, List.set_cons_succ]
      refine take_val 6 _ _ (.pointer (some ⟨b', o' + k * 3, none⟩)) rfl (by rfl) (by kernel_rfl) (by kernel_rfl) (by kernel_rfl) (fun w => run_index_op _ _ rfl rfl (run_indexAt Try.underlying27 info_lev HK.out w)) rfl rfl kd ?_
      simp only [Act.put, List.setIfInBounds_toArray, List.set_cons_zero, List.set_cons_succ]
      refine take_cell 7 _ _ (.agg #[.float .f32 (x (k * 3)), .float .f32 (x (k * 3 + 1)), .float .f32 (x (k * 3 + 2))]) rfl (by rfl) (by kernel_rfl) (by kernel_rfl) (by kernel_rfl) (fun wq hS => run_load_mid 111 _ b' (o' + k * 3) [.float .f32 (x (k * 3)), .float .f32 (x (k * 3 + 1)), .float .f32 (x (k * 3 + 2))] rfl (R2.out _ hS.1) _ Try.underlying111 rfl info_lev) rfl rfl kd ?_
      simp only [Act.put, List.setIfInBounds_toArray, List.set_cons_zero, List.set_cons_succ]
      refine wpAnyH_ready (rs := [8]) (by kernel_rfl) (by simp) ?_
      refine callK 8 _ _ (.bool true) kd rfl (by rfl) 82 #[.agg #[.float .f32 (x (k * 3)), .float .f32 (x (k * 3 + 1)), .float .f32 (x (k * 3 + 2))], .agg #[.float .f32 (x (k * 3)), .float .f32 (x (k * 3 + 1)), .float .f32 (x (k * 3 + 2))]] (fun w => by unfold execOp; go_simp) rfl rfl ?hc1 (fun w1 k1 => ?_) AllReadyH.nil
      case hc1 => exact eqLevel_any _ _ _ (HX.out _) (HX.out _) (HX.out _) _
      refine ⟨k1, ?_⟩
      simp only [Act.put, List.setIfInBounds_toArray, List.set_cons_zero, List.set_cons_succ]
      refine take_val 9 _ _ (.bool false) rfl (by rfl) (by kernel_rfl) (by kernel_rfl) (by kernel_rfl) (fun w => by unfold execOp; go_simp) rfl rfl k1 ?_
      simp only [Act.put, List.setIfInBounds_toArray, List.set_cons_zero, List.set_cons_succ]
      refine wpAnyH_done (by kernel_rfl) (NoPanic.normal ?_) _
      go_wp2
      go_roundw
      case rel => exact ⟨k + 1, by omega, by go_num, hid k1⟩
      case measure => simp [intOf]; omega
    · obtain rfl : k = n := by omega
      go_wp2
      go_ret
      exact ⟨rfl, h0.out.1⟩

@[go_sem] theorem semAtSome (l : Nat) (ρ : Operand → Value) (o : Oper) (h : ∀ c, o.op ≠ .defer c) : Oper.semAt (some l) ρ o = execOp ρ o := Oper.semAt_some l ρ o h

def encL (x : Nat → Nat) (k : Nat) : Array Value := #[.int .i64 (k : Int), .agg #[.float .f32 (x (k * 3)), .float .f32 (x (k * 3 + 1)), .float .f32 (x (k * 3 + 2)), .float .f32 (x ((k + 1) * 3)), .float .f32 (x ((k + 1) * 3 + 1)), .float .f32 (x ((k + 1) * 3 + 2))]]

theorem iNeighbours (p : Option Addr) (n cap : Nat) (w : World) :
    Calls Try.prog 80 #[.slice p n cap] w fun e w' => e = .returned (.func (.func 159) #[] #[.pointer (some ⟨w.heap.size, 0, none⟩)]) ∧ w' = w.alloc (.cells #[.slice p n cap] 27) := by
  have hmf : ∀ (fn : Fn) (first cap : Array Value) (w : World), (Instr.makeFunc fn first cap).run Try.prog w = .ok (.func fn first cap) w := fun _ _ _ _ => rfl
  go_enter Try.func80, Try.ntmps80
  go_wp2
  go_ret
  exact ⟨rfl, rfl⟩

set_option maxRecDepth 100000 in
set_option maxHeartbeats 4000000 in
theorem neighbours1_in (m : Nat) (l Bs n0 : Nat) (p : Option Addr) (n cap : Nat) (x : Nat → Nat) (hn : n ≤ 1048576) (J Jx : List (Fin (n - 1)) → World → Prop) (hAb : ∀ pre W, J pre W → J pre W.drew)
    (hY : ∀ pre (k : Fin (n - 1)) W, J pre W → pre.length < n - 1 → YieldAt Fence.wide (m - 1) Try.prog l (encL x k.1) W fun e W' =>
      (e = .returned (.bool true) ∧ J (pre ++ [k]) W' ∧ Below n0 W W') ∨ (e = .returned (.bool false) ∧ Jx (pre ++ [k]) W'))
    (W : World) (hB : Bs < n0) (hBs : W.cell? ⟨Bs, 0, none⟩ = some (.slice p n cap))
    (hc : 0 < n → ∃ b o, p = some ⟨b, o, none⟩ ∧ b < n0 ∧ ∀ k, k < 3 * n → W.cell? ⟨b, o + k, none⟩ = some (.float .f32 (x k))) (h0 : J [] W) :
    CallsIn Fence.wide m Try.prog 159 #[.func (.yield l) #[] #[], .pointer (some ⟨Bs, 0, none⟩)] W fun e W' => (∃ v, e = .returned v) ∧
      ((∃ ys, ys = List.finRange (n - 1) ∧ J ys W') ∨ (∃ pre, pre <+: List.finRange (n - 1) ∧ Jx pre W')) := by
  refine callsIn_of_wp Try.func159 rfl trivial ?_ rfl
  simp only [Try.ntmps159, List.size_toArray, List.length_cons, List.length_nil, Nat.reduceAdd, Nat.reduceSub, Array.replicate_succ, Array.replicate_zero, List.push_toArray, List.append_toArray, List.nil_append, List.cons_append]
  have HC := hid hc
  have HY := hid hY
  have HBS := hid hBs
  clear hc hY hBs
  gi_wp2
  gi_loopw [3] (fun i wr => ∃ k : Nat, k ≤ n - 1 ∧ i = .int .i64 ((k : Int) + 1) ∧ J ((List.finRange (n - 1)).take k) wr ∧ Hid (Below n0 W wr))
    (fun i _ => n - (intOf i).toNat)
  case atStart => exact ⟨0, Nat.zero_le _, rfl, h0, hid (Below.refl _ _)⟩
  case round =>
    obtain ⟨k, hk, rfl, hJs, hnx⟩ := hrel
    have hbx := hid ((hnx.out.cell (p := ⟨Bs, 0, none⟩) hB).trans HBS.out)
    have hbx' := hbx.out
    by_cases hlt : k + 1 < n
    · have HL := hid hlt
      have HN : Hid (k ≤ 1048576) := hid (by omega)
      obtain ⟨b, o, rfl, hb, hcell⟩ := HC.out (by omega)
      have hcw : ∀ j, j < 3 * n → wr.cell? ⟨b, o + j, none⟩ = some (.float .f32 (x j)) := fun j hj => (hnx.out.cell (p := ⟨b, o + j, none⟩) hb).trans (hcell j hj)
      have R0 := hid (row3 hcw (i := k) (by omega))
      have R1 := hid (row3 hcw (i := k + 1) hlt)
      obtain ⟨fn, tmps, assign, body, hy, hR⟩ := HY.out _ ⟨k, by omega⟩ wr.drew (hAb _ wr hJs) (by simp; omega)
      have hy := hid (show (Instr.yield l #[.int .i64 (k : Int), .agg #[.float .f32 (x (k * 3)), .float .f32 (x (k * 3 + 1)), .float .f32 (x (k * 3 + 2)), .float .f32 (x ((k + 1) * 3)), .float .f32 (x ((k + 1) * 3 + 1)), .float .f32 (x ((k + 1) * 3 + 2))]]).run Try.prog wr.drew = _ from hy)
      have hR := hid hR
      clear hcell hcw
      have hk3 : (k : Int) + 1 < (n : Int) := by omega
      gi_wp2
      clear hbx'
      refine regionIn_any 15 #[false, false, false, false, false, false, false, false, false, false, false, false, false, false, false] (by kernel_rfl) rfl rfl ?_
      refine takeIn 0 _ _ (.func (.yield l) #[] #[]) rfl rfl (by rfl) (by kernel_rfl) (by kernel_rfl) (by kernel_rfl) (fun w => by rfl) (fun _ => rfl) rfl rfl ?_
      simp only [Act.put, List.setIfInBounds_toArray, List.set_cons_zero, List.set_cons_succ]
      refine takeIn 1 _ _ (.int .i64 ((k : Int) + 1)) rfl rfl (by rfl) (by kernel_rfl) (by kernel_rfl) (by kernel_rfl) (fun w => by rfl) (fun _ => rfl) rfl rfl ?_
      simp only [Act.put, List.setIfInBounds_toArray, List.set_cons_zero, List.set_cons_succ]
      refine takeIn 2 _ _ (.int .i64 (k : Int)) rfl rfl (by rfl) (by kernel_rfl) (by kernel_rfl) (by kernel_rfl) (fun w => run_binop_val _ _ _ _ (by rfl) (by rfl) (by simp [eqGuard]) (run_pred HN.out w)) (fun _ => rfl) rfl rfl ?_
      simp only [Act.put, List.setIfInBounds_toArray, List.set_cons_zero, List.set_cons_succ]
      refine takeIn 4 _ _ (.int .i64 ((k : Int) + 1)) rfl rfl (by rfl) (by kernel_rfl) (by kernel_rfl) (by kernel_rfl) (fun w => by rfl) (fun _ => rfl) rfl rfl ?_
      simp only [Act.put, List.setIfInBounds_toArray, List.set_cons_zero, List.set_cons_succ]
      refine takeIn 5 _ _ (.int .i64 (k : Int)) rfl rfl (by rfl) (by kernel_rfl) (by kernel_rfl) (by kernel_rfl) (fun w => run_binop_val _ _ _ _ (by rfl) (by rfl) (by simp [eqGuard]) (run_pred HN.out w)) (fun _ => rfl) rfl rfl ?_
      simp only [Act.put, List.setIfInBounds_toArray, List.set_cons_zero, List.set_cons_succ]
      refine takeIn 9 _ _ (.int .i64 ((k : Int) + 1)) rfl rfl (by rfl) (by kernel_rfl) (by kernel_rfl) (by kernel_rfl) (fun w => by rfl) (fun _ => rfl) rfl rfl ?_
      simp only [Act.put, List.setIfInBounds_toArray, List.set_cons_zero, List.set_cons_succ]
      refine wpAnyIn_ready (rs := [3, 8]) (by kernel_rfl) (by simp) ?_
      refine readIn 3 _ _ (.slice (some ⟨b, o, none⟩) n cap) rfl rfl (by rfl) (run_load_cell _ _ ⟨Bs, 0, none⟩ _ rfl (run_loadVar_one Try.underlying27 rfl hbx.out)) rfl rfl rfl ?_ ?_
      · simp only [Act.put, List.setIfInBounds_toArray, List.set_cons_zero, List.set_cons_succ]
        refine takeIn 6 _ _ (.pointer (some ⟨b, o + k * 3, none⟩)) rfl rfl (by rfl) (by kernel_rfl) (by kernel_rfl) (by kernel_rfl) (fun w => run_index_op _ _ rfl rfl (run_indexAt Try.underlying27 info_lev (by have := HL.out; omega) w)) (fun _ => rfl) rfl rfl ?_
        simp only [Act.put, List.setIfInBounds_toArray, List.set_cons_zero, List.set_cons_succ]
        refine wpAnyIn_ready (rs := [7, 8]) (by kernel_rfl) (by simp) ?_
        refine readIn 7 _ _ (.agg #[.float .f32 (x (k * 3)), .float .f32 (x (k * 3 + 1)), .float .f32 (x (k * 3 + 2))]) rfl rfl (by rfl) (run_load_mid 111 _ b (o + k * 3) [.float .f32 (x (k * 3)), .float .f32 (x (k * 3 + 1)), .float .f32 (x (k * 3 + 2))] rfl (R0.out) _ Try.underlying111 rfl info_lev) rfl rfl rfl ?_ ?_
        · simp only [Act.put, List.setIfInBounds_toArray, List.set_cons_zero, List.set_cons_succ]
          refine wpAnyIn_ready (rs := [8]) (by kernel_rfl) (by simp) ?_
          refine readIn 8 _ _ (.slice (some ⟨b, o, none⟩) n cap) rfl rfl (by rfl) (run_load_cell _ _ ⟨Bs, 0, none⟩ _ rfl (run_loadVar_one Try.underlying27 rfl hbx.out)) rfl rfl rfl ?_ AllReadyIn.nil
          simp only [Act.put, List.setIfInBounds_toArray, List.set_cons_zero, List.set_cons_succ]
          refine takeIn 10 _ _ (.pointer (some ⟨b, o + (k + 1) * 3, none⟩)) rfl rfl (by rfl) (by kernel_rfl) (by kernel_rfl) (by kernel_rfl) (fun w => run_index_op _ _ rfl rfl (run_indexAt Try.underlying27 info_lev (by have := HL.out; omega) w)) (fun _ => rfl) rfl rfl ?_
          simp only [Act.put, List.setIfInBounds_toArray, List.set_cons_zero, List.set_cons_succ]
          refine wpAnyIn_ready (rs := [11]) (by kernel_rfl) (by simp) ?_
          refine readIn 11 _ _ (.agg #[.float .f32 (x ((k + 1) * 3)), .float .f32 (x ((k + 1) * 3 + 1)), .float .f32 (x ((k + 1) * 3 + 2))]) rfl rfl (by rfl) (run_load_mid 111 _ b (o + (k + 1) * 3) [.float .f32 (x ((k + 1) * 3)), .float .f32 (x ((k + 1) * 3 + 1)), .float .f32 (x ((k + 1) * 3 + 2))] rfl (R1.out) _ Try.underlying111 rfl info_lev) rfl rfl rfl ?_ AllReadyIn.nil
          simp only [Act.put, List.setIfInBounds_toArray, List.set_cons_zero, List.set_cons_succ]
          refine takeIn 12 _ _ (.agg #[.float .f32 (x (k * 3)), .float .f32 (x (k * 3 + 1)), .float .f32 (x (k * 3 + 2)), .float .f32 (x ((k + 1) * 3)), .float .f32 (x ((k + 1) * 3 + 1)), .float .f32 (x ((k + 1) * 3 + 2))]) rfl rfl (by rfl) (by kernel_rfl) (by kernel_rfl) (by kernel_rfl) (fun w => by unfold execOp; go_simp) (fun _ => rfl) rfl rfl ?_
          simp only [Act.put, List.setIfInBounds_toArray, List.set_cons_zero, List.set_cons_succ]
          refine wpAnyIn_ready (rs := [13]) (by kernel_rfl) (by simp) ?_
          refine yieldIn (F := Fence.wide) (l := l) (fn := fn) (tmps := tmps) (assign := assign) (body := body) 13 rfl rfl (by rfl) (by have hy2 := hy.out; unfold execOp; go_simp) (fun _ _ => True.intro) (fun h => by cases h) hR.out (fun e W3 hr => ?_) AllReadyIn.nil
          rcases hr with ⟨rfl, hJ3, hk3⟩ | ⟨rfl, hJx3⟩
          · refine ⟨.bool true, rfl, ?_⟩
            simp only [Act.put, List.setIfInBounds_toArray, List.set_cons_zero, List.set_cons_succ]
            refine takeIn 14 _ _ (.bool false) rfl rfl (by rfl) (by kernel_rfl) (by kernel_rfl) (by kernel_rfl) (fun w => by unfold execOp; go_simp) (fun _ => rfl) rfl rfl ?_
            simp only [Act.put, List.setIfInBounds_toArray, List.set_cons_zero, List.set_cons_succ]
            refine wpAnyIn_done (by kernel_rfl) (NoPanic.normal ?_) _
            gi_wp2
            go_roundw
            case rel => exact ⟨k + 1, by omega, by go_num, by rw [take_fin (m := n - 1) (k := k) (by omega)]; exact hJ3, hid (hnx.out.drew.trans hk3)⟩
            case measure => simp [intOf]; omega
          · refine ⟨.bool false, rfl, ?_⟩
            simp only [Act.put, List.setIfInBounds_toArray, List.set_cons_zero, List.set_cons_succ]
            refine takeIn 14 _ _ (.bool true) rfl rfl (by rfl) (by kernel_rfl) (by kernel_rfl) (by kernel_rfl) (fun w => by unfold execOp; go_simp) (fun _ => rfl) rfl rfl ?_
            simp only [Act.put, List.setIfInBounds_toArray, List.set_cons_zero, List.set_cons_succ]
            refine wpAnyIn_done (by kernel_rfl) (NoPanic.normal ?_) _
            gi_wp2
            refine bodyPost_ret (results_none rfl _ _ _) rfl ?_
            exact ⟨⟨_, rfl⟩, .inr ⟨_, by rw [← take_fin (m := n - 1) (k := k) (by omega)]; exact List.take_prefix _ _, hJx3⟩⟩
        refine readIn 8 _ _ (.slice (some ⟨b, o, none⟩) n cap) rfl rfl (by rfl) (run_load_cell _ _ ⟨Bs, 0, none⟩ _ rfl (run_loadVar_one Try.underlying27 rfl hbx.out)) rfl rfl rfl ?_ AllReadyIn.nil
        simp only [Act.put, List.setIfInBounds_toArray, List.set_cons_zero, List.set_cons_succ]
        refine takeIn 10 _ _ (.pointer (some ⟨b, o + (k + 1) * 3, none⟩)) rfl rfl (by rfl) (by kernel_rfl) (by kernel_rfl) (by kernel_rfl) (fun w => run_index_op _ _ rfl rfl (run_indexAt Try.underlying27 info_lev (by have := HL.out; omega) w)) (fun _ => rfl) rfl rfl ?_
        simp only [Act.put, List.setIfInBounds_toArray, List.set_cons_zero, List.set_cons_succ]
        refine wpAnyIn_ready (rs := [7, 11]) (by kernel_rfl) (by simp) ?_
        refine readIn 7 _ _ (.agg #[.float .f32 (x (k * 3)), .float .f32 (x (k * 3 + 1)), .float .f32 (x (k * 3 + 2))]) rfl rfl (by rfl) (run_load_mid 111 _ b (o + k * 3) [.float .f32 (x (k * 3)), .float .f32 (x (k * 3 + 1)), .float .f32 (x (k * 3 + 2))] rfl (R0.out) _ Try.underlying111 rfl info_lev) rfl rfl rfl ?_ ?_
        · simp only [Act.put, List.setIfInBounds_toArray, List.set_cons_zero, List.set_cons_succ]
          refine wpAnyIn_ready (rs := [11]) (by kernel_rfl) (by simp) ?_
          refine readIn 11 _ _ (.agg #[.float .f32 (x ((k + 1) * 3)), .float .f32 (x ((k + 1) * 3 + 1)), .float .f32 (x ((k + 1) * 3 + 2))]) rfl rfl (by rfl) (run_load_mid 111 _ b (o + (k + 1) * 3) [.float .f32 (x ((k + 1) * 3)), .float .f32 (x ((k + 1) * 3 + 1)), .float .f32 (x ((k + 1) * 3 + 2))] rfl (R1.out) _ Try.underlying111 rfl info_lev) rfl rfl rfl ?_ AllReadyIn.nil
          simp only [Act.put, List.setIfInBounds_toArray, List.set_cons_zero, List.set_cons_succ]
          refine takeIn 12 _ _ (.agg #[.float .f32 (x (k * 3)), .float .f32 (x (k * 3 + 1)), .float .f32 (x (k * 3 + 2)), .float .f32 (x ((k + 1) * 3)), .float .f32 (x ((k + 1) * 3 + 1)), .float .f32 (x ((k + 1) * 3 + 2))]) rfl rfl (by rfl) (by kernel_rfl) (by kernel_rfl) (by kernel_rfl) (fun w => by unfold execOp; go_simp) (fun _ => rfl) rfl rfl ?_
          simp only [Act.put, List.setIfInBounds_toArray, List.set_cons_zero, List.set_cons_succ]
          refine wpAnyIn_ready (rs := [13]) (by kernel_rfl) (by simp) ?_
          refine yieldIn (F := Fence.wide) (l := l) (fn := fn) (tmps := tmps) (assign := assign) (body := body) 13 rfl rfl (by rfl) (by have hy2 := hy.out; unfold execOp; go_simp) (fun _ _ => True.intro) (fun h => by cases h) hR.out (fun e W3 hr => ?_) AllReadyIn.nil
          rcases hr with ⟨rfl, hJ3, hk3⟩ | ⟨rfl, hJx3⟩
          · refine ⟨.bool true, rfl, ?_⟩
            simp only [Act.put, List.setIfInBounds_toArray, List.set_cons_zero, List.set_cons_succ]
            refine takeIn 14 _ _ (.bool false) rfl rfl (by rfl) (by kernel_rfl) (by kernel_rfl) (by kernel_rfl) (fun w => by unfold execOp; go_simp) (fun _ => rfl) rfl rfl ?_
            simp only [Act.put, List.setIfInBounds_toArray, List.set_cons_zero, List.set_cons_succ]
            refine wpAnyIn_done (by kernel_rfl) (NoPanic.normal ?_) _
            gi_wp2
            go_roundw
            case rel => exact ⟨k + 1, by omega, by go_num, by rw [take_fin (m := n - 1) (k := k) (by omega)]; exact hJ3, hid (hnx.out.drew.trans hk3)⟩
            case measure => simp [intOf]; omega
          · refine ⟨.bool false, rfl, ?_⟩
            simp only [Act.put, List.setIfInBounds_toArray, List.set_cons_zero, List.set_cons_succ]
            refine takeIn 14 _ _ (.bool true) rfl rfl (by rfl) (by kernel_rfl) (by kernel_rfl) (by kernel_rfl) (fun w => by unfold execOp; go_simp) (fun _ => rfl) rfl rfl ?_
            simp only [Act.put, List.setIfInBounds_toArray, List.set_cons_zero, List.set_cons_succ]
            refine wpAnyIn_done (by kernel_rfl) (NoPanic.normal ?_) _
            gi_wp2
            refine bodyPost_ret (results_none rfl _ _ _) rfl ?_
            exact ⟨⟨_, rfl⟩, .inr ⟨_, by rw [← take_fin (m := n - 1) (k := k) (by omega)]; exact List.take_prefix _ _, hJx3⟩⟩
        refine readIn 11 _ _ (.agg #[.float .f32 (x ((k + 1) * 3)), .float .f32 (x ((k + 1) * 3 + 1)), .float .f32 (x ((k + 1) * 3 + 2))]) rfl rfl (by rfl) (run_load_mid 111 _ b (o + (k + 1) * 3) [.float .f32 (x ((k + 1) * 3)), .float .f32 (x ((k + 1) * 3 + 1)), .float .f32 (x ((k + 1) * 3 + 2))] rfl (R1.out) _ Try.underlying111 rfl info_lev) rfl rfl rfl ?_ AllReadyIn.nil
        simp only [Act.put, List.setIfInBounds_toArray, List.set_cons_zero, List.set_cons_succ]
        refine wpAnyIn_ready (rs := [7]) (by kernel_rfl) (by simp) ?_
        refine readIn 7 _ _ (.agg #[.float .f32 (x (k * 3)), .float .f32 (x (k * 3 + 1)), .float .f32 (x (k * 3 + 2))]) rfl rfl (by rfl) (run_load_mid 111 _ b (o + k * 3) [.float .f32 (x (k * 3)), .float .f32 (x (k * 3 + 1)), .float .f32 (x (k * 3 + 2))] rfl (R0.out) _ Try.underlying111 rfl info_lev) rfl rfl rfl ?_ AllReadyIn.nil
        simp only [Act.put, List.setIfInBounds_toArray, List.set_cons_zero, List.set_cons_succ]
        refine takeIn 12 _ _ (.agg #[.float .f32 (x (k * 3)), .float .f32 (x (k * 3 + 1)), .float .f32 (x (k * 3 + 2)), .float .f32 (x ((k + 1) * 3)), .float .f32 (x ((k + 1) * 3 + 1)), .float .f32 (x ((k + 1) * 3 + 2))]) rfl rfl (by rfl) (by kernel_rfl) (by kernel_rfl) (by kernel_rfl) (fun w => by unfold execOp; go_simp) (fun _ => rfl) rfl rfl ?_
        simp only [Act.put, List.setIfInBounds_toArray, List.set_cons_zero, List.set_cons_succ]
        refine wpAnyIn_ready (rs := [13]) (by kernel_rfl) (by simp) ?_
        refine yieldIn (F := Fence.wide) (l := l) (fn := fn) (tmps := tmps) (assign := assign) (body := body) 13 rfl rfl (by rfl) (by have hy2 := hy.out; unfold execOp; go_simp) (fun _ _ => True.intro) (fun h => by cases h) hR.out (fun e W3 hr => ?_) AllReadyIn.nil
        rcases hr with ⟨rfl, hJ3, hk3⟩ | ⟨rfl, hJx3⟩
        · refine ⟨.bool true, rfl, ?_⟩
          simp only [Act.put, List.setIfInBounds_toArray, List.set_cons_zero, List.set_cons_succ]
          refine takeIn 14 _ _ (.bool false) rfl rfl (by rfl) (by kernel_rfl) (by kernel_rfl) (by kernel_rfl) (fun w => by unfold execOp; go_simp) (fun _ => rfl) rfl rfl ?_
          simp only [Act.put, List.setIfInBounds_toArray, List.set_cons_zero, List.set_cons_succ]
          refine wpAnyIn_done (by kernel_rfl) (NoPanic.normal ?_) _
          gi_wp2
          go_roundw
          case rel => exact ⟨k + 1, by omega, by go_num, by rw [take_fin (m := n - 1) (k := k) (by omega)]; exact hJ3, hid (hnx.out.drew.trans hk3)⟩
          case measure => simp [intOf]; omega
        · refine ⟨.bool false, rfl, ?_⟩
          simp only [Act.put, List.setIfInBounds_toArray, List.set_cons_zero, List.set_cons_succ]
          refine takeIn 14 _ _ (.bool true) rfl rfl (by rfl) (by kernel_rfl) (by kernel_rfl) (by kernel_rfl) (fun w => by unfold execOp; go_simp) (fun _ => rfl) rfl rfl ?_
          simp only [Act.put, List.setIfInBounds_toArray, List.set_cons_zero, List.set_cons_succ]
          refine wpAnyIn_done (by kernel_rfl) (NoPanic.normal ?_) _
          gi_wp2
          refine bodyPost_ret (results_none rfl _ _ _) rfl ?_
          exact ⟨⟨_, rfl⟩, .inr ⟨_, by rw [← take_fin (m := n - 1) (k := k) (by omega)]; exact List.take_prefix _ _, hJx3⟩⟩
      refine readIn 8 _ _ (.slice (some ⟨b, o, none⟩) n cap) rfl rfl (by rfl) (run_load_cell _ _ ⟨Bs, 0, none⟩ _ rfl (run_loadVar_one Try.underlying27 rfl hbx.out)) rfl rfl rfl ?_ AllReadyIn.nil
      simp only [Act.put, List.setIfInBounds_toArray, List.set_cons_zero, List.set_cons_succ]
      refine takeIn 10 _ _ (.pointer (some ⟨b, o + (k + 1) * 3, none⟩)) rfl rfl (by rfl) (by kernel_rfl) (by kernel_rfl) (by kernel_rfl) (fun w => run_index_op _ _ rfl rfl (run_indexAt Try.underlying27 info_lev (by have := HL.out; omega) w)) (fun _ => rfl) rfl rfl ?_
      simp only [Act.put, List.setIfInBounds_toArray, List.set_cons_zero, List.set_cons_succ]
      refine wpAnyIn_ready (rs := [3, 11]) (by kernel_rfl) (by simp) ?_
      refine readIn 3 _ _ (.slice (some ⟨b, o, none⟩) n cap) rfl rfl (by rfl) (run_load_cell _ _ ⟨Bs, 0, none⟩ _ rfl (run_loadVar_one Try.underlying27 rfl hbx.out)) rfl rfl rfl ?_ ?_
      · simp only [Act.put, List.setIfInBounds_toArray, List.set_cons_zero, List.set_cons_succ]
        refine takeIn 6 _ _ (.pointer (some ⟨b, o + k * 3, none⟩)) rfl rfl (by rfl) (by kernel_rfl) (by kernel_rfl) (by kernel_rfl) (fun w => run_index_op _ _ rfl rfl (run_indexAt Try.underlying27 info_lev (by have := HL.out; omega) w)) (fun _ => rfl) rfl rfl ?_
        simp only [Act.put, List.setIfInBounds_toArray, List.set_cons_zero, List.set_cons_succ]
        refine wpAnyIn_ready (rs := [7, 11]) (by kernel_rfl) (by simp) ?_
        refine readIn 7 _ _ (.agg #[.float .f32 (x (k * 3)), .float .f32 (x (k * 3 + 1)), .float .f32 (x (k * 3 + 2))]) rfl rfl (by rfl) (run_load_mid 111 _ b (o + k * 3) [.float .f32 (x (k * 3)), .float .f32 (x (k * 3 + 1)), .float .f32 (x (k * 3 + 2))] rfl (R0.out) _ Try.underlying111 rfl info_lev) rfl rfl rfl ?_ ?_
        · simp only [Act.put, List.setIfInBounds_toArray, List.set_cons_zero, List.set_cons_succ]
          refine wpAnyIn_ready (rs := [11]) (by kernel_rfl) (by simp) ?_
          refine readIn 11 _ _ (.agg #[.float .f32 (x ((k + 1) * 3)), .float .f32 (x ((k + 1) * 3 + 1)), .float .f32 (x ((k + 1) * 3 + 2))]) rfl rfl (by rfl) (run_load_mid 111 _ b (o + (k + 1) * 3) [.float .f32 (x ((k + 1) * 3)), .float .f32 (x ((k + 1) * 3 + 1)), .float .f32 (x ((k + 1) * 3 + 2))] rfl (R1.out) _ Try.underlying111 rfl info_lev) rfl rfl rfl ?_ AllReadyIn.nil
          simp only [Act.put, List.setIfInBounds_toArray, List.set_cons_zero, List.set_cons_succ]
          refine takeIn 12 _ _ (.agg #[.float .f32 (x (k * 3)), .float .f32 (x (k * 3 + 1)), .float .f32 (x (k * 3 + 2)), .float .f32 (x ((k + 1) * 3)), .float .f32 (x ((k + 1) * 3 + 1)), .float .f32 (x ((k + 1) * 3 + 2))]) rfl rfl (by rfl) (by kernel_rfl) (by kernel_rfl) (by kernel_rfl) (fun w => by unfold execOp; go_simp) (fun _ => rfl) rfl rfl ?_
          simp only [Act.put, List.setIfInBounds_toArray, List.set_cons_zero, List.set_cons_succ]
          refine wpAnyIn_ready (rs := [13]) (by kernel_rfl) (by simp) ?_
          refine yieldIn (F := Fence.wide) (l := l) (fn := fn) (tmps := tmps) (assign := assign) (body := body) 13 rfl rfl (by rfl) (by have hy2 := hy.out; unfold execOp; go_simp) (fun _ _ => True.intro) (fun h => by cases h) hR.out (fun e W3 hr => ?_) AllReadyIn.nil
          rcases hr with ⟨rfl, hJ3, hk3⟩ | ⟨rfl, hJx3⟩
          · refine ⟨.bool true, rfl, ?_⟩
            simp only [Act.put, List.setIfInBounds_toArray, List.set_cons_zero, List.set_cons_succ]
            refine takeIn 14 _ _ (.bool false) rfl rfl (by rfl) (by kernel_rfl) (by kernel_rfl) (by kernel_rfl) (fun w => by unfold execOp; go_simp) (fun _ => rfl) rfl rfl ?_
            simp only [Act.put, List.setIfInBounds_toArray, List.set_cons_zero, List.set_cons_succ]
            refine wpAnyIn_done (by kernel_rfl) (NoPanic.normal ?_) _
            gi_wp2
            go_roundw
            case rel => exact ⟨k + 1, by omega, by go_num, by rw [take_fin (m := n - 1) (k := k) (by omega)]; exact hJ3, hid (hnx.out.drew.trans hk3)⟩
            case measure => simp [intOf]; omega
          · refine ⟨.bool false, rfl, ?_⟩
            simp only [Act.put, List.setIfInBounds_toArray, List.set_cons_zero, List.set_cons_succ]
            refine takeIn 14 _ _ (.bool true) rfl rfl (by rfl) (by kernel_rfl) (by kernel_rfl) (by kernel_rfl) (fun w => by unfold execOp; go_simp) (fun _ => rfl) rfl rfl ?_
            simp only [Act.put, List.setIfInBounds_toArray, List.set_cons_zero, List.set_cons_succ]
            refine wpAnyIn_done (by kernel_rfl) (NoPanic.normal ?_) _
            gi_wp2
            refine bodyPost_ret (results_none rfl _ _ _) rfl ?_
            exact ⟨⟨_, rfl⟩, .inr ⟨_, by rw [← take_fin (m := n - 1) (k := k) (by omega)]; exact List.take_prefix _ _, hJx3⟩⟩
        refine readIn 11 _ _ (.agg #[.float .f32 (x ((k + 1) * 3)), .float .f32 (x ((k + 1) * 3 + 1)), .float .f32 (x ((k + 1) * 3 + 2))]) rfl rfl (by rfl) (run_load_mid 111 _ b (o + (k + 1) * 3) [.float .f32 (x ((k + 1) * 3)), .float .f32 (x ((k + 1) * 3 + 1)), .float .f32 (x ((k + 1) * 3 + 2))] rfl (R1.out) _ Try.underlying111 rfl info_lev) rfl rfl rfl ?_ AllReadyIn.nil
        simp only [Act.put, List.setIfInBounds_toArray, List.set_cons_zero, List.set_cons_succ]
        refine wpAnyIn_ready (rs := [7]) (by kernel_rfl) (by simp) ?_
        refine readIn 7 _ _ (.agg #[.float .f32 (x (k * 3)), .float .f32 (x (k * 3 + 1)), .float .f32 (x (k * 3 + 2))]) rfl rfl (by rfl) (run_load_mid 111 _ b (o + k * 3) [.float .f32 (x (k * 3)), .float .f32 (x (k * 3 + 1)), .float .f32 (x (k * 3 + 2))] rfl (R0.out) _ Try.underlying111 rfl info_lev) rfl rfl rfl ?_ AllReadyIn.nil
        simp only [Act.put, List.setIfInBounds_toArray, List.set_cons_zero, List.set_cons_succ]
        refine takeIn 12 _ _ (.agg #[.float .f32 (x (k * 3)), .float .f32 (x (k * 3 + 1)), .float .f32 (x (k * 3 + 2)), .float .f32 (x ((k + 1) * 3)), .float .f32 (x ((k + 1) * 3 + 1)), .float .f32 (x ((k + 1) * 3 + 2))]) rfl rfl (by rfl) (by kernel_rfl) (by kernel_rfl) (by kernel_rfl) (fun w => by unfold execOp; go_simp) (fun _ => rfl) rfl rfl ?_
        simp only [Act.put, List.setIfInBounds_toArray, List.set_cons_zero, List.set_cons_succ]
        refine wpAnyIn_ready (rs := [13]) (by kernel_rfl) (by simp) ?_
        refine yieldIn (F := Fence.wide) (l := l) (fn := fn) (tmps := tmps) (assign := assign) (body := body) 13 rfl rfl (by rfl) (by have hy2 := hy.out; unfold execOp; go_simp) (fun _ _ => True.intro) (fun h => by cases h) hR.out (fun e W3 hr => ?_) AllReadyIn.nil
        rcases hr with ⟨rfl, hJ3, hk3⟩ | ⟨rfl, hJx3⟩
        · refine ⟨.bool true, rfl, ?_⟩
          simp only [Act.put, List.setIfInBounds_toArray, List.set_cons_zero, List.set_cons_succ]
          refine takeIn 14 _ _ (.bool false) rfl rfl (by rfl) (by kernel_rfl) (by kernel_rfl) (by kernel_rfl) (fun w => by unfold execOp; go_simp) (fun _ => rfl) rfl rfl ?_
          simp only [Act.put, List.setIfInBounds_toArray, List.set_cons_zero, List.set_cons_succ]
          refine wpAnyIn_done (by kernel_rfl) (NoPanic.normal ?_) _
          gi_wp2
          go_roundw
          case rel => exact ⟨k + 1, by omega, by go_num, by rw [take_fin (m := n - 1) (k := k) (by omega)]; exact hJ3, hid (hnx.out.drew.trans hk3)⟩
          case measure => simp [intOf]; omega
        · refine ⟨.bool false, rfl, ?_⟩
          simp only [Act.put, List.setIfInBounds_toArray, List.set_cons_zero, List.set_cons_succ]
          refine takeIn 14 _ _ (.bool true) rfl rfl (by rfl) (by kernel_rfl) (by kernel_rfl) (by kernel_rfl) (fun w => by unfold execOp; go_simp) (fun _ => rfl) rfl rfl ?_
          simp only [Act.put, List.setIfInBounds_toArray, List.set_cons_zero, List.set_cons_succ]
          refine wpAnyIn_done (by kernel_rfl) (NoPanic.normal ?_) _
          gi_wp2
          refine bodyPost_ret (results_none rfl _ _ _) rfl ?_
          exact ⟨⟨_, rfl⟩, .inr ⟨_, by rw [← take_fin (m := n - 1) (k := k) (by omega)]; exact List.take_prefix _ _, hJx3⟩⟩
      refine readIn 11 _ _ (.agg #[.float .f32 (x ((k + 1) * 3)), .float .f32 (x ((k + 1) * 3 + 1)), .float .f32 (x ((k + 1) * 3 + 2))]) rfl rfl (by rfl) (run_load_mid 111 _ b (o + (k + 1) * 3) [.float .f32 (x ((k + 1) * 3)), .float .f32 (x ((k + 1) * 3 + 1)), .float .f32 (x ((k + 1) * 3 + 2))] rfl (R1.out) _ Try.underlying111 rfl info_lev) rfl rfl rfl ?_ AllReadyIn.nil
      simp only [Act.put, List.setIfInBounds_toArray, List.set_cons_zero, List.set_cons_succ]
      refine wpAnyIn_ready (rs := [3]) (by kernel_rfl) (by simp) ?_
      refine readIn 3 _ _ (.slice (some ⟨b, o, none⟩) n cap) rfl rfl (by rfl) (run_load_cell _ _ ⟨Bs, 0, none⟩ _ rfl (run_loadVar_one Try.underlying27 rfl hbx.out)) rfl rfl rfl ?_ AllReadyIn.nil
      simp only [Act.put, List.setIfInBounds_toArray, List.set_cons_zero, List.set_cons_succ]
      refine takeIn 6 _ _ (.pointer (some ⟨b, o + k * 3, none⟩)) rfl rfl (by rfl) (by kernel_rfl) (by kernel_rfl) (by kernel_rfl) (fun w => run_index_op _ _ rfl rfl (run_indexAt Try.underlying27 info_lev (by have := HL.out; omega) w)) (fun _ => rfl) rfl rfl ?_
      simp only [Act.put, List.setIfInBounds_toArray, List.set_cons_zero, List.set_cons_succ]
      refine wpAnyIn_ready (rs := [7]) (by kernel_rfl) (by simp) ?_
      refine readIn 7 _ _ (.agg #[.float .f32 (x (k * 3)), .float .f32 (x (k * 3 + 1)), .float .f32 (x (k * 3 + 2))]) rfl rfl (by rfl) (run_load_mid 111 _ b (o + k * 3) [.float .f32 (x (k * 3)), .float .f32 (x (k * 3 + 1)), .float .f32 (x (k * 3 + 2))] rfl (R0.out) _ Try.underlying111 rfl info_lev) rfl rfl rfl ?_ AllReadyIn.nil
      simp only [Act.put, List.setIfInBounds_toArray, List.set_cons_zero, List.set_cons_succ]
      refine takeIn 12 _ _ (.agg #[.float .f32 (x (k * 3)), .float .f32 (x (k * 3 + 1)), .float .f32 (x (k * 3 + 2)), .float .f32 (x ((k + 1) * 3)), .float .f32 (x ((k + 1) * 3 + 1)), .float .f32 (x ((k + 1) * 3 + 2))]) rfl rfl (by rfl) (by kernel_rfl) (by kernel_rfl) (by kernel_rfl) (fun w => by unfold execOp; go_simp) (fun _ => rfl) rfl rfl ?_
      simp only [Act.put, List.setIfInBounds_toArray, List.set_cons_zero, List.set_cons_succ]
      refine wpAnyIn_ready (rs := [13]) (by kernel_rfl) (by simp) ?_
      refine yieldIn (F := Fence.wide) (l := l) (fn := fn) (tmps := tmps) (assign := assign) (body := body) 13 rfl rfl (by rfl) (by have hy2 := hy.out; unfold execOp; go_simp) (fun _ _ => True.intro) (fun h => by cases h) hR.out (fun e W3 hr => ?_) AllReadyIn.nil
      rcases hr with ⟨rfl, hJ3, hk3⟩ | ⟨rfl, hJx3⟩
      · refine ⟨.bool true, rfl, ?_⟩
        simp only [Act.put, List.setIfInBounds_toArray, List.set_cons_zero, List.set_cons_succ]
        refine takeIn 14 _ _ (.bool false) rfl rfl (by rfl) (by kernel_rfl) (by kernel_rfl) (by kernel_rfl) (fun w => by unfold execOp; go_simp) (fun _ => rfl) rfl rfl ?_
        simp only [Act.put, List.setIfInBounds_toArray, List.set_cons_zero, List.set_cons_succ]
        refine wpAnyIn_done (by kernel_rfl) (NoPanic.normal ?_) _
        gi_wp2
        go_roundw
        case rel => exact ⟨k + 1, by omega, by go_num, by rw [take_fin (m := n - 1) (k := k) (by omega)]; exact hJ3, hid (hnx.out.drew.trans hk3)⟩
        case measure => simp [intOf]; omega
      · refine ⟨.bool false, rfl, ?_⟩
        simp only [Act.put, List.setIfInBounds_toArray, List.set_cons_zero, List.set_cons_succ]
        refine takeIn 14 _ _ (.bool true) rfl rfl (by rfl) (by kernel_rfl) (by kernel_rfl) (by kernel_rfl) (fun w => by unfold execOp; go_simp) (fun _ => rfl) rfl rfl ?_
        simp only [Act.put, List.setIfInBounds_toArray, List.set_cons_zero, List.set_cons_succ]
        refine wpAnyIn_done (by kernel_rfl) (NoPanic.normal ?_) _
        gi_wp2
        refine bodyPost_ret (results_none rfl _ _ _) rfl ?_
        exact ⟨⟨_, rfl⟩, .inr ⟨_, by rw [← take_fin (m := n - 1) (k := k) (by omega)]; exact List.take_prefix _ _, hJx3⟩⟩
    · have hk3 : ¬ (k : Int) + 1 < (n : Int) := by omega
      gi_wp2
      go_end0
      refine ⟨⟨_, rfl⟩, .inl ?_⟩
      have e : (List.finRange (n - 1)).take k = List.finRange (n - 1) := List.take_of_length_le (by simp; omega)
      rw [e] at hJs
      exact hJs

theorem neighbours_stops (m : Nat) (Bs n0 : Nat) (p : Option Addr) (n cap : Nat) (x : Nat → Nat) (hn : n ≤ 1048576) (w : World) (hB : Bs < n0) (hn0 : n0 ≤ w.heap.size)
    (hBs : w.cell? ⟨Bs, 0, none⟩ = some (.slice p n cap)) (hc : 0 < n → ∃ b o, p = some ⟨b, o, none⟩ ∧ b < n0 ∧ ∀ k, k < 3 * n → w.cell? ⟨b, o + k, none⟩ = some (.float .f32 (x k))) :
    SeqStopsK Fence.wide m Try.prog 159 #[.pointer (some ⟨Bs, 0, none⟩)] (fun k : Fin (n - 1) => encL x k.1) (Below n0) (fun ys => ys = List.finRange (n - 1)) (fun pre => pre <+: List.finRange (n - 1)) (n - 1) w := fun l J Jx W hW hA _ hY h0 =>
  neighbours1_in m l Bs n0 p n cap x hn J Jx (fun pre W1 hj => hA pre W1 W1.drew none hj ⟨rfl, rfl, rfl, Nat.le_refl _, fun _ _ _ => rfl⟩ (fun r e => by cases e)) hY W hB ((hW.cell (p := ⟨Bs, 0, none⟩) (show Bs < _ by omega)).trans hBs) (fun hp => by
    obtain ⟨b, o, e, hb, hk⟩ := hc hp
    exact ⟨b, o, e, hb, fun j hj => (hW.cell (p := ⟨b, o + j, none⟩) (show b < _ by omega)).trans (hk j hj)⟩) h0

theorem info_lay : (Try.prog.info? 120).map (·.size) = some 6 := by kernel_rfl

theorem iDepth (x : Nat → Nat) (k : Nat) (h : Ieee.Format.sub S (x ((k + 1) * 3)) (x (k * 3)) = some (fsub (x ((k + 1) * 3)) (x (k * 3)))) (w : World) :
    Calls Try.prog 158 #[.agg #[.float .f32 (x (k * 3)), .float .f32 (x (k * 3 + 1)), .float .f32 (x (k * 3 + 2)), .float .f32 (x ((k + 1) * 3)), .float .f32 (x ((k + 1) * 3 + 1)), .float .f32 (x ((k + 1) * 3 + 2))]] w fun e w' => e = .returned (.float .f32 (fsub (x ((k + 1) * 3)) (x (k * 3)))) ∧ Below w.heap.size w w' := by
  have hr := fun w => run_float_arith (P := Try.prog) w .sub 23 .f32 _ _ _ h
  have b0 := boxed w (.cells #[.float .f32 (x (k * 3)), .float .f32 (x (k * 3 + 1)), .float .f32 (x (k * 3 + 2)), .float .f32 (x ((k + 1) * 3)), .float .f32 (x ((k + 1) * 3 + 1)), .float .f32 (x ((k + 1) * 3 + 2))] 120)
  clear h
  go_enter Try.func158, Try.ntmps158
  go_wp2
  go_ret
  exact ⟨rfl, b0⟩

def Cnt (n : Int) : Prop := 0 ≤ n ∧ n ≤ 1000000000

def Bx (b : Nat → Int) : Prop := ∀ i, i < 21 → Cnt (b i)

@[go_sem] theorem zero_kern : Try.zeroCells58 = vls 400 (flw fun _ => 0) := by kernel_rfl

def mm (i j : Nat) : Nat := fadd (mass i) (mass j)

theorem sFinite_fq (x : Nat) (hx : x < 4294967296) (h : finB x = false) (w : World) :
    Calls Try.prog 89 #[.float .f32 x] w fun e w' => e = .returned (.bool false) ∧ ∃ m, w' = w.drewN m := by
  obtain ⟨z, hr, h1, _⟩ := run_arith_nan (P := Try.prog) w .sub (by simp) 23 x x (sub_self_none hx h)
  have Hn := hid (show (FloatKind.f32.format.order z 0 == some .eq) = false by
    show (S.order z 0 == some .eq) = false
    rw [order_nan32 h1]; rfl)
  clear h hx h1
  go_enter Try.func89, Try.ntmps89
  go_wp2
  go_ret
  exact ⟨by simp [Hn.out], 1, rfl⟩

theorem sAmount_fq (x : Nat) (hx : x < 4294967296) (h : amtB x = false) (w : World) :
    Calls Try.prog 125 #[.float .f32 x] w fun e w' => e = .returned (.bool false) ∧ ∃ m, w' = w.drewN m := by
  rcases hf : finB x with _ | _
  · have Hx := hid hx
    have Hf := hid hf
    clear h hf hx
    go_enter Try.func125, Try.ntmps125
    go_wp2_with (go_at_call 89; refine (sFinite_fq x Hx.out Hf.out _).mono ?_; rintro e w' ⟨rfl, hb⟩)
    go_ret
    exact ⟨rfl, hb⟩
  · have hs : 2147483648 ≤ x := by
      rw [amtB_iff', INF_val] at h
      have := finB_iff.1 hf
      rw [INF_val] at this
      unfold mg at this
      omega
    have hg : (FloatKind.f32.format.order x 0 == some .gt) = false := order_neg_zero hx hf hs
    have hb : ((x : Int) == 0) = false := by simp; omega
    have Hx := hid hx
    have Hf := hid hf
    clear h hf hx hs
    go_enter Try.func125, Try.ntmps125
    go_wp2_with (go_at_call 89; refine (sFinite_t x Hx.out Hf.out _).mono ?_; rintro e w' ⟨rfl, rfl⟩)
    go_ret
    exact ⟨rfl, 0, rfl⟩

theorem sHgtQ (x : Nat) (hx : x < 4294967296) (q : Bool) (hq : hgtB x = q) (w : World) :
    Calls Try.prog 155 #[.float .f32 x] w fun e w' => e = .returned (.bool q) ∧ ∃ m, w' = w.drewN m := by
  have e1 : hgtB x = (amtB x && (FloatKind.f32.format.order x 1106247680 == some .lt || FloatKind.f32.format.order x 1106247680 == some .eq)) := rfl
  rw [e1] at hq
  have Hx := hid hx
  clear e1 hx
  rcases a : amtB x with _ | _
  · have Ha := hid a
    rw [a] at hq
    simp only [Bool.false_and] at hq
    subst hq
    clear a
    go_enter Try.func155, Try.ntmps155
    go_wp2_with fail
    refine (sAmount_fq x Hx.out Ha.out _).mono ?_
    rintro e w1 ⟨rfl, m, rfl⟩
    go_wp2
    go_ret
    exact ⟨rfl, m, rfl⟩
  · have Ha := hid a
    rw [a] at hq
    simp only [Bool.true_and] at hq
    clear a
    cases q
    all_goals
      go_enter Try.func155, Try.ntmps155
      go_wp2_with fail
      refine (sAmount_t x Ha.out _).mono ?_
      rintro e w1 ⟨rfl, rfl⟩
      go_wp2
      go_ret
      exact ⟨rfl, 0, rfl⟩

set_option maxRecDepth 100000 in
theorem sAirAtQ (h v : Nat) (hv : v < 4294967296) (q : Bool) (hq : airB h v = q) (w : World) (g o : Nat) (c0 : w.cell? ⟨g, o, none⟩ = some (.float .f32 h)) (c1 : w.cell? ⟨g, o + 1, none⟩ = some (.float .f32 v)) :
    Calls Try.prog 101 #[.pointer (some ⟨g, o, none⟩)] w fun e w' => e = .returned (.bool q) ∧ ∃ m, w' = w.drewN m := by
  cases q
  · have Hv := hid hv
    have e1 : airB h v = (heatB h && amtB v && vapB v) := rfl
    rw [e1] at hq
    clear hv e1
    rcases a : heatB h with _ | _
    · have Ha := hid a
      clear a hq
      go_enter Try.func101, Try.ntmps101
      go_wp2_with fail
      refine (sHeat h false Ha.out _).mono ?_
      rintro e w1 ⟨rfl, rfl⟩
      go_wp2
      go_ret
      exact ⟨rfl, 0, rfl⟩
    · have Ha := hid a
      rw [a] at hq
      clear a
      rcases b : amtB v with _ | _
      · have Hb := hid b
        clear b hq
        go_enter Try.func101, Try.ntmps101
        go_wp2_with fail
        refine (sHeat h true Ha.out _).mono ?_
        rintro e w1 ⟨rfl, rfl⟩
        go_wp2_with fail
        refine (sAmount_fq v Hv.out Hb.out _).mono ?_
        rintro e w1 ⟨rfl, m, rfl⟩
        go_wp2
        go_ret
        exact ⟨rfl, m, rfl⟩
      · have Hb := hid b
        rw [b] at hq
        simp only [Bool.true_and] at hq
        have hc : (FloatKind.f32.format.order v 1148846080 == some .lt || FloatKind.f32.format.order v 1148846080 == some .eq) = false := hq
        clear b hq
        go_enter Try.func101, Try.ntmps101
        go_wp2_with fail
        refine (sHeat h true Ha.out _).mono ?_
        rintro e w1 ⟨rfl, rfl⟩
        go_wp2_with fail
        refine (sAmount_t v Hb.out _).mono ?_
        rintro e w1 ⟨rfl, rfl⟩
        go_wp2
        go_ret
        exact ⟨rfl, 0, rfl⟩
  · exact (sAirAt_t h v hq w g o c0 c1).mono fun e w' ⟨a, b⟩ => ⟨a, 0, b ▸ rfl⟩

set_option maxRecDepth 100000 in
set_option maxHeartbeats 4000000 in
theorem sSounding (s : Value) (n : Nat) (x : Nat → Nat) (hn : n ≤ 1048576) (hx : W32 x) (w : World) (hs : Rd w s n x) (q : Bool) (hq : souB n x = q) :
    Calls Try.prog 76 #[s] w fun e w' => e = .returned (.bool q) ∧ Below w.heap.size w w' := by
  obtain ⟨p, cap, rfl, hc⟩ := hs
  have HC := hid hc
  have HW := hid hx
  have HQ := hid hq
  have HN := hid hn
  clear hc hx hq hn
  go_enter Try.func76, Try.ntmps76
  go_wp2_with fail
  go_loopw [3] (fun i wr => ∃ k : Nat, k ≤ n ∧ i = .int .i64 k ∧ Hid (∀ i, i < k → lvB x i = true) ∧ Hid (∀ i, i + 1 < k → upB x i = true) ∧ Hid (Below w.heap.size w wr)) (fun i _ => n - (intOf i).toNat)
  case atStart => exact ⟨0, by omega, rfl, hid (fun i h => by omega), hid (fun i h => by omega), hid (Below.refl _ _)⟩
  case round =>
    obtain ⟨k, hk, rfl, hF, hU, hb⟩ := hrel
    by_cases hlt : k < n
    · have HL := hid hlt
      have hk3 : (k : Int) < (n : Int) := by omega
      obtain ⟨b, o, rfl, hcell⟩ := HC.out (by omega)
      have hcw : ∀ j, j < 3 * n → wr.cell? ⟨b, o + j, none⟩ = some (.float .f32 (x j)) := fun j hj => by have h1 := hcell j hj; rw [hb.out.cell (block_lt_of_cell h1)]; exact h1
      have c0 := cell0 hcw (i := k) hlt
      have c1 := cell1 hcw (i := k) hlt
      have c2 := cell2 hcw (i := k) hlt
      have i1 := fun w => run_indexAt (P := Try.prog) (t := 27) (e := 111) Try.underlying27 info_lev (b := b) (o := o) (n := n) (cap := cap) (k := k) hlt w
      rcases h1 : hgtB (x (k * 3)) with _ | _
      · have H1 := hid h1
        have hfin : q = false := by
          rw [← HQ.out]
          unfold souB lvs
          rw [all_range_f (k := k) HL.out (by unfold lvB parB; rw [h1]; rfl)]; simp
        have H2 := hid (rfl : airB (x (k * 3 + 1)) (x (k * 3 + 2)) = airB (x (k * 3 + 1)) (x (k * 3 + 2)))
        clear h1 hcell hcw
        subst hfin
        go_wp2
        go_quiet ((first | (go_at_call 155; exact Calls.quiet_of (sHgtQ _ (HW.out _) _ H1.out _)) | (go_at_call 101; exact Calls.quiet_of (sAirAtQ _ _ (HW.out _) _ H2.out _ _ _ c1 c2))))
        clear c0 c1 c2 i1
        go_wp2
        go_ret
        exact ⟨rfl, below_drewN hb.out _⟩
      · have H1 := hid h1
        rcases h2 : airB (x (k * 3 + 1)) (x (k * 3 + 2)) with _ | _
        · have H2 := hid h2
          have hfin : q = false := by
            rw [← HQ.out]
            unfold souB lvs
            rw [all_range_f (k := k) HL.out (by unfold lvB parB; rw [h1, h2]; rfl)]; simp
          clear h1 h2 hcell hcw
          subst hfin
          go_wp2
          go_quiet ((first | (go_at_call 155; exact Calls.quiet_of (sHgtQ _ (HW.out _) _ H1.out _)) | (go_at_call 101; exact Calls.quiet_of (sAirAtQ _ _ (HW.out _) _ H2.out _ _ _ c1 c2))))
          clear c0 c1 c2 i1
          go_wp2
          go_ret
          exact ⟨rfl, below_drewN hb.out _⟩
        · have H2 := hid h2
          have HF := hid (fun i (hi : i < k + 1) => by
            rcases Nat.lt_or_ge i k with h | h
            · exact hF.out i h
            · rw [show i = k by omega]; exact parB_iff.2 ⟨h1, h2⟩ : ∀ i, i < k + 1 → lvB x i = true)
          clear h1 h2
          rcases Nat.eq_zero_or_pos k with hk0 | hk0
          · subst hk0
            simp only [Nat.zero_mul, Nat.add_zero, Nat.zero_add] at c0 c1 c2 i1 H1 H2
            have i1' : ∀ w, (Instr.indexAt 27 (.slice (some ⟨b, o, none⟩) n cap) (.int .i64 0)).run Try.prog w = .ok (.pointer (some ⟨b, o, none⟩)) w := by
              intro w
              have h9 := run_indexAt (P := Try.prog) (t := 27) (e := 111) Try.underlying27 info_lev (b := b) (o := o) (n := n) (cap := cap) (k := 0) hlt w
              simpa using h9
            clear hcell hcw i1
            go_wp2
            go_quiet ((first | (go_at_call 155; exact Calls.quiet_of (sHgtQ _ (HW.out _) _ H1.out _)) | (go_at_call 101; exact Calls.quiet_of (sAirAtQ _ _ (HW.out _) _ H2.out _ _ _ c1 c2))))
            clear c0 c1 c2
            go_wp2
            go_roundw
            case rel => exact ⟨1, by omega, by go_num, HF, hid (fun i h => by omega), hid (below_drewN hb.out _)⟩
            case measure => simp [intOf]; omega
          · obtain ⟨j, hj⟩ : ∃ j, k = j + 1 := ⟨k - 1, by omega⟩
            have d0 := cell0 hcw (i := j) (by omega)
            have hpos : (0 : Int) < (k : Int) := by omega
            have hn' := HN.out
            have hwr : IntKind.i64.wrap ((k : Int) - 1) = (k : Int) - 1 := by rw [IntKind.wrap_i64]; omega
            have i0 : ∀ w, (Instr.indexAt 27 (.slice (some ⟨b, o, none⟩) n cap) (.int .i64 ((k : Int) - 1))).run Try.prog w = .ok (.pointer (some ⟨b, o + j * 3, none⟩)) w := by
              intro w
              rw [show (k : Int) - 1 = (j : Int) by omega]
              exact run_indexAt (P := Try.prog) (t := 27) (e := 111) Try.underlying27 info_lev (b := b) (o := o) (n := n) (cap := cap) (k := j) (by omega) w
            clear hcell hcw
            rcases hu : upB x j with _ | _
            · have ho : (FloatKind.f32.format.order (x (j * 3)) (x (k * 3)) == some .lt) = false := by rw [hj]; exact hu
              have hfin : q = false := by
                rw [← HQ.out]
                unfold souB ups
                rw [all_range_f (k := j) (by have := HL.out; omega) hu]; simp
              clear hu
              replace hj := hid hj
              subst hfin
              go_wp2
              go_quiet ((first | (go_at_call 155; exact Calls.quiet_of (sHgtQ _ (HW.out _) _ H1.out _)) | (go_at_call 101; exact Calls.quiet_of (sAirAtQ _ _ (HW.out _) _ H2.out _ _ _ c1 c2))))
              clear c0 c1 c2 i1 i0 d0 ho
              go_wp2
              go_ret
              exact ⟨rfl, below_drewN hb.out _⟩
            · have ho : (FloatKind.f32.format.order (x (j * 3)) (x (k * 3)) == some .lt) = true := by rw [hj]; exact hu
              have HU := hid (fun i (hi : i + 1 < k + 1) => by
                rcases Nat.lt_or_ge i j with h | h
                · exact hU.out i (by omega)
                · rw [show i = j by omega]; exact hu : ∀ i, i + 1 < k + 1 → upB x i = true)
              clear hu
              replace hj := hid hj
              go_wp2
              go_quiet ((first | (go_at_call 155; exact Calls.quiet_of (sHgtQ _ (HW.out _) _ H1.out _)) | (go_at_call 101; exact Calls.quiet_of (sAirAtQ _ _ (HW.out _) _ H2.out _ _ _ c1 c2))))
              clear c0 c1 c2 i1 i0 d0 ho
              go_wp2
              go_roundw
              case rel => exact ⟨k + 1, by omega, by go_num, HF, HU, hid (below_drewN hb.out _)⟩
              case measure => simp [intOf]; omega
    · obtain rfl : k = n := by omega
      by_cases hd : 2 ≤ k ∧ k ≤ 32
      · have hfin : q = true := by
          rw [← HQ.out, souB_iff]
          exact ⟨hd.1, hd.2, hF.out, hU.out⟩
        subst hfin
        go_wp2_with fail
        refine (l00In_t k 2 32 (by omega) (by omega) _).mono ?_
        rintro e w1 ⟨rfl, rfl⟩
        go_wp2
        go_ret
        exact ⟨rfl, hb.out⟩
      · have hfin : q = false := by
          rw [← HQ.out]
          unfold souB
          rcases h : (decide (2 ≤ k) && decide (k ≤ 32)) with _ | _
          · simp
          · rw [Bool.and_eq_true, decide_eq_true_eq, decide_eq_true_eq] at h
            exact absurd h hd
        subst hfin
        go_wp2_with fail
        refine (l00In_f k 2 32 (by omega) _).mono ?_
        rintro e w1 ⟨rfl, rfl⟩
        go_wp2
        go_ret
        exact ⟨rfl, hb.out⟩

set_option maxRecDepth 100000 in
set_option maxHeartbeats 4000000 in
theorem iValidSounding (s : Value) (n : Nat) (x : Nat → Nat) (hn : n ≤ 1048576) (hx : W32 x) (w : World) (hs : Rd w s n x) (q : Bool) (hq : souB n x = q) :
    Calls Try.prog 94 #[s] w fun e w' => e = .returned (.bool q) ∧ Below w.heap.size w w' := by
  obtain ⟨p, cap, rfl, hc⟩ := hs
  have HC := hid hc
  have HX := hid hx
  have HQ := hid hq
  have HN := hid hn
  clear hc hx hq
  have bA := Boxed.new w 4 (.bool false)
  have hBA : Below w.heap.size w (w.alloc (.cells #[.bool false] 4)) := (Below.refl _ w).alloc (Nat.le_refl _) _
  refine (callsIn_wide (n := 9)).1 ?_
  refine callsIn_of_wp_marks Try.func94 rfl trivial ?_ rfl
  simp only [Try.ntmps94, List.size_toArray, List.length_cons, List.length_nil, Nat.reduceAdd, Nat.reduceSub, Array.replicate_succ, Array.replicate_zero, List.push_toArray, List.append_toArray, List.nil_append, List.cons_append]
  by_cases h2 : n < 2
  · have hfin : q = false := by
      rw [← HQ.out]; unfold souB
      rw [decide_eq_false (by omega)]; simp
    subst hfin
    have h2' : (n : Int) < 2 := by omega
    gi_wp2
    exact ⟨_, results_cell1 rfl _ _ ⟨w.heap.size, 0, none⟩ _ rfl (run_loadVar_one Try.underlying4 rfl bA.cell), rfl, hBA⟩
  by_cases h3 : 32 < n
  · have hfin : q = false := by
      rw [← HQ.out]; unfold souB
      rw [decide_eq_false (show ¬ n ≤ 32 by omega)]; simp
    subst hfin
    have h2' : ¬ (n : Int) < 2 := by omega
    have h3' : (n : Int) > 32 := by omega
    gi_wp2
    exact ⟨_, results_cell1 rfl _ _ ⟨w.heap.size, 0, none⟩ _ rfl (run_loadVar_one Try.underlying4 rfl bA.cell), rfl, hBA⟩
  have h2' : ¬ (n : Int) < 2 := by omega
  have h3' : ¬ (n : Int) > 32 := by omega
  gi_wp2
  gi_loopw [17] (fun i wr => ∃ k : Nat, k ≤ n ∧ i = .int .i64 k ∧ Hid (∀ i, i < k → lvB x i = true) ∧ Hid (Boxed wr w.heap.size 4 (.bool false)) ∧ Hid (Below w.heap.size w wr)) (fun i _ => n - (intOf i).toNat)
  case atStart => exact ⟨0, by omega, rfl, hid (fun i h => by omega), hid bA, hid hBA⟩
  case round =>
    obtain ⟨k, hk, rfl, hF, hbx, hb⟩ := hrel
    by_cases hlt : k < n
    · have HL := hid hlt
      have hk3 : (k : Int) < (n : Int) := by omega
      obtain ⟨b, o, rfl, hcell⟩ := HC.out (by omega)
      have hcw : ∀ j, j < 3 * n → wr.cell? ⟨b, o + j, none⟩ = some (.float .f32 (x j)) := fun j hj => by have h1 := hcell j hj; rw [hb.out.cell (block_lt_of_cell h1)]; exact h1
      have c0 := cell0 hcw (i := k) hlt
      have c1 := cell1 hcw (i := k) hlt
      have c2 := cell2 hcw (i := k) hlt
      have i1 := fun w => run_indexAt (P := Try.prog) (t := 27) (e := 111) Try.underlying27 info_lev (b := b) (o := o) (n := n) (cap := cap) (k := k) hlt w
      have l1 := run_loadAt_mid (P := Try.prog) wr b (o + k * 3) 111 _ _ (row3 hcw hlt) Try.underlying111 rfl info_lev
      have HV := fun w => iValidParcel (x (k * 3)) (x (k * 3 + 1)) (x (k * 3 + 2)) (HX.out _) (HX.out _) (lvB x k) rfl w
      clear hcell hcw
      rcases hl : lvB x k with _ | _
      · rw [hl] at HV
        have hfin : q = false := by
          rw [← HQ.out]; unfold souB lvs
          rw [all_range_f (k := k) HL.out hl]; simp
        subst hfin
        gi_wp2_with (refine ⟨trivial, ?_⟩; gi_at_call 95; refine (callsIn_wide.2 (HV _)).mono ?_; rintro e w' ⟨rfl, hb9⟩; have d1 : Boxed w' w.heap.size 4 (.bool false) := (hb9.block _ (hbx.out.alloc _).lt).trans (hbx.out.alloc _); have e1 := d1.cell; have e3 := d1.frozen)
        have b1 := d1.set (.bool false)
        exact ⟨_, results_cell1 rfl _ _ ⟨w.heap.size, 0, none⟩ _ rfl (run_loadVar_one Try.underlying4 rfl b1.cell), rfl, ((hb.out.alloc hb.out.size _).trans (hb9.mono (by have := hb.out.size; simp; omega))).setCell (p := ⟨w.heap.size, 0, none⟩) (Nat.le_refl _) _⟩
      · rw [hl] at HV
        have HF := hid (fun i (hi : i < k + 1) => by
          rcases Nat.lt_or_ge i k with h | h
          · exact hF.out i h
          · rw [show i = k by omega]; exact hl : ∀ i, i < k + 1 → lvB x i = true)
        clear hl
        gi_wp2_with (refine ⟨trivial, ?_⟩; gi_at_call 95; refine (callsIn_wide.2 (HV _)).mono ?_; rintro e w' ⟨rfl, hb9⟩; have d1 : Boxed w' w.heap.size 4 (.bool false) := (hb9.block _ (hbx.out.alloc _).lt).trans (hbx.out.alloc _))
        go_roundw
        case rel => exact ⟨k + 1, by omega, by go_num, HF, hid d1, hid ((hb.out.alloc hb.out.size _).trans (hb9.mono (by have := hb.out.size; simp; omega)))⟩
        case measure => simp [intOf]; omega
    · obtain rfl : k = n := by omega
      have hk3 : ¬ (k : Int) < (k : Int) := by omega
      gi_wp2_with (refine ⟨trivial, ?_⟩; gi_at_call 80; refine (callsIn_wide.2 (iNeighbours _ _ _ _)).mono ?_; rintro e w' ⟨rfl, rfl⟩)
      have bA := hbx.out.alloc (.cells #[.slice p k cap] 27)
      have bC := Boxed.new wr 27 (.slice p k cap)
      have hB0 : Below w.heap.size w (wr.alloc (.cells #[.slice p k cap] 27)) := hb.out.alloc hb.out.size _
      have hsz : (wr.alloc (.cells #[.slice p k cap] 27)).heap.size = wr.heap.size + 1 := by simp
      have hwr := hb.out.size
      obtain ⟨W0, hW0⟩ : ∃ W0, wr.alloc (.cells #[.slice p k cap] 27) = W0 := ⟨_, rfl⟩
      rw [hW0] at bA bC hB0 hsz ⊢
      clear hW0
      refine wpIn_rangeFunc_ownH (α := Fin (k - 1)) rfl (by decide) (gf := 159) (lb := #[.pointer (some ⟨wr.heap.size, 0, none⟩)]) rfl trivial (Go.Proofs.enters_of Try.func159 (by kernel_rfl) rfl)
        (neighbours_stops 8 wr.heap.size W0.heap.size p k cap x hn W0 (by omega) (Nat.le_refl _) bC.cell (fun hp => by
          obtain ⟨b, o, e, hk⟩ := HC.out hp
          have hb := block_lt_of_cell (hk 0 (by omega))
          exact ⟨b, o, e, by simp at hb; omega, fun j hj => (hB0.cell (p := ⟨b, o + j, none⟩) hb).trans (hk j hj)⟩)) belowK_t (belowK_b (Nat.le_refl _)) (Below.refl _ _) (fun _ => rfl)
        (fun pre W => (∀ i ∈ pre, upB x i.1 = true) ∧ Below W0.heap.size W0 W)
        (fun c pre W => (∃ z : List (Fin (k - 1)) × Fin (k - 1), (c = .ret ∧ pre = z.1 ++ [z.2] ∧ upB x z.2.1 = false) ∧ Boxed W w.heap.size 4 (.bool false)) ∧ Below w.heap.size w W)
        (OwnFrom.and (ownFrom_pure _ _) (ownFrom_below (Nat.le_refl _) (Nat.le_refl _)))
        (fun c => OwnFrom.and (fun s X Y row hs hg hr => by
          obtain ⟨z, h1, h3⟩ := hs
          exact ⟨z, h1, boxed_own _ _ (fun (_ : Unit) => _) () X Y row h3 hg (fun r e => (hr r e).2)⟩) (ownFrom_below (Nat.le_refl _) (by omega)))
        ⟨by simp, Below.refl _ _⟩
        (fun j a' W => ∃ Bx, W0.heap.size ≤ Bx ∧ W.heap[Bx]? = some (.cells #[.float .f32 (x (j.1 * 3)), .float .f32 (x (j.1 * 3 + 1)), .float .f32 (x (j.1 * 3 + 2)), .float .f32 (x ((j.1 + 1) * 3)), .float .f32 (x ((j.1 + 1) * 3 + 1)), .float .f32 (x ((j.1 + 1) * 3 + 2))] 120 (0, 0)) ∧ a' = { tmps := #[.slice p k cap, undef, .pointer (some ⟨w.heap.size, 0, none⟩), undef, u4, undef, .pointer (some ⟨Bx, 0, none⟩), .slice p k cap, .int .i64 (k : Int), .bool false, .bool false, .slice p k cap, .int .i64 (k : Int), .bool false, .bool false, .slice p k cap, .int .i64 (k : Int), .int .i64 (k : Int), .bool false, u19, u20, u21, u22, u23, u24, .slice p k cap, .func (.func 159) #[] #[.pointer (some ⟨wr.heap.size, 0, none⟩)], .int .i64 (j.1 : Int), .agg #[.float .f32 (x (j.1 * 3)), .float .f32 (x (j.1 * 3 + 1)), .float .f32 (x (j.1 * 3 + 2)), .float .f32 (x ((j.1 + 1) * 3)), .float .f32 (x ((j.1 + 1) * 3 + 1)), .float .f32 (x ((j.1 + 1) * 3 + 2))], undef, undef, undef, undef, undef, undef, undef], defers := [] })
        (fun j a' _ X Y row hs hg hr => by obtain ⟨Bx, e1, e2, e3⟩ := hs; exact ⟨Bx, e1, row_own Bx 120 (fun (_ : Unit) => _) () X Y row e2 hg (fun r e => (hr r e).2), e3⟩)
        ?assign ?body ?done ?stop
      case assign =>
        rintro l pre j W K ⟨hp, hB⟩ hK
        have hS := hB.size
        unfold encL
        gi_wp2
        exact hK _ _ ((KeepsOthers.alloc _ _).from _) ((Below.refl _ W).alloc (by omega) _) ⟨hp, hB.alloc (by omega) _⟩ ⟨W.heap.size, by omega, heap_alloc_new _ _, rfl⟩
      case body =>
        rintro l pre j a' W hl ⟨r', hr⟩ ⟨hp, hB⟩ ⟨Bx, hBx, bX, rfl⟩ hlt
        have hS := hB.size
        have b1 : Boxed W w.heap.size 4 (.bool false) := (hB.block _ bA.lt).trans bA
        have e1 := b1.cell
        have e3 := b1.frozen
        clear hr
        have g0 : W.cell? ⟨Bx, 0, none⟩ = some (.float .f32 (x (j.1 * 3))) := (cell_of_row W Bx 0 _ _ _ bX).trans rfl
        have g3 : W.cell? ⟨Bx, 3, none⟩ = some (.float .f32 (x ((j.1 + 1) * 3))) := (cell_of_row W Bx 3 _ _ _ bX).trans rfl
        have hge := up_ge (hF.out j.1 (by have := j.2; omega)) (hF.out (j.1 + 1) (by have := j.2; omega))
        rcases hu : upB x j.1 with _ | _
        · rw [hu] at hge
          have ho : (FloatKind.f32.format.order (x (j.1 * 3)) (x ((j.1 + 1) * 3)) == some .gt || FloatKind.f32.format.order (x (j.1 * 3)) (x ((j.1 + 1) * 3)) == some .eq) = true := hge
          clear hge
          gi_wp2
          exact ⟨(KeepsOthers.setCell _ _ _).from _, ⟨(pre, j), ⟨rfl, rfl, hu⟩, b1.set _⟩, (hB0.trans (hB.mono (by omega))).setCell (p := ⟨w.heap.size, 0, none⟩) (Nat.le_refl _) _⟩
        · rw [hu] at hge
          have ho : (FloatKind.f32.format.order (x (j.1 * 3)) (x ((j.1 + 1) * 3)) == some .gt || FloatKind.f32.format.order (x (j.1 * 3)) (x ((j.1 + 1) * 3)) == some .eq) = false := hge
          clear hge
          gi_wp2
          exact ⟨KeepsFrom.refl _ _, Below.refl _ _, fun i hi => (List.mem_append.1 hi).elim (hp i) (fun e => by simp at e; rw [e]; exact hu), hB⟩
      case done =>
        rintro D ys W hD rfl ⟨hp, hB⟩ hK
        have hS := hB.size
        have b1 : Boxed W w.heap.size 4 (.bool false) := (hB.block _ bA.lt).trans bA
        have e1 := b1.cell
        have e3 := b1.frozen
        have hfin : q = true := by
          rw [← HQ.out, souB_iff]
          exact ⟨by omega, by omega, hF.out, fun i hi => hp ⟨i, by omega⟩ (List.mem_finRange _)⟩
        subst hfin
        gi_wp2
        have hK' := (KeepsOthers.setCell W ⟨w.heap.size, 0, none⟩ (.bool true)).same D _ hK rfl
        have c1 := (b1.set (.bool true)).kept (grownBy_putObj' _ D (.deferred none)) (by simp; omega)
        refine ⟨by simp, .inl ⟨_, _, rfl, run_takeDeferred hK', ?_⟩⟩
        exact ⟨_, results_cell1 rfl _ _ ⟨w.heap.size, 0, none⟩ _ rfl (run_loadVar_one Try.underlying4 rfl c1.cell), rfl, ((hB0.trans (hB.mono (by omega))).setCell (p := ⟨w.heap.size, 0, none⟩) (Nat.le_refl _) _).trans (belowK_b (w := w) (Nat.le_refl _) _ D _ _ (by omega) hK' rfl rfl)⟩
      case stop =>
        rintro D c pre W hD hpre ⟨⟨⟨ini, last⟩, ⟨rfl, rfl, hl⟩, b1⟩, hB⟩ hK
        have hfin : q = false := by
          rw [← HQ.out]; unfold souB ups
          rw [all_range_f (k := last.1) last.2 hl]; simp
        subst hfin
        gi_wp2
        have c1 := b1.kept (grownBy_putObj' _ D (.deferred none)) (by simp; omega)
        refine ⟨by simp, .inl ⟨_, _, rfl, run_takeDeferred hK, ?_⟩⟩
        exact ⟨_, results_cell1 rfl _ _ ⟨w.heap.size, 0, none⟩ _ rfl (run_loadVar_one Try.underlying4 rfl c1.cell), rfl, hB.trans (belowK_b (w := w) (Nat.le_refl _) _ D _ _ (by omega) hK rfl rfl)⟩

theorem kept_drewK {w0 : World} {l : List (Nat × Array Value × TypeId)} {w : World} (k : Kept w0 l w) (n : Nat) : Kept w0 l (w.drewN n) := ⟨below_drewN k.1 n, fun x hx => k.2 x hx⟩

theorem rd_wf {w w' : World} {s : Value} {n : Nat} {x : Nat → Nat} (h : Rd w s n x) (hw : w' = w ∨ w' = w.drew) : Rd w' s n x := by
  rcases hw with rfl | rfl
  · exact h
  · exact h.drew

set_option maxRecDepth 100000 in
set_option maxHeartbeats 8000000 in
theorem sAtI (n : Nat) (x : Nat → Nat) (hx : W32 x) (hq : souB n x = true) (h : Nat) (hl : h < 4294967296) (w : World) (s : Value) (hs : Rd w s n x) (rh rv : Nat) (c : Int) (hr : atR n x h = (rh, rv, c)) :
    Calls Try.prog 77 #[s, .float .f32 h] w fun e w' => ∃ i, e = .returned (.tuple #[.agg #[.float .f32 rh, .float .f32 rv], .int .i64 i, .int .i64 c]) ∧ Below w.heap.size w w' ∧ (c = 0 → NxI n x h i) := by
  have F := souB_iff.1 hq
  have hlo := F.lo
  have hhi := F.hi
  obtain ⟨p, cap, rfl, hc⟩ := hs
  obtain ⟨b, o, rfl, hcell⟩ := hc (by omega)
  have HC := hid hcell
  have k0 : Hid (Kept w [(w.heap.size, #[.float .f32 0, .float .f32 0], 44)] (w.alloc (.cells #[.float .f32 0, .float .f32 0] 44))) := hid ((Kept.nil w).push _ _)
  have HF := hid F
  have HX := hid hx
  have i0 : ∀ w, (Instr.indexAt 27 (.slice (some ⟨b, o, none⟩) n cap) (.int .i64 0)).run Try.prog w = .ok (.pointer (some ⟨b, o, none⟩)) w := fun w => by
    have := run_indexAt (P := Try.prog) (t := 27) (e := 111) Try.underlying27 info_lev (b := b) (o := o) (n := n) (cap := cap) (k := 0) (by omega) w
    simpa using this
  have i9 : ∀ w, (Instr.indexAt 27 (.slice (some ⟨b, o, none⟩) n cap) (.int .i64 ((n : Int) - 1))).run Try.prog w = .ok (.pointer (some ⟨b, o + (n - 1) * 3, none⟩)) w := fun w => by
    have := run_indexAt (P := Try.prog) (t := 27) (e := 111) Try.underlying27 info_lev (b := b) (o := o) (n := n) (cap := cap) (k := n - 1) (by omega) w
    rw [show ((n - 1 : Nat) : Int) = (n : Int) - 1 by omega] at this
    exact this
  have hw1 : IntKind.i64.wrap ((n : Int) - 1) = (n : Int) - 1 := by rw [IntKind.wrap_i64]; omega
  have hB : Below w.heap.size w (w.alloc (.cells #[.float .f32 0, .float .f32 0] 44)) := (Below.refl _ w).alloc (Nat.le_refl _) _
  have a0 : (w.alloc (.cells #[.float .f32 0, .float .f32 0] 44)).cell? ⟨b, o, none⟩ = some (.float .f32 (x 0)) := by
    have h1 := hcell 0 (by omega)
    exact (hB.cell (p := ⟨b, o + 0, none⟩) (block_lt_of_cell h1)).trans h1
  have a9 : (w.alloc (.cells #[.float .f32 0, .float .f32 0] 44)).cell? ⟨b, o + (n - 1) * 3, none⟩ = some (.float .f32 (x ((n - 1) * 3))) := by
    have h1 := hcell ((n - 1) * 3) (by omega)
    exact (hB.cell (block_lt_of_cell h1)).trans h1
  obtain ⟨g1, hg1⟩ : ∃ g, (FloatKind.f32.format.order h (x 0) == some .gt || FloatKind.f32.format.order h (x 0) == some .eq) = g := ⟨_, rfl⟩
  obtain ⟨g2, hg2⟩ : ∃ g, (FloatKind.f32.format.order h (x ((n - 1) * 3)) == some .lt || FloatKind.f32.format.order h (x ((n - 1) * 3)) == some .eq) = g := ⟨_, rfl⟩
  have hin : (g1 && g2) = false → atR n x h = (0, 0, 6) := fun hgg => by
    rcases hfb : finB h with _ | _
    · exact at_bad F hl hfb
    · have hf := fw_of hl hfb
      refine at_none F hf ?_
      have f0 := ge_sv hf (F.fw (k := 0) (by omega))
      have f9 := le_sv hf (F.fw (k := n - 1) (by omega))
      rcases Bool.and_eq_false_iff.1 hgg with hg | hg
      · refine .inl (Int.not_le.1 fun hh => ?_)
        have := f0.2 hh
        rw [show (0 * 3) = 0 from rfl] at this
        rw [← hg1] at hg
        exact absurd this (by rw [Bool.not_eq_true]; exact hg)
      · refine .inr (Int.not_le.1 fun hh => ?_)
        have := f9.2 hh
        rw [← hg2] at hg
        exact absurd this (by rw [Bool.not_eq_true]; exact hg)
  have hyes : (g1 && g2) = true → FW h ∧ sv (x (0 * 3)) ≤ sv h ∧ sv h ≤ sv (x ((n - 1) * 3)) := fun hgg => by
    rw [Bool.and_eq_true] at hgg
    rcases hfb : finB h with _ | _
    · exfalso
      have ha := order_bad hl hfb (hgt_inf (hgt_lv (F.lv 0 (by omega))))
      have hb := order_bad hl hfb (hgt_inf (hgt_lv (F.lv (n - 1) (by omega))))
      have e1 : (Ieee.Format.order S h (x (0 * 3)) == some .gt || Ieee.Format.order S h (x (0 * 3)) == some .eq) = true := hg1.trans hgg.1
      have e2 : (Ieee.Format.order S h (x ((n - 1) * 3)) == some .lt || Ieee.Format.order S h (x ((n - 1) * 3)) == some .eq) = true := hg2.trans hgg.2
      by_cases hs : 2147483648 ≤ h
      · rw [if_pos hs] at ha
        rcases ha with ha | ha <;> rw [ha] at e1 <;> exact absurd e1 (by decide)
      · rw [if_neg hs] at hb
        rcases hb with hb | hb <;> rw [hb] at e2 <;> exact absurd e2 (by decide)
    · have hf := fw_of hl hfb
      exact ⟨hf, (ge_sv hf (F.fw (k := 0) (by omega))).1 (hg1.trans hgg.1), (le_sv hf (F.fw (k := n - 1) (by omega))).1 (hg2.trans hgg.2)⟩
  have HN : Hid (n ≤ 1048576) := hid (by omega)
  have HR := hid hr
  cases g1
  · have hfin := (HR.out).symm.trans (hin rfl)
    injection hfin with e1 e2
    injection e2 with e2 e3
    subst e1 e2 e3
    clear hin hyes hcell F hq hx hr a9 i9 hg2
    go_enter Try.func77, Try.ntmps77
    go_wp2_with (refine store_kept (w0 := w) (l := []) rfl 44 _ _ rfl (w.heap.size) (#[.float .f32 0, .float .f32 0]) rfl rfl 44 (#[.float .f32 0, .float .f32 0]) (k0.out) (Nat.le_refl _) (by simp) info_air rfl (by simp [Value.oneCell']) (fun w7 k7 => ?_); replace k7 := hid k7)
    first | exact bodyPost_ret (results_row_tmp2 rfl _ _ (w.heap.size) 44 (#[.float .f32 0, .float .f32 0]) (0, 0) _ rfl (k7.out.at (x := (w.heap.size, #[.float .f32 0, .float .f32 0], 44)) (by simp)) Try.underlying44 rfl info_air) rfl ⟨_, rfl, k7.out.1, (by first | exact fun h0 => absurd h0 (by decide) | exact fun _ => HNX.out | exact HNX.out)⟩ | exact bodyPost_ret (results_row_tmp2 rfl _ _ (w.heap.size) 44 (#[.float .f32 0, .float .f32 0]) (0, 0) _ rfl (k7.out.at (x := (w.heap.size, #[.float .f32 0, .float .f32 0], 44)) (by simp)) Try.underlying44 rfl info_air) rfl ⟨⟨_, rfl⟩, k7.out.1⟩
  cases g2
  · have hfin := (HR.out).symm.trans (hin rfl)
    injection hfin with e1 e2
    injection e2 with e2 e3
    subst e1 e2 e3
    clear hin hyes hcell F hq hx hr
    go_enter Try.func77, Try.ntmps77
    go_wp2_with (refine store_kept (w0 := w) (l := []) rfl 44 _ _ rfl (w.heap.size) (#[.float .f32 0, .float .f32 0]) rfl rfl 44 (#[.float .f32 0, .float .f32 0]) (k0.out) (Nat.le_refl _) (by simp) info_air rfl (by simp [Value.oneCell']) (fun w7 k7 => ?_); replace k7 := hid k7)
    first | exact bodyPost_ret (results_row_tmp2 rfl _ _ (w.heap.size) 44 (#[.float .f32 0, .float .f32 0]) (0, 0) _ rfl (k7.out.at (x := (w.heap.size, #[.float .f32 0, .float .f32 0], 44)) (by simp)) Try.underlying44 rfl info_air) rfl ⟨_, rfl, k7.out.1, (by first | exact fun h0 => absurd h0 (by decide) | exact fun _ => HNX.out | exact HNX.out)⟩ | exact bodyPost_ret (results_row_tmp2 rfl _ _ (w.heap.size) 44 (#[.float .f32 0, .float .f32 0]) (0, 0) _ rfl (k7.out.at (x := (w.heap.size, #[.float .f32 0, .float .f32 0], 44)) (by simp)) Try.underlying44 rfl info_air) rfl ⟨⟨_, rfl⟩, k7.out.1⟩
  obtain ⟨hf, hy0, hy9⟩ := hyes rfl
  have HFW := hid hf
  have HY0 := hid hy0
  have HY9 := hid hy9
  clear hin hyes hcell F hq hx hr hf hy0 hy9 hhi
  go_enter Try.func77, Try.ntmps77
  go_wp2
  clear a0 a9 i0 i9 hg1 hg2 hw1 hB
  go_loopw [8] (fun i wr => ∃ k : Nat, k ≤ n - 1 ∧ i = .int .i64 k ∧ Hid (∀ i, i < k → sv (x ((i + 1) * 3)) ≤ sv h) ∧ Hid (Kept w [(w.heap.size, #[.float .f32 0, .float .f32 0], 44)] wr)) (fun i _ => n - (intOf i).toNat)
  case atStart => exact ⟨0, by omega, rfl, hid (fun i h => by omega), k0⟩
  case round =>
    obtain ⟨k, hk, rfl, hK, kr⟩ := hrel
    have hk0 : sv (x (k * 3)) ≤ sv h := by
      rcases Nat.eq_zero_or_pos k with rfl | hp
      · exact HY0.out
      · obtain ⟨j, rfl⟩ : ∃ j, k = j + 1 := ⟨k - 1, by omega⟩
        exact hK.out j (by omega)
    have HK0 := hid hk0
    have hn1 := HN.out
    have HKN : Hid (k ≤ 1048576) := hid (by omega)
    have hcw : ∀ j, j < 3 * n → wr.cell? ⟨b, o + j, none⟩ = some (.float .f32 (x j)) := fun j hj => by have h1 := HC.out j hj; rw [kr.out.1.cell (block_lt_of_cell h1)]; exact h1
    have HCW := hid hcw
    have c0 := cell0 hcw (i := k) (by omega)
    have c1 := cell1 hcw (i := k) (by omega)
    have c2 := cell2 hcw (i := k) (by omega)
    have i1 := fun w => run_indexAt (P := Try.prog) (t := 27) (e := 111) Try.underlying27 info_lev (b := b) (o := o) (n := n) (cap := cap) (k := k) (by omega) w
    have q1 : (FloatKind.f32.format.order (x (k * 3)) h == some .eq) = decide (sv (x (k * 3)) = sv h) := by
      rw [Bool.eq_iff_iff, decide_eq_true_eq]; exact eq_sv (HF.out.fw (by omega)) HFW.out
    clear hcw hk0
    have heq : sv (x (k * 3)) = sv h → (x (k * 3 + 1) = rh ∧ x (k * 3 + 2) = rv ∧ 0 = c) := fun he => by
      have := (HR.out).symm.trans (at_eq HF.out HFW.out (k := k) (by omega) he.symm)
      injection this with e1 e2
      injection e2 with e2 e3
      exact ⟨e1.symm, e2.symm, e3.symm⟩
    by_cases hlt : k + 1 < n
    · have HL := hid hlt
      have hk3 : (k : Int) + 1 < (n : Int) := by omega
      have d0 := cell0 HCW.out (i := k + 1) hlt
      have i2 := fun w => run_indexAt1 (P := Try.prog) (t := 27) (e := 111) Try.underlying27 info_lev (b := b) (o := o) (n := n) (cap := cap) (k := k) hlt w
      have l1 : (FloatKind.f32.format.order (x ((k + 1) * 3)) h == some .lt || FloatKind.f32.format.order (x ((k + 1) * 3)) h == some .eq) = decide (sv (x ((k + 1) * 3)) ≤ sv h) := le_dec (HF.out.fw hlt) HFW.out
      by_cases hle : sv (x ((k + 1) * 3)) ≤ sv h
      · rw [decide_eq_true hle] at l1
        have HF2 : Hid (∀ i, i < k + 1 → sv (x ((i + 1) * 3)) ≤ sv h) := hid fun i hi => by
          rcases Nat.lt_or_ge i k with h1 | h1
          · exact hK.out i h1
          · rw [show i = k by omega]; exact hle
        clear hle heq q1
        go_wp2
        go_roundw
        case rel => exact ⟨k + 1, by omega, by go_num, HF2, kr⟩
        case measure => simp [intOf]; omega
      · rw [decide_eq_false hle] at l1
        have HLE := hid hle
        have HNX := hid (nx_in HL.out HFW.out HK0.out hle)
        clear hle
        by_cases he : sv (x (k * 3)) = sv h
        · obtain ⟨rfl, rfl, rfl⟩ := heq he
          rw [decide_eq_true he] at q1
          clear he heq
          go_wp2_with (first | (refine store_kept (w0 := w) (l := []) rfl 44 _ _ rfl (w.heap.size) (#[.float .f32 (x (k * 3 + 1)), .float .f32 (x (k * 3 + 2))]) rfl rfl 44 (#[.float .f32 0, .float .f32 0]) (kr.out) (Nat.le_refl _) (by simp) info_air rfl (by simp [Value.oneCell']) (fun w7 k7 => ?_); replace k7 := hid k7) | (refine wpList_load_mid rfl 44 _ rfl b (o + k * 3 + 1) rfl [.float .f32 (x (k * 3 + 1)), .float .f32 (x (k * 3 + 2))] _ (range2 c1 c2) Try.underlying44 rfl info_air ?_))
          first | exact bodyPost_ret (results_row_tmp2 rfl _ _ (w.heap.size) 44 (#[.float .f32 (x (k * 3 + 1)), .float .f32 (x (k * 3 + 2))]) (0, 0) _ rfl (k7.out.at (x := (w.heap.size, #[.float .f32 (x (k * 3 + 1)), .float .f32 (x (k * 3 + 2))], 44)) (by simp)) Try.underlying44 rfl info_air) rfl ⟨_, rfl, k7.out.1, (by first | exact fun h0 => absurd h0 (by decide) | exact fun _ => HNX.out | exact HNX.out)⟩ | exact bodyPost_ret (results_row_tmp2 rfl _ _ (w.heap.size) 44 (#[.float .f32 (x (k * 3 + 1)), .float .f32 (x (k * 3 + 2))]) (0, 0) _ rfl (k7.out.at (x := (w.heap.size, #[.float .f32 (x (k * 3 + 1)), .float .f32 (x (k * 3 + 2))], 44)) (by simp)) Try.underlying44 rfl info_air) rfl ⟨⟨_, rfl⟩, k7.out.1⟩
        · rw [decide_eq_false he] at q1
          have HAt := hid (at_facts HX.out HF.out HFW.out hlt (by have := HK0.out; omega) (by have := HLE.out; omega))
          have hmid := (HR.out).symm.trans (at_mid HF.out HFW.out (k := k) hlt (by have := HK0.out; omega) (by have := HLE.out; omega))
          have r1 := fun w => run_float_arith (P := Try.prog) w .sub 23 .f32 _ _ _ HAt.out.d1
          have r2 := fun w => run_float_arith (P := Try.prog) w .sub 23 .f32 _ _ _ HAt.out.d2
          have r3 := fun w => run_float_arith (P := Try.prog) w .quo 23 .f32 _ _ _ HAt.out.q
          have HCC : Hid (∀ w', Below w.heap.size w w' → w'.cell? ⟨b, o + k * 3 + 1, none⟩ = some (.float .f32 (x (k * 3 + 1))) ∧ w'.cell? ⟨b, o + k * 3 + 1 + 1, none⟩ = some (.float .f32 (x (k * 3 + 2))) ∧ w'.cell? ⟨b, o + (k + 1) * 3 + 1, none⟩ = some (.float .f32 (x ((k + 1) * 3 + 1))) ∧ w'.cell? ⟨b, o + (k + 1) * 3 + 1 + 1, none⟩ = some (.float .f32 (x ((k + 1) * 3 + 2)))) := hid fun w' hb => by
            have hcw : ∀ j, j < 3 * n → w'.cell? ⟨b, o + j, none⟩ = some (.float .f32 (x j)) := fun j hj => by have h1 := HC.out j hj; rw [hb.cell (block_lt_of_cell h1)]; exact h1
            exact ⟨cell1 hcw (by omega), cell2 hcw (by omega), cell1 hcw hlt, cell2 hcw hlt⟩
          clear he heq
          unfold mixR at hmid
          rcases hQ : airB (mixW (x (k * 3 + 1)) (x ((k + 1) * 3 + 1)) (shW x h k)) (mixW (x (k * 3 + 2)) (x ((k + 1) * 3 + 2)) (shW x h k)) with _ | _
          · rw [hQ, if_neg (by decide)] at hmid
            injection hmid with e1 e2
            injection e2 with e2 e3
            subst e1 e2 e3
            have HQ := hid hQ
            clear hQ
            go_wp2
            go_quiet (fail)
            clear c0 c1 c2 d0 r1 r2 r3 q1 l1
            replace kr := hid (kept_drewK kr.out nq)
            go_wp2_with fail
            refine region_kept (w0 := w) (l := [(w.heap.size, #[.float .f32 0, .float .f32 0], 44)]) 13 #[false, false, false, false, false, false, false, false, false, false, false, false, false] (by kernel_rfl) rfl rfl ?_
            have kd := kr.out.drew
            generalize World.drew _ = wd at kd ⊢
            refine take_val 0 _ _ (.slice (some ⟨b, o, none⟩) n cap) rfl (by rfl) (by kernel_rfl) (by kernel_rfl) (by kernel_rfl) (fun w => by rfl) rfl rfl kd ?_
            simp only [Act.put, List.setIfInBounds_toArray, List.set_cons_zero, List.set_cons_succ]
            refine take_val 1 _ _ (.int .i64 (k : Int)) rfl (by rfl) (by kernel_rfl) (by kernel_rfl) (by kernel_rfl) (fun w => by rfl) rfl rfl kd ?_
            simp only [Act.put, List.setIfInBounds_toArray, List.set_cons_zero, List.set_cons_succ]
            refine take_val 2 _ _ (.pointer (some ⟨b, o + k * 3, none⟩)) rfl (by rfl) (by kernel_rfl) (by kernel_rfl) (by kernel_rfl) (fun w => run_index_op _ _ rfl rfl (i1 w)) rfl rfl kd ?_
            simp only [Act.put, List.setIfInBounds_toArray, List.set_cons_zero, List.set_cons_succ]
            refine take_val 3 _ _ (.pointer (some ⟨b, o + k * 3 + 1, none⟩)) rfl (by rfl) (by kernel_rfl) (by kernel_rfl) (by kernel_rfl) (fun w => by unfold execOp; go_simp) rfl rfl kd ?_
            simp only [Act.put, List.setIfInBounds_toArray, List.set_cons_zero, List.set_cons_succ]
            refine take_val 4 _ _ (.slice (some ⟨b, o, none⟩) n cap) rfl (by rfl) (by kernel_rfl) (by kernel_rfl) (by kernel_rfl) (fun w => by rfl) rfl rfl kd ?_
            simp only [Act.put, List.setIfInBounds_toArray, List.set_cons_zero, List.set_cons_succ]
            refine take_val 5 _ _ (.int .i64 (k : Int)) rfl (by rfl) (by kernel_rfl) (by kernel_rfl) (by kernel_rfl) (fun w => by rfl) rfl rfl kd ?_
            simp only [Act.put, List.setIfInBounds_toArray, List.set_cons_zero, List.set_cons_succ]
            refine take_val 6 _ _ (.int .i64 ((k : Int) + 1)) rfl (by rfl) (by kernel_rfl) (by kernel_rfl) (by kernel_rfl) (fun w => run_binop_val _ _ _ _ (by rfl) (by rfl) (by simp [eqGuard]) (run_succ HKN.out w)) rfl rfl kd ?_
            simp only [Act.put, List.setIfInBounds_toArray, List.set_cons_zero, List.set_cons_succ]
            refine take_val 7 _ _ (.pointer (some ⟨b, o + (k + 1) * 3, none⟩)) rfl (by rfl) (by kernel_rfl) (by kernel_rfl) (by kernel_rfl) (fun w => run_index_op _ _ rfl rfl (i2 w)) rfl rfl kd ?_
            simp only [Act.put, List.setIfInBounds_toArray, List.set_cons_zero, List.set_cons_succ]
            refine take_val 8 _ _ (.pointer (some ⟨b, o + (k + 1) * 3 + 1, none⟩)) rfl (by rfl) (by kernel_rfl) (by kernel_rfl) (by kernel_rfl) (fun w => by unfold execOp; go_simp) rfl rfl kd ?_
            simp only [Act.put, List.setIfInBounds_toArray, List.set_cons_zero, List.set_cons_succ]
            refine take_val 9 _ _ (.float .f32 (shW x h k)) rfl (by rfl) (by kernel_rfl) (by kernel_rfl) (by kernel_rfl) (fun w => by rfl) rfl rfl kd ?_
            simp only [Act.put, List.setIfInBounds_toArray, List.set_cons_zero, List.set_cons_succ]
            refine wpAnyH_ready (rs := [10, 11]) (by kernel_rfl) (by simp) ?_
            refine callK 10 _ _ (.agg #[.float .f32 (mixW (x (k * 3 + 1)) (x ((k + 1) * 3 + 1)) (shW x h k)), .float .f32 (mixW (x (k * 3 + 2)) (x ((k + 1) * 3 + 2)) (shW x h k))]) kd rfl (by rfl) 156 #[.pointer (some ⟨b, o + k * 3 + 1, none⟩), .pointer (some ⟨b, o + (k + 1) * 3 + 1, none⟩), .float .f32 (shW x h k)] (fun w => by unfold execOp; go_simp) rfl rfl ?hc1 (fun w1 k1 => ?_) ?_
            case hc1 => exact sMixAt _ _ _ _ _ HAt.out.m1 HAt.out.m2 _ _ _ _ _ (fun w9 hb => HCC.out w9 (kd.1.trans (hb.mono kd.1.size)))
            · refine ⟨k1, ?_⟩
              simp only [Act.put, List.setIfInBounds_toArray, List.set_cons_zero, List.set_cons_succ]
              refine wpAnyH_ready (rs := [11]) (by kernel_rfl) (by simp) ?_
              refine allocK 11 (fun g => _) _ k1 rfl (by rfl) (#[.float .f32 0, .float .f32 0]) 44 (by unfold execOp; go_simp) (fun g => rfl) rfl (fun w2 g2 k2 hB2 hn2 => ?_) AllReadyH.nil
              refine ⟨k2.tail, ?_⟩
              simp only [Act.put, List.setIfInBounds_toArray, List.set_cons_zero, List.set_cons_succ]
              refine wpAnyH_ready (rs := [12]) (by kernel_rfl) (by simp) ?_
              refine storeK 12 _ _ k2 hB2 hn2 rfl (by rfl) 44 _ _ rfl (#[.float .f32 (mixW (x (k * 3 + 1)) (x ((k + 1) * 3 + 1)) (shW x h k)), .float .f32 (mixW (x (k * 3 + 2)) (x ((k + 1) * 3 + 2)) (shW x h k))]) rfl rfl (info_air) (by simp) (by simp [Value.oneCell']) rfl rfl (fun w3 k3 => ?_) AllReadyH.nil
              refine ⟨k3.tail, ?_⟩
              refine wpAnyH_done (by kernel_rfl) (NoPanic.normal ?_) _
              have kz := hid k3
              have A1 := kz.out.at (x := (g2, #[.float .f32 (mixW (x (k * 3 + 1)) (x ((k + 1) * 3 + 1)) (shW x h k)), .float .f32 (mixW (x (k * 3 + 2)) (x ((k + 1) * 3 + 2)) (shW x h k))], 44)) (by simp)
              go_wp2_with fail
              refine (sAirAtQ (mixW (x (k * 3 + 1)) (x ((k + 1) * 3 + 1)) (shW x h k)) (mixW (x (k * 3 + 2)) (x ((k + 1) * 3 + 2)) (shW x h k)) HAt.out.m2.lt false HQ.out _ g2 0 ((cell_of_row _ g2 0 _ _ _ A1).trans rfl) ((cell_of_row _ g2 1 _ _ _ A1).trans rfl)).mono ?_
              rintro e w5 ⟨rfl, m5, rfl⟩
              have k5 := hid (kept_drewK kz.out m5)
              have hne5 : ∀ y ∈ ([(g2, #[.float .f32 (mixW (x (k * 3 + 1)) (x ((k + 1) * 3 + 1)) (shW x h k)), .float .f32 (mixW (x (k * 3 + 2)) (x ((k + 1) * 3 + 2)) (shW x h k))], 44)] : List (Nat × Array Value × TypeId)), y.1 ≠ w.heap.size := by intro y hy; simp at hy; subst hy; exact fun e => hn2 (w.heap.size, #[.float .f32 0, .float .f32 0], 44) (by simp) e.symm
              go_wp2_with (refine store_kept (w0 := w) (l := [(g2, #[.float .f32 (mixW (x (k * 3 + 1)) (x ((k + 1) * 3 + 1)) (shW x h k)), .float .f32 (mixW (x (k * 3 + 2)) (x ((k + 1) * 3 + 2)) (shW x h k))], 44)]) rfl 44 _ _ rfl (w.heap.size) (#[.float .f32 0, .float .f32 0]) rfl rfl 44 (#[.float .f32 0, .float .f32 0]) (k5.out.swap) (Nat.le_refl _) hne5 info_air rfl (by simp [Value.oneCell']) (fun w7 k7 => ?_); replace k7 := hid k7)
              first | exact bodyPost_ret (results_row_tmp2 rfl _ _ (w.heap.size) 44 (#[.float .f32 0, .float .f32 0]) (0, 0) _ rfl (k7.out.at (x := (w.heap.size, #[.float .f32 0, .float .f32 0], 44)) (by simp)) Try.underlying44 rfl info_air) rfl ⟨_, rfl, k7.out.1, (by first | exact fun h0 => absurd h0 (by decide) | exact fun _ => HNX.out | exact HNX.out)⟩ | exact bodyPost_ret (results_row_tmp2 rfl _ _ (w.heap.size) 44 (#[.float .f32 0, .float .f32 0]) (0, 0) _ rfl (k7.out.at (x := (w.heap.size, #[.float .f32 0, .float .f32 0], 44)) (by simp)) Try.underlying44 rfl info_air) rfl ⟨⟨_, rfl⟩, k7.out.1⟩
            refine allocK 11 (fun g => _) _ kd rfl (by rfl) (#[.float .f32 0, .float .f32 0]) 44 (by unfold execOp; go_simp) (fun g => rfl) rfl (fun w4 g4 k4 hB4 hn4 => ?_) AllReadyH.nil
            refine ⟨k4.tail, ?_⟩
            simp only [Act.put, List.setIfInBounds_toArray, List.set_cons_zero, List.set_cons_succ]
            refine wpAnyH_ready (rs := [10]) (by kernel_rfl) (by simp) ?_
            refine callK 10 _ _ (.agg #[.float .f32 (mixW (x (k * 3 + 1)) (x ((k + 1) * 3 + 1)) (shW x h k)), .float .f32 (mixW (x (k * 3 + 2)) (x ((k + 1) * 3 + 2)) (shW x h k))]) k4 rfl (by rfl) 156 #[.pointer (some ⟨b, o + k * 3 + 1, none⟩), .pointer (some ⟨b, o + (k + 1) * 3 + 1, none⟩), .float .f32 (shW x h k)] (fun w => by unfold execOp; go_simp) rfl rfl ?hc5 (fun w5 k5 => ?_) AllReadyH.nil
            case hc5 => exact sMixAt _ _ _ _ _ HAt.out.m1 HAt.out.m2 _ _ _ _ _ (fun w9 hb => HCC.out w9 (k4.1.trans (hb.mono k4.1.size)))
            refine ⟨k5.tail, ?_⟩
            simp only [Act.put, List.setIfInBounds_toArray, List.set_cons_zero, List.set_cons_succ]
            refine wpAnyH_ready (rs := [12]) (by kernel_rfl) (by simp) ?_
            refine storeK 12 _ _ k5 hB4 hn4 rfl (by rfl) 44 _ _ rfl (#[.float .f32 (mixW (x (k * 3 + 1)) (x ((k + 1) * 3 + 1)) (shW x h k)), .float .f32 (mixW (x (k * 3 + 2)) (x ((k + 1) * 3 + 2)) (shW x h k))]) rfl rfl (info_air) (by simp) (by simp [Value.oneCell']) rfl rfl (fun w6 k6 => ?_) AllReadyH.nil
            refine ⟨k6.tail, ?_⟩
            refine wpAnyH_done (by kernel_rfl) (NoPanic.normal ?_) _
            have kz := hid k6
            have A1 := kz.out.at (x := (g4, #[.float .f32 (mixW (x (k * 3 + 1)) (x ((k + 1) * 3 + 1)) (shW x h k)), .float .f32 (mixW (x (k * 3 + 2)) (x ((k + 1) * 3 + 2)) (shW x h k))], 44)) (by simp)
            go_wp2_with fail
            refine (sAirAtQ (mixW (x (k * 3 + 1)) (x ((k + 1) * 3 + 1)) (shW x h k)) (mixW (x (k * 3 + 2)) (x ((k + 1) * 3 + 2)) (shW x h k)) HAt.out.m2.lt false HQ.out _ g4 0 ((cell_of_row _ g4 0 _ _ _ A1).trans rfl) ((cell_of_row _ g4 1 _ _ _ A1).trans rfl)).mono ?_
            rintro e w5 ⟨rfl, m5, rfl⟩
            have k5 := hid (kept_drewK kz.out m5)
            have hne5 : ∀ y ∈ ([(g4, #[.float .f32 (mixW (x (k * 3 + 1)) (x ((k + 1) * 3 + 1)) (shW x h k)), .float .f32 (mixW (x (k * 3 + 2)) (x ((k + 1) * 3 + 2)) (shW x h k))], 44)] : List (Nat × Array Value × TypeId)), y.1 ≠ w.heap.size := by intro y hy; simp at hy; subst hy; exact fun e => hn4 (w.heap.size, #[.float .f32 0, .float .f32 0], 44) (by simp) e.symm
            go_wp2_with (refine store_kept (w0 := w) (l := [(g4, #[.float .f32 (mixW (x (k * 3 + 1)) (x ((k + 1) * 3 + 1)) (shW x h k)), .float .f32 (mixW (x (k * 3 + 2)) (x ((k + 1) * 3 + 2)) (shW x h k))], 44)]) rfl 44 _ _ rfl (w.heap.size) (#[.float .f32 0, .float .f32 0]) rfl rfl 44 (#[.float .f32 0, .float .f32 0]) (k5.out.swap) (Nat.le_refl _) hne5 info_air rfl (by simp [Value.oneCell']) (fun w7 k7 => ?_); replace k7 := hid k7)
            first | exact bodyPost_ret (results_row_tmp2 rfl _ _ (w.heap.size) 44 (#[.float .f32 0, .float .f32 0]) (0, 0) _ rfl (k7.out.at (x := (w.heap.size, #[.float .f32 0, .float .f32 0], 44)) (by simp)) Try.underlying44 rfl info_air) rfl ⟨_, rfl, k7.out.1, (by first | exact fun h0 => absurd h0 (by decide) | exact fun _ => HNX.out | exact HNX.out)⟩ | exact bodyPost_ret (results_row_tmp2 rfl _ _ (w.heap.size) 44 (#[.float .f32 0, .float .f32 0]) (0, 0) _ rfl (k7.out.at (x := (w.heap.size, #[.float .f32 0, .float .f32 0], 44)) (by simp)) Try.underlying44 rfl info_air) rfl ⟨⟨_, rfl⟩, k7.out.1⟩
          · rw [hQ, if_pos rfl] at hmid
            injection hmid with e1 e2
            injection e2 with e2 e3
            subst e1 e2 e3
            have HQ := hid hQ
            clear hQ
            go_wp2
            go_quiet (fail)
            clear c0 c1 c2 d0 r1 r2 r3 q1 l1
            replace kr := hid (kept_drewK kr.out nq)
            go_wp2_with fail
            refine region_kept (w0 := w) (l := [(w.heap.size, #[.float .f32 0, .float .f32 0], 44)]) 13 #[false, false, false, false, false, false, false, false, false, false, false, false, false] (by kernel_rfl) rfl rfl ?_
            have kd := kr.out.drew
            generalize World.drew _ = wd at kd ⊢
            refine take_val 0 _ _ (.slice (some ⟨b, o, none⟩) n cap) rfl (by rfl) (by kernel_rfl) (by kernel_rfl) (by kernel_rfl) (fun w => by rfl) rfl rfl kd ?_
            simp only [Act.put, List.setIfInBounds_toArray, List.set_cons_zero, List.set_cons_succ]
            refine take_val 1 _ _ (.int .i64 (k : Int)) rfl (by rfl) (by kernel_rfl) (by kernel_rfl) (by kernel_rfl) (fun w => by rfl) rfl rfl kd ?_
            simp only [Act.put, List.setIfInBounds_toArray, List.set_cons_zero, List.set_cons_succ]
            refine take_val 2 _ _ (.pointer (some ⟨b, o + k * 3, none⟩)) rfl (by rfl) (by kernel_rfl) (by kernel_rfl) (by kernel_rfl) (fun w => run_index_op _ _ rfl rfl (i1 w)) rfl rfl kd ?_
            simp only [Act.put, List.setIfInBounds_toArray, List.set_cons_zero, List.set_cons_succ]
            refine take_val 3 _ _ (.pointer (some ⟨b, o + k * 3 + 1, none⟩)) rfl (by rfl) (by kernel_rfl) (by kernel_rfl) (by kernel_rfl) (fun w => by unfold execOp; go_simp) rfl rfl kd ?_
            simp only [Act.put, List.setIfInBounds_toArray, List.set_cons_zero, List.set_cons_succ]
            refine take_val 4 _ _ (.slice (some ⟨b, o, none⟩) n cap) rfl (by rfl) (by kernel_rfl) (by kernel_rfl) (by kernel_rfl) (fun w => by rfl) rfl rfl kd ?_
            simp only [Act.put, List.setIfInBounds_toArray, List.set_cons_zero, List.set_cons_succ]
            refine take_val 5 _ _ (.int .i64 (k : Int)) rfl (by rfl) (by kernel_rfl) (by kernel_rfl) (by kernel_rfl) (fun w => by rfl) rfl rfl kd ?_
            simp only [Act.put, List.setIfInBounds_toArray, List.set_cons_zero, List.set_cons_succ]
            refine take_val 6 _ _ (.int .i64 ((k : Int) + 1)) rfl (by rfl) (by kernel_rfl) (by kernel_rfl) (by kernel_rfl) (fun w => run_binop_val _ _ _ _ (by rfl) (by rfl) (by simp [eqGuard]) (run_succ HKN.out w)) rfl rfl kd ?_
            simp only [Act.put, List.setIfInBounds_toArray, List.set_cons_zero, List.set_cons_succ]
            refine take_val 7 _ _ (.pointer (some ⟨b, o + (k + 1) * 3, none⟩)) rfl (by rfl) (by kernel_rfl) (by kernel_rfl) (by kernel_rfl) (fun w => run_index_op _ _ rfl rfl (i2 w)) rfl rfl kd ?_
            simp only [Act.put, List.setIfInBounds_toArray, List.set_cons_zero, List.set_cons_succ]
            refine take_val 8 _ _ (.pointer (some ⟨b, o + (k + 1) * 3 + 1, none⟩)) rfl (by rfl) (by kernel_rfl) (by kernel_rfl) (by kernel_rfl) (fun w => by unfold execOp; go_simp) rfl rfl kd ?_
            simp only [Act.put, List.setIfInBounds_toArray, List.set_cons_zero, List.set_cons_succ]
            refine take_val 9 _ _ (.float .f32 (shW x h k)) rfl (by rfl) (by kernel_rfl) (by kernel_rfl) (by kernel_rfl) (fun w => by rfl) rfl rfl kd ?_
            simp only [Act.put, List.setIfInBounds_toArray, List.set_cons_zero, List.set_cons_succ]
            refine wpAnyH_ready (rs := [10, 11]) (by kernel_rfl) (by simp) ?_
            refine callK 10 _ _ (.agg #[.float .f32 (mixW (x (k * 3 + 1)) (x ((k + 1) * 3 + 1)) (shW x h k)), .float .f32 (mixW (x (k * 3 + 2)) (x ((k + 1) * 3 + 2)) (shW x h k))]) kd rfl (by rfl) 156 #[.pointer (some ⟨b, o + k * 3 + 1, none⟩), .pointer (some ⟨b, o + (k + 1) * 3 + 1, none⟩), .float .f32 (shW x h k)] (fun w => by unfold execOp; go_simp) rfl rfl ?hc1 (fun w1 k1 => ?_) ?_
            case hc1 => exact sMixAt _ _ _ _ _ HAt.out.m1 HAt.out.m2 _ _ _ _ _ (fun w9 hb => HCC.out w9 (kd.1.trans (hb.mono kd.1.size)))
            · refine ⟨k1, ?_⟩
              simp only [Act.put, List.setIfInBounds_toArray, List.set_cons_zero, List.set_cons_succ]
              refine wpAnyH_ready (rs := [11]) (by kernel_rfl) (by simp) ?_
              refine allocK 11 (fun g => _) _ k1 rfl (by rfl) (#[.float .f32 0, .float .f32 0]) 44 (by unfold execOp; go_simp) (fun g => rfl) rfl (fun w2 g2 k2 hB2 hn2 => ?_) AllReadyH.nil
              refine ⟨k2.tail, ?_⟩
              simp only [Act.put, List.setIfInBounds_toArray, List.set_cons_zero, List.set_cons_succ]
              refine wpAnyH_ready (rs := [12]) (by kernel_rfl) (by simp) ?_
              refine storeK 12 _ _ k2 hB2 hn2 rfl (by rfl) 44 _ _ rfl (#[.float .f32 (mixW (x (k * 3 + 1)) (x ((k + 1) * 3 + 1)) (shW x h k)), .float .f32 (mixW (x (k * 3 + 2)) (x ((k + 1) * 3 + 2)) (shW x h k))]) rfl rfl (info_air) (by simp) (by simp [Value.oneCell']) rfl rfl (fun w3 k3 => ?_) AllReadyH.nil
              refine ⟨k3.tail, ?_⟩
              refine wpAnyH_done (by kernel_rfl) (NoPanic.normal ?_) _
              have kz := hid k3
              have A1 := kz.out.at (x := (g2, #[.float .f32 (mixW (x (k * 3 + 1)) (x ((k + 1) * 3 + 1)) (shW x h k)), .float .f32 (mixW (x (k * 3 + 2)) (x ((k + 1) * 3 + 2)) (shW x h k))], 44)) (by simp)
              go_wp2_with fail
              refine (sAirAtQ (mixW (x (k * 3 + 1)) (x ((k + 1) * 3 + 1)) (shW x h k)) (mixW (x (k * 3 + 2)) (x ((k + 1) * 3 + 2)) (shW x h k)) HAt.out.m2.lt true HQ.out _ g2 0 ((cell_of_row _ g2 0 _ _ _ A1).trans rfl) ((cell_of_row _ g2 1 _ _ _ A1).trans rfl)).mono ?_
              rintro e w5 ⟨rfl, m5, rfl⟩
              have k5 := hid (kept_drewK kz.out m5)
              have hne5 : ∀ y ∈ ([(g2, #[.float .f32 (mixW (x (k * 3 + 1)) (x ((k + 1) * 3 + 1)) (shW x h k)), .float .f32 (mixW (x (k * 3 + 2)) (x ((k + 1) * 3 + 2)) (shW x h k))], 44)] : List (Nat × Array Value × TypeId)), y.1 ≠ w.heap.size := by intro y hy; simp at hy; subst hy; exact fun e => hn2 (w.heap.size, #[.float .f32 0, .float .f32 0], 44) (by simp) e.symm
              go_wp2_with (first | (refine store_kept (w0 := w) (l := [(g2, #[.float .f32 (mixW (x (k * 3 + 1)) (x ((k + 1) * 3 + 1)) (shW x h k)), .float .f32 (mixW (x (k * 3 + 2)) (x ((k + 1) * 3 + 2)) (shW x h k))], 44)]) rfl 44 _ _ rfl (w.heap.size) (#[.float .f32 (mixW (x (k * 3 + 1)) (x ((k + 1) * 3 + 1)) (shW x h k)), .float .f32 (mixW (x (k * 3 + 2)) (x ((k + 1) * 3 + 2)) (shW x h k))]) rfl rfl 44 (#[.float .f32 0, .float .f32 0]) (k5.out.swap) (Nat.le_refl _) hne5 info_air rfl (by simp [Value.oneCell']) (fun w7 k7 => ?_); replace k7 := hid k7) | (refine wpList_load_row rfl 44 _ rfl (g2) rfl 44 (#[.float .f32 (mixW (x (k * 3 + 1)) (x ((k + 1) * 3 + 1)) (shW x h k)), .float .f32 (mixW (x (k * 3 + 2)) (x ((k + 1) * 3 + 2)) (shW x h k))]) (0, 0) _ (k5.out.at (x := (g2, #[.float .f32 (mixW (x (k * 3 + 1)) (x ((k + 1) * 3 + 1)) (shW x h k)), .float .f32 (mixW (x (k * 3 + 2)) (x ((k + 1) * 3 + 2)) (shW x h k))], 44)) (by simp)) Try.underlying44 rfl info_air ?_))
              first | exact bodyPost_ret (results_row_tmp2 rfl _ _ (w.heap.size) 44 (#[.float .f32 (mixW (x (k * 3 + 1)) (x ((k + 1) * 3 + 1)) (shW x h k)), .float .f32 (mixW (x (k * 3 + 2)) (x ((k + 1) * 3 + 2)) (shW x h k))]) (0, 0) _ rfl (k7.out.at (x := (w.heap.size, #[.float .f32 (mixW (x (k * 3 + 1)) (x ((k + 1) * 3 + 1)) (shW x h k)), .float .f32 (mixW (x (k * 3 + 2)) (x ((k + 1) * 3 + 2)) (shW x h k))], 44)) (by simp)) Try.underlying44 rfl info_air) rfl ⟨_, rfl, k7.out.1, (by first | exact fun h0 => absurd h0 (by decide) | exact fun _ => HNX.out | exact HNX.out)⟩ | exact bodyPost_ret (results_row_tmp2 rfl _ _ (w.heap.size) 44 (#[.float .f32 (mixW (x (k * 3 + 1)) (x ((k + 1) * 3 + 1)) (shW x h k)), .float .f32 (mixW (x (k * 3 + 2)) (x ((k + 1) * 3 + 2)) (shW x h k))]) (0, 0) _ rfl (k7.out.at (x := (w.heap.size, #[.float .f32 (mixW (x (k * 3 + 1)) (x ((k + 1) * 3 + 1)) (shW x h k)), .float .f32 (mixW (x (k * 3 + 2)) (x ((k + 1) * 3 + 2)) (shW x h k))], 44)) (by simp)) Try.underlying44 rfl info_air) rfl ⟨⟨_, rfl⟩, k7.out.1⟩
            refine allocK 11 (fun g => _) _ kd rfl (by rfl) (#[.float .f32 0, .float .f32 0]) 44 (by unfold execOp; go_simp) (fun g => rfl) rfl (fun w4 g4 k4 hB4 hn4 => ?_) AllReadyH.nil
            refine ⟨k4.tail, ?_⟩
            simp only [Act.put, List.setIfInBounds_toArray, List.set_cons_zero, List.set_cons_succ]
            refine wpAnyH_ready (rs := [10]) (by kernel_rfl) (by simp) ?_
            refine callK 10 _ _ (.agg #[.float .f32 (mixW (x (k * 3 + 1)) (x ((k + 1) * 3 + 1)) (shW x h k)), .float .f32 (mixW (x (k * 3 + 2)) (x ((k + 1) * 3 + 2)) (shW x h k))]) k4 rfl (by rfl) 156 #[.pointer (some ⟨b, o + k * 3 + 1, none⟩), .pointer (some ⟨b, o + (k + 1) * 3 + 1, none⟩), .float .f32 (shW x h k)] (fun w => by unfold execOp; go_simp) rfl rfl ?hc5 (fun w5 k5 => ?_) AllReadyH.nil
            case hc5 => exact sMixAt _ _ _ _ _ HAt.out.m1 HAt.out.m2 _ _ _ _ _ (fun w9 hb => HCC.out w9 (k4.1.trans (hb.mono k4.1.size)))
            refine ⟨k5.tail, ?_⟩
            simp only [Act.put, List.setIfInBounds_toArray, List.set_cons_zero, List.set_cons_succ]
            refine wpAnyH_ready (rs := [12]) (by kernel_rfl) (by simp) ?_
            refine storeK 12 _ _ k5 hB4 hn4 rfl (by rfl) 44 _ _ rfl (#[.float .f32 (mixW (x (k * 3 + 1)) (x ((k + 1) * 3 + 1)) (shW x h k)), .float .f32 (mixW (x (k * 3 + 2)) (x ((k + 1) * 3 + 2)) (shW x h k))]) rfl rfl (info_air) (by simp) (by simp [Value.oneCell']) rfl rfl (fun w6 k6 => ?_) AllReadyH.nil
            refine ⟨k6.tail, ?_⟩
            refine wpAnyH_done (by kernel_rfl) (NoPanic.normal ?_) _
            have kz := hid k6
            have A1 := kz.out.at (x := (g4, #[.float .f32 (mixW (x (k * 3 + 1)) (x ((k + 1) * 3 + 1)) (shW x h k)), .float .f32 (mixW (x (k * 3 + 2)) (x ((k + 1) * 3 + 2)) (shW x h k))], 44)) (by simp)
            go_wp2_with fail
            refine (sAirAtQ (mixW (x (k * 3 + 1)) (x ((k + 1) * 3 + 1)) (shW x h k)) (mixW (x (k * 3 + 2)) (x ((k + 1) * 3 + 2)) (shW x h k)) HAt.out.m2.lt true HQ.out _ g4 0 ((cell_of_row _ g4 0 _ _ _ A1).trans rfl) ((cell_of_row _ g4 1 _ _ _ A1).trans rfl)).mono ?_
            rintro e w5 ⟨rfl, m5, rfl⟩
            have k5 := hid (kept_drewK kz.out m5)
            have hne5 : ∀ y ∈ ([(g4, #[.float .f32 (mixW (x (k * 3 + 1)) (x ((k + 1) * 3 + 1)) (shW x h k)), .float .f32 (mixW (x (k * 3 + 2)) (x ((k + 1) * 3 + 2)) (shW x h k))], 44)] : List (Nat × Array Value × TypeId)), y.1 ≠ w.heap.size := by intro y hy; simp at hy; subst hy; exact fun e => hn4 (w.heap.size, #[.float .f32 0, .float .f32 0], 44) (by simp) e.symm
            go_wp2_with (first | (refine store_kept (w0 := w) (l := [(g4, #[.float .f32 (mixW (x (k * 3 + 1)) (x ((k + 1) * 3 + 1)) (shW x h k)), .float .f32 (mixW (x (k * 3 + 2)) (x ((k + 1) * 3 + 2)) (shW x h k))], 44)]) rfl 44 _ _ rfl (w.heap.size) (#[.float .f32 (mixW (x (k * 3 + 1)) (x ((k + 1) * 3 + 1)) (shW x h k)), .float .f32 (mixW (x (k * 3 + 2)) (x ((k + 1) * 3 + 2)) (shW x h k))]) rfl rfl 44 (#[.float .f32 0, .float .f32 0]) (k5.out.swap) (Nat.le_refl _) hne5 info_air rfl (by simp [Value.oneCell']) (fun w7 k7 => ?_); replace k7 := hid k7) | (refine wpList_load_row rfl 44 _ rfl (g4) rfl 44 (#[.float .f32 (mixW (x (k * 3 + 1)) (x ((k + 1) * 3 + 1)) (shW x h k)), .float .f32 (mixW (x (k * 3 + 2)) (x ((k + 1) * 3 + 2)) (shW x h k))]) (0, 0) _ (k5.out.at (x := (g4, #[.float .f32 (mixW (x (k * 3 + 1)) (x ((k + 1) * 3 + 1)) (shW x h k)), .float .f32 (mixW (x (k * 3 + 2)) (x ((k + 1) * 3 + 2)) (shW x h k))], 44)) (by simp)) Try.underlying44 rfl info_air ?_))
            first | exact bodyPost_ret (results_row_tmp2 rfl _ _ (w.heap.size) 44 (#[.float .f32 (mixW (x (k * 3 + 1)) (x ((k + 1) * 3 + 1)) (shW x h k)), .float .f32 (mixW (x (k * 3 + 2)) (x ((k + 1) * 3 + 2)) (shW x h k))]) (0, 0) _ rfl (k7.out.at (x := (w.heap.size, #[.float .f32 (mixW (x (k * 3 + 1)) (x ((k + 1) * 3 + 1)) (shW x h k)), .float .f32 (mixW (x (k * 3 + 2)) (x ((k + 1) * 3 + 2)) (shW x h k))], 44)) (by simp)) Try.underlying44 rfl info_air) rfl ⟨_, rfl, k7.out.1, (by first | exact fun h0 => absurd h0 (by decide) | exact fun _ => HNX.out | exact HNX.out)⟩ | exact bodyPost_ret (results_row_tmp2 rfl _ _ (w.heap.size) 44 (#[.float .f32 (mixW (x (k * 3 + 1)) (x ((k + 1) * 3 + 1)) (shW x h k)), .float .f32 (mixW (x (k * 3 + 2)) (x ((k + 1) * 3 + 2)) (shW x h k))]) (0, 0) _ rfl (k7.out.at (x := (w.heap.size, #[.float .f32 (mixW (x (k * 3 + 1)) (x ((k + 1) * 3 + 1)) (shW x h k)), .float .f32 (mixW (x (k * 3 + 2)) (x ((k + 1) * 3 + 2)) (shW x h k))], 44)) (by simp)) Try.underlying44 rfl info_air) rfl ⟨⟨_, rfl⟩, k7.out.1⟩
    · obtain rfl : n = k + 1 := by omega
      have HNX := hid (nx_end HFW.out HK0.out)
      have hk3 : ¬ (k : Int) + 1 < ((k + 1 : Nat) : Int) := by omega
      have he : sv (x (k * 3)) = sv h := by
        have h1 := HY9.out
        rw [Nat.add_sub_cancel] at h1
        have := HK0.out
        omega
      obtain ⟨rfl, rfl, rfl⟩ := heq he
      rw [decide_eq_true he] at q1
      clear he heq
      go_wp2_with (first | (refine store_kept (w0 := w) (l := []) rfl 44 _ _ rfl (w.heap.size) (#[.float .f32 (x (k * 3 + 1)), .float .f32 (x (k * 3 + 2))]) rfl rfl 44 (#[.float .f32 0, .float .f32 0]) (kr.out) (Nat.le_refl _) (by simp) info_air rfl (by simp [Value.oneCell']) (fun w7 k7 => ?_); replace k7 := hid k7) | (refine wpList_load_mid rfl 44 _ rfl b (o + k * 3 + 1) rfl [.float .f32 (x (k * 3 + 1)), .float .f32 (x (k * 3 + 2))] _ (range2 c1 c2) Try.underlying44 rfl info_air ?_))
      first | exact bodyPost_ret (results_row_tmp2 rfl _ _ (w.heap.size) 44 (#[.float .f32 (x (k * 3 + 1)), .float .f32 (x (k * 3 + 2))]) (0, 0) _ rfl (k7.out.at (x := (w.heap.size, #[.float .f32 (x (k * 3 + 1)), .float .f32 (x (k * 3 + 2))], 44)) (by simp)) Try.underlying44 rfl info_air) rfl ⟨_, rfl, k7.out.1, (by first | exact fun h0 => absurd h0 (by decide) | exact fun _ => HNX.out | exact HNX.out)⟩ | exact bodyPost_ret (results_row_tmp2 rfl _ _ (w.heap.size) 44 (#[.float .f32 (x (k * 3 + 1)), .float .f32 (x (k * 3 + 2))]) (0, 0) _ rfl (k7.out.at (x := (w.heap.size, #[.float .f32 (x (k * 3 + 1)), .float .f32 (x (k * 3 + 2))], 44)) (by simp)) Try.underlying44 rfl info_air) rfl ⟨⟨_, rfl⟩, k7.out.1⟩

set_option maxHeartbeats 1000000 in
set_option maxRecDepth 100000 in
theorem sVapour_bad (n : Nat) (x : Nat → Nat) (hx : W32 x) (hq : souB n x = false) (h : Nat) (w : World) (s : Value) (hs : Rd w s n x) (hn : n ≤ 1048576) :
    Calls Try.prog 20 #[s, .float .f32 h] w fun e w' => e = .returned (.tuple #[.float .f32 0, .int .i64 1]) ∧ Below w.heap.size w w' := by
  have HV := hid (sSounding _ n x hn hx _ hs false hq)
  obtain ⟨p, cap, rfl, hc⟩ := hs
  clear hc hx hq
  go_enter Try.func20, Try.ntmps20
  go_wp2_with fail
  refine HV.out.mono ?_
  rintro e w1 ⟨rfl, hb1⟩
  go_wp2
  go_ret2
  exact ⟨rfl, hb1⟩

set_option maxHeartbeats 2000000 in
set_option maxRecDepth 100000 in
theorem sVapour_ok (n : Nat) (x : Nat → Nat) (hx : W32 x) (hq : souB n x = true) (h : Nat) (hl : h < 4294967296) (rh rv : Nat) (c : Int) (hr : atR n x h = (rh, rv, c)) (hv : c = 0 → rv ≤ 1148846080) (R : Nat) (hR : c ≠ 0 → R = 0) (hR' : c = 0 → ∀ i, Nx n x h i → smV x h rv i (n - i) = R) (w : World) (s : Value) (hs : Rd w s n x) (hn : n ≤ 1048576) :
    Calls Try.prog 20 #[s, .float .f32 h] w fun e w' => e = .returned (.tuple #[.float .f32 R, .int .i64 c]) ∧ Below w.heap.size w w' := by
  have F := souB_iff.1 hq
  have hlo := F.lo
  have HV := hid (sSounding _ n x hn hx _ hs true hq)
  have HA := hid (fun u (hu : Below w.heap.size w u) => sAtI n x hx hq h hl u _ (hs.stay hu) rh rv c hr)
  obtain ⟨p, cap, rfl, hc⟩ := hs
  obtain ⟨b, o, rfl, hcell⟩ := hc (by omega)
  have HC := hid hcell
  have HF := hid F
  have HN := hid hn
  have HR := hid hR
  have HR' := hid hR'
  have HVV := hid hv
  clear hc hx hq hr hcell F hR hR' hv hn hlo
  go_enter Try.func20, Try.ntmps20
  go_wp2_with fail
  refine HV.out.mono ?_
  rintro e w1 ⟨rfl, hb1⟩
  go_wp2_with fail
  refine (HA.out w1 hb1).mono ?_
  rintro e w2 ⟨i, rfl, hb2, hNx⟩
  have k2 : Hid (Kept w [] w2) := hid (((Kept.nil w).stay hb1).stay hb2)
  have k3 : Hid (Kept w [(w2.heap.size, #[.float .f32 0, .float .f32 0], 44)] (w2.alloc (.cells #[.float .f32 0, .float .f32 0] 44))) := hid (k2.out.push _ _)
  have hge := hid k2.out.size
  have HNX := hid hNx
  clear hb1 hb2 hNx k2
  by_cases hc : c = 0
  · subst hc
    obtain ⟨j, rfl, hN⟩ := HNX.out rfl
    have HJ := hid hN
    have hR := HR'.out rfl j hN
    have hv := HVV.out rfl
    have HVL := hid hv
    have hj := hid hN.2.1
    clear HR HR' HVV HNX hN hv HA HV
    subst hR
    go_wp2_with (first | (refine store_kept (w0 := w) (l := []) rfl 44 _ _ rfl (w2.heap.size) (#[.float .f32 rh, .float .f32 rv]) rfl rfl 44 (#[.float .f32 0, .float .f32 0]) (k3.out) hge.out (by simp) info_air rfl (by simp [Value.oneCell']) (fun w7 k7 => ?_); replace k7 := hid k7; have q7 : w7.cell? ⟨w2.heap.size, 1, none⟩ = some (.float .f32 rv) := (cell_of_row _ w2.heap.size 1 _ _ _ (k7.out.at (x := (w2.heap.size, #[.float .f32 rh, .float .f32 rv], 44)) (by simp))).trans rfl; clear k3))
    go_loopw [9, 10, 11, 12] (fun s a v i wr => ∃ m : Nat, j + m ≤ n ∧ s = .float .f32 (smV x h rv j m) ∧ a = .float .f32 (atV x h j m) ∧ v = .float .f32 (vpV x rv j m) ∧ i = .int .i64 ((j + m : Nat) : Int) ∧ Hid (Below w.heap.size w wr)) (fun _ _ _ i _ => n - (intOf i).toNat)
    case atStart => exact ⟨0, hj.out, rfl, rfl, rfl, rfl, hid k7.out.1⟩
    case round =>
      obtain ⟨m, hm, rfl, rfl, rfl, rfl, hb⟩ := hrel
      clear k7 q7
      by_cases hlt : j + m < n
      · have HL := hid hlt
        have hk3 : ((j + m : Nat) : Int) < (n : Int) := by omega
        have LF := hid (lay_facts HF.out HJ.out HVL.out hlt)
        have hS := hid (smV_nn HF.out HJ.out HVL.out m hm)
        have hcw : ∀ j, j < 3 * n → wr.cell? ⟨b, o + j, none⟩ = some (.float .f32 (x j)) := fun j hj => by have h1 := HC.out j hj; rw [hb.out.cell (block_lt_of_cell h1)]; exact h1
        have c0 := cell0 hcw (i := j + m) hlt
        have c2 := cell2 hcw (i := j + m) hlt
        have hn1 := HN.out
        have HKN : Hid (j + m ≤ 1048576) := hid (by omega)
        have i1 := fun w => run_indexAt (P := Try.prog) (t := 27) (e := 111) Try.underlying27 info_lev (b := b) (o := o) (n := n) (cap := cap) (k := j + m) (by omega) w
        have r1 := fun w => run_float_arith (P := Try.prog) w .add 23 .f32 _ _ _ LF.out.r1
        have r2 := fun w => run_float_arith (P := Try.prog) w .mul 23 .f32 _ _ _ LF.out.r2
        have r3 := fun w => run_float_arith (P := Try.prog) w .sub 23 .f32 _ _ _ LF.out.r3
        have r4 := fun w => run_float_arith (P := Try.prog) w .mul 23 .f32 _ _ _ LF.out.r4
        have r5 := fun w => run_add (P := Try.prog) 23 hS.out LF.out.nn w
        have hE : fadd (smV x h rv j m) (lyV (atV x h j m) (vpV x rv j m) (x ((j + m) * 3)) (x ((j + m) * 3 + 2))) = smV x h rv j (m + 1) := rfl
        generalize hkm : j + m = km at *
        clear hcw hn1
        go_wp2_with fail
        go_quiet (fail)
        have c0' : World.cell? (World.drewN wr nq) ⟨b, o + km * 3, none⟩ = some (.float .f32 (x (km * 3))) := c0
        have c2' : World.cell? (World.drewN wr nq) ⟨b, o + km * 3 + 2, none⟩ = some (.float .f32 (x (km * 3 + 2))) := c2
        have c2'' : World.cell? (World.drewN wr nq) ⟨b, o + km * 3 + 1 + 1, none⟩ = some (.float .f32 (x (km * 3 + 2))) := c2
        clear c0 c2 r1 r2 r3 r4 r5
        have hkn : km ≤ 1048576 := HKN.out
        have hw : IntKind.i64.wrap ((km : Int) + 1) = (km : Int) + 1 := by rw [IntKind.wrap_i64]; omega
        go_wp2_with fail
        go_roundw
        case rel =>
          have h9 := HL.out
          refine ⟨m + 1, by omega, ?_, ?_, ?_, ?_, hid (below_drewN hb.out _)⟩
          · rfl
          · show _ = Value.float .f32 (x ((j + m) * 3)); rw [hkm]
          · show _ = Value.float .f32 (x ((j + m) * 3 + 2)); rw [hkm]
          · rw [show j + (m + 1) = km + 1 by omega]; go_num
        case measure => have h9 := HL.out; clear hE; simp [intOf]; omega
      · obtain rfl : m = n - j := by omega
        go_wp2
        go_ret2
        exact ⟨rfl, hb.out⟩
  · obtain rfl := HR.out hc
    have hcz := hc
    clear HR HR' HVV HNX HA HV hc
    go_wp2_with (first | (refine store_kept (w0 := w) (l := []) rfl 44 _ _ rfl (w2.heap.size) (#[.float .f32 rh, .float .f32 rv]) rfl rfl 44 (#[.float .f32 0, .float .f32 0]) (k3.out) hge.out (by simp) info_air rfl (by simp [Value.oneCell']) (fun w7 k7 => ?_); replace k7 := hid k7; clear k3))
    go_ret2
    exact ⟨rfl, k7.out.1⟩

set_option maxRecDepth 100000 in
theorem iDepth2 (a p v b q u : Nat) (h : Ieee.Format.sub S b a = some (fsb b a)) (w : World) :
    Calls Try.prog 158 #[.agg #[.float .f32 a, .float .f32 p, .float .f32 v, .float .f32 b, .float .f32 q, .float .f32 u]] w fun e w' => e = .returned (.float .f32 (fsb b a)) ∧ Below w.heap.size w w' := by
  have hr := fun w => run_float_arith (P := Try.prog) w .sub 23 .f32 _ _ _ h
  have b0 := boxed w (.cells #[.float .f32 a, .float .f32 p, .float .f32 v, .float .f32 b, .float .f32 q, .float .f32 u] 120)
  clear h
  go_enter Try.func158, Try.ntmps158
  go_wp2
  go_ret
  exact ⟨rfl, b0⟩

set_option maxRecDepth 100000 in
theorem iVapour (a p v b q u : Nat) (h : LyF a v b u) (w : World) :
    Calls Try.prog 81 #[.agg #[.float .f32 a, .float .f32 p, .float .f32 v, .float .f32 b, .float .f32 q, .float .f32 u]] w fun e w' => e = .returned (.float .f32 (lyV a v b u)) ∧ Below w.heap.size w w' := by
  have H := hid h
  have r1 := fun w => run_float_arith (P := Try.prog) w .add 23 .f32 _ _ _ h.r1
  have r2 := fun w => run_float_arith (P := Try.prog) w .mul 23 .f32 _ _ _ h.r2
  have r4 := fun w => run_float_arith (P := Try.prog) w .mul 23 .f32 _ _ _ h.r4
  have b0 := boxed w (.cells #[.float .f32 a, .float .f32 p, .float .f32 v, .float .f32 b, .float .f32 q, .float .f32 u] 120)
  clear h
  go_enter Try.func81, Try.ntmps81
  go_wp2_with fail
  refine (iDepth2 a p v b q u H.out.r3 _).mono ?_
  rintro e w1 ⟨rfl, hb1⟩
  have c1 := stp b0 (Nat.le_refl _) hb1
  clear b0 hb1
  go_wp2
  go_ret
  exact ⟨rfl, c1⟩
end Go.Proofs.Ytgmcpbhjcfiikaa
