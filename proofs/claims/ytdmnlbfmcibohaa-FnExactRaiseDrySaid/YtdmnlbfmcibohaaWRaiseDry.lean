import Derived.Test.YtdmnlbfmcibohaaCRaiseDry
import Derived.Test.YtdmnlbfmcibohaaChecked
import Derived.Test.YtdmnlbfmcibohaaRows
import Derived.Laws.FloatArith
import Derived.ProofKit
import Derived.WalkKit
import Derived.WalkLawsBesides
import Derived.WalkSpells
import Derived.Deep.QuietTactic
import Derived.BigQuiet
import Derived.Deep.RegionHeld3
import Derived.ChangeKeysEq
import Derived.Laws.BitsAllLaws
import Derived.Deep.MidRow
import Derived.Deep.WholeRow
import Derived.StillTailTactics
import Derived.Deep.Slices
import Derived.ChangeSame
import Derived.OrdersIn
import Derived.ControlIn
import Derived.RangeFuncSeq
import Derived.RangeFuncNested
import Derived.RangeFuncLeaves
import Derived.RangeFuncBox
import Derived.OwnWalkIn
import Derived.TacticsInMore
import Derived.LoopNIn
import Derived.LoopIn
import Derived.Shelf.Abstract
import Derived.ArgAppend
import Derived.Lib.SliceRun
import Derived.OpenShut
/- The law FnExactRaiseDry of chapter 1: at every argument the call returns true, and what was there before it is as it was. -/
namespace Go.Proofs.Ytdmnlbfmcibohaa
open Go.RowKit Go.Fl

@[go_sem] theorem ext_f64bits (y : Nat) (w : World) : (callFunc 170 #[.float .f64 y]).run Try.prog w = .ok (.value (.int .u64 y)) w := by
  rw [run_callFunc_extern Try.func170 (by kernel_rfl) (by kernel_rfl) (by kernel_rfl) (e := Extern.MathFloatBits.float64bits) (by kernel_rfl)]
  rfl

@[go_sem] theorem ext_f64from (n : Int) (w : World) : (callFunc 172 #[.int .u64 n]).run Try.prog w = .ok (.value (.float .f64 n.toNat)) w := by
  rw [run_callFunc_extern Try.func172 (by kernel_rfl) (by kernel_rfl) (by kernel_rfl) (e := Extern.MathFloatBits.float64frombits) (by kernel_rfl)]
  rfl

theorem hid {p : Prop} (h : p) : Hid p := h

theorem clear_sign (y : Nat) (h : y < 18446744073709551616) : (bits BinOp.andNot IntKind.u64 (y : Int) 9223372036854775808).toNat = y % 9223372036854775808 := by
  rw [u64_andNot _ _ (by omega) (by omega) (by omega) (by omega)]
  rw [Int.toNat_natCast, Int.toNat_natCast]
  exact Nat.and_two_pow_sub_one_eq_mod y 63

theorem abs_f64 (y : Nat) (h : y < 18446744073709551616) (w : World) :
    Calls Try.prog 157 #[.float .f64 y] w fun e w' => e = .returned (.float .f64 (y % 9223372036854775808)) ∧ w = w' := by
  have hc := hid (clear_sign y h)
  clear h
  go_enter Try.func157, Try.ntmps157
  go_wp2
  go_ret
  exact ⟨by simp [hc.out], rfl⟩

theorem isNaN_f64 (y : Nat) (w : World) :
    Calls Try.prog 125 #[.float .f64 y] w fun e w' => e = .returned (.bool (FloatKind.f64.format.order y y != some .eq)) ∧ w = w' := by
  go_enter Try.func125, Try.ntmps125
  go_wp2
  go_ret
  exact ⟨rfl, rfl⟩

theorem isInf_f64 (y : Nat) (h : y < 18446744073709551616) (w : World) :
    Calls Try.prog 126 #[.float .f64 y, .int .i64 0] w fun e w' => e = .returned (.bool (FloatKind.f64.format.order (y % 9223372036854775808) 9218868437227405311 == some .gt)) ∧ w = w' := by
  have hc := hid h
  clear h
  go_enter Try.func126, Try.ntmps126
  go_wp2_with (go_at_call 157; refine (abs_f64 y hc.out _).mono ?_; rintro e w' ⟨rfl, rfl⟩)
  go_ret
  exact ⟨rfl, rfl⟩

theorem isFinite_t (x : Nat) (hx : x < 4294967296) (h : finB x = true) (w : World) :
    Calls Try.prog 78 #[.float .f32 x] w fun e w' => e = .returned (.bool true) ∧ w = w' := by
  rw [finB_iff] at h
  have hc := fun w => run_conv_wid (P := Try.prog) w 22 29 x hx Try.underlying22 Try.underlying29 h
  obtain ⟨a, b, m, e, hr⟩ := read_wid_fin hx h
  have hn : (FloatKind.f64.format.order (wid x) (wid x) != some .eq) = false := by
    show (D.order (wid x) (wid x) != some .eq) = false
    rw [order_self hr]; rfl
  have hi : (FloatKind.f64.format.order (wid x % 9223372036854775808) 9218868437227405311 == some .gt) = false := by
    show (D.order (wid x % 9223372036854775808) 9218868437227405311 == some .gt) = false
    rw [b, order_ltD a (by decide)]
    rw [DINF_val] at a
    have hle : wid (mg x) ≤ 9218868437227405311 := by omega
    rcases Nat.lt_or_eq_of_le hle with h' | h'
    · rw [Nat.compare_eq_lt.2 h']; rfl
    · rw [Nat.compare_eq_eq.2 h']; rfl
  have hw : wid x < 18446744073709551616 := D.write_lt _
  have Hn := hid hn
  have Hi := hid hi
  have Hw := hid hw
  clear hn hi hw hr a b h hx
  go_enter Try.func78, Try.ntmps78
  go_wp2_with (first | (go_at_call 125; refine (isNaN_f64 (wid x) _).mono ?_; rintro e w' ⟨rfl, rfl⟩; rw [Hn.out]) | (go_at_call 126; refine (isInf_f64 (wid x) Hw.out _).mono ?_; rintro e w' ⟨rfl, rfl⟩; rw [Hi.out]))
  go_ret
  exact ⟨rfl, rfl⟩

theorem isFinite_f (x : Nat) (hx : x < 4294967296) (h : finB x = false) (w : World) :
    Calls Try.prog 78 #[.float .f32 x] w fun e w' => e = .returned (.bool false) ∧ Below w.heap.size w w' := by
  rw [finB_iff'] at h
  rcases Nat.lt_or_eq_of_le h with h | h
  · obtain ⟨z, hc, h1, _⟩ := run_conv_nan (P := Try.prog) w 22 29 x Try.underlying22 Try.underlying29 h
    obtain ⟨s, t, hr⟩ := read_nanD h1
    have Hn := hid (show (FloatKind.f64.format.order z z != some .eq) = true by
      show (D.order z z != some .eq) = true
      rw [order_nan hr]; rfl)
    clear h h1 hr hx
    go_enter Try.func78, Try.ntmps78
    go_wp2_with (go_at_call 125; refine (isNaN_f64 z _).mono ?_; rintro e w' ⟨rfl, rfl⟩; rw [Hn.out])
    go_ret
    exact ⟨rfl, (Below.refl _ _).drew⟩
  · obtain ⟨z, hc, h1, h2⟩ := run_conv_inf (P := Try.prog) w 22 29 x hx Try.underlying22 Try.underlying29 h.symm
    have hr : D.read z = .infinity (decide (9223372036854775808 ≤ z)) := by rw [read_signD h2, h1, read_DINF]
    have Hn := hid (show (FloatKind.f64.format.order z z != some .eq) = false by
      show (D.order z z != some .eq) = false
      rw [order_inf hr]; rfl)
    have Hi := hid (show (FloatKind.f64.format.order (z % 9223372036854775808) 9218868437227405311 == some .gt) = true by
      rw [h1]; decide)
    have H2 := hid h2
    clear h h1 hr hx h2
    go_enter Try.func78, Try.ntmps78
    go_wp2_with (first | (go_at_call 125; refine (isNaN_f64 z _).mono ?_; rintro e w' ⟨rfl, rfl⟩; rw [Hn.out]) | (go_at_call 126; refine (isInf_f64 z H2.out _).mono ?_; rintro e w' ⟨rfl, rfl⟩; rw [Hi.out]))
    go_ret
    exact ⟨rfl, Below.refl _ _⟩

theorem signbit_f64 (y : Nat) (w : World) :
    Calls Try.prog 152 #[.float .f64 y] w fun e w' => e = .returned (.bool (decide (wrap64 (y : Int) < 0))) ∧ w = w' := by
  go_enter Try.func152, Try.ntmps152
  go_wp2
  go_ret
  exact ⟨rfl, rfl⟩

theorem and_sign (y : Nat) (h : y < 18446744073709551616) : (decide (wrap64 (y : Int) < 0)) = decide (9223372036854775808 ≤ y) := by
  unfold wrap64
  by_cases h' : 9223372036854775808 ≤ y
  · rw [decide_eq_true h']; simp; omega
  · rw [decide_eq_false h']; simp; omega

theorem isAmount_t (x : Nat) (h : amtB x = true) (w : World) :
    Calls Try.prog 115 #[.float .f32 x] w fun e w' => e = .returned (.bool true) ∧ w = w' := by
  have hf := amt_fin h
  rw [amtB_iff, INF_val] at h
  have hx : x < 4294967296 := by omega
  have hc := fun w => run_conv_wid (P := Try.prog) w 22 29 x hx Try.underlying22 Try.underlying29 (finB_iff.1 hf)
  have hw : wid x < 18446744073709551616 := D.write_lt _
  have Hs := hid (show (decide (wrap64 (wid x : Int) < 0)) = false by
    rw [and_sign _ hw]
    have := (wid_val (x := x) (by rw [INF_val]; omega)).1
    rw [DINF_val] at this
    simp; omega)
  have Hx := hid hx
  have Hf := hid hf
  clear h hf hx hw
  go_enter Try.func115, Try.ntmps115
  go_wp2_with (first | (go_at_call 78; refine (isFinite_t x Hx.out Hf.out _).mono ?_; rintro e w' ⟨rfl, rfl⟩) | (go_at_call 152; refine (signbit_f64 (wid x) _).mono ?_; rintro e w' ⟨rfl, rfl⟩; rw [Hs.out]))
  go_ret
  exact ⟨rfl, rfl⟩

theorem isAmount_f (x : Nat) (hx : x < 4294967296) (h : amtB x = false) (w : World) :
    Calls Try.prog 115 #[.float .f32 x] w fun e w' => e = .returned (.bool false) ∧ Below w.heap.size w w' := by
  rcases hf : finB x with _ | _
  · have Hx := hid hx
    have Hf := hid hf
    clear h hf hx
    go_enter Try.func115, Try.ntmps115
    go_wp2_with (go_at_call 78; refine (isFinite_f x Hx.out Hf.out _).mono ?_; rintro e w' ⟨rfl, hb⟩)
    go_ret
    exact ⟨rfl, hb⟩
  · have hc := fun w => run_conv_wid (P := Try.prog) w 22 29 x hx Try.underlying22 Try.underlying29 (finB_iff.1 hf)
    have hw : wid x < 18446744073709551616 := D.write_lt _
    have Hs := hid (show (decide (wrap64 (wid x : Int) < 0)) = true by
      rw [and_sign _ hw, wid_fin hx (finB_iff.1 hf)]
      rw [amtB_iff', INF_val] at h
      rw [finB_iff, INF_val] at hf
      unfold mg at hf ⊢
      rw [if_pos (by omega)]
      simp)
    have Hx := hid hx
    have Hf := hid hf
    clear h hf hx hw
    go_enter Try.func115, Try.ntmps115
    go_wp2_with (first | (go_at_call 78; refine (isFinite_t x Hx.out Hf.out _).mono ?_; rintro e w' ⟨rfl, rfl⟩) | (go_at_call 152; refine (signbit_f64 (wid x) _).mono ?_; rintro e w' ⟨rfl, rfl⟩; rw [Hs.out]))
    go_ret
    exact ⟨rfl, Below.refl _ _⟩

theorem info_f32 : ∃ i, Try.prog.info? 22 = some i ∧ i.size = 1 := by
  have h : (Try.prog.info? 22).map (·.size) = some 1 := by kernel_rfl
  cases hi : Try.prog.info? 22 with
  | none => rw [hi] at h; cases h
  | some i => rw [hi] at h; exact ⟨i, rfl, Option.some.inj h⟩

theorem ix (T : TypeId) (hT : Try.prog.underlying T = some (.array 20 22)) (c : Nat → Nat) (k : Nat) (hk : k < 20) (w : World) :
    (Instr.index T (.agg (fls c)) (.int .i64 (k : Int))).run Try.prog w = .ok (.float .f32 (c k)) w := by
  obtain ⟨i, h1, h2⟩ := info_f32
  exact run_index_arr hT Try.underlying22 rfl h1 h2 _ _ hk _ (fls_get c hk) w

@[go_sem] theorem ext_f32bits (y : Nat) (w : World) : (callFunc 151 #[.float .f32 y]).run Try.prog w = .ok (.value (.int .u32 y)) w := by
  rw [run_callFunc_extern Try.func151 (by kernel_rfl) (by kernel_rfl) (by kernel_rfl) (e := Extern.MathFloatBits.float32bits) (by kernel_rfl)]
  rfl

theorem sFinite_t (x : Nat) (hx : x < 4294967296) (h : finB x = true) (w : World) :
    Calls Try.prog 75 #[.float .f32 x] w fun e w' => e = .returned (.bool true) ∧ w = w' := by
  have hr := fun w => run_float_arith (P := Try.prog) w .sub 22 .f32 x x 0 (sub_self_fin hx h)
  clear h hx
  go_enter Try.func75, Try.ntmps75
  go_wp2
  go_ret
  exact ⟨rfl, rfl⟩

theorem sFinite_f (x : Nat) (hx : x < 4294967296) (h : finB x = false) (w : World) :
    Calls Try.prog 75 #[.float .f32 x] w fun e w' => e = .returned (.bool false) ∧ Below w.heap.size w w' := by
  obtain ⟨z, hr, h1, _⟩ := run_arith_nan (P := Try.prog) w .sub (by simp) 22 x x (sub_self_none hx h)
  have Hn := hid (show (FloatKind.f32.format.order z 0 == some .eq) = false by
    show (S.order z 0 == some .eq) = false
    rw [order_nan32 h1]; rfl)
  clear h hx h1
  go_enter Try.func75, Try.ntmps75
  go_wp2
  go_ret
  exact ⟨by simp [Hn.out], (Below.refl _ _).drew⟩

theorem sAmount_t (x : Nat) (h : amtB x = true) (w : World) :
    Calls Try.prog 112 #[.float .f32 x] w fun e w' => e = .returned (.bool true) ∧ w = w' := by
  have hf := amt_fin h
  have h' := amtB_iff.1 h
  have hx : x < 4294967296 := by rw [INF_val] at h'; omega
  have Hx := hid hx
  have Hf := hid hf
  by_cases h0 : x = 0
  · subst h0
    clear h hf h' hx
    go_enter Try.func112, Try.ntmps112
    go_wp2_with (go_at_call 75; refine (sFinite_t 0 Hx.out Hf.out _).mono ?_; rintro e w' ⟨rfl, rfl⟩)
    go_ret
    exact ⟨rfl, rfl⟩
  · have hg : (FloatKind.f32.format.order x 0 == some .gt) = true := by
      show (S.order x 0 == some .gt) = true
      rw [order_zero_pos h', Nat.compare_eq_gt.2 (by omega)]; rfl
    clear h hf h' hx h0
    go_enter Try.func112, Try.ntmps112
    go_wp2_with (go_at_call 75; refine (sFinite_t x Hx.out Hf.out _).mono ?_; rintro e w' ⟨rfl, rfl⟩)
    go_ret
    exact ⟨rfl, rfl⟩

theorem sAmount_f (x : Nat) (hx : x < 4294967296) (h : amtB x = false) (w : World) :
    Calls Try.prog 112 #[.float .f32 x] w fun e w' => e = .returned (.bool false) ∧ Below w.heap.size w w' := by
  rcases hf : finB x with _ | _
  · have Hx := hid hx
    have Hf := hid hf
    clear h hf hx
    go_enter Try.func112, Try.ntmps112
    go_wp2_with (go_at_call 75; refine (sFinite_f x Hx.out Hf.out _).mono ?_; rintro e w' ⟨rfl, hb⟩)
    go_ret
    exact ⟨rfl, hb⟩
  · have hs : 2147483648 ≤ x := by
      rw [amtB_iff', INF_val] at h
      have := finB_iff.1 hf
      rw [INF_val] at this
      unfold mg at this
      omega
    have hg : (FloatKind.f32.format.order x 0 == some .gt) = false := order_neg_zero hx hf hs
    have hb : ((x : Int) == 0) = false := by simp; omega
    have Hx := hid hx
    have Hf := hid hf
    clear h hf hx hs
    go_enter Try.func112, Try.ntmps112
    go_wp2_with (go_at_call 75; refine (sFinite_t x Hx.out Hf.out _).mono ?_; rintro e w' ⟨rfl, rfl⟩)
    go_ret
    exact ⟨rfl, Below.refl _ _⟩

theorem div_one_some {y m : Nat} {s : Bool} {e : Int} (h : D.read y = .number s m e) : ∃ q, floatBits .quo .f64 4607182418800017408 y = some q := by
  have h1 : D.read 4607182418800017408 = .number false 4503599627370496 (-52) := by decide
  show ∃ q, D.div 4607182418800017408 y = some q
  unfold Ieee.Format.div
  rw [h, h1]
  simp only [Ieee.Datum.quotient]
  by_cases hm : m = 0
  · rw [if_pos hm]; exact ⟨_, rfl⟩
  · rw [if_neg hm]; exact ⟨_, rfl⟩

set_option maxRecDepth 100000 in
theorem sameFloat (x : Nat) (hx : x < 4294967296) (h : finB x = true) (w : World) :
    Calls Try.prog 17 #[.float .f64 (wid x), .float .f64 (wid x)] w fun e w' => e = .returned (.bool true) ∧ w = w' := by
  obtain ⟨a, b, m, e, hr⟩ := read_wid_fin hx (finB_iff.1 h)
  have hn : (FloatKind.f64.format.order (wid x) (wid x) != some .eq) = false := by
    show (D.order (wid x) (wid x) != some .eq) = false
    rw [order_self hr]; rfl
  have hq : (FloatKind.f64.format.order (wid x) (wid x) == some .eq) = true := by
    show (D.order (wid x) (wid x) == some .eq) = true
    rw [order_self hr]; rfl
  obtain ⟨q, hd⟩ := div_one_some hr
  have hdiv := fun w => run_float_arith (P := Try.prog) w .quo 29 .f64 4607182418800017408 (wid x) q hd
  clear hd hr a b h hx
  rcases hz : (FloatKind.f64.format.order (wid x) 0 == some .eq) with _ | _
  · go_enter Try.func17, Try.ntmps17
    go_wp2
    go_ret
    exact ⟨by simp, rfl⟩
  · go_enter Try.func17, Try.ntmps17
    go_wp2
    go_ret
    exact ⟨by simp, rfl⟩

theorem loose {P : Program} {f : FuncId} {args : Array Value} {w : World} {v : Value} (h : Calls P f args w fun e w' => e = .returned v ∧ w = w') : Calls P f args w fun e w' => e = .returned v ∧ Below w.heap.size w w' :=
  h.mono fun _ _ ⟨a, b⟩ => ⟨a, b ▸ Below.refl _ _⟩

theorem info_air : (Try.prog.info? 47).map (·.size) = some 2 := by kernel_rfl

theorem info_lair : (Try.prog.info? 40).map (·.size) = some 2 := by kernel_rfl

set_option maxRecDepth 100000 in
theorem toAir (h v : Nat) (w : World) :
    Calls Try.prog 65 #[.agg #[.float .f32 h, .float .f32 v]] w fun e w' => e = .returned (.agg #[.float .f32 h, .float .f32 v]) ∧ Below w.heap.size w w' := by
  have k0 : Hid (Kept w [(w.heap.size + 1, #[.float .f32 h, .float .f32 v], 47)] (((w.alloc (.cells #[.float .f32 h, .float .f32 v] 40)).alloc (.cells #[.float .f32 h, .float .f32 v] 47)).alloc (.cells #[.float .f32 h, .float .f32 v] 47))) := hid (((((Kept.nil w).push _ _).push _ _).push _ _).sub (by simp))
  go_enter Try.func65, Try.ntmps65
  go_wp2
  exact bodyPost_ret (results_cell_row rfl _ _ (w.heap.size + 1) 47 #[.float .f32 h, .float .f32 v] (0, 0) _ rfl (k0.out.at (x := (w.heap.size + 1, #[.float .f32 h, .float .f32 v], 47)) (by simp)) Try.underlying47 rfl info_air) rfl ⟨rfl, k0.out.1⟩

set_option maxRecDepth 100000 in
theorem eqAir (h v : Nat) (hh : h < 4294967296) (hv : v < 4294967296) (fh : finB h = true) (fv : finB v = true) (w : World) :
    Calls Try.prog 82 #[.agg #[.float .f32 h, .float .f32 v], .agg #[.float .f32 h, .float .f32 v]] w fun e w' => e = .returned (.bool true) ∧ Below w.heap.size w w' := by
  have hc0 := fun w => run_conv_wid (P := Try.prog) w 22 29 h hh Try.underlying22 Try.underlying29 (finB_iff.1 fh)
  have hc1 := fun w => run_conv_wid (P := Try.prog) w 22 29 v hv Try.underlying22 Try.underlying29 (finB_iff.1 fv)
  have Hh := hid hh
  have Hv := hid hv
  have Fh := hid fh
  have Fv := hid fv
  have b0 := boxed2 w (.cells #[.float .f32 h, .float .f32 v] 47) (.cells #[.float .f32 h, .float .f32 v] 47)
  clear hh hv fh fv
  go_enter Try.func82, Try.ntmps82
  go_wp2_with fail
  refine (sameFloat h Hh.out Fh.out _).mono ?_
  rintro e w1 ⟨rfl, rfl⟩
  go_wp2_with fail
  refine (sameFloat v Hv.out Fv.out _).mono ?_
  rintro e w1 ⟨rfl, rfl⟩
  go_wp2
  go_ret
  exact ⟨rfl, b0⟩

theorem iHeat (x : Nat) (q : Bool) (hq : heatB x = q) (w : World) :
    Calls Try.prog 155 #[.float .f32 x] w fun e w' => e = .returned (.bool q) ∧ w = w' := by
  have h1 : heatB x = ((FloatKind.f32.format.order x 3262119936 == some .gt || FloatKind.f32.format.order x 3262119936 == some .eq) && (FloatKind.f32.format.order x 1114636288 == some .lt || FloatKind.f32.format.order x 1114636288 == some .eq)) := rfl
  rw [h1] at hq
  clear h1
  rcases a : (FloatKind.f32.format.order x 3262119936 == some .gt || FloatKind.f32.format.order x 3262119936 == some .eq) with _ | _
  · rw [a] at hq
    simp only [Bool.false_and] at hq
    subst hq
    go_enter Try.func155, Try.ntmps155
    go_wp2
    go_ret
    exact ⟨rfl, rfl⟩
  · rw [a] at hq
    simp only [Bool.true_and] at hq
    cases q
    all_goals
      go_enter Try.func155, Try.ntmps155
      go_wp2
      go_ret
      exact ⟨rfl, rfl⟩

theorem sHeat (x : Nat) (q : Bool) (hq : heatB x = q) (w : World) :
    Calls Try.prog 154 #[.float .f32 x] w fun e w' => e = .returned (.bool q) ∧ w = w' := by
  have h1 : heatB x = ((FloatKind.f32.format.order x 3262119936 == some .gt || FloatKind.f32.format.order x 3262119936 == some .eq) && (FloatKind.f32.format.order x 1114636288 == some .lt || FloatKind.f32.format.order x 1114636288 == some .eq)) := rfl
  rw [h1] at hq
  clear h1
  rcases a : (FloatKind.f32.format.order x 3262119936 == some .gt || FloatKind.f32.format.order x 3262119936 == some .eq) with _ | _
  · rw [a] at hq
    simp only [Bool.false_and] at hq
    subst hq
    go_enter Try.func154, Try.ntmps154
    go_wp2
    go_ret
    exact ⟨rfl, rfl⟩
  · rw [a] at hq
    simp only [Bool.true_and] at hq
    cases q
    all_goals
      go_enter Try.func154, Try.ntmps154
      go_wp2
      go_ret
      exact ⟨rfl, rfl⟩

set_option maxRecDepth 100000 in
theorem iValidAir (h v : Nat) (hv : v < 4294967296) (q : Bool) (hq : airB h v = q) (w : World) :
    Calls Try.prog 119 #[.agg #[.float .f32 h, .float .f32 v]] w fun e w' => e = .returned (.bool q) ∧ Below w.heap.size w w' := by
  have b0 := boxed w (.cells #[.float .f32 h, .float .f32 v] 47)
  have Hv := hid hv
  have e1 : airB h v = (heatB h && amtB v && vapB v) := rfl
  rw [e1] at hq
  clear hv e1
  rcases a : heatB h with _ | _
  · have Ha := hid a
    rw [a] at hq
    simp only [Bool.false_and] at hq
    subst hq
    clear a
    go_enter Try.func119, Try.ntmps119
    go_wp2_with fail
    refine (iHeat h false Ha.out _).mono ?_
    rintro e w1 ⟨rfl, rfl⟩
    go_wp2
    go_ret
    exact ⟨rfl, b0⟩
  · have Ha := hid a
    rw [a] at hq
    clear a
    rcases b : amtB v with _ | _
    · have Hb := hid b
      rw [b] at hq
      simp only [Bool.and_false, Bool.false_and] at hq
      subst hq
      clear b
      go_enter Try.func119, Try.ntmps119
      go_wp2_with fail
      refine (iHeat h true Ha.out _).mono ?_
      rintro e w1 ⟨rfl, rfl⟩
      go_wp2_with fail
      refine (isAmount_f v Hv.out Hb.out _).mono ?_
      rintro e w1 ⟨rfl, hb1⟩
      go_wp2
      go_ret
      exact ⟨rfl, stp b0 (Nat.le_refl _) hb1⟩
    · have Hb := hid b
      rw [b] at hq
      simp only [Bool.true_and] at hq
      have hc : (FloatKind.f32.format.order v 1148846080 == some .lt || FloatKind.f32.format.order v 1148846080 == some .eq) = q := hq
      clear b hq
      cases q
      all_goals
        go_enter Try.func119, Try.ntmps119
        go_wp2_with fail
        refine (iHeat h true Ha.out _).mono ?_
        rintro e w1 ⟨rfl, rfl⟩
        go_wp2_with fail
        refine (isAmount_t v Hb.out _).mono ?_
        rintro e w1 ⟨rfl, rfl⟩
        go_wp2
        go_ret
        exact ⟨rfl, b0⟩

theorem info_par : (Try.prog.info? 49).map (·.size) = some 3 := by kernel_rfl

theorem info_lpar : (Try.prog.info? 42).map (·.size) = some 3 := by kernel_rfl

theorem iHgt (x : Nat) (hx : x < 4294967296) (q : Bool) (hq : hgtB x = q) (w : World) :
    Calls Try.prog 101 #[.float .f32 x] w fun e w' => e = .returned (.bool q) ∧ Below w.heap.size w w' := by
  have e1 : hgtB x = (amtB x && (FloatKind.f32.format.order x 1106247680 == some .lt || FloatKind.f32.format.order x 1106247680 == some .eq)) := rfl
  rw [e1] at hq
  have Hx := hid hx
  clear e1 hx
  rcases a : amtB x with _ | _
  · have Ha := hid a
    rw [a] at hq
    simp only [Bool.false_and] at hq
    subst hq
    clear a
    go_enter Try.func101, Try.ntmps101
    go_wp2_with fail
    refine (isAmount_f x Hx.out Ha.out _).mono ?_
    rintro e w1 ⟨rfl, hb1⟩
    go_wp2
    go_ret
    exact ⟨rfl, hb1⟩
  · have Ha := hid a
    rw [a] at hq
    simp only [Bool.true_and] at hq
    clear a
    cases q
    all_goals
      go_enter Try.func101, Try.ntmps101
      go_wp2_with fail
      refine (isAmount_t x Ha.out _).mono ?_
      rintro e w1 ⟨rfl, rfl⟩
      go_wp2
      go_ret
      exact ⟨rfl, Below.refl _ _⟩

theorem sHgt (x : Nat) (hx : x < 4294967296) (q : Bool) (hq : hgtB x = q) (w : World) :
    Calls Try.prog 99 #[.float .f32 x] w fun e w' => e = .returned (.bool q) ∧ Below w.heap.size w w' := by
  have e1 : hgtB x = (amtB x && (FloatKind.f32.format.order x 1106247680 == some .lt || FloatKind.f32.format.order x 1106247680 == some .eq)) := rfl
  rw [e1] at hq
  have Hx := hid hx
  clear e1 hx
  rcases a : amtB x with _ | _
  · have Ha := hid a
    rw [a] at hq
    simp only [Bool.false_and] at hq
    subst hq
    clear a
    go_enter Try.func99, Try.ntmps99
    go_wp2_with fail
    refine (sAmount_f x Hx.out Ha.out _).mono ?_
    rintro e w1 ⟨rfl, hb1⟩
    go_wp2
    go_ret
    exact ⟨rfl, hb1⟩
  · have Ha := hid a
    rw [a] at hq
    simp only [Bool.true_and] at hq
    clear a
    cases q
    all_goals
      go_enter Try.func99, Try.ntmps99
      go_wp2_with fail
      refine (sAmount_t x Ha.out _).mono ?_
      rintro e w1 ⟨rfl, rfl⟩
      go_wp2
      go_ret
      exact ⟨rfl, Below.refl _ _⟩

set_option maxRecDepth 100000 in
theorem sAirAt_f (h v : Nat) (hv : v < 4294967296) (hq : airB h v = false) (w : World) (g o : Nat) (c0 : w.cell? ⟨g, o, none⟩ = some (.float .f32 h)) (c1 : w.cell? ⟨g, o + 1, none⟩ = some (.float .f32 v)) :
    Calls Try.prog 118 #[.pointer (some ⟨g, o, none⟩)] w fun e w' => e = .returned (.bool false) ∧ Below w.heap.size w w' := by
  have Hv := hid hv
  have e1 : airB h v = (heatB h && amtB v && vapB v) := rfl
  rw [e1] at hq
  clear hv e1
  rcases a : heatB h with _ | _
  · have Ha := hid a
    clear a hq
    go_enter Try.func118, Try.ntmps118
    go_wp2_with fail
    refine (sHeat h false Ha.out _).mono ?_
    rintro e w1 ⟨rfl, rfl⟩
    go_wp2
    go_ret
    exact ⟨rfl, Below.refl _ _⟩
  · have Ha := hid a
    rw [a] at hq
    clear a
    rcases b : amtB v with _ | _
    · have Hb := hid b
      clear b hq
      go_enter Try.func118, Try.ntmps118
      go_wp2_with fail
      refine (sHeat h true Ha.out _).mono ?_
      rintro e w1 ⟨rfl, rfl⟩
      go_wp2_with fail
      refine (sAmount_f v Hv.out Hb.out _).mono ?_
      rintro e w1 ⟨rfl, hb1⟩
      go_wp2
      go_ret
      exact ⟨rfl, hb1⟩
    · have Hb := hid b
      rw [b] at hq
      simp only [Bool.true_and] at hq
      have hc : (FloatKind.f32.format.order v 1148846080 == some .lt || FloatKind.f32.format.order v 1148846080 == some .eq) = false := hq
      clear b hq
      go_enter Try.func118, Try.ntmps118
      go_wp2_with fail
      refine (sHeat h true Ha.out _).mono ?_
      rintro e w1 ⟨rfl, rfl⟩
      go_wp2_with fail
      refine (sAmount_t v Hb.out _).mono ?_
      rintro e w1 ⟨rfl, rfl⟩
      go_wp2
      go_ret
      exact ⟨rfl, Below.refl _ _⟩

set_option maxRecDepth 100000 in
theorem sAirAt_t (h v : Nat) (hq : airB h v = true) (w : World) (g o : Nat) (c0 : w.cell? ⟨g, o, none⟩ = some (.float .f32 h)) (c1 : w.cell? ⟨g, o + 1, none⟩ = some (.float .f32 v)) :
    Calls Try.prog 118 #[.pointer (some ⟨g, o, none⟩)] w fun e w' => e = .returned (.bool true) ∧ w = w' := by
  obtain ⟨a, b, c⟩ := airB_iff.1 hq
  have hc : (FloatKind.f32.format.order v 1148846080 == some .lt || FloatKind.f32.format.order v 1148846080 == some .eq) = true := c
  have Ha := hid a
  have Hb := hid b
  clear a b c hq
  go_enter Try.func118, Try.ntmps118
  go_wp2_with fail
  refine (sHeat h true Ha.out _).mono ?_
  rintro e w1 ⟨rfl, rfl⟩
  go_wp2_with fail
  refine (sAmount_t v Hb.out _).mono ?_
  rintro e w1 ⟨rfl, rfl⟩
  go_wp2
  go_ret
  exact ⟨rfl, rfl⟩

theorem sAirAt (h v : Nat) (hv : v < 4294967296) (q : Bool) (hq : airB h v = q) (w : World) (g o : Nat) (c0 : w.cell? ⟨g, o, none⟩ = some (.float .f32 h)) (c1 : w.cell? ⟨g, o + 1, none⟩ = some (.float .f32 v)) :
    Calls Try.prog 118 #[.pointer (some ⟨g, o, none⟩)] w fun e w' => e = .returned (.bool q) ∧ Below w.heap.size w w' := by
  cases q
  · exact sAirAt_f h v hv hq w g o c0 c1
  · exact loose (sAirAt_t h v hq w g o c0 c1)

set_option maxRecDepth 100000 in
theorem sParOk (a h v : Nat) (ha : a < 4294967296) (hv : v < 4294967296) (q : Bool) (hq : parB a h v = q) (w : World) (g : Nat) (T : TypeId) (hg : parAt w g a h v T) :
    Calls Try.prog 62 #[.pointer (some ⟨g, 0, none⟩)] w fun e w' => e = .returned (.bool q) ∧ Below w.heap.size w w' := by
  have c0 := hg.c0
  have G := hid hg
  have Ha := hid ha
  have Hv := hid hv
  have e1 : parB a h v = (hgtB a && airB h v) := rfl
  rw [e1] at hq
  clear ha hv e1 hg
  rcases x : hgtB a with _ | _
  · have Hx := hid x
    rw [x] at hq
    simp only [Bool.false_and] at hq
    subst hq
    clear x
    go_enter Try.func62, Try.ntmps62
    go_wp2_with fail
    refine (sHgt a Ha.out false Hx.out _).mono ?_
    rintro e w1 ⟨rfl, hb1⟩
    go_wp2
    go_ret
    exact ⟨rfl, hb1⟩
  · have Hx := hid x
    rw [x] at hq
    simp only [Bool.true_and] at hq
    have Hq := hid hq
    clear x hq
    go_enter Try.func62, Try.ntmps62
    go_wp2_with fail
    refine (sHgt a Ha.out true Hx.out _).mono ?_
    rintro e w1 ⟨rfl, hb1⟩
    have G1 := hid (G.out.stay hb1)
    go_wp2_with fail
    refine (sAirAt h v Hv.out q Hq.out _ g 1 G1.out.c1 G1.out.c2).mono ?_
    rintro e w2 ⟨rfl, hb2⟩
    cases q
    all_goals
      go_wp2
      go_ret
      exact ⟨rfl, stp hb1 (Nat.le_refl _) hb2⟩

set_option maxRecDepth 100000 in
theorem iValidParcel (a h v : Nat) (ha : a < 4294967296) (hv : v < 4294967296) (q : Bool) (hq : parB a h v = q) (w : World) :
    Calls Try.prog 67 #[.agg #[.float .f32 a, .float .f32 h, .float .f32 v]] w fun e w' => e = .returned (.bool q) ∧ Below w.heap.size w w' := by
  have b0 := boxed w (.cells #[.float .f32 a, .float .f32 h, .float .f32 v] 49)
  have A0 := hid (parAt.new w a h v 49)
  have Ha := hid ha
  have Hv := hid hv
  have e1 : parB a h v = (hgtB a && airB h v) := rfl
  rw [e1] at hq
  clear ha hv e1
  rcases x : hgtB a with _ | _
  · have Hx := hid x
    rw [x] at hq
    simp only [Bool.false_and] at hq
    subst hq
    clear x
    go_enter Try.func67, Try.ntmps67
    go_wp2_with fail
    refine (iHgt a Ha.out false Hx.out _).mono ?_
    rintro e w1 ⟨rfl, hb1⟩
    go_wp2
    go_ret
    exact ⟨rfl, stp b0 (Nat.le_refl _) hb1⟩
  · have Hx := hid x
    rw [x] at hq
    simp only [Bool.true_and] at hq
    have Hq := hid hq
    clear x hq
    go_enter Try.func67, Try.ntmps67
    go_wp2_with fail
    refine (iHgt a Ha.out true Hx.out _).mono ?_
    rintro e w1 ⟨rfl, hb1⟩
    have A1 := hid (A0.out.stay hb1)
    have b1 := stp b0 (Nat.le_refl _) hb1
    go_wp2_with (refine wpList_load_air (by rfl) 47 _ rfl w.heap.size rfl a h v 49 A1.out _ Try.underlying47 rfl info_air ?_)
    refine (iValidAir h v Hv.out q Hq.out _).mono ?_
    rintro e w2 ⟨rfl, hb2⟩
    cases q
    all_goals
      go_wp2
      go_ret
      exact ⟨rfl, stp b1 (Nat.le_refl _) hb2⟩

set_option maxRecDepth 100000 in
theorem toParcel (a h v : Nat) (w : World) :
    Calls Try.prog 26 #[.agg #[.float .f32 a, .float .f32 h, .float .f32 v]] w fun e w' => e = .returned (.agg #[.float .f32 a, .float .f32 h, .float .f32 v]) ∧ Below w.heap.size w w' := by
  have k0 : Hid (Kept w [(w.heap.size + 1 + 1, #[.float .f32 a, .float .f32 0, .float .f32 0], 49), (w.heap.size + 1, #[.float .f32 0, .float .f32 0, .float .f32 0], 49)] (((w.alloc (.cells #[.float .f32 a, .float .f32 h, .float .f32 v] 42)).alloc (.cells #[.float .f32 0, .float .f32 0, .float .f32 0] 49)).alloc (.cells #[.float .f32 a, .float .f32 0, .float .f32 0] 49))) := hid (((((Kept.nil w).push _ _).push _ _).push _ _).sub (by simp))
  have A0 : Hid (parAt (((w.alloc (.cells #[.float .f32 a, .float .f32 h, .float .f32 v] 42)).alloc (.cells #[.float .f32 0, .float .f32 0, .float .f32 0] 49)).alloc (.cells #[.float .f32 a, .float .f32 0, .float .f32 0] 49)) w.heap.size a h v 42) := hid (((((Kept.nil w).push _ _).push _ _).push _ _).at (x := (w.heap.size, #[.float .f32 a, .float .f32 h, .float .f32 v], 42)) (by simp))
  go_enter Try.func26, Try.ntmps26
  go_wp2_with (refine wpList_load_air (by rfl) 40 _ rfl w.heap.size rfl a h v 42 A0.out _ Try.underlying40 rfl info_lair ?_)
  refine (toAir h v _).mono ?_
  rintro e w1 ⟨rfl, hb1⟩
  have k1 := hid (k0.out.stay hb1)
  clear k0 A0 hb1
  have tok1 : True := trivial
  go_wp2_with (first | (have _t := tok1; refine store_air (w0 := w) (l := [(w.heap.size + 1, #[.float .f32 0, .float .f32 0, .float .f32 0], 49)]) rfl 47 _ _ rfl (w.heap.size + 1 + 1) rfl h v rfl a 0 0 49 k1.out (by omega) (by simp) info_air ?_; intro w2 k2; have k2 := hid k2; clear tok1) | (have _t := k2; refine wpList_load_row rfl 49 _ rfl (w.heap.size + 1 + 1) rfl 49 (#[.float .f32 a, .float .f32 h, .float .f32 v]) (0, 0) _ (k2.out.at (x := (w.heap.size + 1 + 1, #[.float .f32 a, .float .f32 h, .float .f32 v], 49)) (by simp)) Try.underlying49 rfl (info_par) ?_) | (have _t := k2; refine store_kept (w0 := w) (l := []) rfl 49 _ _ rfl (w.heap.size + 1) (#[.float .f32 a, .float .f32 h, .float .f32 v]) rfl rfl 49 (#[.float .f32 0, .float .f32 0, .float .f32 0]) (k2.out.sub (by simp)) (by omega) (by simp) (info_par) (by simp) (by simp [Value.oneCell']) ?_; intro w3 k3; have k3 := hid k3))
  exact bodyPost_ret (results_cell_row rfl _ _ (w.heap.size + 1) 49 #[.float .f32 a, .float .f32 h, .float .f32 v] (0, 0) _ rfl (k3.out.at (x := (w.heap.size + 1, #[.float .f32 a, .float .f32 h, .float .f32 v], 49)) (by simp)) Try.underlying49 rfl info_par) rfl ⟨rfl, k3.out.1⟩

set_option maxRecDepth 100000 in
theorem eqParcel (a h v : Nat) (ha : a < 4294967296) (hh : h < 4294967296) (hv : v < 4294967296) (fa : finB a = true) (fh : finB h = true) (fv : finB v = true) (w : World) :
    Calls Try.prog 37 #[.agg #[.float .f32 a, .float .f32 h, .float .f32 v], .agg #[.float .f32 a, .float .f32 h, .float .f32 v]] w fun e w' => e = .returned (.bool true) ∧ Below w.heap.size w w' := by
  have hc0 := fun w => run_conv_wid (P := Try.prog) w 22 29 a ha Try.underlying22 Try.underlying29 (finB_iff.1 fa)
  have Ha := hid ha
  have Hh := hid hh
  have Hv := hid hv
  have Fa := hid fa
  have Fh := hid fh
  have Fv := hid fv
  have k0 : Hid (Kept w [(w.heap.size, #[.float .f32 a, .float .f32 h, .float .f32 v], 49), (w.heap.size + 1, #[.float .f32 a, .float .f32 h, .float .f32 v], 49)] ((w.alloc (.cells #[.float .f32 a, .float .f32 h, .float .f32 v] 49)).alloc (.cells #[.float .f32 a, .float .f32 h, .float .f32 v] 49))) := hid ((((Kept.nil w).push _ _).push _ _).sub (by simp))
  have A0 : Hid (parAt ((w.alloc (.cells #[.float .f32 a, .float .f32 h, .float .f32 v] 49)).alloc (.cells #[.float .f32 a, .float .f32 h, .float .f32 v] 49)) w.heap.size a h v 49) := hid (k0.out.at (x := (w.heap.size, _, _)) (by simp))
  have A1 : Hid (parAt ((w.alloc (.cells #[.float .f32 a, .float .f32 h, .float .f32 v] 49)).alloc (.cells #[.float .f32 a, .float .f32 h, .float .f32 v] 49)) (w.heap.size + 1) a h v 49) := hid (k0.out.at (x := (w.heap.size + 1, _, _)) (by simp))
  clear ha hh hv fa fh fv
  go_enter Try.func37, Try.ntmps37
  go_wp2_with fail
  refine (sameFloat a Ha.out Fa.out _).mono ?_
  rintro e w1 ⟨rfl, rfl⟩
  go_wp2_with (first | (refine wpList_load_air (by rfl) 47 _ rfl w.heap.size rfl a h v 49 A0.out _ Try.underlying47 rfl info_air ?_) | (refine wpList_load_air (by rfl) 47 _ rfl (w.heap.size + 1) rfl a h v 49 A1.out _ Try.underlying47 rfl info_air ?_))
  refine (eqAir h v Hh.out Hv.out Fh.out Fv.out _).mono ?_
  rintro e w2 ⟨rfl, hb2⟩
  go_wp2
  go_ret
  exact ⟨rfl, (k0.out.stay hb2).1⟩

@[go_sem] theorem semAtSome (l : Nat) (ρ : Operand → Value) (o : Oper) (h : ∀ c, o.op ≠ .defer c) : Oper.semAt (some l) ρ o = execOp ρ o := Oper.semAt_some l ρ o h

@[go_sem] theorem zero_kern : Try.zeroCells64 = vls 400 (flw fun _ => 0) := by kernel_rfl

theorem words_cons : ∀ (v : List Char) (r : List Char), (∀ c ∈ v, c ≠ Char.ofNat 32) → wordsSigns (v ++ Char.ofNat 32 :: r) = v :: wordsSigns r
  | [], r, _ => rfl
  | c :: v, r, h => by
    have ih := words_cons v r (fun x hx => h x (by simp [hx]))
    have hc : c ≠ Char.ofNat 32 := h c (by simp)
    show wordsSigns (c :: (v ++ Char.ofNat 32 :: r)) = _
    rw [wordsSigns.eq_3 _ _ (fun e => hc e), ih]

def w0 : List Nat := [104, 97, 114, 110, 101, 115, 115]

def w1 : List Nat := [50, 100, 48, 57, 50, 102, 99, 102, 97, 99, 97, 99, 50, 101, 100, 100, 53, 52, 97, 48, 102, 48, 57, 48, 49, 57, 102, 53, 102, 102, 50, 50, 51, 101, 101, 48, 55, 99, 48, 53, 53, 57, 48, 53, 54, 97, 98, 51, 52, 54, 98, 102, 54, 98, 53, 57, 51, 98, 48, 54, 49, 48, 102, 52]

def w2 : List Nat := [99, 117, 116]

def w3 : List Nat := [97, 116, 32, 108, 111, 111, 112, 46, 101, 120, 97, 109, 112, 108, 101, 47, 103, 48, 49, 50, 50, 52, 47, 108, 97, 119, 115, 46, 70, 110, 69, 120, 97, 99, 116, 69, 99, 104, 111, 79, 102, 32, 108, 111, 111, 112, 46, 101, 120, 97, 109, 112, 108, 101, 47, 103, 48, 49, 50, 50, 52, 47, 108, 97, 119, 115, 46, 70, 110, 69, 120, 97, 99, 116, 86, 97, 108, 105, 100, 69, 99, 104, 111, 77, 97, 112, 32, 108, 111, 111, 112, 46, 101, 120, 97, 109, 112, 108, 101, 47, 103, 48, 49, 50, 50, 52, 47, 108, 97, 119, 115, 46, 70, 110, 69, 120, 97, 99, 116, 76, 105, 102, 116, 79, 102, 32, 108, 111, 111, 112, 46, 101, 120, 97, 109, 112, 108, 101, 47, 103, 48, 49, 50, 50, 52, 47, 108, 97, 119, 115, 46, 70, 110, 69, 120, 97, 99, 116, 86, 97, 112, 111, 117, 114, 65, 98, 111, 118, 101, 32, 108, 111, 111, 112, 46, 101, 120, 97, 109, 112, 108, 101, 47, 103, 48, 49, 50, 50, 52, 47, 108, 97, 119, 115, 46, 70, 110, 69, 120, 97, 99, 116, 69, 118, 101, 110, 83, 111, 117, 110, 100, 105, 110, 103, 32, 108, 111, 111, 112, 46, 101, 120, 97, 109, 112, 108, 101, 47, 103, 48, 49, 50, 50, 52, 47, 108, 97, 119, 115, 46, 70, 110, 69, 120, 97, 99, 116, 82, 105, 115, 101, 73, 110, 32, 108, 111, 111, 112, 46, 101, 120, 97, 109, 112, 108, 101, 47, 103, 48, 49, 50, 50, 52, 47, 108, 97, 119, 115, 46, 70, 110, 69, 120, 97, 99, 116, 69, 118, 101, 110, 116, 115, 79, 102, 32, 108, 111, 111, 112, 46, 101, 120, 97, 109, 112, 108, 101, 47, 103, 48, 49, 50, 50, 52, 47, 108, 97, 119, 115, 46, 70, 110, 69, 120, 97, 99, 116, 76, 111, 115, 115, 101, 115, 79, 102, 32, 108, 111, 111, 112, 46, 101, 120, 97, 109, 112, 108, 101, 47, 103, 48, 49, 50, 50, 52, 47, 108, 97, 119, 115, 46, 70, 110, 69, 120, 97, 99, 116, 83, 104, 105, 102, 116, 77, 97, 115, 115, 101, 115, 32, 108, 111, 111, 112, 46, 101, 120, 97, 109, 112, 108, 101, 47, 103, 48, 49, 50, 50, 52, 47, 108, 97, 119, 115, 46, 70, 110, 69, 120, 97, 99, 116, 82, 97, 105, 115, 101, 68, 114, 121, 32, 108, 111, 111, 112, 46, 101, 120, 97, 109, 112, 108, 101, 47, 103, 48, 49, 50, 50, 52, 47, 108, 97, 119, 115, 46, 70, 110, 69, 120, 97, 99, 116, 82, 97, 105, 115, 101, 77, 111, 105, 115, 116]

def letters (l : List Nat) : List Char := l.map Char.ofNat

theorem head_reads : Try.prog.initOrder = String.ofList (letters w0 ++ Char.ofNat 32 :: (letters w1 ++ Char.ofNat 32 :: (letters w2 ++ Char.ofNat 32 :: letters w3))) := by kernel_rfl

theorem no_blank {l : List Nat} (h : l.all (fun n => Char.ofNat n != Char.ofNat 32) = true) : ∀ c ∈ letters l, c ≠ Char.ofNat 32 := by
  intro c hc
  obtain ⟨n, hn, rfl⟩ := List.mem_map.1 hc
  have := List.all_eq_true.1 h n hn
  simpa using this

theorem h0 : letters w0 = "harness".toList := by kernel_rfl

theorem h2 : letters w2 = "cut".toList := by kernel_rfl

theorem sums : isSumSigns (letters w1) = true := by kernel_rfl

theorem words : wordsSigns Try.prog.initOrder.toList = "harness".toList :: letters w1 :: "cut".toList :: wordsSigns (letters w3) := by
  rw [head_reads, String.toList_ofList, words_cons _ _ (no_blank (by decide +kernel)), words_cons _ _ (no_blank (by decide +kernel)), words_cons _ _ (no_blank (by decide +kernel)), h0, h2]

theorem behind : ∃ r, behindMainWord (wordsSigns Try.prog.initOrder.toList) = "cut".toList :: r := by
  refine ⟨wordsSigns (letters w3), ?_⟩
  rw [words]
  generalize wordsSigns (letters w3) = r
  have hs := sums
  generalize letters w1 = v at hs
  unfold behindMainWord
  simp [hs]

theorem not_later : Try.prog.laysLater = false := by kernel_rfl

theorem no_reflect : Try.prog.bearsReflect = false := by kernel_rfl

theorem no_doors : Try.prog.doorFits [] = true := by kernel_rfl

theorem strips (r : List (List Char)) : stripLifts liftWords ("cut".toList :: r) = ([], "cut".toList :: r) := by kernel_rfl

theorem may_enter_of (P : Program) (r : List (List Char)) (h : behindMainWord (wordsSigns P.initOrder.toList) = "cut".toList :: r) (h1 : P.laysLater = false) (h2 : P.bearsReflect = false) (h3 : P.doorFits [] = true) : P.mayEnter = true := by
  unfold Program.mayEnter
  rw [h]
  dsimp only
  rw [strips, h1, h2, h3]
  kernel_rfl

theorem lifts_final_of (P : Program) (r : List (List Char)) (h : behindMainWord (wordsSigns P.initOrder.toList) = "cut".toList :: r) : P.liftsFinal = false := by
  unfold Program.liftsFinal Program.headLifts
  rw [h]
  dsimp only
  rw [strips]
  kernel_rfl

theorem made_of (P : Program) (r : List (List Char)) (h : behindMainWord (wordsSigns P.initOrder.toList) = "cut".toList :: r) : P.make = some .cut := by
  unfold Program.make
  rw [h]
  kernel_rfl

theorem may_enter : Try.prog.mayEnter = true := let ⟨r, h⟩ := behind; may_enter_of _ r h not_later no_reflect no_doors

theorem lifts_final : Try.prog.liftsFinal = false := let ⟨r, h⟩ := behind; lifts_final_of _ r h

theorem made : Try.prog.make = some .cut := let ⟨r, h⟩ := behind; made_of _ r h

theorem laid : laidOutB Try.prog = true := by kernel_rfl

theorem rowed : mapsRowed Try.prog = true := by kernel_rfl

theorem no_stops : Try.prog.stops = [] := by kernel_rfl

theorem no_knobs : Try.prog.stopKnobs = [] := by kernel_rfl

theorem plain_keys : Try.prog.plainKeys = true := by kernel_rfl

theorem stops_heard : Try.prog.stopsHeard = true := by kernel_rfl

theorem arr2 {α : Type} {cs : Array α} (h : cs.size = 2) : ∃ c0 c1, cs = #[c0, c1] := by
  obtain ⟨l⟩ := cs
  match l, h with
  | [a, b], _ => exact ⟨a, b, rfl⟩

theorem own : ownKnob Try.prog.godebug = none := by kernel_rfl

theorem rdf : Try.prog.readableRec 22 = true ∧ 22 < Try.prog.types.size := ⟨by kernel_rfl, of_decide_eq_true (by kernel_rfl)⟩

theorem vls3 (c : Nat → Nat) : vls 3 (flw c) = #[.float .f32 (c 0), .float .f32 (c 1), .float .f32 (c 2)] := rfl

theorem cells3 : Try.prog.cellsOf 42 = 3 := by kernel_rfl

theorem types3 : Try.prog.cellTypes Try.prog.depth 42 = some (List.replicate 3 22) := by kernel_rfl

theorem rdq : Try.prog.readableRec 42 = true ∧ 42 < Try.prog.types.size := ⟨by kernel_rfl, of_decide_eq_true (by kernel_rfl)⟩

theorem info_ris : (Try.prog.info? 144).map (·.size) = some 4 := by kernel_rfl

/-- What a raised parcel's heat would be. -/
def rdW (a h y : Nat) : Nat := fsb h (fmul 1092616192 (fsb y a))

structure RdF (a h y : Nat) : Prop where
  s1 : S.sub y a = some (fsb y a)
  s2 : S.mul 1092616192 (fsb y a) = some (fmul 1092616192 (fsb y a))
  s3 : S.sub h (fmul 1092616192 (fsb y a)) = some (rdW a h y)
  lt : rdW a h y < 4294967296

theorem rd_facts {a h y : Nat} (fa : FW a) (fh : FW h) (fy : FW y) : RdF a h y := by
  have d := sub_nw fy fa
  have m := mul_nw (x := 1092616192) (by exact ⟨by decide, by decide⟩) (by decide +kernel) d.2
  have s := sub_nw2 fh m.2
  exact ⟨d.1, m.1, s.1, s.2.1⟩

set_option maxRecDepth 100000 in
set_option maxHeartbeats 1000000 in
theorem iFitAir_t (h v : Nat) (hv : v < 4294967296) (hq : airB h v = true) (w : World) :
    Calls Try.prog 165 #[.agg #[.float .f32 h, .float .f32 v]] w fun e w' => e = .returned (.agg #[.float .f32 h, .float .f32 v]) ∧ Below w.heap.size w w' := by
  have k0 : Hid (Kept w [(w.heap.size, #[.float .f32 h, .float .f32 v], 47), (w.heap.size + 1, #[.float .f32 0, .float .f32 0], 47)] ((w.alloc (.cells #[.float .f32 h, .float .f32 v] 47)).alloc (.cells #[.float .f32 0, .float .f32 0] 47))) := hid ((((Kept.nil w).push _ _).push _ _).sub (by simp))
  have HV := hid (fun u => iValidAir h v hv true hq u)
  clear hv hq
  go_enter Try.func165, Try.ntmps165
  go_wp2_with fail
  refine (HV.out _).mono ?_
  rintro e w1 ⟨rfl, hb1⟩
  have k1 := hid (k0.out.stay hb1)
  have tok1 : True := trivial
  go_wp2_with (first | (refine wpList_load_row rfl 47 _ rfl (w.heap.size) rfl 47 (#[.float .f32 h, .float .f32 v]) (0, 0) _ (k1.out.at (x := (w.heap.size, #[.float .f32 h, .float .f32 v], 47)) (by simp)) Try.underlying47 rfl info_air ?_) | (have _t := tok1; (refine store_kept (w0 := w) (l := [(w.heap.size, #[.float .f32 h, .float .f32 v], 47)]) rfl 47 _ _ rfl (w.heap.size + 1) (#[.float .f32 h, .float .f32 v]) rfl rfl 47 (#[.float .f32 0, .float .f32 0]) (k1.out.swap) (by omega) (by first | (simp; done) | (simp; omega)) info_air rfl (by simp [Value.oneCell']) (fun w7 k7 => ?_); replace k7 := hid k7); clear tok1))
  exact bodyPost_ret (results_cell_row rfl _ _ (w.heap.size + 1) 47 (#[.float .f32 h, .float .f32 v]) (0, 0) _ rfl (k7.out.at (x := (w.heap.size + 1, #[.float .f32 h, .float .f32 v], 47)) (by simp)) Try.underlying47 rfl info_air) rfl ⟨rfl, k7.out.1⟩

set_option maxRecDepth 100000 in
set_option maxHeartbeats 1000000 in
theorem iFitAir_f (h v : Nat) (hv : v < 4294967296) (hq : airB h v = false) (w : World) :
    Calls Try.prog 165 #[.agg #[.float .f32 h, .float .f32 v]] w fun e w' => e = .panicked [{ v := .iface 214 (.agg #[.float .f32 h, .float .f32 v]), recovered := false }] ∧ Below w.heap.size w w' := by
  have k0 : Hid (Kept w [(w.heap.size, #[.float .f32 h, .float .f32 v], 47), (w.heap.size + 1, #[.float .f32 0, .float .f32 0], 47)] ((w.alloc (.cells #[.float .f32 h, .float .f32 v] 47)).alloc (.cells #[.float .f32 0, .float .f32 0] 47))) := hid ((((Kept.nil w).push _ _).push _ _).sub (by simp))
  have HV := hid (fun u => iValidAir h v hv false hq u)
  clear hv hq
  have hcon : Try.prog.concrete 214 = true := by kernel_rfl
  go_enter Try.func165, Try.ntmps165
  go_wp2_with fail
  refine (HV.out _).mono ?_
  rintro e w1 ⟨rfl, hb1⟩
  have k1 := hid (k0.out.stay hb1)
  go_wp2_with (refine wpList_load_row rfl 47 _ rfl (w.heap.size) rfl 47 (#[.float .f32 h, .float .f32 v]) (0, 0) _ (k1.out.at (x := (w.heap.size, #[.float .f32 h, .float .f32 v], 47)) (by simp)) Try.underlying47 rfl info_air ?_)
  exact ⟨rfl, rfl, k1.out.1⟩

set_option maxRecDepth 100000 in
set_option maxHeartbeats 1000000 in
theorem iDry_f (a h v f y : Nat) (D : RdF a h y) (hv : v < 4294967296) (hq : airB (rdW a h y) v = false) (w : World) :
    Calls Try.prog 142 #[.agg #[.float .f32 a, .float .f32 h, .float .f32 v, .float .f32 f], .float .f32 y] w fun e w' => e = .panicked [{ v := .iface 214 (.agg #[.float .f32 (rdW a h y), .float .f32 v]), recovered := false }] ∧ Below w.heap.size w w' := by
  have k0 : Hid (Kept w [(w.heap.size, #[.float .f32 a, .float .f32 h, .float .f32 v, .float .f32 f], 144), (w.heap.size + 1, #[.float .f32 0, .float .f32 0, .float .f32 0, .float .f32 0], 144), (w.heap.size + 1 + 1, #[.float .f32 (rdW a h y), .float .f32 v], 47)] (((w.alloc (.cells #[.float .f32 a, .float .f32 h, .float .f32 v, .float .f32 f] 144)).alloc (.cells #[.float .f32 0, .float .f32 0, .float .f32 0, .float .f32 0] 144)).alloc (.cells #[.float .f32 (rdW a h y), .float .f32 v] 47))) := hid (((((Kept.nil w).push _ _).push _ _).push _ _).sub (by simp))
  have HF := hid (fun u => iFitAir_f (rdW a h y) v hv hq u)
  have r1 := fun w => run_float_arith (P := Try.prog) w .sub 22 .f32 _ _ _ D.s1
  have r2 := fun w => run_float_arith (P := Try.prog) w .mul 22 .f32 _ _ _ D.s2
  have r3 := fun w => run_float_arith (P := Try.prog) w .sub 22 .f32 _ _ _ D.s3
  clear D hv hq
  go_enter Try.func142, Try.ntmps142
  go_wp2_with fail
  refine (HF.out _).mono ?_
  rintro e w1 ⟨rfl, hb1⟩
  have k1 := hid (k0.out.stay hb1)
  exact ⟨rfl, rfl, k1.out.1⟩

set_option maxRecDepth 100000 in
set_option maxHeartbeats 1000000 in
theorem iDry_t (a h v f y : Nat) (D : RdF a h y) (hv : v < 4294967296) (hq : airB (rdW a h y) v = true) (w : World) :
    Calls Try.prog 142 #[.agg #[.float .f32 a, .float .f32 h, .float .f32 v, .float .f32 f], .float .f32 y] w fun e w' => e = .returned (.agg #[.float .f32 y, .float .f32 (rdW a h y), .float .f32 v, .float .f32 f]) ∧ Below w.heap.size w w' := by
  have k0 : Hid (Kept w [(w.heap.size, #[.float .f32 a, .float .f32 h, .float .f32 v, .float .f32 f], 144), (w.heap.size + 1, #[.float .f32 0, .float .f32 0, .float .f32 0, .float .f32 0], 144), (w.heap.size + 1 + 1, #[.float .f32 (rdW a h y), .float .f32 v], 47)] (((w.alloc (.cells #[.float .f32 a, .float .f32 h, .float .f32 v, .float .f32 f] 144)).alloc (.cells #[.float .f32 0, .float .f32 0, .float .f32 0, .float .f32 0] 144)).alloc (.cells #[.float .f32 (rdW a h y), .float .f32 v] 47))) := hid (((((Kept.nil w).push _ _).push _ _).push _ _).sub (by simp))
  have HF := hid (fun u => iFitAir_t (rdW a h y) v hv hq u)
  have r1 := fun w => run_float_arith (P := Try.prog) w .sub 22 .f32 _ _ _ D.s1
  have r2 := fun w => run_float_arith (P := Try.prog) w .mul 22 .f32 _ _ _ D.s2
  have r3 := fun w => run_float_arith (P := Try.prog) w .sub 22 .f32 _ _ _ D.s3
  clear D hv hq
  go_enter Try.func142, Try.ntmps142
  go_wp2_with fail
  refine (HF.out _).mono ?_
  rintro e w1 ⟨rfl, hb1⟩
  have k1 := hid (k0.out.stay hb1)
  have tok1 : True := trivial
  go_wp2_with (first | (have _t := tok1; refine store_part (w0 := w) (l := [(w.heap.size + 1, #[.float .f32 0, .float .f32 0, .float .f32 0, .float .f32 0], 144), (w.heap.size + 1 + 1, #[.float .f32 (rdW a h y), .float .f32 v], 47)]) rfl 49 _ _ rfl (w.heap.size) 0 rfl #[.float .f32 y, .float .f32 (rdW a h y), .float .f32 v] rfl #[.float .f32 a, .float .f32 h, .float .f32 v, .float .f32 f] #[.float .f32 y, .float .f32 (rdW a h y), .float .f32 v, .float .f32 f] 144 k1.out (Nat.le_refl _) (by first | (simp; done) | (simp; omega)) (by simp) info_par (by simp [Value.oneCell']) rfl (fun w6 k6 => ?_); replace k6 := hid k6; clear tok1) | (have _t := k6; (refine store_kept (w0 := w) (l := [(w.heap.size, #[.float .f32 y, .float .f32 (rdW a h y), .float .f32 v, .float .f32 f], 144)]) rfl 144 _ _ rfl (w.heap.size + 1) (#[.float .f32 y, .float .f32 (rdW a h y), .float .f32 v, .float .f32 f]) rfl rfl 144 (#[.float .f32 0, .float .f32 0, .float .f32 0, .float .f32 0]) ((k6.out.sub (l' := [(w.heap.size + 1, #[.float .f32 0, .float .f32 0, .float .f32 0, .float .f32 0], 144), (w.heap.size, #[.float .f32 y, .float .f32 (rdW a h y), .float .f32 v, .float .f32 f], 144)]) (by simp))) (by omega) (by first | (simp; done) | (simp; omega)) info_ris rfl (by simp [Value.oneCell']) (fun w7 k7 => ?_); replace k7 := hid k7)) | (have _t := k6; (refine wpList_load_row rfl 144 _ rfl (w.heap.size) rfl 144 (#[.float .f32 y, .float .f32 (rdW a h y), .float .f32 v, .float .f32 f]) (0, 0) _ (k6.out.at (x := (w.heap.size, #[.float .f32 y, .float .f32 (rdW a h y), .float .f32 v, .float .f32 f], 144)) (by simp)) Try.underlying144 rfl info_ris ?_)))
  exact bodyPost_ret (results_cell_row rfl _ _ (w.heap.size + 1) 144 (#[.float .f32 y, .float .f32 (rdW a h y), .float .f32 v, .float .f32 f]) (0, 0) _ rfl (k7.out.at (x := (w.heap.size + 1, #[.float .f32 y, .float .f32 (rdW a h y), .float .f32 v, .float .f32 f], 144)) (by simp)) Try.underlying144 rfl info_ris) rfl ⟨rfl, k7.out.1⟩

theorem iFault (h v : Nat) (w : World) : Calls Try.prog 206 #[.agg #[.float .f32 h, .float .f32 v]] w fun e w' => e = .returned (.int .i64 4) ∧ Below w.heap.size w w' := by
  have b0 := boxed w (.cells #[.float .f32 h, .float .f32 v] 214)
  go_enter Try.func206, Try.ntmps206
  go_wp2
  go_ret
  exact ⟨rfl, b0⟩

@[go_sem] theorem as_unfit (v : Value) (w : World) : (Instr.typeAssert (.iface 214 v) 20 193 true).run Try.prog w = .ok (.tuple #[.iface 214 v, .bool true]) w := by kernel_rfl

theorem cm_unfit (v : Value) (w : World) : (callMethod (.iface 214 v) "loop.example/g01224/impl.fault" #[]).run Try.prog w = .ok (.enter 206 #[v]) w := by kernel_rfl

set_option maxRecDepth 100000 in
theorem iCodeOf (h v : Nat) (w : World) : Calls Try.prog 128 #[.iface 214 (.agg #[.float .f32 h, .float .f32 v])] w fun e w' => e = .returned (.int .i64 4) ∧ Below w.heap.size w w' := by
  have hm := cm_unfit
  go_enter Try.func128, Try.ntmps128
  go_wp2_with fail
  refine (iFault h v _).mono ?_
  rintro e w1 ⟨rfl, hb1⟩
  go_wp2
  go_ret
  exact ⟨rfl, hb1⟩

set_option maxRecDepth 100000 in
theorem iCatch_panic (h v gc : Nat) (x : Value) (w : World) (hc : w.cell? ⟨gc, 0, none⟩ = some x) (hz : w.frozen? ⟨gc, 0, none⟩ = false) :
    CallsD Try.prog 167 #[.pointer (some ⟨gc, 0, none⟩)] (.panicking [{ v := .iface 214 (.agg #[.float .f32 h, .float .f32 v]), recovered := false }]) w fun e u' w' =>
      e = .returned (.tuple #[]) ∧ u' = .panicking [{ v := .iface 214 (.agg #[.float .f32 h, .float .f32 v]), recovered := true }] ∧ ∃ w1, Below w.heap.size w w1 ∧ w' = w1.setCell ⟨gc, 0, none⟩ (.int .i64 4) := by
  have hne : ∀ w : World, (binOp .neq 20 (.iface 214 (.agg #[.float .f32 h, .float .f32 v])) .nilIface).run Try.prog w = .ok (.bool true) w := fun _ => by kernel_rfl
  refine callsD_of_wpS Try.func167 rfl fun c₀ cs hu => ?_
  apply wpS_seq
  apply wpS_region
  simp [wpOpsS, go_sem, recoverD, hu, Try.ntmps167, Exit.thenS]
  refine wpS_of_wp ?_
  simp only [Array.replicate, List.setIfInBounds_toArray, List.replicate, List.set_cons_zero, List.set_cons_succ, List.append_toArray, List.cons_append, List.nil_append]
  go_wp2_with fail
  refine (iCodeOf h v _).mono ?_
  rintro e w1 ⟨rfl, hb1⟩
  have hc1 := (hb1.cell (block_lt_of_cell hc)).trans hc
  have hz1 : w1.frozen? ⟨gc, 0, none⟩ = false := (hb1.frozen (block_lt_of_cell hc)).trans hz
  clear hc hz
  go_wp2
  exact ⟨rfl, _, rfl, .tuple #[], by simp [results, Try.results167], rfl, rfl, w1, hb1, rfl⟩

theorem iCatch_idle (gc : Nat) (w : World) :
    CallsD Try.prog 167 #[.pointer (some ⟨gc, 0, none⟩)] .returning w fun e u' w' => e = .returned (.tuple #[]) ∧ u' = .returning ∧ w' = w := by
  have hne : ∀ w : World, (binOp .neq 20 .nilIface .nilIface).run Try.prog w = .ok (.bool false) w := fun _ => by kernel_rfl
  refine callsD_of_wpS Try.func167 rfl fun c₀ cs hu => ?_
  apply wpS_seq
  apply wpS_region
  simp [wpOpsS, go_sem, recoverD, hu, Try.ntmps167, Exit.thenS]
  refine wpS_of_wp ?_
  simp only [Array.replicate, List.setIfInBounds_toArray, List.replicate, List.set_cons_zero, List.set_cons_succ, List.append_toArray, List.cons_append, List.nil_append]
  go_wp2
  exact ⟨rfl, .returning, by cases c₀; simp_all, .tuple #[], by simp [results, Try.results167], rfl, rfl, rfl⟩

/-- What the closure of raise has at hand. -/
structure Way (w : World) (gp gh gw gi gs n cap : Nat) (a h v : Nat) (ys : Nat → Nat) (way : Int) (TW : TypeId) : Prop where
  par : parAt w gp a h v 49
  hts : w.cell? ⟨gh, 0, none⟩ = some (.slice (some ⟨gs, 0, none⟩) n cap)
  one : ∀ k, k < n → w.cell? ⟨gs, k, none⟩ = some (.float .f32 (ys k))
  fns : w.heap[gw]? = some (.cells #[.func (.func 142) #[] #[], .func (.func 143) #[] #[]] TW (0, 0))
  way : w.cell? ⟨gi, 0, none⟩ = some (.int .i64 way)

theorem Way.stay {w w' : World} {gp gh gw gi gs n cap a h v : Nat} {ys : Nat → Nat} {way : Int} {TW : TypeId} (k : Way w gp gh gw gi gs n cap a h v ys way TW) (hb : Below w.heap.size w w') : Way w' gp gh gw gi gs n cap a h v ys way TW := by
  refine ⟨k.par.stay hb, (hb.cell (block_lt_of_cell k.hts)).trans k.hts, fun i hi => (hb.cell (block_lt_of_cell (k.one i hi))).trans (k.one i hi), ?_, (hb.cell (block_lt_of_cell k.way)).trans k.way⟩
  rw [hb.block gw (lt_of_block k.fns)]; exact k.fns

set_option maxRecDepth 100000 in
set_option maxHeartbeats 2000000 in
theorem iWay0_ok (n : Nat) (hn : n ≤ 1048576) (cap : Nat) (ys sa sh sv sf : Nat → Nat) (hf0 : sf 0 = 0)
    (hcall : ∀ k, k < n → ∀ u, Calls Try.prog 142 #[.agg #[.float .f32 (sa k), .float .f32 (sh k), .float .f32 (sv k), .float .f32 (sf k)], .float .f32 (ys k)] u fun e u' => e = .returned (.agg #[.float .f32 (sa (k + 1)), .float .f32 (sh (k + 1)), .float .f32 (sv (k + 1)), .float .f32 (sf (k + 1))]) ∧ Below u.heap.size u u')
    (w : World) (gp gh gw gi gs : Nat) (TW : TypeId) (hW : Way w gp gh gw gi gs n cap (sa 0) (sh 0) (sv 0) ys 0 TW) :
    Calls Try.prog 145 #[.pointer (some ⟨gp, 0, none⟩), .pointer (some ⟨gh, 0, none⟩), .pointer (some ⟨gw, 0, none⟩), .pointer (some ⟨gi, 0, none⟩)] w fun e w' => e = .returned (.agg #[.float .f32 (sa n), .float .f32 (sh n), .float .f32 (sv n), .float .f32 (sf n)]) ∧ Below w.heap.size w w' := by
  have HW := hid hW
  have HC := hid hcall
  have HF0 := hid hf0
  have G1 := hid (hW.par.stay ((Below.refl w.heap.size w).alloc (Nat.le_refl _) (.cells #[.float .f32 0, .float .f32 0, .float .f32 0, .float .f32 0] 144)))
  have c1 := (hW.stay ((Below.refl w.heap.size w).alloc (Nat.le_refl _) (.cells #[.float .f32 0, .float .f32 0, .float .f32 0, .float .f32 0] 144))).hts
  have k0 : Hid (Kept w [(w.heap.size + 1, #[.float .f32 (sa 0), .float .f32 (sh 0), .float .f32 (sv 0), .float .f32 0], 144), (w.heap.size, #[.float .f32 0, .float .f32 0, .float .f32 0, .float .f32 0], 144)] ((w.alloc (.cells #[.float .f32 0, .float .f32 0, .float .f32 0, .float .f32 0] 144)).alloc (.cells #[.float .f32 (sa 0), .float .f32 (sh 0), .float .f32 (sv 0), .float .f32 0] 144))) := hid ((((Kept.nil w).push _ _).push _ _).sub (by simp))
  have c2 : World.cell? ((w.alloc (.cells #[.float .f32 0, .float .f32 0, .float .f32 0, .float .f32 0] 144)).alloc (.cells #[.float .f32 (sa 0), .float .f32 (sh 0), .float .f32 (sv 0), .float .f32 0] 144)) ⟨gh, 0, none⟩ = some (.slice (some ⟨gs, 0, none⟩) n cap) := (hW.stay k0.out.1).hts
  clear hW hcall hf0
  have hneg : ¬ ((n : Int) < 0) := by omega
  have HN := hid hn
  clear hn
  go_enter Try.func145, Try.ntmps145
  go_wp2_with (refine wpList_load_row rfl 49 _ rfl gp rfl 49 #[.float .f32 (sa 0), .float .f32 (sh 0), .float .f32 (sv 0)] (0, 0) _ G1.out Try.underlying49 rfl info_par ?_)
  clear c1 c2 G1
  go_loopw [12] (fun i wr => ∃ k : Nat, k ≤ n ∧ i = .int .i64 k ∧ Hid (Kept w [(w.heap.size + 1, #[.float .f32 (sa k), .float .f32 (sh k), .float .f32 (sv k), .float .f32 (sf k)], 144), (w.heap.size, #[.float .f32 0, .float .f32 0, .float .f32 0, .float .f32 0], 144)] wr)) (fun i _ => n - (intOf i).toNat)
  case atStart => exact ⟨0, by omega, rfl, by rw [HF0.out]; exact k0⟩
  case round =>
    obtain ⟨k, hk, rfl, hK⟩ := hrel
    clear k0
    by_cases hlt : k < n
    · have hkn : k < n := hlt
      have hk3 : (k : Int) < (n : Int) := by omega
      have Hk := hid hlt
      have y1 := (HW.out.stay hK.out.1).one k hkn
      have ix : ∀ w, (Instr.indexAt 147 (.slice (some ⟨gs, 0, none⟩) n cap) (.int .i64 (k : Int))).run Try.prog w = .ok (.pointer (some ⟨gs, k, none⟩)) w := fun w => by
        have := run_indexAt (P := Try.prog) (t := 147) (e := 22) (m := 1) Try.underlying147 (by kernel_rfl) (b := gs) (o := 0) (n := n) (cap := cap) (k := k) hkn w
        simpa using this
      clear hlt hk hkn
      go_wp2_with fail
      refine region_kept (w0 := w) (l := [(w.heap.size, #[.float .f32 0, .float .f32 0, .float .f32 0, .float .f32 0], 144)]) 7 #[false, false, false, false, false, false, false] (by kernel_rfl) rfl rfl ?_
      have kd := hK.out.drew
      clear hK
      generalize wr.drew = wd at kd ⊢
      refine take_cell 0 _ _ (.int .i64 0) rfl (by rfl) (by kernel_rfl) (by kernel_rfl) (by kernel_rfl) (fun wq hS => by have hcell : wq.cell? ⟨gi, 0, none⟩ = some (.int .i64 0) := (HW.out.stay hS.1).way; clear hS; unfold execOp; go_simp) rfl rfl kd.tail ?_
      simp only [Act.put, List.setIfInBounds_toArray, List.set_cons_zero, List.set_cons_succ]
      refine take_val 1 _ _ (.pointer (some ⟨gw, 0, none⟩)) rfl (by rfl) (by kernel_rfl) (by kernel_rfl) (by kernel_rfl) (fun w => by unfold execOp; go_simp) rfl rfl kd.tail ?_
      simp only [Act.put, List.setIfInBounds_toArray, List.set_cons_zero, List.set_cons_succ]
      refine take_cell 2 _ _ (.func (.func 142) #[] #[]) rfl (by rfl) (by kernel_rfl) (by kernel_rfl) (by kernel_rfl) (fun wq hS => by have hcell : wq.cell? ⟨gw, 0, none⟩ = some (.func (.func 142) #[] #[]) := (cell_of_row wq gw 0 _ _ _ (HW.out.stay hS.1).fns).trans rfl; clear hS; unfold execOp; go_simp) rfl rfl kd.tail ?_
      simp only [Act.put, List.setIfInBounds_toArray, List.set_cons_zero, List.set_cons_succ]
      refine take_val 4 _ _ (.float .f32 (ys k)) rfl (by rfl) (by kernel_rfl) (by kernel_rfl) (by kernel_rfl) (fun w => by rfl) rfl rfl kd.tail ?_
      simp only [Act.put, List.setIfInBounds_toArray, List.set_cons_zero, List.set_cons_succ]
      refine wpAnyH_ready (rs := [3]) (by kernel_rfl) (by simp) ?_
      refine loadR 3 kd.tail rfl (by rfl) 144 _ rfl (w.heap.size + 1) (#[.float .f32 (sa k), .float .f32 (sh k), .float .f32 (sv k), .float .f32 (sf k)]) 144 rfl (kd.at (x := (w.heap.size + 1, #[.float .f32 (sa k), .float .f32 (sh k), .float .f32 (sv k), .float .f32 (sf k)], 144)) (by simp)) _ Try.underlying144 rfl (info_ris) ?_ AllReadyH.nil
      simp only [Act.put, List.setIfInBounds_toArray, List.set_cons_zero, List.set_cons_succ]
      refine wpAnyH_ready (rs := [5]) (by kernel_rfl) (by simp) ?_
      refine callK 5 _ _ (.agg #[.float .f32 (sa (k + 1)), .float .f32 (sh (k + 1)), .float .f32 (sv (k + 1)), .float .f32 (sf (k + 1))]) kd rfl (by rfl) 142 #[.agg #[.float .f32 (sa k), .float .f32 (sh k), .float .f32 (sv k), .float .f32 (sf k)], .float .f32 (ys k)] (fun w => by unfold execOp; go_simp) rfl rfl ?hc5 (fun w5 k5 => ?_) AllReadyH.nil
      case hc5 => exact HC.out k Hk.out _
      refine ⟨k5.tail, ?_⟩
      simp only [Act.put, List.setIfInBounds_toArray, List.set_cons_zero, List.set_cons_succ]
      refine wpAnyH_ready (rs := [6]) (by kernel_rfl) (by simp) ?_
      refine storeK 6 _ _ k5 (by omega) (by simp) rfl (by rfl) 144 _ _ rfl (#[.float .f32 (sa (k + 1)), .float .f32 (sh (k + 1)), .float .f32 (sv (k + 1)), .float .f32 (sf (k + 1))]) rfl rfl (info_ris) (by simp) (by simp [Value.oneCell']) rfl rfl (fun w6 k6 => ?_) AllReadyH.nil
      refine ⟨k6.tail, ?_⟩
      simp only [Act.put, List.setIfInBounds_toArray, List.set_cons_zero, List.set_cons_succ]
      refine wpAnyH_done (by kernel_rfl) (NoPanic.normal ?_) _
      have K1 := hid k6
      clear kd k5 k6
      have hn9 := HN.out
      have hk9 := Hk.out
      clear ix y1
      go_wp2_with fail
      go_roundw
      case rel => exact ⟨k + 1, by omega, by go_num, K1⟩
      case measure => simp [intOf]; omega
    · obtain rfl : k = n := by omega
      have hlt3 : ¬ ((k : Int) < (k : Int)) := by omega
      clear hlt
      go_wp2_with (first | (refine wpList_load_row rfl 144 _ rfl (w.heap.size + 1) rfl 144 (#[.float .f32 (sa k), .float .f32 (sh k), .float .f32 (sv k), .float .f32 (sf k)]) (0, 0) _ (hK.out.at (x := (w.heap.size + 1, #[.float .f32 (sa k), .float .f32 (sh k), .float .f32 (sv k), .float .f32 (sf k)], 144)) (by simp)) Try.underlying144 rfl info_ris ?_) | (refine store_kept (w0 := w) (l := [(w.heap.size + 1, #[.float .f32 (sa k), .float .f32 (sh k), .float .f32 (sv k), .float .f32 (sf k)], 144)]) rfl 144 _ _ rfl (w.heap.size) (#[.float .f32 (sa k), .float .f32 (sh k), .float .f32 (sv k), .float .f32 (sf k)]) rfl rfl 144 (#[.float .f32 0, .float .f32 0, .float .f32 0, .float .f32 0]) (hK.out.swap) (Nat.le_refl _) (by simp) info_ris rfl (by simp [Value.oneCell']) (fun w7 k7 => ?_); replace k7 := hid k7))
      exact bodyPost_ret (results_cell_row rfl _ _ (w.heap.size) 144 (#[.float .f32 (sa k), .float .f32 (sh k), .float .f32 (sv k), .float .f32 (sf k)]) (0, 0) _ rfl (k7.out.at (x := (w.heap.size, #[.float .f32 (sa k), .float .f32 (sh k), .float .f32 (sv k), .float .f32 (sf k)], 144)) (by simp)) Try.underlying144 rfl info_ris) rfl ⟨rfl, k7.out.1⟩

set_option maxRecDepth 100000 in
set_option maxHeartbeats 2000000 in
theorem iWay0_f (n : Nat) (hn : n ≤ 1048576) (cap : Nat) (ys sa sh sv sf : Nat → Nat) (hf0 : sf 0 = 0) (m : Nat) (hm : m < n) (chain : List PanicEntry) (hpan : ∀ u, Calls Try.prog 142 #[.agg #[.float .f32 (sa m), .float .f32 (sh m), .float .f32 (sv m), .float .f32 (sf m)], .float .f32 (ys m)] u fun e u' => e = .panicked chain ∧ Below u.heap.size u u')
    (hcall : ∀ k, k < m → ∀ u, Calls Try.prog 142 #[.agg #[.float .f32 (sa k), .float .f32 (sh k), .float .f32 (sv k), .float .f32 (sf k)], .float .f32 (ys k)] u fun e u' => e = .returned (.agg #[.float .f32 (sa (k + 1)), .float .f32 (sh (k + 1)), .float .f32 (sv (k + 1)), .float .f32 (sf (k + 1))]) ∧ Below u.heap.size u u')
    (w : World) (gp gh gw gi gs : Nat) (TW : TypeId) (hW : Way w gp gh gw gi gs n cap (sa 0) (sh 0) (sv 0) ys 0 TW) :
    Calls Try.prog 145 #[.pointer (some ⟨gp, 0, none⟩), .pointer (some ⟨gh, 0, none⟩), .pointer (some ⟨gw, 0, none⟩), .pointer (some ⟨gi, 0, none⟩)] w fun e w' => e = .panicked chain ∧ Below w.heap.size w w' := by
  have HW := hid hW
  have HC := hid hcall
  have HF0 := hid hf0
  have G1 := hid (hW.par.stay ((Below.refl w.heap.size w).alloc (Nat.le_refl _) (.cells #[.float .f32 0, .float .f32 0, .float .f32 0, .float .f32 0] 144)))
  have c1 := (hW.stay ((Below.refl w.heap.size w).alloc (Nat.le_refl _) (.cells #[.float .f32 0, .float .f32 0, .float .f32 0, .float .f32 0] 144))).hts
  have k0 : Hid (Kept w [(w.heap.size + 1, #[.float .f32 (sa 0), .float .f32 (sh 0), .float .f32 (sv 0), .float .f32 0], 144), (w.heap.size, #[.float .f32 0, .float .f32 0, .float .f32 0, .float .f32 0], 144)] ((w.alloc (.cells #[.float .f32 0, .float .f32 0, .float .f32 0, .float .f32 0] 144)).alloc (.cells #[.float .f32 (sa 0), .float .f32 (sh 0), .float .f32 (sv 0), .float .f32 0] 144))) := hid ((((Kept.nil w).push _ _).push _ _).sub (by simp))
  have c2 : World.cell? ((w.alloc (.cells #[.float .f32 0, .float .f32 0, .float .f32 0, .float .f32 0] 144)).alloc (.cells #[.float .f32 (sa 0), .float .f32 (sh 0), .float .f32 (sv 0), .float .f32 0] 144)) ⟨gh, 0, none⟩ = some (.slice (some ⟨gs, 0, none⟩) n cap) := (hW.stay k0.out.1).hts
  have HP := hid hpan
  have HM := hid hm
  clear hpan hm
  clear hW hcall hf0
  have hneg : ¬ ((n : Int) < 0) := by omega
  have HN := hid hn
  clear hn
  go_enter Try.func145, Try.ntmps145
  go_wp2_with (refine wpList_load_row rfl 49 _ rfl gp rfl 49 #[.float .f32 (sa 0), .float .f32 (sh 0), .float .f32 (sv 0)] (0, 0) _ G1.out Try.underlying49 rfl info_par ?_)
  clear c1 c2 G1
  go_loopw [12] (fun i wr => ∃ k : Nat, k ≤ m ∧ i = .int .i64 k ∧ Hid (Kept w [(w.heap.size + 1, #[.float .f32 (sa k), .float .f32 (sh k), .float .f32 (sv k), .float .f32 (sf k)], 144), (w.heap.size, #[.float .f32 0, .float .f32 0, .float .f32 0, .float .f32 0], 144)] wr)) (fun i _ => n - (intOf i).toNat)
  case atStart => exact ⟨0, by omega, rfl, by rw [HF0.out]; exact k0⟩
  case round =>
    obtain ⟨k, hk, rfl, hK⟩ := hrel
    clear k0
    by_cases hlt : k < m
    · have hkn : k < n := (by have := HM.out; omega)
      have hk3 : (k : Int) < (n : Int) := by omega
      have Hk := hid hlt
      have y1 := (HW.out.stay hK.out.1).one k hkn
      have ix : ∀ w, (Instr.indexAt 147 (.slice (some ⟨gs, 0, none⟩) n cap) (.int .i64 (k : Int))).run Try.prog w = .ok (.pointer (some ⟨gs, k, none⟩)) w := fun w => by
        have := run_indexAt (P := Try.prog) (t := 147) (e := 22) (m := 1) Try.underlying147 (by kernel_rfl) (b := gs) (o := 0) (n := n) (cap := cap) (k := k) hkn w
        simpa using this
      clear hlt hk hkn
      go_wp2_with fail
      refine region_kept (w0 := w) (l := [(w.heap.size, #[.float .f32 0, .float .f32 0, .float .f32 0, .float .f32 0], 144)]) 7 #[false, false, false, false, false, false, false] (by kernel_rfl) rfl rfl ?_
      have kd := hK.out.drew
      clear hK
      generalize wr.drew = wd at kd ⊢
      refine take_cell 0 _ _ (.int .i64 0) rfl (by rfl) (by kernel_rfl) (by kernel_rfl) (by kernel_rfl) (fun wq hS => by have hcell : wq.cell? ⟨gi, 0, none⟩ = some (.int .i64 0) := (HW.out.stay hS.1).way; clear hS; unfold execOp; go_simp) rfl rfl kd.tail ?_
      simp only [Act.put, List.setIfInBounds_toArray, List.set_cons_zero, List.set_cons_succ]
      refine take_val 1 _ _ (.pointer (some ⟨gw, 0, none⟩)) rfl (by rfl) (by kernel_rfl) (by kernel_rfl) (by kernel_rfl) (fun w => by unfold execOp; go_simp) rfl rfl kd.tail ?_
      simp only [Act.put, List.setIfInBounds_toArray, List.set_cons_zero, List.set_cons_succ]
      refine take_cell 2 _ _ (.func (.func 142) #[] #[]) rfl (by rfl) (by kernel_rfl) (by kernel_rfl) (by kernel_rfl) (fun wq hS => by have hcell : wq.cell? ⟨gw, 0, none⟩ = some (.func (.func 142) #[] #[]) := (cell_of_row wq gw 0 _ _ _ (HW.out.stay hS.1).fns).trans rfl; clear hS; unfold execOp; go_simp) rfl rfl kd.tail ?_
      simp only [Act.put, List.setIfInBounds_toArray, List.set_cons_zero, List.set_cons_succ]
      refine take_val 4 _ _ (.float .f32 (ys k)) rfl (by rfl) (by kernel_rfl) (by kernel_rfl) (by kernel_rfl) (fun w => by rfl) rfl rfl kd.tail ?_
      simp only [Act.put, List.setIfInBounds_toArray, List.set_cons_zero, List.set_cons_succ]
      refine wpAnyH_ready (rs := [3]) (by kernel_rfl) (by simp) ?_
      refine loadR 3 kd.tail rfl (by rfl) 144 _ rfl (w.heap.size + 1) (#[.float .f32 (sa k), .float .f32 (sh k), .float .f32 (sv k), .float .f32 (sf k)]) 144 rfl (kd.at (x := (w.heap.size + 1, #[.float .f32 (sa k), .float .f32 (sh k), .float .f32 (sv k), .float .f32 (sf k)], 144)) (by simp)) _ Try.underlying144 rfl (info_ris) ?_ AllReadyH.nil
      simp only [Act.put, List.setIfInBounds_toArray, List.set_cons_zero, List.set_cons_succ]
      refine wpAnyH_ready (rs := [5]) (by kernel_rfl) (by simp) ?_
      refine callK 5 _ _ (.agg #[.float .f32 (sa (k + 1)), .float .f32 (sh (k + 1)), .float .f32 (sv (k + 1)), .float .f32 (sf (k + 1))]) kd rfl (by rfl) 142 #[.agg #[.float .f32 (sa k), .float .f32 (sh k), .float .f32 (sv k), .float .f32 (sf k)], .float .f32 (ys k)] (fun w => by unfold execOp; go_simp) rfl rfl ?hc5 (fun w5 k5 => ?_) AllReadyH.nil
      case hc5 => exact HC.out k Hk.out _
      refine ⟨k5.tail, ?_⟩
      simp only [Act.put, List.setIfInBounds_toArray, List.set_cons_zero, List.set_cons_succ]
      refine wpAnyH_ready (rs := [6]) (by kernel_rfl) (by simp) ?_
      refine storeK 6 _ _ k5 (by omega) (by simp) rfl (by rfl) 144 _ _ rfl (#[.float .f32 (sa (k + 1)), .float .f32 (sh (k + 1)), .float .f32 (sv (k + 1)), .float .f32 (sf (k + 1))]) rfl rfl (info_ris) (by simp) (by simp [Value.oneCell']) rfl rfl (fun w6 k6 => ?_) AllReadyH.nil
      refine ⟨k6.tail, ?_⟩
      simp only [Act.put, List.setIfInBounds_toArray, List.set_cons_zero, List.set_cons_succ]
      refine wpAnyH_done (by kernel_rfl) (NoPanic.normal ?_) _
      have K1 := hid k6
      clear kd k5 k6
      have hn9 := HN.out
      have hk9 := Hk.out
      have hm9 := HM.out
      clear ix y1
      go_wp2_with fail
      go_roundw
      case rel => exact ⟨k + 1, by omega, by go_num, K1⟩
      case measure => simp [intOf]; omega
    · obtain rfl : k = m := by omega
      have hk3 : (k : Int) < (n : Int) := by have := HM.out; omega
      have y1 := (HW.out.stay hK.out.1).one k HM.out
      have ix : ∀ w, (Instr.indexAt 147 (.slice (some ⟨gs, 0, none⟩) n cap) (.int .i64 (k : Int))).run Try.prog w = .ok (.pointer (some ⟨gs, k, none⟩)) w := fun w => by
        have := run_indexAt (P := Try.prog) (t := 147) (e := 22) (m := 1) Try.underlying147 (by kernel_rfl) (b := gs) (o := 0) (n := n) (cap := cap) (k := k) HM.out w
        simpa using this
      clear hlt hk
      go_wp2_with fail
      refine wp_region_held (S := Kept w [(w.heap.size, #[.float .f32 0, .float .f32 0, .float .f32 0, .float .f32 0], 144)]) (by kernel_rfl) ?_
      have kd := hK.out.drew
      clear hK
      change wpAnyH _ _ _ _ _ 7 #[false, false, false, false, false, false, false] _ wr.drew
      generalize wr.drew = wd at kd ⊢
      refine takeP_cell (by intro c a d v w h; cases d <;> exact h) 0 (.int .i64 0) rfl (by rfl) (by kernel_rfl) (by kernel_rfl) (by kernel_rfl) (fun wq hS => by have hcell : wq.cell? ⟨gi, 0, none⟩ = some (.int .i64 0) := (HW.out.stay hS.1).way; clear hS; unfold execOp; go_simp) kd.tail ?_
      simp only [Act.put, List.setIfInBounds_toArray, List.set_cons_zero, List.set_cons_succ]
      refine takeP_val (by intro c a d v w h; cases d <;> exact h) 1 (.pointer (some ⟨gw, 0, none⟩)) rfl (by rfl) (by kernel_rfl) (by kernel_rfl) (by kernel_rfl) (fun w => by unfold execOp; go_simp) kd.tail ?_
      simp only [Act.put, List.setIfInBounds_toArray, List.set_cons_zero, List.set_cons_succ]
      refine takeP_cell (by intro c a d v w h; cases d <;> exact h) 2 (.func (.func 142) #[] #[]) rfl (by rfl) (by kernel_rfl) (by kernel_rfl) (by kernel_rfl) (fun wq hS => by have hcell : wq.cell? ⟨gw, 0, none⟩ = some (.func (.func 142) #[] #[]) := (cell_of_row wq gw 0 _ _ _ (HW.out.stay hS.1).fns).trans rfl; clear hS; unfold execOp; go_simp) kd.tail ?_
      simp only [Act.put, List.setIfInBounds_toArray, List.set_cons_zero, List.set_cons_succ]
      refine takeP_val (by intro c a d v w h; cases d <;> exact h) 4 (.float .f32 (ys k)) rfl (by rfl) (by kernel_rfl) (by kernel_rfl) (by kernel_rfl) (fun w => by rfl) kd.tail ?_
      simp only [Act.put, List.setIfInBounds_toArray, List.set_cons_zero, List.set_cons_succ]
      refine wpAnyH_ready (rs := [3]) (by kernel_rfl) (by simp) ?_
      refine loadR 3 kd.tail rfl (by rfl) 144 _ rfl (w.heap.size + 1) (#[.float .f32 (sa k), .float .f32 (sh k), .float .f32 (sv k), .float .f32 (sf k)]) 144 rfl (kd.at (x := (w.heap.size + 1, #[.float .f32 (sa k), .float .f32 (sh k), .float .f32 (sv k), .float .f32 (sf k)], 144)) (by simp)) _ Try.underlying144 rfl (info_ris) ?_ AllReadyH.nil
      simp only [Act.put, List.setIfInBounds_toArray, List.set_cons_zero, List.set_cons_succ]
      refine wpAnyH_ready (rs := [5]) (by kernel_rfl) (by simp) ?_
      refine callP 5 chain kd rfl (by rfl) 142 #[.agg #[.float .f32 (sa k), .float .f32 (sh k), .float .f32 (sv k), .float .f32 (sf k)], .float .f32 (ys k)] (fun w => by unfold execOp; go_simp) (HP.out _) (fun w5 k5 => ?_) AllReadyH.nil
      exact ⟨rfl, rfl, k5.1⟩

set_option maxRecDepth 100000 in
set_option maxHeartbeats 1000000 in
theorem iAttempt_ok (cl : FuncId) (caps : Array Value) (a h v f : Nat) (w : World)
    (hcl : ∀ u, Below w.heap.size w u → Calls Try.prog cl caps u fun e u' => e = .returned (.agg #[.float .f32 a, .float .f32 h, .float .f32 v, .float .f32 f]) ∧ Below u.heap.size u u') (hce : ∀ w : World, (callFunc cl caps).run Try.prog w = .ok (.enter cl caps) w) :
    Calls Try.prog 144 #[.func (.func cl) #[] caps] w fun e w' => e = .returned (.tuple #[.agg #[.float .f32 a, .float .f32 h, .float .f32 v, .float .f32 f], .int .i64 0]) ∧ Below w.heap.size w w' := by
  have hmf : ∀ (fn : Fn) (first cap : Array Value) (w : World), (Instr.makeFunc fn first cap).run Try.prog w = .ok (.func fn first cap) w := fun _ _ _ _ => rfl
  have k0 : Hid (Kept w [(w.heap.size, #[.float .f32 0, .float .f32 0, .float .f32 0, .float .f32 0], 144), (w.heap.size + 1, #[.int .i64 0], 2)] ((w.alloc (.cells #[.float .f32 0, .float .f32 0, .float .f32 0, .float .f32 0] 144)).alloc (.cells #[.int .i64 0] 2))) := hid ((((Kept.nil w).push _ _).push _ _).sub (by simp))
  have HC := hid hcl
  clear hcl
  go_enter_defers Try.func144, Try.ntmps144
  go_wp2_with fail
  refine (HC.out _ k0.out.1).mono ?_
  rintro e w1 ⟨rfl, hb1⟩
  have k1 := hid (k0.out.stay hb1)
  go_wp2_with (refine store_kept (w0 := w) (l := [(w.heap.size + 1, #[.int .i64 0], 2)]) rfl 144 _ _ rfl (w.heap.size) (#[.float .f32 a, .float .f32 h, .float .f32 v, .float .f32 f]) rfl rfl 144 (#[.float .f32 0, .float .f32 0, .float .f32 0, .float .f32 0]) (k1.out) (Nat.le_refl _) (by simp) info_ris rfl (by simp [Value.oneCell']) (fun w6 k6 => ?_); replace k6 := hid k6; have c6 : World.cell? w6 ⟨w.heap.size + 1, 0, none⟩ = some (.int .i64 0) := (cell_of_row w6 (w.heap.size + 1) 0 _ _ _ (k6.out.at (x := (w.heap.size + 1, #[.int .i64 0], 2)) (by simp))).trans rfl; have z6 : World.frozen? w6 ⟨w.heap.size + 1, 0, none⟩ = false := frozen_of_row w6 (w.heap.size + 1) 0 _ _ (k6.out.at (x := (w.heap.size + 1, #[.int .i64 0], 2)) (by simp)))
  refine leaves_cons (f := 167) (args := #[.pointer (some ⟨w.heap.size + 1, 0, none⟩)]) (by simp) (by simp [go_sem]) ?_
  refine (iCatch_idle (w.heap.size + 1) _).mono ?_
  rintro e u' w'' ⟨rfl, rfl, rfl⟩
  have k7 := hid ((k6.out.swap.lcell (by omega) (by simp) 0 (.int .i64 0)).swap)
  clear c6 z6 k6 k1 k0 hb1
  generalize World.setCell w6 _ _ = w7 at k7 ⊢
  have e1 : (loadVar 144 ⟨w.heap.size, 0, none⟩).run Try.prog w7 = .ok (.agg #[.float .f32 a, .float .f32 h, .float .f32 v, .float .f32 f]) w7 := run_loadVar_row _ w.heap.size 144 144 #[.float .f32 a, .float .f32 h, .float .f32 v, .float .f32 f] (0, 0) _ (k7.out.at (x := (w.heap.size, #[.float .f32 a, .float .f32 h, .float .f32 v, .float .f32 f], 144)) (by simp)) Try.underlying144 rfl info_ris
  have e2 : (loadVar 2 ⟨w.heap.size + 1, 0, none⟩).run Try.prog w7 = .ok (.int .i64 0) w7 := by
    have c7 : World.cell? w7 ⟨w.heap.size + 1, 0, none⟩ = some (.int .i64 0) := (cell_of_row _ (w.heap.size + 1) 0 _ _ _ (k7.out.at (x := (w.heap.size + 1, #[.int .i64 0], 2)) (by simp))).trans rfl
    clear e1 k7
    simp [go_sem, c7]
  refine ⟨.tuple #[.agg #[.float .f32 a, .float .f32 h, .float .f32 v, .float .f32 f], .int .i64 0], ?_, rfl, k7.out.1⟩
  simp [results, Try.results144, asAddr, e1, e2, Sem.run_bind, Result.andThen_ok]

set_option maxRecDepth 100000 in
set_option maxHeartbeats 1000000 in
theorem iAttempt_f (cl : FuncId) (caps : Array Value) (p q : Nat) (w : World)
    (hcl : ∀ u, Below w.heap.size w u → Calls Try.prog cl caps u fun e u' => e = .panicked [{ v := .iface 214 (.agg #[.float .f32 p, .float .f32 q]), recovered := false }] ∧ Below u.heap.size u u') (hce : ∀ w : World, (callFunc cl caps).run Try.prog w = .ok (.enter cl caps) w) :
    Calls Try.prog 144 #[.func (.func cl) #[] caps] w fun e w' => e = .returned (.tuple #[.agg #[.float .f32 0, .float .f32 0, .float .f32 0, .float .f32 0], .int .i64 4]) ∧ Below w.heap.size w w' := by
  have hmf : ∀ (fn : Fn) (first cap : Array Value) (w : World), (Instr.makeFunc fn first cap).run Try.prog w = .ok (.func fn first cap) w := fun _ _ _ _ => rfl
  have k0 : Hid (Kept w [(w.heap.size, #[.float .f32 0, .float .f32 0, .float .f32 0, .float .f32 0], 144), (w.heap.size + 1, #[.int .i64 0], 2)] ((w.alloc (.cells #[.float .f32 0, .float .f32 0, .float .f32 0, .float .f32 0] 144)).alloc (.cells #[.int .i64 0] 2))) := hid ((((Kept.nil w).push _ _).push _ _).sub (by simp))
  have HC := hid hcl
  clear hcl
  go_enter_defers Try.func144, Try.ntmps144
  go_wp2_with fail
  refine (HC.out _ k0.out.1).mono ?_
  rintro e w1 ⟨rfl, hb1⟩
  have k1 := hid (k0.out.stay hb1)
  have c6 : World.cell? w1 ⟨w.heap.size + 1, 0, none⟩ = some (.int .i64 0) := (cell_of_row w1 (w.heap.size + 1) 0 _ _ _ (k1.out.at (x := (w.heap.size + 1, #[.int .i64 0], 2)) (by simp))).trans rfl
  have z6 : World.frozen? w1 ⟨w.heap.size + 1, 0, none⟩ = false := frozen_of_row w1 (w.heap.size + 1) 0 _ _ (k1.out.at (x := (w.heap.size + 1, #[.int .i64 0], 2)) (by simp))
  refine leaves_cons (f := 167) (args := #[.pointer (some ⟨w.heap.size + 1, 0, none⟩)]) (by simp) (by simp [go_sem]) ?_
  refine (iCatch_panic p q (w.heap.size + 1) _ _ c6 z6).mono ?_
  rintro e u' w'' ⟨rfl, rfl, w2, hb2, rfl⟩
  have k7 := hid (((k1.out.stay hb2).swap.lcell (by omega) (by simp) 0 (.int .i64 4)).swap)
  clear c6 z6 k1 k0 hb1 hb2
  generalize World.setCell w2 _ _ = w7 at k7 ⊢
  have e1 : (loadVar 144 ⟨w.heap.size, 0, none⟩).run Try.prog w7 = .ok (.agg #[.float .f32 0, .float .f32 0, .float .f32 0, .float .f32 0]) w7 := run_loadVar_row _ w.heap.size 144 144 #[.float .f32 0, .float .f32 0, .float .f32 0, .float .f32 0] (0, 0) _ (k7.out.at (x := (w.heap.size, #[.float .f32 0, .float .f32 0, .float .f32 0, .float .f32 0], 144)) (by simp)) Try.underlying144 rfl info_ris
  have e2 : (loadVar 2 ⟨w.heap.size + 1, 0, none⟩).run Try.prog w7 = .ok (.int .i64 4) w7 := by
    have c7 : World.cell? w7 ⟨w.heap.size + 1, 0, none⟩ = some (.int .i64 4) := (cell_of_row _ (w.heap.size + 1) 0 _ _ _ (k7.out.at (x := (w.heap.size + 1, #[.int .i64 4], 2)) (by simp))).trans rfl
    clear e1 k7
    simp [go_sem, c7]
  refine ⟨.tuple #[.agg #[.float .f32 0, .float .f32 0, .float .f32 0, .float .f32 0], .int .i64 4], ?_, rfl, k7.out.1⟩
  simp [results, Try.results144, asAddr, e1, e2, Sem.run_bind, Result.andThen_ok]

@[go_sem] theorem run_store_func (P : Program) (w : World) (a : Addr) (m : Mode) (fn : Fn) (x y : Array Value) : (store a (.func fn x y) m).run P w = stored P w a (.func fn x y) m := run_store P w a _ m rfl

set_option maxRecDepth 100000 in
set_option maxHeartbeats 2000000 in
theorem iRaise0_ok (n : Nat) (hn : n ≤ 1048576) (cap : Nat) (ys sa sh sv sf : Nat → Nat) (hf0 : sf 0 = 0)
    (hcall : ∀ k, k < n → ∀ u, Calls Try.prog 142 #[.agg #[.float .f32 (sa k), .float .f32 (sh k), .float .f32 (sv k), .float .f32 (sf k)], .float .f32 (ys k)] u fun e u' => e = .returned (.agg #[.float .f32 (sa (k + 1)), .float .f32 (sh (k + 1)), .float .f32 (sv (k + 1)), .float .f32 (sf (k + 1))]) ∧ Below u.heap.size u u')
    (w : World) (gs : Nat) (hy : ∀ k, k < n → w.cell? ⟨gs, k, none⟩ = some (.float .f32 (ys k))) :
    Calls Try.prog 102 #[.agg #[.float .f32 (sa 0), .float .f32 (sh 0), .float .f32 (sv 0)], .int .i64 0, .slice (some ⟨gs, 0, none⟩) n cap] w fun e w' => e = .returned (.tuple #[.agg #[.float .f32 (sa n), .float .f32 (sh n), .float .f32 (sv n), .float .f32 (sf n)], .int .i64 0]) ∧ Below w.heap.size w w' := by
  have k0 : Hid (Kept w [(w.heap.size, #[.float .f32 (sa 0), .float .f32 (sh 0), .float .f32 (sv 0)], 49), (w.heap.size + 1, #[.int .i64 0], 3), (w.heap.size + 1 + 1, #[.slice (some ⟨gs, 0, none⟩) n cap], 147), (w.heap.size + 1 + 1 + 1, #[.float .f32 0, .float .f32 0, .float .f32 0, .float .f32 0], 144), (w.heap.size + 1 + 1 + 1 + 1, #[.func (.func 142) #[] #[], .func (.func 143) #[] #[]], 182)] (((((w.alloc (.cells #[.float .f32 (sa 0), .float .f32 (sh 0), .float .f32 (sv 0)] 49)).alloc (.cells #[.int .i64 0] 3)).alloc (.cells #[.slice (some ⟨gs, 0, none⟩) n cap] 147)).alloc (.cells #[.float .f32 0, .float .f32 0, .float .f32 0, .float .f32 0] 144)).alloc (.cells #[.func (.func 142) #[] #[], .func (.func 143) #[] #[]] 182))) := hid (((((((Kept.nil w).push _ _).push _ _).push _ _).push _ _).push _ _).sub (by simp))
  have HW : Hid (Way (((((w.alloc (.cells #[.float .f32 (sa 0), .float .f32 (sh 0), .float .f32 (sv 0)] 49)).alloc (.cells #[.int .i64 0] 3)).alloc (.cells #[.slice (some ⟨gs, 0, none⟩) n cap] 147)).alloc (.cells #[.float .f32 0, .float .f32 0, .float .f32 0, .float .f32 0] 144)).alloc (.cells #[.func (.func 142) #[] #[], .func (.func 143) #[] #[]] 182)) w.heap.size (w.heap.size + 1 + 1) (w.heap.size + 1 + 1 + 1 + 1) (w.heap.size + 1) gs n cap (sa 0) (sh 0) (sv 0) ys 0 182) := hid
    { par := k0.out.at (x := (w.heap.size, #[.float .f32 (sa 0), .float .f32 (sh 0), .float .f32 (sv 0)], 49)) (by simp)
      hts := (cell_of_row _ (w.heap.size + 1 + 1) 0 _ _ _ (k0.out.at (x := (w.heap.size + 1 + 1, #[.slice (some ⟨gs, 0, none⟩) n cap], 147)) (by simp))).trans rfl
      one := fun k hk => (k0.out.1.cell (block_lt_of_cell (hy k hk))).trans (hy k hk)
      fns := k0.out.at (x := (w.heap.size + 1 + 1 + 1 + 1, #[.func (.func 142) #[] #[], .func (.func 143) #[] #[]], 182)) (by simp)
      way := (cell_of_row _ (w.heap.size + 1) 0 _ _ _ (k0.out.at (x := (w.heap.size + 1, #[.int .i64 0], 3)) (by simp))).trans rfl }
  have HC : Hid (∀ u, Below ((((((w.alloc (.cells #[.float .f32 (sa 0), .float .f32 (sh 0), .float .f32 (sv 0)] 49)).alloc (.cells #[.int .i64 0] 3)).alloc (.cells #[.slice (some ⟨gs, 0, none⟩) n cap] 147)).alloc (.cells #[.float .f32 0, .float .f32 0, .float .f32 0, .float .f32 0] 144)).alloc (.cells #[.func (.func 142) #[] #[], .func (.func 143) #[] #[]] 182))).heap.size (((((w.alloc (.cells #[.float .f32 (sa 0), .float .f32 (sh 0), .float .f32 (sv 0)] 49)).alloc (.cells #[.int .i64 0] 3)).alloc (.cells #[.slice (some ⟨gs, 0, none⟩) n cap] 147)).alloc (.cells #[.float .f32 0, .float .f32 0, .float .f32 0, .float .f32 0] 144)).alloc (.cells #[.func (.func 142) #[] #[], .func (.func 143) #[] #[]] 182)) u → Calls Try.prog 145 #[.pointer (some ⟨w.heap.size, 0, none⟩), .pointer (some ⟨w.heap.size + 1 + 1, 0, none⟩), .pointer (some ⟨w.heap.size + 1 + 1 + 1 + 1, 0, none⟩), .pointer (some ⟨w.heap.size + 1, 0, none⟩)] u fun e u' => e = .returned (.agg #[.float .f32 (sa n), .float .f32 (sh n), .float .f32 (sv n), .float .f32 (sf n)]) ∧ Below u.heap.size u u') := hid fun u hu => iWay0_ok n hn cap ys sa sh sv sf hf0 hcall u _ _ _ _ _ _ (HW.out.stay hu)
  have hmf : ∀ (fn : Fn) (first cap : Array Value) (w : World), (Instr.makeFunc fn first cap).run Try.prog w = .ok (.func fn first cap) w := fun _ _ _ _ => rfl
  clear hcall hy hf0 hn HW
  go_enter Try.func102, Try.ntmps102
  go_wp2_with fail
  refine (iAttempt_ok 145 #[.pointer (some ⟨w.heap.size, 0, none⟩), .pointer (some ⟨w.heap.size + 1 + 1, 0, none⟩), .pointer (some ⟨w.heap.size + 1 + 1 + 1 + 1, 0, none⟩), .pointer (some ⟨w.heap.size + 1, 0, none⟩)] (sa n) (sh n) (sv n) (sf n) _ HC.out (fun w => by simp [go_sem])).mono ?_
  rintro e w1 ⟨rfl, hb1⟩
  have k1 := hid ((k0.out.stay hb1).sub (l' := [(w.heap.size + 1 + 1 + 1, #[.float .f32 0, .float .f32 0, .float .f32 0, .float .f32 0], 144), (w.heap.size + 1 + 1 + 1 + 1, #[.func (.func 142) #[] #[], .func (.func 143) #[] #[]], 182)]) (by simp))
  have hlt : w.heap.size ≤ w.heap.size + 1 + 1 + 1 := by omega
  clear k0 hb1
  go_wp2_with (refine store_kept (w0 := w) (l := [(w.heap.size + 1 + 1 + 1 + 1, #[.func (.func 142) #[] #[], .func (.func 143) #[] #[]], 182)]) rfl 144 _ _ rfl (w.heap.size + 1 + 1 + 1) (#[.float .f32 (sa n), .float .f32 (sh n), .float .f32 (sv n), .float .f32 (sf n)]) rfl rfl 144 (#[.float .f32 0, .float .f32 0, .float .f32 0, .float .f32 0]) (k1.out) hlt (by simp) info_ris rfl (by simp [Value.oneCell']) (fun w6 k6 => ?_); replace k6 := hid k6)
  exact bodyPost_ret (results_row_tmp rfl _ _ (w.heap.size + 1 + 1 + 1) 144 (#[.float .f32 (sa n), .float .f32 (sh n), .float .f32 (sv n), .float .f32 (sf n)]) (0, 0) _ rfl (k6.out.at (x := (w.heap.size + 1 + 1 + 1, #[.float .f32 (sa n), .float .f32 (sh n), .float .f32 (sv n), .float .f32 (sf n)], 144)) (by simp)) Try.underlying144 rfl info_ris) rfl ⟨rfl, k6.out.1⟩

set_option maxRecDepth 100000 in
set_option maxHeartbeats 2000000 in
theorem iRaise0_f (n : Nat) (hn : n ≤ 1048576) (cap : Nat) (ys sa sh sv sf : Nat → Nat) (hf0 : sf 0 = 0) (m : Nat) (hm : m < n) (p q : Nat) (hpan : ∀ u, Calls Try.prog 142 #[.agg #[.float .f32 (sa m), .float .f32 (sh m), .float .f32 (sv m), .float .f32 (sf m)], .float .f32 (ys m)] u fun e u' => e = .panicked [{ v := .iface 214 (.agg #[.float .f32 p, .float .f32 q]), recovered := false }] ∧ Below u.heap.size u u')
    (hcall : ∀ k, k < m → ∀ u, Calls Try.prog 142 #[.agg #[.float .f32 (sa k), .float .f32 (sh k), .float .f32 (sv k), .float .f32 (sf k)], .float .f32 (ys k)] u fun e u' => e = .returned (.agg #[.float .f32 (sa (k + 1)), .float .f32 (sh (k + 1)), .float .f32 (sv (k + 1)), .float .f32 (sf (k + 1))]) ∧ Below u.heap.size u u')
    (w : World) (gs : Nat) (hy : ∀ k, k < n → w.cell? ⟨gs, k, none⟩ = some (.float .f32 (ys k))) :
    Calls Try.prog 102 #[.agg #[.float .f32 (sa 0), .float .f32 (sh 0), .float .f32 (sv 0)], .int .i64 0, .slice (some ⟨gs, 0, none⟩) n cap] w fun e w' => e = .returned (.tuple #[.agg #[.float .f32 0, .float .f32 0, .float .f32 0, .float .f32 0], .int .i64 4]) ∧ Below w.heap.size w w' := by
  have k0 : Hid (Kept w [(w.heap.size, #[.float .f32 (sa 0), .float .f32 (sh 0), .float .f32 (sv 0)], 49), (w.heap.size + 1, #[.int .i64 0], 3), (w.heap.size + 1 + 1, #[.slice (some ⟨gs, 0, none⟩) n cap], 147), (w.heap.size + 1 + 1 + 1, #[.float .f32 0, .float .f32 0, .float .f32 0, .float .f32 0], 144), (w.heap.size + 1 + 1 + 1 + 1, #[.func (.func 142) #[] #[], .func (.func 143) #[] #[]], 182)] (((((w.alloc (.cells #[.float .f32 (sa 0), .float .f32 (sh 0), .float .f32 (sv 0)] 49)).alloc (.cells #[.int .i64 0] 3)).alloc (.cells #[.slice (some ⟨gs, 0, none⟩) n cap] 147)).alloc (.cells #[.float .f32 0, .float .f32 0, .float .f32 0, .float .f32 0] 144)).alloc (.cells #[.func (.func 142) #[] #[], .func (.func 143) #[] #[]] 182))) := hid (((((((Kept.nil w).push _ _).push _ _).push _ _).push _ _).push _ _).sub (by simp))
  have HW : Hid (Way (((((w.alloc (.cells #[.float .f32 (sa 0), .float .f32 (sh 0), .float .f32 (sv 0)] 49)).alloc (.cells #[.int .i64 0] 3)).alloc (.cells #[.slice (some ⟨gs, 0, none⟩) n cap] 147)).alloc (.cells #[.float .f32 0, .float .f32 0, .float .f32 0, .float .f32 0] 144)).alloc (.cells #[.func (.func 142) #[] #[], .func (.func 143) #[] #[]] 182)) w.heap.size (w.heap.size + 1 + 1) (w.heap.size + 1 + 1 + 1 + 1) (w.heap.size + 1) gs n cap (sa 0) (sh 0) (sv 0) ys 0 182) := hid
    { par := k0.out.at (x := (w.heap.size, #[.float .f32 (sa 0), .float .f32 (sh 0), .float .f32 (sv 0)], 49)) (by simp)
      hts := (cell_of_row _ (w.heap.size + 1 + 1) 0 _ _ _ (k0.out.at (x := (w.heap.size + 1 + 1, #[.slice (some ⟨gs, 0, none⟩) n cap], 147)) (by simp))).trans rfl
      one := fun k hk => (k0.out.1.cell (block_lt_of_cell (hy k hk))).trans (hy k hk)
      fns := k0.out.at (x := (w.heap.size + 1 + 1 + 1 + 1, #[.func (.func 142) #[] #[], .func (.func 143) #[] #[]], 182)) (by simp)
      way := (cell_of_row _ (w.heap.size + 1) 0 _ _ _ (k0.out.at (x := (w.heap.size + 1, #[.int .i64 0], 3)) (by simp))).trans rfl }
  have HC : Hid (∀ u, Below ((((((w.alloc (.cells #[.float .f32 (sa 0), .float .f32 (sh 0), .float .f32 (sv 0)] 49)).alloc (.cells #[.int .i64 0] 3)).alloc (.cells #[.slice (some ⟨gs, 0, none⟩) n cap] 147)).alloc (.cells #[.float .f32 0, .float .f32 0, .float .f32 0, .float .f32 0] 144)).alloc (.cells #[.func (.func 142) #[] #[], .func (.func 143) #[] #[]] 182))).heap.size (((((w.alloc (.cells #[.float .f32 (sa 0), .float .f32 (sh 0), .float .f32 (sv 0)] 49)).alloc (.cells #[.int .i64 0] 3)).alloc (.cells #[.slice (some ⟨gs, 0, none⟩) n cap] 147)).alloc (.cells #[.float .f32 0, .float .f32 0, .float .f32 0, .float .f32 0] 144)).alloc (.cells #[.func (.func 142) #[] #[], .func (.func 143) #[] #[]] 182)) u → Calls Try.prog 145 #[.pointer (some ⟨w.heap.size, 0, none⟩), .pointer (some ⟨w.heap.size + 1 + 1, 0, none⟩), .pointer (some ⟨w.heap.size + 1 + 1 + 1 + 1, 0, none⟩), .pointer (some ⟨w.heap.size + 1, 0, none⟩)] u fun e u' => e = .panicked [{ v := .iface 214 (.agg #[.float .f32 p, .float .f32 q]), recovered := false }] ∧ Below u.heap.size u u') := hid fun u hu => iWay0_f n hn cap ys sa sh sv sf hf0 m hm [{ v := .iface 214 (.agg #[.float .f32 p, .float .f32 q]), recovered := false }] hpan hcall u _ _ _ _ _ _ (HW.out.stay hu)
  have hmf : ∀ (fn : Fn) (first cap : Array Value) (w : World), (Instr.makeFunc fn first cap).run Try.prog w = .ok (.func fn first cap) w := fun _ _ _ _ => rfl
  clear hcall hy hf0 hn HW hm hpan
  go_enter Try.func102, Try.ntmps102
  go_wp2_with fail
  refine (iAttempt_f 145 #[.pointer (some ⟨w.heap.size, 0, none⟩), .pointer (some ⟨w.heap.size + 1 + 1, 0, none⟩), .pointer (some ⟨w.heap.size + 1 + 1 + 1 + 1, 0, none⟩), .pointer (some ⟨w.heap.size + 1, 0, none⟩)] p q _ HC.out (fun w => by simp [go_sem])).mono ?_
  rintro e w1 ⟨rfl, hb1⟩
  have k1 := hid ((k0.out.stay hb1).sub (l' := [(w.heap.size + 1 + 1 + 1, #[.float .f32 0, .float .f32 0, .float .f32 0, .float .f32 0], 144), (w.heap.size + 1 + 1 + 1 + 1, #[.func (.func 142) #[] #[], .func (.func 143) #[] #[]], 182)]) (by simp))
  have hlt : w.heap.size ≤ w.heap.size + 1 + 1 + 1 := by omega
  clear k0 hb1
  go_wp2_with (refine store_kept (w0 := w) (l := [(w.heap.size + 1 + 1 + 1 + 1, #[.func (.func 142) #[] #[], .func (.func 143) #[] #[]], 182)]) rfl 144 _ _ rfl (w.heap.size + 1 + 1 + 1) (#[.float .f32 0, .float .f32 0, .float .f32 0, .float .f32 0]) rfl rfl 144 (#[.float .f32 0, .float .f32 0, .float .f32 0, .float .f32 0]) (k1.out) hlt (by simp) info_ris rfl (by simp [Value.oneCell']) (fun w6 k6 => ?_); replace k6 := hid k6)
  exact bodyPost_ret (results_row_tmp rfl _ _ (w.heap.size + 1 + 1 + 1) 144 (#[.float .f32 0, .float .f32 0, .float .f32 0, .float .f32 0]) (0, 0) _ rfl (k6.out.at (x := (w.heap.size + 1 + 1 + 1, #[.float .f32 0, .float .f32 0, .float .f32 0, .float .f32 0], 144)) (by simp)) Try.underlying144 rfl info_ris) rfl ⟨rfl, k6.out.1⟩

set_option maxRecDepth 100000 in
set_option maxHeartbeats 2000000 in
theorem iRaiseDry_bad (a h v y : Nat) (ha : a < 4294967296) (hv : v < 4294967296) (hp : parB a h v = false) (w : World) :
    Calls Try.prog 49 #[.agg #[.float .f32 a, .float .f32 h, .float .f32 v], .float .f32 y] w fun e w' => e = .returned (.tuple #[.agg #[.float .f32 0, .float .f32 0, .float .f32 0], .int .i64 1]) ∧ Below w.heap.size w w' := by
  have k0 : Hid (Kept w [(w.heap.size, #[.float .f32 a, .float .f32 h, .float .f32 v], 49), (w.heap.size + 1, #[.float .f32 0, .float .f32 0, .float .f32 0], 49)] ((w.alloc (.cells #[.float .f32 a, .float .f32 h, .float .f32 v] 49)).alloc (.cells #[.float .f32 0, .float .f32 0, .float .f32 0] 49))) := hid ((((Kept.nil w).push _ _).push _ _).sub (by simp))
  have HP := hid (fun u => iValidParcel a h v ha hv false hp u)
  clear ha hv hp
  go_enter Try.func49, Try.ntmps49
  go_wp2_with fail
  refine (HP.out _).mono ?_
  rintro e w1 ⟨rfl, hb1⟩
  have k1 := hid (k0.out.stay hb1)
  go_wp2_with (refine store_kept (w0 := w) (l := [(w.heap.size, #[.float .f32 a, .float .f32 h, .float .f32 v], 49)]) rfl 49 _ _ rfl (w.heap.size + 1) (#[.float .f32 0, .float .f32 0, .float .f32 0]) rfl rfl 49 (#[.float .f32 0, .float .f32 0, .float .f32 0]) (k1.out.swap) (by omega) (by first | (simp; done) | (simp; omega)) info_par rfl (by simp [Value.oneCell']) (fun w7 k7 => ?_); replace k7 := hid k7)
  exact bodyPost_ret (results_row_tmp rfl _ _ (w.heap.size + 1) 49 (#[.float .f32 0, .float .f32 0, .float .f32 0]) (0, 0) _ rfl (k7.out.at (x := (w.heap.size + 1, #[.float .f32 0, .float .f32 0, .float .f32 0], 49)) (by simp)) Try.underlying49 rfl info_par) rfl ⟨rfl, k7.out.1⟩

set_option maxRecDepth 100000 in
set_option maxHeartbeats 2000000 in
theorem iRaiseDry_range (a h v y : Nat) (ha : a < 4294967296) (hv : v < 4294967296) (hy : y < 4294967296) (hp : parB a h v = true) (hq : hgtB y = false) (w : World) :
    Calls Try.prog 49 #[.agg #[.float .f32 a, .float .f32 h, .float .f32 v], .float .f32 y] w fun e w' => e = .returned (.tuple #[.agg #[.float .f32 0, .float .f32 0, .float .f32 0], .int .i64 2]) ∧ Below w.heap.size w w' := by
  have k0 : Hid (Kept w [(w.heap.size, #[.float .f32 a, .float .f32 h, .float .f32 v], 49), (w.heap.size + 1, #[.float .f32 0, .float .f32 0, .float .f32 0], 49)] ((w.alloc (.cells #[.float .f32 a, .float .f32 h, .float .f32 v] 49)).alloc (.cells #[.float .f32 0, .float .f32 0, .float .f32 0] 49))) := hid ((((Kept.nil w).push _ _).push _ _).sub (by simp))
  have HP := hid (fun u => iValidParcel a h v ha hv true hp u)
  have HH := hid (fun u => iHgt y hy false hq u)
  clear ha hv hp hy hq
  go_enter Try.func49, Try.ntmps49
  go_wp2_with fail
  refine (HP.out _).mono ?_
  rintro e w1 ⟨rfl, hb1⟩
  have k1 := hid (k0.out.stay hb1)
  go_wp2_with fail
  refine (HH.out _).mono ?_
  rintro e w2 ⟨rfl, hb2⟩
  have k2 := hid (k1.out.stay hb2)
  clear k0 k1
  go_wp2_with (refine store_kept (w0 := w) (l := [(w.heap.size, #[.float .f32 a, .float .f32 h, .float .f32 v], 49)]) rfl 49 _ _ rfl (w.heap.size + 1) (#[.float .f32 0, .float .f32 0, .float .f32 0]) rfl rfl 49 (#[.float .f32 0, .float .f32 0, .float .f32 0]) (k2.out.swap) (by omega) (by first | (simp; done) | (simp; omega)) info_par rfl (by simp [Value.oneCell']) (fun w7 k7 => ?_); replace k7 := hid k7)
  exact bodyPost_ret (results_row_tmp rfl _ _ (w.heap.size + 1) 49 (#[.float .f32 0, .float .f32 0, .float .f32 0]) (0, 0) _ rfl (k7.out.at (x := (w.heap.size + 1, #[.float .f32 0, .float .f32 0, .float .f32 0], 49)) (by simp)) Try.underlying49 rfl info_par) rfl ⟨rfl, k7.out.1⟩

set_option maxRecDepth 100000 in
set_option maxHeartbeats 2000000 in
theorem iRaiseDry_ok (a h v y : Nat) (ha : a < 4294967296) (hv : v < 4294967296) (hy : y < 4294967296) (hp : parB a h v = true) (hq : hgtB y = true) (D : RdF a h y) (hr : airB (rdW a h y) v = true) (w : World) :
    Calls Try.prog 49 #[.agg #[.float .f32 a, .float .f32 h, .float .f32 v], .float .f32 y] w fun e w' => e = .returned (.tuple #[.agg #[.float .f32 y, .float .f32 (rdW a h y), .float .f32 v], .int .i64 0]) ∧ Below w.heap.size w w' := by
  have k0 : Hid (Kept w [(w.heap.size, #[.float .f32 a, .float .f32 h, .float .f32 v], 49), (w.heap.size + 1, #[.float .f32 0, .float .f32 0, .float .f32 0], 49)] ((w.alloc (.cells #[.float .f32 a, .float .f32 h, .float .f32 v] 49)).alloc (.cells #[.float .f32 0, .float .f32 0, .float .f32 0] 49))) := hid ((((Kept.nil w).push _ _).push _ _).sub (by simp))
  have HP := hid (fun u => iValidParcel a h v ha hv true hp u)
  have HH := hid (fun u => iHgt y hy true hq u)
  have HR : Hid (∀ (u : World) (gs : Nat), u.cell? ⟨gs, 0, none⟩ = some (.float .f32 y) → Calls Try.prog 102 #[.agg #[.float .f32 a, .float .f32 h, .float .f32 v], .int .i64 0, .slice (some ⟨gs, 0, none⟩) 1 1] u fun e u' => e = .returned (.tuple #[.agg #[.float .f32 y, .float .f32 (rdW a h y), .float .f32 v, .float .f32 0], .int .i64 0]) ∧ Below u.heap.size u u') := hid fun u gs hc => by
    have := iRaise0_ok 1 (by decide) 1 (fun _ => y) (fun k => if k = 0 then a else y) (fun k => if k = 0 then h else rdW a h y) (fun _ => v) (fun _ => 0) rfl (by intro k hk u; obtain rfl : k = 0 := (by omega); exact iDry_t a h v 0 y D hv hr u) u gs (by intro k hk; obtain rfl : k = 0 := (by omega); exact hc)
    simpa using this
  clear ha hv hp hy hq D hr
  go_enter Try.func49, Try.ntmps49
  go_wp2_with fail
  refine (HP.out _).mono ?_
  rintro e w1 ⟨rfl, hb1⟩
  have k1 := hid (k0.out.stay hb1)
  go_wp2_with fail
  refine (HH.out _).mono ?_
  rintro e w2 ⟨rfl, hb2⟩
  have k2 := hid (k1.out.stay hb2)
  clear k0 k1
  have k3 := hid (k2.out.push #[.float .f32 y] 22)
  go_wp2_with (refine wpList_load_row rfl 49 _ rfl (w.heap.size) rfl 49 (#[.float .f32 a, .float .f32 h, .float .f32 v]) (0, 0) _ (k2.out.at (x := (w.heap.size, #[.float .f32 a, .float .f32 h, .float .f32 v], 49)) (by simp)) Try.underlying49 rfl info_par ?_)
  refine (HR.out _ w2.heap.size ((cell_of_row _ w2.heap.size 0 _ _ _ (k3.out.at (x := (w2.heap.size, #[.float .f32 y], 22)) (by simp))).trans rfl)).mono ?_
  rintro e w3 ⟨rfl, hb3⟩
  have k4 := hid ((k3.out.stay hb3).sub (l' := [(w.heap.size + 1, #[.float .f32 0, .float .f32 0, .float .f32 0], 49)]) (by simp))
  have hlt := k4.out.lt (x := (w.heap.size + 1, #[.float .f32 0, .float .f32 0, .float .f32 0], 49)) (by simp)
  have hge : w.heap.size ≤ w3.heap.size := by simp at hlt; omega
  have hne1 : w3.heap.size ≠ w.heap.size + 1 := by simp at hlt; omega
  have k5 : Hid (Kept w [(w3.heap.size, #[.float .f32 0, .float .f32 0, .float .f32 0, .float .f32 0], 144), (w.heap.size + 1, #[.float .f32 0, .float .f32 0, .float .f32 0], 49)] (w3.alloc (.cells #[.float .f32 0, .float .f32 0, .float .f32 0, .float .f32 0] 144))) := hid (k4.out.push _ _)
  clear k2 k3 hb3
  go_wp2_with (first | (have _t := k7; fail) | (have _t := k6; first | (refine wpList_load_cut (by rfl) 49 _ rfl (w3.heap.size) 0 rfl #[.float .f32 y, .float .f32 (rdW a h y), .float .f32 v, .float .f32 0] 144 (k6.out.at (x := (w3.heap.size, #[.float .f32 y, .float .f32 (rdW a h y), .float .f32 v, .float .f32 0], 144)) (by simp)) [.float .f32 y, .float .f32 (rdW a h y), .float .f32 v] rfl _ Try.underlying49 rfl info_par ?_) | (refine store_kept (w0 := w) (l := [(w3.heap.size, #[.float .f32 y, .float .f32 (rdW a h y), .float .f32 v, .float .f32 0], 144)]) rfl 49 _ _ rfl (w.heap.size + 1) (#[.float .f32 y, .float .f32 (rdW a h y), .float .f32 v]) rfl rfl 49 (#[.float .f32 0, .float .f32 0, .float .f32 0]) (k6.out.swap) (by omega) (by simpa using hne1) info_par rfl (by simp [Value.oneCell']) (fun w7 k7 => ?_); replace k7 := hid k7)) | (refine store_kept (w0 := w) (l := [(w.heap.size + 1, #[.float .f32 0, .float .f32 0, .float .f32 0], 49)]) rfl 144 _ _ rfl (w3.heap.size) (#[.float .f32 y, .float .f32 (rdW a h y), .float .f32 v, .float .f32 0]) rfl rfl 144 (#[.float .f32 0, .float .f32 0, .float .f32 0, .float .f32 0]) (k5.out) hge (by simpa using Ne.symm hne1) info_ris rfl (by simp [Value.oneCell']) (fun w6 k6 => ?_); replace k6 := hid k6))
  exact bodyPost_ret (results_row_tmp rfl _ _ (w.heap.size + 1) 49 (#[.float .f32 y, .float .f32 (rdW a h y), .float .f32 v]) (0, 0) _ rfl (k7.out.at (x := (w.heap.size + 1, #[.float .f32 y, .float .f32 (rdW a h y), .float .f32 v], 49)) (by simp)) Try.underlying49 rfl info_par) rfl ⟨rfl, k7.out.1⟩

set_option maxRecDepth 100000 in
set_option maxHeartbeats 2000000 in
theorem iRaiseDry_f (a h v y : Nat) (ha : a < 4294967296) (hv : v < 4294967296) (hy : y < 4294967296) (hp : parB a h v = true) (hq : hgtB y = true) (D : RdF a h y) (hr : airB (rdW a h y) v = false) (w : World) :
    Calls Try.prog 49 #[.agg #[.float .f32 a, .float .f32 h, .float .f32 v], .float .f32 y] w fun e w' => e = .returned (.tuple #[.agg #[.float .f32 0, .float .f32 0, .float .f32 0], .int .i64 4]) ∧ Below w.heap.size w w' := by
  have k0 : Hid (Kept w [(w.heap.size, #[.float .f32 a, .float .f32 h, .float .f32 v], 49), (w.heap.size + 1, #[.float .f32 0, .float .f32 0, .float .f32 0], 49)] ((w.alloc (.cells #[.float .f32 a, .float .f32 h, .float .f32 v] 49)).alloc (.cells #[.float .f32 0, .float .f32 0, .float .f32 0] 49))) := hid ((((Kept.nil w).push _ _).push _ _).sub (by simp))
  have HP := hid (fun u => iValidParcel a h v ha hv true hp u)
  have HH := hid (fun u => iHgt y hy true hq u)
  have HR : Hid (∀ (u : World) (gs : Nat), u.cell? ⟨gs, 0, none⟩ = some (.float .f32 y) → Calls Try.prog 102 #[.agg #[.float .f32 a, .float .f32 h, .float .f32 v], .int .i64 0, .slice (some ⟨gs, 0, none⟩) 1 1] u fun e u' => e = .returned (.tuple #[.agg #[.float .f32 0, .float .f32 0, .float .f32 0, .float .f32 0], .int .i64 4]) ∧ Below u.heap.size u u') := hid fun u gs hc => by
    have := iRaise0_f 1 (by decide) 1 (fun _ => y) (fun k => if k = 0 then a else y) (fun k => if k = 0 then h else rdW a h y) (fun _ => v) (fun _ => 0) rfl 0 (by decide) (rdW a h y) v (by intro u; exact iDry_f a h v 0 y D hv hr u) (by intro k hk; exact absurd hk (by omega)) u gs (by intro k hk; obtain rfl : k = 0 := (by omega); exact hc)
    simpa using this
  clear ha hv hp hy hq D hr
  go_enter Try.func49, Try.ntmps49
  go_wp2_with fail
  refine (HP.out _).mono ?_
  rintro e w1 ⟨rfl, hb1⟩
  have k1 := hid (k0.out.stay hb1)
  go_wp2_with fail
  refine (HH.out _).mono ?_
  rintro e w2 ⟨rfl, hb2⟩
  have k2 := hid (k1.out.stay hb2)
  clear k0 k1
  have k3 := hid (k2.out.push #[.float .f32 y] 22)
  go_wp2_with (refine wpList_load_row rfl 49 _ rfl (w.heap.size) rfl 49 (#[.float .f32 a, .float .f32 h, .float .f32 v]) (0, 0) _ (k2.out.at (x := (w.heap.size, #[.float .f32 a, .float .f32 h, .float .f32 v], 49)) (by simp)) Try.underlying49 rfl info_par ?_)
  refine (HR.out _ w2.heap.size ((cell_of_row _ w2.heap.size 0 _ _ _ (k3.out.at (x := (w2.heap.size, #[.float .f32 y], 22)) (by simp))).trans rfl)).mono ?_
  rintro e w3 ⟨rfl, hb3⟩
  have k4 := hid ((k3.out.stay hb3).sub (l' := [(w.heap.size + 1, #[.float .f32 0, .float .f32 0, .float .f32 0], 49)]) (by simp))
  have hlt := k4.out.lt (x := (w.heap.size + 1, #[.float .f32 0, .float .f32 0, .float .f32 0], 49)) (by simp)
  have hge : w.heap.size ≤ w3.heap.size := by simp at hlt; omega
  have hne1 : w3.heap.size ≠ w.heap.size + 1 := by simp at hlt; omega
  have k5 : Hid (Kept w [(w3.heap.size, #[.float .f32 0, .float .f32 0, .float .f32 0, .float .f32 0], 144), (w.heap.size + 1, #[.float .f32 0, .float .f32 0, .float .f32 0], 49)] (w3.alloc (.cells #[.float .f32 0, .float .f32 0, .float .f32 0, .float .f32 0] 144))) := hid (k4.out.push _ _)
  clear k2 k3 hb3
  go_wp2_with (first | (have _t := k7; fail) | (have _t := k6; first | (refine wpList_load_cut (by rfl) 49 _ rfl (w3.heap.size) 0 rfl #[.float .f32 0, .float .f32 0, .float .f32 0, .float .f32 0] 144 (k6.out.at (x := (w3.heap.size, #[.float .f32 0, .float .f32 0, .float .f32 0, .float .f32 0], 144)) (by simp)) [.float .f32 0, .float .f32 0, .float .f32 0] rfl _ Try.underlying49 rfl info_par ?_) | (refine store_kept (w0 := w) (l := [(w3.heap.size, #[.float .f32 0, .float .f32 0, .float .f32 0, .float .f32 0], 144)]) rfl 49 _ _ rfl (w.heap.size + 1) (#[.float .f32 0, .float .f32 0, .float .f32 0]) rfl rfl 49 (#[.float .f32 0, .float .f32 0, .float .f32 0]) (k6.out.swap) (by omega) (by simpa using hne1) info_par rfl (by simp [Value.oneCell']) (fun w7 k7 => ?_); replace k7 := hid k7)) | (refine store_kept (w0 := w) (l := [(w.heap.size + 1, #[.float .f32 0, .float .f32 0, .float .f32 0], 49)]) rfl 144 _ _ rfl (w3.heap.size) (#[.float .f32 0, .float .f32 0, .float .f32 0, .float .f32 0]) rfl rfl 144 (#[.float .f32 0, .float .f32 0, .float .f32 0, .float .f32 0]) (k5.out) hge (by simpa using Ne.symm hne1) info_ris rfl (by simp [Value.oneCell']) (fun w6 k6 => ?_); replace k6 := hid k6))
  exact bodyPost_ret (results_row_tmp rfl _ _ (w.heap.size + 1) 49 (#[.float .f32 0, .float .f32 0, .float .f32 0]) (0, 0) _ rfl (k7.out.at (x := (w.heap.size + 1, #[.float .f32 0, .float .f32 0, .float .f32 0], 49)) (by simp)) Try.underlying49 rfl info_par) rfl ⟨rfl, k7.out.1⟩

set_option maxRecDepth 100000 in
set_option maxHeartbeats 2000000 in
theorem sRaise_ok (a h v y : Nat) (hv : v < 4294967296) (D : RdF a h y) (hr : airB (rdW a h y) v = true) (w : World) :
    Calls Try.prog 100 #[.agg #[.float .f32 a, .float .f32 h, .float .f32 v], .float .f32 y] w fun e w' => e = .returned (.tuple #[.agg #[.float .f32 y, .float .f32 (rdW a h y), .float .f32 v], .int .i64 0]) ∧ Below w.heap.size w w' := by
  have k0 : Hid (Kept w [(w.heap.size, #[.float .f32 y, .float .f32 (rdW a h y), .float .f32 v], 49), (w.heap.size + 1, #[.float .f32 0, .float .f32 0, .float .f32 0], 49)] ((w.alloc (.cells #[.float .f32 y, .float .f32 (rdW a h y), .float .f32 v] 49)).alloc (.cells #[.float .f32 0, .float .f32 0, .float .f32 0] 49))) := hid ((((Kept.nil w).push _ _).push _ _).sub (by simp))
  have A0 : Hid (parAt ((w.alloc (.cells #[.float .f32 y, .float .f32 (rdW a h y), .float .f32 v] 49)).alloc (.cells #[.float .f32 0, .float .f32 0, .float .f32 0] 49)) w.heap.size y (rdW a h y) v 49) := hid (k0.out.at (x := (w.heap.size, #[.float .f32 y, .float .f32 (rdW a h y), .float .f32 v], 49)) (by simp))
  have HA := hid (fun u g o c0 c1 => sAirAt (rdW a h y) v hv true hr u g o c0 c1)
  have r1 := fun w => run_float_arith (P := Try.prog) w .sub 22 .f32 _ _ _ D.s1
  have r2 := fun w => run_float_arith (P := Try.prog) w .mul 22 .f32 _ _ _ D.s2
  have r3 := fun w => run_float_arith (P := Try.prog) w .sub 22 .f32 _ _ _ D.s3
  clear D hv hr
  go_enter Try.func100, Try.ntmps100
  go_wp2_with fail
  refine (HA.out _ w.heap.size 1 A0.out.c1 A0.out.c2).mono ?_
  rintro e w1 ⟨rfl, hb1⟩
  have k1 := hid (k0.out.stay hb1)
  clear A0
  have tok1 : True := trivial
  go_wp2_with (first | (refine wpList_load_row rfl 49 _ rfl (w.heap.size) rfl 49 (#[.float .f32 y, .float .f32 (rdW a h y), .float .f32 v]) (0, 0) _ (k1.out.at (x := (w.heap.size, #[.float .f32 y, .float .f32 (rdW a h y), .float .f32 v], 49)) (by simp)) Try.underlying49 rfl info_par ?_) | (have _t := tok1; (refine store_kept (w0 := w) (l := [(w.heap.size, #[.float .f32 y, .float .f32 (rdW a h y), .float .f32 v], 49)]) rfl 49 _ _ rfl (w.heap.size + 1) (#[.float .f32 y, .float .f32 (rdW a h y), .float .f32 v]) rfl rfl 49 (#[.float .f32 0, .float .f32 0, .float .f32 0]) (k1.out.swap) (by omega) (by first | (simp; done) | (simp; omega)) info_par rfl (by simp [Value.oneCell']) (fun w7 k7 => ?_); replace k7 := hid k7); clear tok1))
  exact bodyPost_ret (results_row_tmp rfl _ _ (w.heap.size + 1) 49 (#[.float .f32 y, .float .f32 (rdW a h y), .float .f32 v]) (0, 0) _ rfl (k7.out.at (x := (w.heap.size + 1, #[.float .f32 y, .float .f32 (rdW a h y), .float .f32 v], 49)) (by simp)) Try.underlying49 rfl info_par) rfl ⟨rfl, k7.out.1⟩

set_option maxRecDepth 100000 in
set_option maxHeartbeats 2000000 in
theorem sRaise_f (a h v y : Nat) (hv : v < 4294967296) (D : RdF a h y) (hr : airB (rdW a h y) v = false) (w : World) :
    Calls Try.prog 100 #[.agg #[.float .f32 a, .float .f32 h, .float .f32 v], .float .f32 y] w fun e w' => e = .returned (.tuple #[.agg #[.float .f32 0, .float .f32 0, .float .f32 0], .int .i64 4]) ∧ Below w.heap.size w w' := by
  have k0 : Hid (Kept w [(w.heap.size, #[.float .f32 y, .float .f32 (rdW a h y), .float .f32 v], 49), (w.heap.size + 1, #[.float .f32 0, .float .f32 0, .float .f32 0], 49)] ((w.alloc (.cells #[.float .f32 y, .float .f32 (rdW a h y), .float .f32 v] 49)).alloc (.cells #[.float .f32 0, .float .f32 0, .float .f32 0] 49))) := hid ((((Kept.nil w).push _ _).push _ _).sub (by simp))
  have A0 : Hid (parAt ((w.alloc (.cells #[.float .f32 y, .float .f32 (rdW a h y), .float .f32 v] 49)).alloc (.cells #[.float .f32 0, .float .f32 0, .float .f32 0] 49)) w.heap.size y (rdW a h y) v 49) := hid (k0.out.at (x := (w.heap.size, #[.float .f32 y, .float .f32 (rdW a h y), .float .f32 v], 49)) (by simp))
  have HA := hid (fun u g o c0 c1 => sAirAt (rdW a h y) v hv false hr u g o c0 c1)
  have r1 := fun w => run_float_arith (P := Try.prog) w .sub 22 .f32 _ _ _ D.s1
  have r2 := fun w => run_float_arith (P := Try.prog) w .mul 22 .f32 _ _ _ D.s2
  have r3 := fun w => run_float_arith (P := Try.prog) w .sub 22 .f32 _ _ _ D.s3
  clear D hv hr
  go_enter Try.func100, Try.ntmps100
  go_wp2_with fail
  refine (HA.out _ w.heap.size 1 A0.out.c1 A0.out.c2).mono ?_
  rintro e w1 ⟨rfl, hb1⟩
  have k1 := hid (k0.out.stay hb1)
  clear A0
  have tok1 : True := trivial
  go_wp2_with (first | (refine wpList_load_row rfl 49 _ rfl (w.heap.size) rfl 49 (#[.float .f32 y, .float .f32 (rdW a h y), .float .f32 v]) (0, 0) _ (k1.out.at (x := (w.heap.size, #[.float .f32 y, .float .f32 (rdW a h y), .float .f32 v], 49)) (by simp)) Try.underlying49 rfl info_par ?_) | (have _t := tok1; (refine store_kept (w0 := w) (l := [(w.heap.size, #[.float .f32 y, .float .f32 (rdW a h y), .float .f32 v], 49)]) rfl 49 _ _ rfl (w.heap.size + 1) (#[.float .f32 0, .float .f32 0, .float .f32 0]) rfl rfl 49 (#[.float .f32 0, .float .f32 0, .float .f32 0]) (k1.out.swap) (by omega) (by first | (simp; done) | (simp; omega)) info_par rfl (by simp [Value.oneCell']) (fun w7 k7 => ?_); replace k7 := hid k7); clear tok1))
  exact bodyPost_ret (results_row_tmp rfl _ _ (w.heap.size + 1) 49 (#[.float .f32 0, .float .f32 0, .float .f32 0]) (0, 0) _ rfl (k7.out.at (x := (w.heap.size + 1, #[.float .f32 0, .float .f32 0, .float .f32 0], 49)) (by simp)) Try.underlying49 rfl info_par) rfl ⟨rfl, k7.out.1⟩

set_option maxRecDepth 100000 in
set_option maxHeartbeats 2000000 in
theorem sRaiseDry_bad (a h v y : Nat) (ha : a < 4294967296) (hv : v < 4294967296) (hp : parB a h v = false) (w : World) :
    Calls Try.prog 48 #[.agg #[.float .f32 a, .float .f32 h, .float .f32 v], .float .f32 y] w fun e w' => e = .returned (.tuple #[.agg #[.float .f32 0, .float .f32 0, .float .f32 0], .int .i64 1]) ∧ Below w.heap.size w w' := by
  have k0 : Hid (Kept w [(w.heap.size, #[.float .f32 a, .float .f32 h, .float .f32 v], 49), (w.heap.size + 1, #[.float .f32 0, .float .f32 0, .float .f32 0], 49)] ((w.alloc (.cells #[.float .f32 a, .float .f32 h, .float .f32 v] 49)).alloc (.cells #[.float .f32 0, .float .f32 0, .float .f32 0] 49))) := hid ((((Kept.nil w).push _ _).push _ _).sub (by simp))
  have A0 : Hid (parAt ((w.alloc (.cells #[.float .f32 a, .float .f32 h, .float .f32 v] 49)).alloc (.cells #[.float .f32 0, .float .f32 0, .float .f32 0] 49)) w.heap.size a h v 49) := hid (k0.out.at (x := (w.heap.size, #[.float .f32 a, .float .f32 h, .float .f32 v], 49)) (by simp))
  have HP := hid (fun u g T (hg : parAt u g a h v T) => sParOk a h v ha hv false hp u g T hg)
  clear ha hv hp
  go_enter Try.func48, Try.ntmps48
  go_wp2_with fail
  refine (HP.out _ _ _ A0.out).mono ?_
  rintro e w1 ⟨rfl, hb1⟩
  have k1 := hid (k0.out.stay hb1)
  go_wp2_with (refine store_kept (w0 := w) (l := [(w.heap.size, #[.float .f32 a, .float .f32 h, .float .f32 v], 49)]) rfl 49 _ _ rfl (w.heap.size + 1) (#[.float .f32 0, .float .f32 0, .float .f32 0]) rfl rfl 49 (#[.float .f32 0, .float .f32 0, .float .f32 0]) (k1.out.swap) (by omega) (by first | (simp; done) | (simp; omega)) info_par rfl (by simp [Value.oneCell']) (fun w7 k7 => ?_); replace k7 := hid k7)
  exact bodyPost_ret (results_row_tmp rfl _ _ (w.heap.size + 1) 49 (#[.float .f32 0, .float .f32 0, .float .f32 0]) (0, 0) _ rfl (k7.out.at (x := (w.heap.size + 1, #[.float .f32 0, .float .f32 0, .float .f32 0], 49)) (by simp)) Try.underlying49 rfl info_par) rfl ⟨rfl, k7.out.1⟩

set_option maxRecDepth 100000 in
set_option maxHeartbeats 2000000 in
theorem sRaiseDry_range (a h v y : Nat) (ha : a < 4294967296) (hv : v < 4294967296) (hy : y < 4294967296) (hp : parB a h v = true) (hq : hgtB y = false) (w : World) :
    Calls Try.prog 48 #[.agg #[.float .f32 a, .float .f32 h, .float .f32 v], .float .f32 y] w fun e w' => e = .returned (.tuple #[.agg #[.float .f32 0, .float .f32 0, .float .f32 0], .int .i64 2]) ∧ Below w.heap.size w w' := by
  have k0 : Hid (Kept w [(w.heap.size, #[.float .f32 a, .float .f32 h, .float .f32 v], 49), (w.heap.size + 1, #[.float .f32 0, .float .f32 0, .float .f32 0], 49)] ((w.alloc (.cells #[.float .f32 a, .float .f32 h, .float .f32 v] 49)).alloc (.cells #[.float .f32 0, .float .f32 0, .float .f32 0] 49))) := hid ((((Kept.nil w).push _ _).push _ _).sub (by simp))
  have A0 : Hid (parAt ((w.alloc (.cells #[.float .f32 a, .float .f32 h, .float .f32 v] 49)).alloc (.cells #[.float .f32 0, .float .f32 0, .float .f32 0] 49)) w.heap.size a h v 49) := hid (k0.out.at (x := (w.heap.size, #[.float .f32 a, .float .f32 h, .float .f32 v], 49)) (by simp))
  have HP := hid (fun u g T (hg : parAt u g a h v T) => sParOk a h v ha hv true hp u g T hg)
  have HH := hid (fun u => sHgt y hy false hq u)
  clear ha hv hp hy hq
  go_enter Try.func48, Try.ntmps48
  go_wp2_with fail
  refine (HP.out _ _ _ A0.out).mono ?_
  rintro e w1 ⟨rfl, hb1⟩
  have k1 := hid (k0.out.stay hb1)
  go_wp2_with fail
  refine (HH.out _).mono ?_
  rintro e w2 ⟨rfl, hb2⟩
  have k2 := hid (k1.out.stay hb2)
  clear k0 k1 A0
  go_wp2_with (refine store_kept (w0 := w) (l := [(w.heap.size, #[.float .f32 a, .float .f32 h, .float .f32 v], 49)]) rfl 49 _ _ rfl (w.heap.size + 1) (#[.float .f32 0, .float .f32 0, .float .f32 0]) rfl rfl 49 (#[.float .f32 0, .float .f32 0, .float .f32 0]) (k2.out.swap) (by omega) (by first | (simp; done) | (simp; omega)) info_par rfl (by simp [Value.oneCell']) (fun w7 k7 => ?_); replace k7 := hid k7)
  exact bodyPost_ret (results_row_tmp rfl _ _ (w.heap.size + 1) 49 (#[.float .f32 0, .float .f32 0, .float .f32 0]) (0, 0) _ rfl (k7.out.at (x := (w.heap.size + 1, #[.float .f32 0, .float .f32 0, .float .f32 0], 49)) (by simp)) Try.underlying49 rfl info_par) rfl ⟨rfl, k7.out.1⟩

set_option maxRecDepth 100000 in
set_option maxHeartbeats 2000000 in
theorem sRaiseDry_go (a h v y : Nat) (ha : a < 4294967296) (hv : v < 4294967296) (hy : y < 4294967296) (hp : parB a h v = true) (hq : hgtB y = true) (pa ph pv : Nat) (c : Int)
    (hL : ∀ u, Calls Try.prog 100 #[.agg #[.float .f32 a, .float .f32 h, .float .f32 v], .float .f32 y] u fun e u' => e = .returned (.tuple #[.agg #[.float .f32 pa, .float .f32 ph, .float .f32 pv], .int .i64 c]) ∧ Below u.heap.size u u') (w : World) :
    Calls Try.prog 48 #[.agg #[.float .f32 a, .float .f32 h, .float .f32 v], .float .f32 y] w fun e w' => e = .returned (.tuple #[.agg #[.float .f32 pa, .float .f32 ph, .float .f32 pv], .int .i64 c]) ∧ Below w.heap.size w w' := by
  have k0 : Hid (Kept w [(w.heap.size, #[.float .f32 a, .float .f32 h, .float .f32 v], 49), (w.heap.size + 1, #[.float .f32 0, .float .f32 0, .float .f32 0], 49)] ((w.alloc (.cells #[.float .f32 a, .float .f32 h, .float .f32 v] 49)).alloc (.cells #[.float .f32 0, .float .f32 0, .float .f32 0] 49))) := hid ((((Kept.nil w).push _ _).push _ _).sub (by simp))
  have A0 : Hid (parAt ((w.alloc (.cells #[.float .f32 a, .float .f32 h, .float .f32 v] 49)).alloc (.cells #[.float .f32 0, .float .f32 0, .float .f32 0] 49)) w.heap.size a h v 49) := hid (k0.out.at (x := (w.heap.size, #[.float .f32 a, .float .f32 h, .float .f32 v], 49)) (by simp))
  have HP := hid (fun u g T (hg : parAt u g a h v T) => sParOk a h v ha hv true hp u g T hg)
  have HH := hid (fun u => sHgt y hy true hq u)
  have HL := hid hL
  clear ha hv hp hy hq hL
  go_enter Try.func48, Try.ntmps48
  go_wp2_with fail
  refine (HP.out _ _ _ A0.out).mono ?_
  rintro e w1 ⟨rfl, hb1⟩
  have k1 := hid (k0.out.stay hb1)
  go_wp2_with fail
  refine (HH.out _).mono ?_
  rintro e w2 ⟨rfl, hb2⟩
  have k2 := hid (k1.out.stay hb2)
  clear k0 k1 A0
  go_wp2_with (refine wpList_load_row rfl 49 _ rfl (w.heap.size) rfl 49 (#[.float .f32 a, .float .f32 h, .float .f32 v]) (0, 0) _ (k2.out.at (x := (w.heap.size, #[.float .f32 a, .float .f32 h, .float .f32 v], 49)) (by simp)) Try.underlying49 rfl info_par ?_)
  refine (HL.out _).mono ?_
  rintro e w3 ⟨rfl, hb3⟩
  have k3 := hid (k2.out.stay hb3)
  clear k2
  go_wp2_with (refine store_kept (w0 := w) (l := [(w.heap.size, #[.float .f32 a, .float .f32 h, .float .f32 v], 49)]) rfl 49 _ _ rfl (w.heap.size + 1) (#[.float .f32 pa, .float .f32 ph, .float .f32 pv]) rfl rfl 49 (#[.float .f32 0, .float .f32 0, .float .f32 0]) (k3.out.swap) (by omega) (by first | (simp; done) | (simp; omega)) info_par rfl (by simp [Value.oneCell']) (fun w7 k7 => ?_); replace k7 := hid k7)
  exact bodyPost_ret (results_row_tmp rfl _ _ (w.heap.size + 1) 49 (#[.float .f32 pa, .float .f32 ph, .float .f32 pv]) (0, 0) _ rfl (k7.out.at (x := (w.heap.size + 1, #[.float .f32 pa, .float .f32 ph, .float .f32 pv], 49)) (by simp)) Try.underlying49 rfl info_par) rfl ⟨rfl, k7.out.1⟩

set_option maxRecDepth 100000 in
theorem coreRaiseDry (x0a x0h x0v : Nat) (x1 : Nat) (r0a r0h r0v : Nat) (hlr0a : r0a < 4294967296) (hfr0a : finB r0a = true) (hlr0h : r0h < 4294967296) (hfr0h : finB r0h = true) (hlr0v : r0v < 4294967296) (hfr0v : finB r0v = true) (r1 : Int)
    (hS : ∀ w, Calls Try.prog 48 #[.agg #[.float .f32 x0a, .float .f32 x0h, .float .f32 x0v], .float .f32 x1] w fun e w' => e = .returned (.tuple #[.agg #[.float .f32 r0a, .float .f32 r0h, .float .f32 r0v], .int .i64 r1]) ∧ Below w.heap.size w w')
    (hI : ∀ w, Calls Try.prog 49 #[.agg #[.float .f32 x0a, .float .f32 x0h, .float .f32 x0v], .float .f32 x1] w fun e w' => e = .returned (.tuple #[.agg #[.float .f32 r0a, .float .f32 r0h, .float .f32 r0v], .int .i64 r1]) ∧ Below w.heap.size w w') (w : World) :
    Calls Try.prog 12 #[.agg #[.float .f32 x0a, .float .f32 x0h, .float .f32 x0v], .float .f32 x1] w fun e w' => e = .returned (.bool true) ∧ Below w.heap.size w w' := by
  have k0 : Hid (Kept w [(w.heap.size, #[.float .f32 x0a, .float .f32 x0h, .float .f32 x0v], 42)] (w.alloc (.cells (#[.float .f32 x0a, .float .f32 x0h, .float .f32 x0v]) 42))) := hid ((Kept.nil w).push (#[.float .f32 x0a, .float .f32 x0h, .float .f32 x0v]) 42)
  have HS := hid hS
  have HI := hid hI
  clear hS hI
  have hcr0a := fun w => run_conv_wid (P := Try.prog) w 22 29 r0a hlr0a Try.underlying22 Try.underlying29 (finB_iff.1 hfr0a)
  have Hlr0a := hid hlr0a
  have Hfr0a := hid hfr0a
  clear hlr0a hfr0a
  have hcr0h := fun w => run_conv_wid (P := Try.prog) w 22 29 r0h hlr0h Try.underlying22 Try.underlying29 (finB_iff.1 hfr0h)
  have Hlr0h := hid hlr0h
  have Hfr0h := hid hfr0h
  clear hlr0h hfr0h
  have hcr0v := fun w => run_conv_wid (P := Try.prog) w 22 29 r0v hlr0v Try.underlying22 Try.underlying29 (finB_iff.1 hfr0v)
  have Hlr0v := hid hlr0v
  have Hfr0v := hid hfr0v
  clear hlr0v hfr0v
  all_goals
    go_enter Try.func12, Try.ntmps12
    go_wp2_with (refine wpList_load_row rfl 42 _ rfl (w.heap.size) rfl 42 (#[.float .f32 x0a, .float .f32 x0h, .float .f32 x0v]) (0, 0) _ (k0.out.at (x := (w.heap.size, #[.float .f32 x0a, .float .f32 x0h, .float .f32 x0v], 42)) (by simp)) Try.underlying42 rfl (info_lpar) ?_)
    refine (toParcel _ _ _ _).mono ?_
    rintro e u0 ⟨rfl, hb0⟩
    have k1 := hid (k0.out.stay hb0)
    clear hb0
    go_wp2_with fail
    refine (HS.out _).mono ?_
    rintro e u1 ⟨rfl, hb1⟩
    have k2 := hid (k1.out.stay hb1)
    clear hb1
    have mk2 := hid (k2.out.push #[.float .f32 r0a, .float .f32 r0h, .float .f32 r0v] 49)
    go_wp2_with (refine wpList_load_row rfl 42 _ rfl (w.heap.size) rfl 42 (#[.float .f32 x0a, .float .f32 x0h, .float .f32 x0v]) (0, 0) _ (mk2.out.at (x := (w.heap.size, #[.float .f32 x0a, .float .f32 x0h, .float .f32 x0v], 42)) (by simp)) Try.underlying42 rfl (info_lpar) ?_)
    refine (toParcel _ _ _ _).mono ?_
    rintro e u2 ⟨rfl, hb2⟩
    have k3 := hid (mk2.out.stay hb2)
    clear hb2
    go_wp2_with fail
    refine (HI.out _).mono ?_
    rintro e u3 ⟨rfl, hb3⟩
    have k4 := hid (k3.out.stay hb3)
    clear hb3
    have mk4 := hid (k4.out.push #[.float .f32 r0a, .float .f32 r0h, .float .f32 r0v] 49)
    go_wp2_with (first | (refine wpList_load_row rfl 49 _ rfl (u3.heap.size) rfl 49 (#[.float .f32 r0a, .float .f32 r0h, .float .f32 r0v]) (0, 0) _ (mk4.out.at (x := (u3.heap.size, #[.float .f32 r0a, .float .f32 r0h, .float .f32 r0v], 49)) (by simp)) Try.underlying49 rfl (info_par) ?_) | (refine wpList_load_row rfl 49 _ rfl (u1.heap.size) rfl 49 (#[.float .f32 r0a, .float .f32 r0h, .float .f32 r0v]) (0, 0) _ (mk4.out.at (x := (u1.heap.size, #[.float .f32 r0a, .float .f32 r0h, .float .f32 r0v], 49)) (by simp)) Try.underlying49 rfl (info_par) ?_))
    refine (eqParcel r0a r0h r0v Hlr0a.out Hlr0h.out Hlr0v.out Hfr0a.out Hfr0h.out Hfr0v.out _).mono ?_
    rintro e u4 ⟨rfl, hb4⟩
    have k5 := hid (mk4.out.stay hb4)
    go_wp2
    go_ret
    exact ⟨rfl, k5.out.1⟩

theorem lawRaiseDry (a h v : Nat) (ha : a < 4294967296) (hh : h < 4294967296) (hv : v < 4294967296) (y : Nat) (hy : y < 4294967296) (w : World) :
    Calls Try.prog 12 #[.agg #[.float .f32 a, .float .f32 h, .float .f32 v], .float .f32 y] w fun e w' => e = .returned (.bool true) ∧ Below w.heap.size w w' := by
  rcases hp : parB a h v with _ | _
  · exact coreRaiseDry a h v y 0 0 0 (by decide) (by decide) (by decide) (by decide) (by decide) (by decide) 1 (sRaiseDry_bad a h v y ha hv hp) (iRaiseDry_bad a h v y ha hv hp) w
  · rcases hq : hgtB y with _ | _
    · exact coreRaiseDry a h v y 0 0 0 (by decide) (by decide) (by decide) (by decide) (by decide) (by decide) 2 (sRaiseDry_range a h v y ha hv hy hp hq) (iRaiseDry_range a h v y ha hv hy hp hq) w
    · obtain ⟨q1, q2⟩ := parB_iff.1 hp
      obtain ⟨q3, q4, _⟩ := airB_iff.1 q2
      have fa : FW a := fw_amt (hgt_amt q1)
      have fy : FW y := fw_amt (hgt_amt hq)
      have D := rd_facts fa (fw_of hh (heat_fin hh q3)) fy
      rcases hr : airB (rdW a h y) v with _ | _
      · exact coreRaiseDry a h v y 0 0 0 (by decide) (by decide) (by decide) (by decide) (by decide) (by decide) 4 (sRaiseDry_go a h v y ha hv hy hp hq 0 0 0 4 (sRaise_f a h v y hv D hr)) (iRaiseDry_f a h v y ha hv hy hp hq D hr) w
      · obtain ⟨q5, q6, _⟩ := airB_iff.1 hr
        exact coreRaiseDry a h v y y (rdW a h y) v hy (amt_fin (hgt_amt hq)) D.lt (heat_fin D.lt q5) hv (amt_fin q6) 0 (sRaiseDry_go a h v y ha hv hy hp hq _ _ _ 0 (sRaise_ok a h v y hv D hr)) (iRaiseDry_ok a h v y ha hv hy hp hq D hr) w
end Go.Proofs.Ytdmnlbfmcibohaa

namespace Go.Proofs.Ytdmnlbfmcibohaa.fnExactRaiseDry
open Go.RowKit Go.Fl Go.ChangeShapes Go.WideShapes Go.ChangeAt

set_option maxHeartbeats 2000000 in
theorem closed : joinedFacts Try.prog 12 Try.f12 Rows.fnExactRaiseDrySpec Rows.fnExactRaiseDryRow = true := by
  unfold joinedFacts
  simp only [Bool.and_eq_true]
  exact ⟨⟨⟨⟨⟨⟨⟨⟨⟨⟨⟨⟨⟨⟨⟨⟨⟨⟨⟨⟨⟨⟨⟨⟨⟨⟨⟨⟨⟨⟨⟨(by as_aux_lemma => kernel_rfl),
    laid⟩,
    rowed⟩,
    (by as_aux_lemma => kernel_rfl)⟩,
    (by as_aux_lemma => kernel_rfl)⟩,
    (by as_aux_lemma => kernel_rfl)⟩,
    (by rw [no_stops]; rfl)⟩,
    (by as_aux_lemma => kernel_rfl)⟩,
    (by rw [no_knobs]; rfl)⟩,
    (by as_aux_lemma => kernel_rfl)⟩,
    (by as_aux_lemma => kernel_rfl)⟩,
    (by as_aux_lemma => kernel_rfl)⟩,
    (by as_aux_lemma => kernel_rfl)⟩,
    (by as_aux_lemma => kernel_rfl)⟩,
    (by as_aux_lemma => kernel_rfl)⟩,
    (by as_aux_lemma => kernel_rfl)⟩,
    (by as_aux_lemma => kernel_rfl)⟩,
    (by as_aux_lemma => kernel_rfl)⟩,
    (by as_aux_lemma => kernel_rfl)⟩,
    (by as_aux_lemma => kernel_rfl)⟩,
    (by as_aux_lemma => kernel_rfl)⟩,
    (by as_aux_lemma => kernel_rfl)⟩,
    (show (Rows.fnExactRaiseDryRow.plainKeys == Try.prog.plainKeys) = true by rw [plain_keys]; rfl)⟩,
    (by as_aux_lemma => kernel_rfl)⟩,
    stops_heard⟩,
    may_enter⟩,
    (show (Rows.fnExactRaiseDryRow.lifted == Try.prog.liftsFinal) = true by rw [lifts_final]; rfl)⟩,
    (show (Try.prog.make == some Rows.fnExactRaiseDryRow.make) = true by rw [made]; rfl)⟩,
    (by as_aux_lemma => kernel_rfl)⟩,
    (by as_aux_lemma => kernel_rfl)⟩,
    (by as_aux_lemma => kernel_rfl)⟩,
    (by as_aux_lemma => kernel_rfl)⟩

set_option maxRecDepth 100000 in
theorem lifted (os : Os) (started : os.Started) (H : Type) (enc : TypeId × Value → H) :
    ReturnsInHanded {} Try.checked os 12 .any (Rows.fnExactRaiseDrySpec.pre6 enc Try.prog Try.f12 Rows.fnExactRaiseDryRow.domain false) (Rows.fnExactRaiseDrySpec.post enc Try.prog Try.f12 false true false false) := by
  refine LawFrame.lifted (C := Try.checked) (fn := Try.f12) (n := 2) (tb := 4) started own (by kernel_rfl) Try.func12 laid ?_ rfl rfl ?_ rfl Try.underlying4
    (ChangeSpec.witness6 (enc := enc) (C := Try.checked) false ⟨#[], #[.agg #[.float .f32 0, .float .f32 0, .float .f32 0], .float .f32 0], []⟩ 8 (by kernel_rfl) (by kernel_rfl) (by kernel_rfl) (by kernel_rfl)) ?_
  · intro t ht
    simp only [Try.params12, List.mem_cons, List.not_mem_nil, or_false] at ht
    rcases ht with rfl | rfl <;> first | exact rdf | exact rdq
  · intro ds hd
    match ds, hd with
    | [_, _], _ => rfl
  · intro W base args ds ps hval hn _
    obtain ⟨v0, v1, rfl⟩ : ∃ v0 v1, args = #[v0, v1] := arr2 hn
    obtain ⟨c0, rfl, hb0⟩ := open_floats Try.underlying42 rfl Try.underlying22 cells3 types3 (hval 0 42 v0 rfl rfl)
    obtain ⟨c1, rfl, hb1⟩ := open_f32 Try.underlying22 (hval 1 22 v1 rfl rfl)
    simp only [vls3]
    exact lawRaiseDry (c0 0) (c0 1) (c0 2) (hb0 0 (by decide)) (hb0 1 (by decide)) (hb0 2 (by decide)) c1 hb1 W

theorem over : Rows.fnExactRaiseDryRow.holds Try.pinned (OpenSpec.ofChange Rows.fnExactRaiseDrySpec) :=
  OpenClaim.holds_of_wide 12 Try.f12 rfl rfl rfl rfl rfl rfl rfl ⟨rfl, rfl, rfl, rfl, rfl⟩ rfl rfl rfl rfl rfl (by kernel_rfl) Try.func12 closed
    (of_decide_eq_true (by kernel_rfl)) (by unfold Func.isWrapper; rw [if_neg (by decide +kernel)]; exact ⟨rfl, rfl⟩)
    (fun os started H enc _ => lifted os started H enc)

theorem proved : Rows.FnExactRaiseDrySaid := over
#print axioms proved
end Go.Proofs.Ytdmnlbfmcibohaa.fnExactRaiseDry
