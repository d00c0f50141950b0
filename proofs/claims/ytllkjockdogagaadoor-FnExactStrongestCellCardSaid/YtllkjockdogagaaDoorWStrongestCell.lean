import Derived.Test.YtllkjockdogagaaDoorCStrongestCell
import Derived.Test.YtllkjockdogagaaDoorChecked
import Derived.Test.YtllkjockdogagaaDoorRows
import Derived.Test.YtllkjockdogagaaDoorCards
import Derived.Test.YtllkjockdogagaaDoorTie
import Derived.Laws.FloatArith
import Derived.ProofKit
import Derived.WalkKit
import Derived.Deep.RegionHeld3
import Derived.LaidEql
import Derived.Stop.Asserts
import Derived.RowKitTokens
import Derived.WalkLawsBesides
import Derived.WalkSpells
import Derived.Deep.QuietTactic
import Derived.BigQuiet
import Derived.ChangeKeysEq
import Derived.Laws.BitsAllLaws
import Derived.Deep.MidRow
import Derived.Deep.WholeRow
import Derived.StillTailTactics
import Derived.Deep.Slices
import Derived.ChangeSame
import Derived.OrdersIn
import Derived.ControlIn
import Derived.RangeFuncSeq
import Derived.RangeFuncNested
import Derived.ArgAppend
import Derived.OwnWalkIn
import Derived.TacticsInMore
import Derived.Below
import Derived.Laws.AppendOwn
import Derived.RangeFuncLeaves
import Derived.RangeFuncBox
import Derived.LoopNIn
import Derived.LoopIn
import Derived.Shelf.Abstract
import Derived.Deep.Strs
import Derived.OpenShut
import Derived.Stop.LaidErr
import Derived.LaidMore
import Derived.Handed
import Derived.LaidHandle
import Derived.Stop.Joined
import Derived.MakeChecks
import Derived.SevenTiedAt
/- The tied card of FnExactStrongestCell. -/
namespace Go.Proofs.YtllkjockdogagaaDoor
open Go.RowKit Go.Fl

theorem isTypeOf (v : Value) (w : World) : (Extern.ReflectliteType.typeOf #[.iface 102 v]).run Tryd.prog w = .ok (.iface 91 (.agg #[.pointer (some ⟨6, 102, none⟩)])) w := by kernel_rfl

theorem isComparable (w : World) : ((Extern.ReflectliteType.method fun t => do Extern.Rtype.noPackHeld "Comparable" t; pure (.bool (← typeInfo t).comparable)) #[.agg #[.pointer (some ⟨6, 102, none⟩)]]).run Tryd.prog w = .ok (.bool true) w := by kernel_rfl

theorem isCompCall (w : World) : (callFunc 85 #[.agg #[.pointer (some ⟨6, 102, none⟩)]]).run Tryd.prog w = .ok (Next.value (.bool true)) w := by
  have h32 := @run_callFunc_extern Tryd.prog 85 _ (Extern.ReflectliteType.method fun t => do Extern.Rtype.noPackHeld "Comparable" t; pure (.bool (← typeInfo t).comparable)) Tryd.func85 (by kernel_rfl) (by kernel_rfl) (by kernel_rfl) (by kernel_rfl)
  rw [h32, isComparable]
  rfl

theorem isMethodComparable (v : Value) (w : World) : (Go.method 240 91 v "Comparable").run Tryd.prog w = .ok (85, v) w := by kernel_rfl

theorem isComp : (Tryd.prog.info? 102).map (·.comparable) = some true := by kernel_rfl

theorem isSize : (Tryd.prog.info? 128).map (·.size) = some 1 := by kernel_rfl

theorem noIsE (v : Value) (xT : TypeId) (w : World) : (Instr.typeAssert (.iface 102 v) xT 93 true).run Tryd.prog w = .ok (.tuple #[.nilIface, .bool false]) w := run_typeAssert_lacksB Tryd.underlying93 (by kernel_rfl) (by kernel_rfl) v xT w

theorem noUnwrapE (v : Value) (xT : TypeId) (w : World) : (Instr.typeAssert (.iface 102 v) xT 96 true).run Tryd.prog w = .ok (.tuple #[.nilIface, .bool false]) w := run_typeAssert_lacksB Tryd.underlying96 (by kernel_rfl) (by kernel_rfl) v xT w

theorem noUnwrapsE (v : Value) (xT : TypeId) (w : World) : (Instr.typeAssert (.iface 102 v) xT 98 true).run Tryd.prog w = .ok (.tuple #[.nilIface, .bool false]) w := run_typeAssert_lacksB Tryd.underlying98 (by kernel_rfl) (by kernel_rfl) v xT w

set_option maxRecDepth 100000 in
/-- errors.Is(x, x), x a pointer to an errors.errorString. -/
theorem is_same (a : Addr) (w : World) :
    Calls Tryd.prog 44 #[.iface 102 (.pointer (some a)), .iface 102 (.pointer (some a))] w fun e w' => e = .returned (.bool true) ∧ w' = w := by
  obtain ⟨i, hi, hcmp⟩ := Option.map_eq_some_iff.1 isComp
  obtain ⟨j, hj, hjs⟩ := Option.map_eq_some_iff.1 isSize
  have h8 := @run_callFunc_extern Tryd.prog 57 _ Extern.ReflectliteType.typeOf Tryd.func57 (by kernel_rfl) (by kernel_rfl) (by kernel_rfl) (by kernel_rfl)
  have tT := isTypeOf
  have cT := isCompCall
  have mR := isMethodComparable
  have heq := run_eql_iface_ptr_same (P := Tryd.prog) w a Tryd.underlying55 Tryd.underlying102 hi hcmp hj
  go_enter Tryd.func44, Tryd.ntmps44
  go_wp2
  refine wp_loop_rounds 1 ?_
  rw [rounds_succ]
  go_wp2
  go_ret
  exact ⟨rfl, rfl⟩

set_option maxRecDepth 100000 in
/-- errors.Is(x, y), two different pointers to errors.errorString. -/
theorem is_other (a b : Addr) (ca cb : Array Value) (ta tb : TypeId) (w : World) (hne : a ≠ b) (ha : w.heap[a.block]? = some (.cells ca ta (0, 0))) (hb : w.heap[b.block]? = some (.cells cb tb (0, 0))) :
    Calls Tryd.prog 44 #[.iface 102 (.pointer (some a)), .iface 102 (.pointer (some b))] w fun e w' => e = .returned (.bool false) ∧ w' = w := by
  obtain ⟨i, hi, hcmp⟩ := Option.map_eq_some_iff.1 isComp
  obtain ⟨j, hj, hjs⟩ := Option.map_eq_some_iff.1 isSize
  have h8 := @run_callFunc_extern Tryd.prog 57 _ Extern.ReflectliteType.typeOf Tryd.func57 (by kernel_rfl) (by kernel_rfl) (by kernel_rfl) (by kernel_rfl)
  have tT := isTypeOf
  have cT := isCompCall
  have mR := isMethodComparable
  have nE := noIsE
  have uE := noUnwrapE
  have vE := noUnwrapsE
  have heq := run_eql_iface_ptr_other (P := Tryd.prog) w Tryd.underlying55 Tryd.underlying102 hi hcmp hj (by rw [hjs]; decide) hne ha hb
  go_enter Tryd.func44, Tryd.ntmps44
  go_wp2
  refine wp_loop_rounds 1 ?_
  rw [rounds_succ]
  go_wp2
  go_ret
  exact ⟨rfl, rfl⟩

@[go_sem] theorem ext_f64bits (y : Nat) (w : World) : (callFunc 61 #[.float .f64 y]).run Tryd.prog w = .ok (.value (.int .u64 y)) w := by
  rw [run_callFunc_extern Tryd.func61 (by kernel_rfl) (by kernel_rfl) (by kernel_rfl) (e := Extern.MathFloatBits.float64bits) (by kernel_rfl)]
  rfl

@[go_sem] theorem ext_f64from (n : Int) (w : World) : (callFunc 62 #[.int .u64 n]).run Tryd.prog w = .ok (.value (.float .f64 n.toNat)) w := by
  rw [run_callFunc_extern Tryd.func62 (by kernel_rfl) (by kernel_rfl) (by kernel_rfl) (e := Extern.MathFloatBits.float64frombits) (by kernel_rfl)]
  rfl

theorem hid {p : Prop} (h : p) : Hid p := h

theorem clear_sign (y : Nat) (h : y < 18446744073709551616) : (bits BinOp.andNot IntKind.u64 (y : Int) 9223372036854775808).toNat = y % 9223372036854775808 := by
  rw [u64_andNot _ _ (by omega) (by omega) (by omega) (by omega)]
  rw [Int.toNat_natCast, Int.toNat_natCast]
  exact Nat.and_two_pow_sub_one_eq_mod y 63

theorem abs_f64 (y : Nat) (h : y < 18446744073709551616) (w : World) :
    Calls Tryd.prog 59 #[.float .f64 y] w fun e w' => e = .returned (.float .f64 (y % 9223372036854775808)) ∧ w = w' := by
  have hc := hid (clear_sign y h)
  clear h
  go_enter Tryd.func59, Tryd.ntmps59
  go_wp2
  go_ret
  exact ⟨by simp [hc.out], rfl⟩

theorem isNaN_f64 (y : Nat) (w : World) :
    Calls Tryd.prog 50 #[.float .f64 y] w fun e w' => e = .returned (.bool (FloatKind.f64.format.order y y != some .eq)) ∧ w = w' := by
  go_enter Tryd.func50, Tryd.ntmps50
  go_wp2
  go_ret
  exact ⟨rfl, rfl⟩

theorem isInf_f64 (y : Nat) (h : y < 18446744073709551616) (w : World) :
    Calls Tryd.prog 51 #[.float .f64 y, .int .i64 0] w fun e w' => e = .returned (.bool (FloatKind.f64.format.order (y % 9223372036854775808) 9218868437227405311 == some .gt)) ∧ w = w' := by
  have hc := hid h
  clear h
  go_enter Tryd.func51, Tryd.ntmps51
  go_wp2_with (go_at_call 59; refine (abs_f64 y hc.out _).mono ?_; rintro e w' ⟨rfl, rfl⟩)
  go_ret
  exact ⟨rfl, rfl⟩

theorem isFinite_t (x : Nat) (hx : x < 4294967296) (h : finB x = true) (w : World) :
    Calls Tryd.prog 37 #[.float .f32 x] w fun e w' => e = .returned (.bool true) ∧ w = w' := by
  rw [finB_iff] at h
  have hc := fun w => run_conv_wid (P := Tryd.prog) w 27 43 x hx Tryd.underlying27 Tryd.underlying43 h
  obtain ⟨a, b, m, e, hr⟩ := read_wid_fin hx h
  have hn : (FloatKind.f64.format.order (wid x) (wid x) != some .eq) = false := by
    show (D.order (wid x) (wid x) != some .eq) = false
    rw [order_self hr]; rfl
  have hi : (FloatKind.f64.format.order (wid x % 9223372036854775808) 9218868437227405311 == some .gt) = false := by
    show (D.order (wid x % 9223372036854775808) 9218868437227405311 == some .gt) = false
    rw [b, order_ltD a (by decide)]
    rw [DINF_val] at a
    have hle : wid (mg x) ≤ 9218868437227405311 := by omega
    rcases Nat.lt_or_eq_of_le hle with h' | h'
    · rw [Nat.compare_eq_lt.2 h']; rfl
    · rw [Nat.compare_eq_eq.2 h']; rfl
  have hw : wid x < 18446744073709551616 := D.write_lt _
  have Hn := hid hn
  have Hi := hid hi
  have Hw := hid hw
  clear hn hi hw hr a b h hx
  go_enter Tryd.func37, Tryd.ntmps37
  go_wp2_with (first | (go_at_call 50; refine (isNaN_f64 (wid x) _).mono ?_; rintro e w' ⟨rfl, rfl⟩; rw [Hn.out]) | (go_at_call 51; refine (isInf_f64 (wid x) Hw.out _).mono ?_; rintro e w' ⟨rfl, rfl⟩; rw [Hi.out]))
  go_ret
  exact ⟨rfl, rfl⟩

theorem isFinite_f (x : Nat) (hx : x < 4294967296) (h : finB x = false) (w : World) :
    Calls Tryd.prog 37 #[.float .f32 x] w fun e w' => e = .returned (.bool false) ∧ Below w.heap.size w w' := by
  rw [finB_iff'] at h
  rcases Nat.lt_or_eq_of_le h with h | h
  · obtain ⟨z, hc, h1, _⟩ := run_conv_nan (P := Tryd.prog) w 27 43 x Tryd.underlying27 Tryd.underlying43 h
    obtain ⟨s, t, hr⟩ := read_nanD h1
    have Hn := hid (show (FloatKind.f64.format.order z z != some .eq) = true by
      show (D.order z z != some .eq) = true
      rw [order_nan hr]; rfl)
    clear h h1 hr hx
    go_enter Tryd.func37, Tryd.ntmps37
    go_wp2_with (go_at_call 50; refine (isNaN_f64 z _).mono ?_; rintro e w' ⟨rfl, rfl⟩; rw [Hn.out])
    go_ret
    exact ⟨rfl, (Below.refl _ _).drew⟩
  · obtain ⟨z, hc, h1, h2⟩ := run_conv_inf (P := Tryd.prog) w 27 43 x hx Tryd.underlying27 Tryd.underlying43 h.symm
    have hr : D.read z = .infinity (decide (9223372036854775808 ≤ z)) := by rw [read_signD h2, h1, read_DINF]
    have Hn := hid (show (FloatKind.f64.format.order z z != some .eq) = false by
      show (D.order z z != some .eq) = false
      rw [order_inf hr]; rfl)
    have Hi := hid (show (FloatKind.f64.format.order (z % 9223372036854775808) 9218868437227405311 == some .gt) = true by
      rw [h1]; decide)
    have H2 := hid h2
    clear h h1 hr hx h2
    go_enter Tryd.func37, Tryd.ntmps37
    go_wp2_with (first | (go_at_call 50; refine (isNaN_f64 z _).mono ?_; rintro e w' ⟨rfl, rfl⟩; rw [Hn.out]) | (go_at_call 51; refine (isInf_f64 z H2.out _).mono ?_; rintro e w' ⟨rfl, rfl⟩; rw [Hi.out]))
    go_ret
    exact ⟨rfl, Below.refl _ _⟩

theorem signbit_f64 (y : Nat) (w : World) :
    Calls Tryd.prog 63 #[.float .f64 y] w fun e w' => e = .returned (.bool (decide (wrap64 (y : Int) < 0))) ∧ w = w' := by
  go_enter Tryd.func63, Tryd.ntmps63
  go_wp2
  go_ret
  exact ⟨rfl, rfl⟩

theorem and_sign (y : Nat) (h : y < 18446744073709551616) : (decide (wrap64 (y : Int) < 0)) = decide (9223372036854775808 ≤ y) := by
  unfold wrap64
  by_cases h' : 9223372036854775808 ≤ y
  · rw [decide_eq_true h']; simp; omega
  · rw [decide_eq_false h']; simp; omega

theorem isAmount_t (x : Nat) (h : amtB x = true) (w : World) :
    Calls Tryd.prog 55 #[.float .f32 x] w fun e w' => e = .returned (.bool true) ∧ w = w' := by
  have hf := amt_fin h
  rw [amtB_iff, INF_val] at h
  have hx : x < 4294967296 := by omega
  have hc := fun w => run_conv_wid (P := Tryd.prog) w 27 43 x hx Tryd.underlying27 Tryd.underlying43 (finB_iff.1 hf)
  have hw : wid x < 18446744073709551616 := D.write_lt _
  have Hs := hid (show (decide (wrap64 (wid x : Int) < 0)) = false by
    rw [and_sign _ hw]
    have := (wid_val (x := x) (by rw [INF_val]; omega)).1
    rw [DINF_val] at this
    simp; omega)
  have Hx := hid hx
  have Hf := hid hf
  clear h hf hx hw
  go_enter Tryd.func55, Tryd.ntmps55
  go_wp2_with (first | (go_at_call 37; refine (isFinite_t x Hx.out Hf.out _).mono ?_; rintro e w' ⟨rfl, rfl⟩) | (go_at_call 63; refine (signbit_f64 (wid x) _).mono ?_; rintro e w' ⟨rfl, rfl⟩; rw [Hs.out]))
  go_ret
  exact ⟨rfl, rfl⟩

theorem isAmount_f (x : Nat) (hx : x < 4294967296) (h : amtB x = false) (w : World) :
    Calls Tryd.prog 55 #[.float .f32 x] w fun e w' => e = .returned (.bool false) ∧ Below w.heap.size w w' := by
  rcases hf : finB x with _ | _
  · have Hx := hid hx
    have Hf := hid hf
    clear h hf hx
    go_enter Tryd.func55, Tryd.ntmps55
    go_wp2_with (go_at_call 37; refine (isFinite_f x Hx.out Hf.out _).mono ?_; rintro e w' ⟨rfl, hb⟩)
    go_ret
    exact ⟨rfl, hb⟩
  · have hc := fun w => run_conv_wid (P := Tryd.prog) w 27 43 x hx Tryd.underlying27 Tryd.underlying43 (finB_iff.1 hf)
    have hw : wid x < 18446744073709551616 := D.write_lt _
    have Hs := hid (show (decide (wrap64 (wid x : Int) < 0)) = true by
      rw [and_sign _ hw, wid_fin hx (finB_iff.1 hf)]
      rw [amtB_iff', INF_val] at h
      rw [finB_iff, INF_val] at hf
      unfold mg at hf ⊢
      rw [if_pos (by omega)]
      simp)
    have Hx := hid hx
    have Hf := hid hf
    clear h hf hx hw
    go_enter Tryd.func55, Tryd.ntmps55
    go_wp2_with (first | (go_at_call 37; refine (isFinite_t x Hx.out Hf.out _).mono ?_; rintro e w' ⟨rfl, rfl⟩) | (go_at_call 63; refine (signbit_f64 (wid x) _).mono ?_; rintro e w' ⟨rfl, rfl⟩; rw [Hs.out]))
    go_ret
    exact ⟨rfl, Below.refl _ _⟩

@[go_sem] theorem ext_f32bits (y : Nat) (w : World) : (callFunc 54 #[.float .f32 y]).run Tryd.prog w = .ok (.value (.int .u32 y)) w := by
  rw [run_callFunc_extern Tryd.func54 (by kernel_rfl) (by kernel_rfl) (by kernel_rfl) (e := Extern.MathFloatBits.float32bits) (by kernel_rfl)]
  rfl

theorem sFinite_t (x : Nat) (hx : x < 4294967296) (h : finB x = true) (w : World) :
    Calls Tryd.prog 30 #[.float .f32 x] w fun e w' => e = .returned (.bool true) ∧ w = w' := by
  have hr := fun w => run_float_arith (P := Tryd.prog) w .sub 27 .f32 x x 0 (sub_self_fin hx h)
  clear h hx
  go_enter Tryd.func30, Tryd.ntmps30
  go_wp2
  go_ret
  exact ⟨rfl, rfl⟩

theorem sFinite_f (x : Nat) (hx : x < 4294967296) (h : finB x = false) (w : World) :
    Calls Tryd.prog 30 #[.float .f32 x] w fun e w' => e = .returned (.bool false) ∧ Below w.heap.size w w' := by
  obtain ⟨z, hr, h1, _⟩ := run_arith_nan (P := Tryd.prog) w .sub (by simp) 27 x x (sub_self_none hx h)
  have Hn := hid (show (FloatKind.f32.format.order z 0 == some .eq) = false by
    show (S.order z 0 == some .eq) = false
    rw [order_nan32 h1]; rfl)
  clear h hx h1
  go_enter Tryd.func30, Tryd.ntmps30
  go_wp2
  go_ret
  exact ⟨by simp [Hn.out], (Below.refl _ _).drew⟩

theorem sAmount_t (x : Nat) (h : amtB x = true) (w : World) :
    Calls Tryd.prog 40 #[.float .f32 x] w fun e w' => e = .returned (.bool true) ∧ w = w' := by
  have hf := amt_fin h
  have h' := amtB_iff.1 h
  have hx : x < 4294967296 := by rw [INF_val] at h'; omega
  have Hx := hid hx
  have Hf := hid hf
  by_cases h0 : x = 0
  · subst h0
    clear h hf h' hx
    go_enter Tryd.func40, Tryd.ntmps40
    go_wp2_with (go_at_call 30; refine (sFinite_t 0 Hx.out Hf.out _).mono ?_; rintro e w' ⟨rfl, rfl⟩)
    go_ret
    exact ⟨rfl, rfl⟩
  · have hg : (FloatKind.f32.format.order x 0 == some .gt) = true := by
      show (S.order x 0 == some .gt) = true
      rw [order_zero_pos h', Nat.compare_eq_gt.2 (by omega)]; rfl
    clear h hf h' hx h0
    go_enter Tryd.func40, Tryd.ntmps40
    go_wp2_with (go_at_call 30; refine (sFinite_t x Hx.out Hf.out _).mono ?_; rintro e w' ⟨rfl, rfl⟩)
    go_ret
    exact ⟨rfl, rfl⟩

theorem sAmount_f (x : Nat) (hx : x < 4294967296) (h : amtB x = false) (w : World) :
    Calls Tryd.prog 40 #[.float .f32 x] w fun e w' => e = .returned (.bool false) ∧ Below w.heap.size w w' := by
  rcases hf : finB x with _ | _
  · have Hx := hid hx
    have Hf := hid hf
    clear h hf hx
    go_enter Tryd.func40, Tryd.ntmps40
    go_wp2_with (go_at_call 30; refine (sFinite_f x Hx.out Hf.out _).mono ?_; rintro e w' ⟨rfl, hb⟩)
    go_ret
    exact ⟨rfl, hb⟩
  · have hs : 2147483648 ≤ x := by
      rw [amtB_iff', INF_val] at h
      have := finB_iff.1 hf
      rw [INF_val] at this
      unfold mg at this
      omega
    have hg : (FloatKind.f32.format.order x 0 == some .gt) = false := order_neg_zero hx hf hs
    have hb : ((x : Int) == 0) = false := by simp; omega
    have Hx := hid hx
    have Hf := hid hf
    clear h hf hx hs
    go_enter Tryd.func40, Tryd.ntmps40
    go_wp2_with (go_at_call 30; refine (sFinite_t x Hx.out Hf.out _).mono ?_; rintro e w' ⟨rfl, rfl⟩)
    go_ret
    exact ⟨rfl, Below.refl _ _⟩

theorem back {P : Program} {f : FuncId} {args : Array Value} {w : World} {v : Value} (h : Calls P f args w fun e w' => e = .returned v ∧ w = w') : Calls P f args w fun e w' => e = .returned v ∧ w' = w :=
  h.mono fun _ _ ⟨a, b⟩ => ⟨a, b.symm⟩

theorem l00In_t (n a b : Int) (h1 : a ≤ n) (h2 : n ≤ b) (w : World) :
    Calls Tryd.prog 39 #[.int .i64 n, .int .i64 a, .int .i64 b] w fun e w' => e = .returned (.bool true) ∧ w = w' := by
  go_enter Tryd.func39, Tryd.ntmps39
  go_wp2
  go_ret
  exact ⟨by first | rfl | (simp; done) | (simp; omega), rfl⟩

theorem l00In_f (n a b : Int) (hn : ¬ (a ≤ n ∧ n ≤ b)) (w : World) :
    Calls Tryd.prog 39 #[.int .i64 n, .int .i64 a, .int .i64 b] w fun e w' => e = .returned (.bool false) ∧ w = w' := by
  by_cases h0 : a ≤ n
  · have h3 : b < n := by omega
    clear hn
    go_enter Tryd.func39, Tryd.ntmps39
    go_wp2
    go_ret
    exact ⟨by first | rfl | (simp; done) | (simp; omega), rfl⟩
  · have h3 : n < a := by omega
    have h4 : decide (a ≤ n) = false := by simp; omega
    clear hn h0
    go_enter Tryd.func39, Tryd.ntmps39
    go_wp2
    go_ret
    exact ⟨by simp, rfl⟩

theorem sameFloat2 (a b : Nat) (h : Same2 a b) (w : World) :
    Calls Tryd.prog 18 #[.float .f64 a, .float .f64 b] w fun e w' => e = .returned (.bool true) ∧ w = w' := by
  obtain ⟨h1, h2⟩ := h
  rcases h1 with ⟨h1, rfl⟩ | ⟨h1, h3, h4, h5⟩
  · have hn : (FloatKind.f64.format.order a a != some .eq) = false := by
      show (Ieee.Format.order D a a != some .eq) = false
      rw [h1]; rfl
    have hq : (FloatKind.f64.format.order a a == some .eq) = true := by
      show (Ieee.Format.order D a a == some .eq) = true
      rw [h1]; rfl
    rcases hz : (FloatKind.f64.format.order a 0 == some .eq) with _ | _
    · clear h1 h2
      go_enter Tryd.func18, Tryd.ntmps18
      go_wp2
      go_ret
      exact ⟨by simp, rfl⟩
    · obtain ⟨q, hd⟩ := h2 h1 (beq_iff_eq.1 hz)
      have hdiv := fun w => run_float_arith (P := Tryd.prog) w .quo 43 .f64 4607182418800017408 a q hd
      clear h1 h2 hd
      go_enter Tryd.func18, Tryd.ntmps18
      go_wp2
      go_ret
      exact ⟨by simp, rfl⟩
  · have hn : (FloatKind.f64.format.order a a != some .eq) = true := by
      show (Ieee.Format.order D a a != some .eq) = true
      rw [h1]; rfl
    have hm : (FloatKind.f64.format.order b b != some .eq) = true := by
      show (Ieee.Format.order D b b != some .eq) = true
      rw [h3]; rfl
    clear h1 h2 h3 h4 h5
    go_enter Tryd.func18, Tryd.ntmps18
    go_wp2
    go_ret
    exact ⟨by simp, rfl⟩

theorem info_spot : (Tryd.prog.info? 26).map (·.size) = some 2 := by kernel_rfl

theorem info_cell : (Tryd.prog.info? 29).map (·.size) = some 4 := by kernel_rfl

theorem info_lcell : (Tryd.prog.info? 52).map (·.size) = some 4 := by kernel_rfl

theorem info_lspot : (Tryd.prog.info? 24).map (·.size) = some 2 := by kernel_rfl

set_option maxRecDepth 100000 in
theorem toSpot (a b : Int) (w : World) :
    Calls Tryd.prog 10 #[.agg #[.int .i16 a, .int .i16 b]] w fun e w' => e = .returned (.agg #[.int .i16 a, .int .i16 b]) ∧ Below w.heap.size w w' := by
  have k0 : Hid (Kept w [(w.heap.size + 1 + 1, #[.int .i16 0, .int .i16 0], 26), (w.heap.size + 1, #[.int .i16 0, .int .i16 0], 26), (w.heap.size, #[.int .i16 a, .int .i16 b], 24)] (((w.alloc (.cells #[.int .i16 a, .int .i16 b] 24)).alloc (.cells #[.int .i16 0, .int .i16 0] 26)).alloc (.cells #[.int .i16 0, .int .i16 0] 26))) := hid (((((Kept.nil w).push _ _).push _ _).push _ _).sub (by simp))
  go_enter Tryd.func10, Tryd.ntmps10
  go_wp2_with fail
  generalize (((w.alloc (.cells #[.int .i16 a, .int .i16 b] 24)).alloc (.cells #[.int .i16 0, .int .i16 0] 26)).alloc (.cells #[.int .i16 0, .int .i16 0] 26)) = w1 at k0 ⊢
  go_loopw [4] (fun i wr => ∃ x y : Int, Hid (Kept w [(w.heap.size + 1 + 1, #[.int .i16 x, .int .i16 y], 26), (w.heap.size + 1, #[.int .i16 0, .int .i16 0], 26), (w.heap.size, #[.int .i16 a, .int .i16 b], 24)] wr) ∧ ((i = .int .i64 0) ∨ (i = .int .i64 1 ∧ x = a) ∨ (i = .int .i64 2 ∧ x = a ∧ y = b))) (fun i _ => 2 - (intOf i).toNat)
  case atStart => exact ⟨0, 0, k0, .inl rfl⟩
  case round =>
    obtain ⟨x, y, h0, hc⟩ := hrel
    clear k0
    have c0 : wr.cell? ⟨w.heap.size, 0, none⟩ = some (.int .i16 a) := (cell_of_row wr w.heap.size 0 _ _ _ (h0.out.at (x := (w.heap.size, #[.int .i16 a, .int .i16 b], 24)) (by simp))).trans rfl
    have c1 : wr.cell? ⟨w.heap.size, 1, none⟩ = some (.int .i16 b) := (cell_of_row wr w.heap.size 1 _ _ _ (h0.out.at (x := (w.heap.size, #[.int .i16 a, .int .i16 b], 24)) (by simp))).trans rfl
    have hr := h0.out.at (x := (w.heap.size + 1 + 1, #[.int .i16 x, .int .i16 y], 26)) (by simp)
    have d0 : wr.cell? ⟨w.heap.size + 1 + 1, 0, none⟩ = some (.int .i16 x) := (cell_of_row wr _ 0 _ _ _ hr).trans rfl
    have d1 : wr.cell? ⟨w.heap.size + 1 + 1, 1, none⟩ = some (.int .i16 y) := (cell_of_row wr _ 1 _ _ _ hr).trans rfl
    have f0 : wr.frozen? ⟨w.heap.size + 1 + 1, 0, none⟩ = false := frozen_of_row wr _ 0 _ _ hr
    have f1 : wr.frozen? ⟨w.heap.size + 1 + 1, 1, none⟩ = false := frozen_of_row wr _ 1 _ _ hr
    have K0 := hid (h0.out.lcell (by omega) (by simp <;> omega) 0 (.int .i16 a))
    have K1 := hid (h0.out.lcell (by omega) (by simp <;> omega) 1 (.int .i16 b))
    clear hr
    rcases hc with rfl | ⟨rfl, rfl⟩ | ⟨rfl, rfl, rfl⟩
    · go_wp2
      go_roundw
      case rel => exact ⟨a, y, K0, .inr (.inl ⟨by go_num, rfl⟩)⟩
      case measure => simp [intOf]
    · go_wp2
      go_roundw
      case rel => exact ⟨x, b, K1, .inr (.inr ⟨by go_num, rfl, rfl⟩)⟩
      case measure => simp [intOf]
    · clear K0 K1 c0 c1 d0 d1 f0 f1
      go_wp2_with (first | (have _t := h0; refine wpList_load_row rfl 26 _ rfl (w.heap.size + 1 + 1) rfl 26 (#[.int .i16 x, .int .i16 y]) (0, 0) _ (h0.out.at (x := (w.heap.size + 1 + 1, #[.int .i16 x, .int .i16 y], 26)) (by simp)) Tryd.underlying26 rfl (info_spot) ?_) | (have _t := h0; refine store_kept (w0 := w) (l := []) rfl 26 _ _ rfl (w.heap.size + 1) (#[.int .i16 x, .int .i16 y]) rfl rfl 26 (#[.int .i16 0, .int .i16 0]) (h0.out.sub (by simp)) (by omega) (by simp) (info_spot) (by simp) (by simp [Value.oneCell']) ?_; intro w3 k3; have k3 := hid k3))
      exact bodyPost_ret (results_cell_row rfl _ _ (w.heap.size + 1) 26 #[.int .i16 x, .int .i16 y] (0, 0) _ rfl (k3.out.at (x := (w.heap.size + 1, #[.int .i16 x, .int .i16 y], 26)) (by simp)) Tryd.underlying26 rfl info_spot) rfl ⟨rfl, k3.out.1⟩

set_option maxRecDepth 100000 in
theorem toCell (a b : Int) (q : Nat) (s : Int) (w : World) :
    Calls Tryd.prog 23 #[.agg #[.int .i16 a, .int .i16 b, .float .f32 q, .int .i64 s]] w fun e w' => e = .returned (.agg #[.int .i16 a, .int .i16 b, .float .f32 q, .int .i64 s]) ∧ Below w.heap.size w w' := by
  have k0 : Hid (Kept w [(w.heap.size + 1 + 1, #[.int .i16 0, .int .i16 0, .float .f32 0, .int .i64 0], 29), (w.heap.size + 1, #[.int .i16 0, .int .i16 0, .float .f32 0, .int .i64 0], 29), (w.heap.size, #[.int .i16 a, .int .i16 b, .float .f32 q, .int .i64 s], 52)] (((w.alloc (.cells #[.int .i16 a, .int .i16 b, .float .f32 q, .int .i64 s] 52)).alloc (.cells #[.int .i16 0, .int .i16 0, .float .f32 0, .int .i64 0] 29)).alloc (.cells #[.int .i16 0, .int .i16 0, .float .f32 0, .int .i64 0] 29))) := hid (((((Kept.nil w).push _ _).push _ _).push _ _).sub (by simp))
  go_enter Tryd.func23, Tryd.ntmps23
  go_wp2_with (refine wpList_load_cut rfl 24 _ rfl w.heap.size 0 rfl _ _ (k0.out.at (x := (w.heap.size, #[.int .i16 a, .int .i16 b, .float .f32 q, .int .i64 s], 52)) (by simp)) [.int .i16 a, .int .i16 b] rfl _ Tryd.underlying24 rfl info_lspot ?_)
  refine (toSpot a b _).mono ?_
  rintro e w1 ⟨rfl, hb1⟩
  have k1 := hid (k0.out.stay hb1)
  clear k0 hb1
  have tok1 : True := trivial
  go_wp2_with (first | (have _t := tok1; refine store_part (w0 := w) rfl 26 _ _ rfl (w.heap.size + 1 + 1) 0 rfl #[.int .i16 a, .int .i16 b] rfl _ #[.int .i16 a, .int .i16 b, .float .f32 0, .int .i64 0] _ k1.out (by omega) (by simp <;> omega) (by simp) info_spot (by simp [Value.oneCell']) rfl ?_; intro w2 k2; clear tok1; have k2 := hid k2; have hr := k2.out.at (x := (w.heap.size + 1 + 1, #[.int .i16 a, .int .i16 b, .float .f32 0, .int .i64 0], 29)) (by simp); have hl := k2.out.at (x := (w.heap.size, #[.int .i16 a, .int .i16 b, .float .f32 q, .int .i64 s], 52)) (by simp); have c2 : w2.cell? ⟨w.heap.size, 2, none⟩ = some (.float .f32 q) := (cell_of_row w2 _ 2 _ _ _ hl).trans rfl; have c3 : w2.cell? ⟨w.heap.size, 3, none⟩ = some (.int .i64 s) := (cell_of_row w2 _ 3 _ _ _ hl).trans rfl; have d2 : w2.cell? ⟨w.heap.size + 1 + 1, 2, none⟩ = some (.float .f32 0) := (cell_of_row w2 _ 2 _ _ _ hr).trans rfl; have d3 : w2.cell? ⟨w.heap.size + 1 + 1, 3, none⟩ = some (.int .i64 0) := (cell_of_row w2 _ 3 _ _ _ hr).trans rfl; have f2 : w2.frozen? ⟨w.heap.size + 1 + 1, 2, none⟩ = false := frozen_of_row w2 _ 2 _ _ hr; have f3 : w2.frozen? ⟨w.heap.size + 1 + 1, 3, none⟩ = false := frozen_of_row w2 _ 3 _ _ hr; clear hr hl; have k3 : Hid (Kept w [(w.heap.size + 1 + 1, #[.int .i16 a, .int .i16 b, .float .f32 q, .int .i64 s], 29), (w.heap.size + 1, #[.int .i16 0, .int .i16 0, .float .f32 0, .int .i64 0], 29), (w.heap.size, #[.int .i16 a, .int .i16 b, .float .f32 q, .int .i64 s], 52)] ((w2.setCell ⟨w.heap.size + 1 + 1, 2, none⟩ (.float .f32 q)).setCell ⟨w.heap.size + 1 + 1, 3, none⟩ (.int .i64 s))) := hid ((k2.out.lcell (by omega) (by simp <;> omega) 2 (.float .f32 q)).lcell (by omega) (by simp <;> omega) 3 (.int .i64 s))) | (have _t := k3; refine wpList_load_row rfl 29 _ rfl (w.heap.size + 1 + 1) rfl 29 (#[.int .i16 a, .int .i16 b, .float .f32 q, .int .i64 s]) (0, 0) _ (k3.out.at (x := (w.heap.size + 1 + 1, #[.int .i16 a, .int .i16 b, .float .f32 q, .int .i64 s], 29)) (by simp)) Tryd.underlying29 rfl info_cell ?_) | (have _t := k3; refine store_kept (w0 := w) (l := []) rfl 29 _ _ rfl (w.heap.size + 1) (#[.int .i16 a, .int .i16 b, .float .f32 q, .int .i64 s]) rfl rfl 29 (#[.int .i16 0, .int .i16 0, .float .f32 0, .int .i64 0]) (k3.out.sub (by simp)) (by omega) (by simp) info_cell (by simp) (by simp [Value.oneCell']) ?_; intro w4 k4; have k4 := hid k4))
  exact bodyPost_ret (results_cell_row rfl _ _ (w.heap.size + 1) 29 #[.int .i16 a, .int .i16 b, .float .f32 q, .int .i64 s] (0, 0) _ rfl (k4.out.at (x := (w.heap.size + 1, #[.int .i16 a, .int .i16 b, .float .f32 q, .int .i64 s], 29)) (by simp)) Tryd.underlying29 rfl info_cell) rfl ⟨rfl, k4.out.1⟩

@[go_sem] theorem semAtSome (l : Nat) (ρ : Operand → Value) (o : Oper) (h : ∀ c, o.op ≠ .defer c) : Oper.semAt (some l) ρ o = execOp ρ o := Oper.semAt_some l ρ o h

theorem kept_drewK {w0 : World} {l : List (Nat × Array Value × TypeId)} {w : World} (k : Kept w0 l w) (n : Nat) : Kept w0 l (w.drewN n) := ⟨below_drewN k.1 n, fun x hx => k.2 x hx⟩

set_option maxRecDepth 100000 in
theorem eqSpot (a b : Int) (w : World) :
    Calls Tryd.prog 26 #[.agg #[.int .i16 a, .int .i16 b], .agg #[.int .i16 a, .int .i16 b]] w fun e w' => e = .returned (.bool true) ∧ Below w.heap.size w w' := by
  have k0 : Hid (Kept w [(w.heap.size + 1, #[.int .i16 a, .int .i16 b], 26), (w.heap.size, #[.int .i16 a, .int .i16 b], 26)] ((w.alloc (.cells #[.int .i16 a, .int .i16 b] 26)).alloc (.cells #[.int .i16 a, .int .i16 b] 26))) := hid ((((Kept.nil w).push _ _).push _ _).sub (by simp))
  go_enter Tryd.func26, Tryd.ntmps26
  go_wp2_with fail
  generalize ((w.alloc (.cells #[.int .i16 a, .int .i16 b] 26)).alloc (.cells #[.int .i16 a, .int .i16 b] 26)) = w1 at k0 ⊢
  go_loopw [5] (fun i wr => ((i = .int .i64 0) ∨ (i = .int .i64 1) ∨ (i = .int .i64 2)) ∧ Hid (Kept w [(w.heap.size + 1, #[.int .i16 a, .int .i16 b], 26), (w.heap.size, #[.int .i16 a, .int .i16 b], 26)] wr)) (fun i _ => 2 - (intOf i).toNat)
  case atStart => exact ⟨.inl rfl, k0⟩
  case round =>
    obtain ⟨hc, h0⟩ := hrel
    clear k0
    have ra := h0.out.at (x := (w.heap.size, #[.int .i16 a, .int .i16 b], 26)) (by simp)
    have rb := h0.out.at (x := (w.heap.size + 1, #[.int .i16 a, .int .i16 b], 26)) (by simp)
    have c0 : wr.cell? ⟨w.heap.size, 0, none⟩ = some (.int .i16 a) := (cell_of_row wr _ 0 _ _ _ ra).trans rfl
    have c1 : wr.cell? ⟨w.heap.size, 1, none⟩ = some (.int .i16 b) := (cell_of_row wr _ 1 _ _ _ ra).trans rfl
    have d0 : wr.cell? ⟨w.heap.size + 1, 0, none⟩ = some (.int .i16 a) := (cell_of_row wr _ 0 _ _ _ rb).trans rfl
    have d1 : wr.cell? ⟨w.heap.size + 1, 1, none⟩ = some (.int .i16 b) := (cell_of_row wr _ 1 _ _ _ rb).trans rfl
    clear ra rb
    rcases hc with rfl | rfl | rfl
    · go_wp2_with fail
      go_quiet (fail)
      go_wp2
      go_roundw
      case rel => exact ⟨.inr (.inl (by go_num)), hid (kept_drewK h0.out nq)⟩
      case measure => simp [intOf]
    · go_wp2_with fail
      go_quiet (fail)
      go_wp2
      go_roundw
      case rel => exact ⟨.inr (.inr (by go_num)), hid (kept_drewK h0.out nq)⟩
      case measure => simp [intOf]
    · go_wp2
      go_ret
      exact ⟨rfl, h0.out.1⟩

set_option maxRecDepth 100000 in
theorem eqCell (a b : Int) (q : Nat) (s : Int) (hq : q < 4294967296) (w : World) :
    Calls Tryd.prog 12 #[.agg #[.int .i16 a, .int .i16 b, .float .f32 q, .int .i64 s], .agg #[.int .i16 a, .int .i16 b, .float .f32 q, .int .i64 s]] w fun e w' => e = .returned (.bool true) ∧ Below w.heap.size w w' := by
  obtain ⟨z0, f0, c0, d0, s0⟩ := conv_any (P := Tryd.prog) 27 43 q hq Tryd.underlying27 Tryd.underlying43
  have S0 := hid s0
  have D0 := hid d0
  have k0 : Hid (Kept w [(w.heap.size + 1, #[.int .i16 a, .int .i16 b, .float .f32 q, .int .i64 s], 29), (w.heap.size, #[.int .i16 a, .int .i16 b, .float .f32 q, .int .i64 s], 29)] ((w.alloc (.cells #[.int .i16 a, .int .i16 b, .float .f32 q, .int .i64 s] 29)).alloc (.cells #[.int .i16 a, .int .i16 b, .float .f32 q, .int .i64 s] 29))) := hid ((((Kept.nil w).push _ _).push _ _).sub (by simp))
  clear hq s0 d0
  go_enter Tryd.func12, Tryd.ntmps12
  go_wp2_with (first | (refine wpList_load_cut rfl 26 _ rfl w.heap.size 0 rfl _ _ (k0.out.at (x := (w.heap.size, #[.int .i16 a, .int .i16 b, .float .f32 q, .int .i64 s], 29)) (by simp)) [.int .i16 a, .int .i16 b] rfl _ Tryd.underlying26 rfl info_spot ?_) | (refine wpList_load_cut rfl 26 _ rfl (w.heap.size + 1) 0 rfl _ _ (k0.out.at (x := (w.heap.size + 1, #[.int .i16 a, .int .i16 b, .float .f32 q, .int .i64 s], 29)) (by simp)) [.int .i16 a, .int .i16 b] rfl _ Tryd.underlying26 rfl info_spot ?_))
  refine (eqSpot a b _).mono ?_
  rintro e w1 ⟨rfl, hb1⟩
  have k1 := hid (k0.out.stay hb1)
  have k2 := hid (kept_wf k1.out (D0.out _))
  have k3 := hid (kept_wf k2.out (D0.out _))
  clear k0 hb1
  have e0 : w1.cell? ⟨w.heap.size, 2, none⟩ = some (.float .f32 q) := (cell_of_row _ _ 2 _ _ _ (k1.out.at (x := (w.heap.size, #[.int .i16 a, .int .i16 b, .float .f32 q, .int .i64 s], 29)) (by simp))).trans rfl
  have e1 : (f0 w1).cell? ⟨w.heap.size + 1, 2, none⟩ = some (.float .f32 q) := (cell_of_row _ _ 2 _ _ _ (k2.out.at (x := (w.heap.size + 1, #[.int .i16 a, .int .i16 b, .float .f32 q, .int .i64 s], 29)) (by simp))).trans rfl
  have e2 : (f0 (f0 w1)).cell? ⟨w.heap.size, 3, none⟩ = some (.int .i64 s) := (cell_of_row _ _ 3 _ _ _ (k3.out.at (x := (w.heap.size, #[.int .i16 a, .int .i16 b, .float .f32 q, .int .i64 s], 29)) (by simp))).trans rfl
  have e3 : (f0 (f0 w1)).cell? ⟨w.heap.size + 1, 3, none⟩ = some (.int .i64 s) := (cell_of_row _ _ 3 _ _ _ (k3.out.at (x := (w.heap.size + 1, #[.int .i16 a, .int .i16 b, .float .f32 q, .int .i64 s], 29)) (by simp))).trans rfl
  go_wp2_with fail
  refine (sameFloat2 _ _ (S0.out _ _) _).mono ?_
  rintro e w2 ⟨rfl, rfl⟩
  go_wp2
  go_ret
  exact ⟨rfl, k3.out.1⟩

theorem infoz_cell : (Tryd.prog.info? 29).map (fun i => (i.zero, i.size, i.bytes)) = some (some (.agg #[.int .i16 0, .int .i16 0, .float .f32 0, .int .i64 0]), 4, 16) := by kernel_rfl

theorem szCells_ok (p : Option Addr) (n cap : Nat) (hn : n ≤ 1048576) (w : World) :
    Calls Tryd.prog 7 #[.slice p n cap, .int .i64 1048576] w fun e w' => e = .returned (.int .i64 (1048576 - (n : Int))) ∧ w = w' := by
  have h1 : IntKind.i64.wrap (1048576 - (n : Int)) = 1048576 - (n : Int) := by rw [IntKind.wrap_i64]; omega
  have h2 : ¬ (1048576 - (n : Int) < 0) := by omega
  go_enter Tryd.func7, Tryd.ntmps7
  go_wp2
  go_ret
  exact ⟨rfl, rfl⟩

theorem szCells_no (p : Option Addr) (n cap : Nat) (hn : 1048576 < n) (hm : n ≤ maxLen) (w : World) :
    Calls Tryd.prog 7 #[.slice p n cap, .int .i64 1048576] w fun e w' => e = .returned (.int .i64 (-1)) ∧ w = w' := by
  have hm' : n ≤ 9223372036854775807 := hm
  have h1 : IntKind.i64.wrap (1048576 - (n : Int)) = 1048576 - (n : Int) := by rw [IntKind.wrap_i64]; omega
  have h2 : (1048576 - (n : Int) < 0) := by omega
  go_enter Tryd.func7, Tryd.ntmps7
  go_wp2
  go_ret
  exact ⟨rfl, rfl⟩

set_option maxRecDepth 100000 in
set_option maxHeartbeats 1000000 in
theorem toCells (s : Value) (n : Nat) (x : Nat → E4) (w : World) (hs : RdE w s n x) (hn : n ≤ 1048576) :
    Calls Tryd.prog 9 #[s] w fun e w' => ∃ g, e = .returned (.slice (some ⟨g, 0, none⟩) n n) ∧ RdE w' (.slice (some ⟨g, 0, none⟩) n n) n x ∧ Below w.heap.size w w' := by
  obtain ⟨p, cap, rfl, hc⟩ := hs
  have HC := hid hc
  obtain ⟨cs0, L0, hmk⟩ := run_makeE (P := Tryd.prog) (t := 32) (e := 29) Tryd.underlying32 infoz_cell hn w
  have k0 : Hid (∃ cs, LvE cs n 0 x ∧ Kept w [(w.heap.size, cs, 29)] (w.alloc (.cells cs0 29))) := hid ⟨_, ⟨L0.1, fun i hi => absurd hi (Nat.not_lt_zero _)⟩, (Kept.nil w).push _ _⟩
  clear hc L0
  go_enter Tryd.func9, Tryd.ntmps9
  go_wp2_with fail
  go_loopw [4] (fun i wr => ∃ k : Nat, k ≤ n ∧ i = .int .i64 k ∧ Hid (∃ cs, LvE cs n k x ∧ Kept w [(w.heap.size, cs, 29)] wr)) (fun i _ => n - (intOf i).toNat)
  case atStart => exact ⟨0, by omega, rfl, k0⟩
  case round =>
    obtain ⟨k, hk, rfl, h0⟩ := hrel
    clear k0 hmk
    obtain ⟨cs, L1, h1⟩ := h0.out
    by_cases hlt : k < n
    · have HK := hid hlt
      have hk3 : (k : Int) < (n : Int) := by omega
      obtain ⟨b, o, rfl, hcell⟩ := HC.out (by omega)
      have R1 : Hid (wr.rangeAt b (o + k * 4) (e4 (x k))) := hid (range_stay (hcell k hlt) rfl h1.1)
      clear hcell
      have i1 := fun w => run_indexAt (P := Tryd.prog) (t := 22) (e := 52) Tryd.underlying22 info_lcell (b := b) (o := o) (n := n) (cap := cap) (k := k) hlt w
      have i2 := fun w9 => run_indexAt (P := Tryd.prog) (t := 32) (e := 29) Tryd.underlying32 info_cell (b := w.heap.size) (o := 0) (n := n) (cap := n) (k := k) hlt w9
      simp only [Nat.zero_add] at i2
      have H1 := hid h1
      have LL := hid L1
      clear h0 L1 h1
      go_wp2_with (refine wpList_load_mid rfl 52 _ rfl b (o + k * 4) rfl _ _ R1.out Tryd.underlying52 rfl info_lcell ?_)
      refine (toCell _ _ _ _ _).mono ?_
      rintro e w1 ⟨rfl, hb1⟩
      have H2 := hid (H1.out.stay hb1)
      clear i1 H1 hb1 R1
      go_wp2_with (refine store_part (w0 := w) rfl 29 _ _ rfl w.heap.size (k * 4) rfl #[.int .i16 (x k).a, .int .i16 (x k).b, .float .f32 (x k).q, .int .i64 (x k).s] rfl cs _ 29 H2.out (Nat.le_refl _) (by simp) (by have h1 := LL.out.1; have h2 := HK.out; simp; omega) info_cell (by simp [Value.oneCell']) rfl (fun w3 k3 => ?_); replace k3 := hid k3)
      clear i2
      go_roundw
      case rel => exact ⟨k + 1, by omega, by go_num, hid ⟨_, LL.out.step HK.out, k3.out⟩⟩
      case measure => simp [intOf]; omega
    · obtain rfl : k = n := by omega
      clear h0
      have R := hid (L1.rd (B := w.heap.size) (T := 29) h1 (by simp) k)
      have B := hid h1.1
      clear L1 h1
      go_wp2
      go_ret
      exact ⟨w.heap.size, rfl, R.out, B.out⟩

set_option maxRecDepth 100000 in
set_option maxHeartbeats 1000000 in
theorem eqCells (s t : Value) (n : Nat) (x : Nat → E4) (hx : ∀ k, (x k).ok) (w : World) (hs : RdE w s n x) (ht : RdE w t n x) (hn : n ≤ 1048576) :
    Calls Tryd.prog 13 #[s, t] w fun e w' => e = .returned (.bool true) ∧ Below w.heap.size w w' := by
  obtain ⟨p, cap, rfl, hc⟩ := hs
  obtain ⟨p2, cap2, rfl, hc2⟩ := ht
  have HC := hid hc
  have HD := hid hc2
  have HN := hid hn
  have HX := hid hx
  clear hc hc2 hn hx
  go_enter Tryd.func13, Tryd.ntmps13
  go_wp2_with fail
  go_loopw [5] (fun i wr => ∃ k : Nat, k ≤ n ∧ i = .int .i64 k ∧ Hid (Kept w [] wr)) (fun i _ => n - (intOf i).toNat)
  case atStart => exact ⟨0, by omega, rfl, hid (Kept.nil w)⟩
  case round =>
    obtain ⟨k, hk, rfl, h0⟩ := hrel
    by_cases hlt : k < n
    · have hn9 := HN.out
      have hk3 : (k : Int) < (n : Int) := by omega
      obtain ⟨b, o, rfl, hcell⟩ := HC.out (by omega)
      obtain ⟨b2, o2, rfl, hcell2⟩ := HD.out (by omega)
      have HK := hid hlt
      have R1 := hid (fun wq (hb : Below w.heap.size w wq) => range_stay (hcell k hlt) rfl hb)
      have R2 := hid (fun wq (hb : Below w.heap.size w wq) => range_stay (hcell2 k hlt) rfl hb)
      clear hcell hcell2
      go_wp2_with fail
      refine region_kept (w0 := w) (l := []) 10 #[false, false, false, false, false, false, false, false, false, false] (by kernel_rfl) rfl rfl ?_
      have kd := h0.out.drew
      generalize World.drew _ = wd at kd ⊢
      refine take_val 0 _ _ (.slice (some ⟨b, o, none⟩) n cap) rfl (by rfl) (by kernel_rfl) (by kernel_rfl) (by kernel_rfl) (fun w => by rfl) rfl rfl kd ?_
      simp only [Act.put, List.setIfInBounds_toArray, List.set_cons_zero, List.set_cons_succ]
      refine take_val 1 _ _ (.int .i64 (k : Int)) rfl (by rfl) (by kernel_rfl) (by kernel_rfl) (by kernel_rfl) (fun w => by rfl) rfl rfl kd ?_
      simp only [Act.put, List.setIfInBounds_toArray, List.set_cons_zero, List.set_cons_succ]
      refine take_val 2 _ _ (.pointer (some ⟨b, o + k * 4, none⟩)) rfl (by rfl) (by kernel_rfl) (by kernel_rfl) (by kernel_rfl) (fun w => run_index_op _ _ rfl rfl (run_indexAt Tryd.underlying32 info_cell HK.out w)) rfl rfl kd ?_
      simp only [Act.put, List.setIfInBounds_toArray, List.set_cons_zero, List.set_cons_succ]
      refine take_cell 3 _ _ (.agg #[.int .i16 (x k).a, .int .i16 (x k).b, .float .f32 (x k).q, .int .i64 (x k).s]) rfl (by rfl) (by kernel_rfl) (by kernel_rfl) (by kernel_rfl) (fun wq hS => run_load_mid 29 _ b (o + k * 4) (e4 (x k)) rfl (R1.out _ hS.1) _ Tryd.underlying29 rfl info_cell) rfl rfl kd ?_
      simp only [Act.put, List.setIfInBounds_toArray, List.set_cons_zero, List.set_cons_succ]
      refine take_val 4 _ _ (.slice (some ⟨b2, o2, none⟩) n cap2) rfl (by rfl) (by kernel_rfl) (by kernel_rfl) (by kernel_rfl) (fun w => by rfl) rfl rfl kd ?_
      simp only [Act.put, List.setIfInBounds_toArray, List.set_cons_zero, List.set_cons_succ]
      refine take_val 5 _ _ (.int .i64 (k : Int)) rfl (by rfl) (by kernel_rfl) (by kernel_rfl) (by kernel_rfl) (fun w => by rfl) rfl rfl kd ?_
      simp only [Act.put, List.setIfInBounds_toArray, List.set_cons_zero, List.set_cons_succ]
      refine take_val 6 _ _ (.pointer (some ⟨b2, o2 + k * 4, none⟩)) rfl (by rfl) (by kernel_rfl) (by kernel_rfl) (by kernel_rfl) (fun w => run_index_op _ _ rfl rfl (run_indexAt Tryd.underlying32 info_cell HK.out w)) rfl rfl kd ?_
      simp only [Act.put, List.setIfInBounds_toArray, List.set_cons_zero, List.set_cons_succ]
      refine take_cell 7 _ _ (.agg #[.int .i16 (x k).a, .int .i16 (x k).b, .float .f32 (x k).q, .int .i64 (x k).s]) rfl (by rfl) (by kernel_rfl) (by kernel_rfl) (by kernel_rfl) (fun wq hS => run_load_mid 29 _ b2 (o2 + k * 4) (e4 (x k)) rfl (R2.out _ hS.1) _ Tryd.underlying29 rfl info_cell) rfl rfl kd ?_
      simp only [Act.put, List.setIfInBounds_toArray, List.set_cons_zero, List.set_cons_succ]
      refine wpAnyH_ready (rs := [8]) (by kernel_rfl) (by simp) ?_
      refine callK 8 _ _ (.bool true) kd rfl (by rfl) 12 #[.agg #[.int .i16 (x k).a, .int .i16 (x k).b, .float .f32 (x k).q, .int .i64 (x k).s], .agg #[.int .i16 (x k).a, .int .i16 (x k).b, .float .f32 (x k).q, .int .i64 (x k).s]] (fun w => by unfold execOp; go_simp) rfl rfl ?hc1 (fun w1 k1 => ?_) AllReadyH.nil
      case hc1 => exact eqCell _ _ _ _ (HX.out k).1 _
      refine ⟨k1, ?_⟩
      simp only [Act.put, List.setIfInBounds_toArray, List.set_cons_zero, List.set_cons_succ]
      refine take_val 9 _ _ (.bool false) rfl (by rfl) (by kernel_rfl) (by kernel_rfl) (by kernel_rfl) (fun w => by unfold execOp; go_simp) rfl rfl k1 ?_
      simp only [Act.put, List.setIfInBounds_toArray, List.set_cons_zero, List.set_cons_succ]
      refine wpAnyH_done (by kernel_rfl) (NoPanic.normal ?_) _
      go_wp2
      go_roundw
      case rel => exact ⟨k + 1, by omega, by go_num, hid k1⟩
      case measure => simp [intOf]; omega
    · obtain rfl : k = n := by omega
      go_wp2
      go_ret
      exact ⟨rfl, h0.out.1⟩

def InK (n : Int) : Prop := -1000 ≤ n ∧ n ≤ 1000

def OkC (c : E4) : Prop := InK c.a ∧ InK c.b ∧ amtB c.q = true ∧ 1 ≤ c.s ∧ c.s ≤ 1000000

set_option maxRecDepth 100000 in
theorem sBefore (c d : E4) (w : World) :
    Calls Tryd.prog 41 #[.agg #[.int .i16 c.a, .int .i16 c.b], .agg #[.int .i16 d.a, .int .i16 d.b]] w fun e w' => e = .returned (.bool (decide (Bef c d))) ∧ Below w.heap.size w w' := by
  obtain ⟨a, b, q0, s0⟩ := c
  obtain ⟨a2, b2, q2, s2⟩ := d
  have k0 : Hid (Kept w [(w.heap.size + 1, #[.int .i16 a2, .int .i16 b2], 26), (w.heap.size, #[.int .i16 a, .int .i16 b], 26)] ((w.alloc (.cells #[.int .i16 a, .int .i16 b] 26)).alloc (.cells #[.int .i16 a2, .int .i16 b2] 26))) := hid ((((Kept.nil w).push _ _).push _ _).sub (by simp))
  show Calls Tryd.prog 41 #[.agg #[.int .i16 a, .int .i16 b], .agg #[.int .i16 a2, .int .i16 b2]] w fun e w' => e = .returned (.bool (decide (a < a2 ∨ (a = a2 ∧ b < b2)))) ∧ Below w.heap.size w w'
  by_cases h1 : a < a2
  · go_enter Tryd.func41, Tryd.ntmps41
    go_wp2
    go_ret
    exact ⟨by simp [h1], k0.out.1⟩
  · by_cases h2 : a = a2
    · subst h2
      by_cases h3 : b < b2
      · go_enter Tryd.func41, Tryd.ntmps41
        go_wp2
        go_ret
        exact ⟨by simp, k0.out.1⟩
      · go_enter Tryd.func41, Tryd.ntmps41
        go_wp2
        go_ret
        exact ⟨by simp [h3], k0.out.1⟩
    · go_enter Tryd.func41, Tryd.ntmps41
      go_wp2
      go_ret
      exact ⟨by simp [h1], k0.out.1⟩

/-- How two small numbers compare. -/
def cmpI (a b : Int) : Int := if a < b then -1 else if b < a then 1 else 0

theorem iNaN16 (a : Int) (w : World) : Calls Tryd.prog 65 #[.int .i16 a] w fun e w' => e = .returned (.bool false) ∧ w = w' := by
  go_enter Tryd.func65, Tryd.ntmps65
  go_wp2
  go_ret
  exact ⟨by simp, rfl⟩

theorem iCmp16 (a b : Int) (w : World) : Calls Tryd.prog 64 #[.int .i16 a, .int .i16 b] w fun e w' => e = .returned (.int .i64 (cmpI a b)) ∧ w = w' := by
  have h : a < b ∨ (¬ a < b ∧ b < a) ∨ (¬ a < b ∧ ¬ b < a) := by omega
  rcases h with h | ⟨h, h2⟩ | ⟨h, h2⟩
  all_goals
    have hc : cmpI a b = cmpI a b := rfl
    first | rw [show cmpI a b = -1 from if_pos h] | rw [show cmpI a b = 1 from (if_neg h).trans (if_pos h2)] | rw [show cmpI a b = 0 from (if_neg h).trans (if_neg h2)]
    clear hc
    go_enter Tryd.func64, Tryd.ntmps64
    go_wp2_with fail
    refine (iNaN16 _ _).mono ?_
    rintro e w1 ⟨rfl, rfl⟩
    go_wp2_with fail
    refine (iNaN16 _ _).mono ?_
    rintro e w1 ⟨rfl, rfl⟩
    go_wp2
    go_ret
    exact ⟨rfl, rfl⟩

def lexI (c d : E4) : Int := if cmpI c.a d.a ≠ 0 then cmpI c.a d.a else cmpI c.b d.b

theorem cmp_eq {a b : Int} (h : cmpI a b = 0) : a = b := by
  unfold cmpI at h
  by_cases h1 : a < b
  · rw [if_pos h1] at h; omega
  · rw [if_neg h1] at h
    by_cases h2 : b < a
    · rw [if_pos h2] at h; omega
    · omega

theorem info_i16 : (Tryd.prog.info? 23).map (·.size) = some 1 := by kernel_rfl

set_option maxRecDepth 100000 in
set_option maxHeartbeats 1000000 in
theorem iCmpS (c d : E4) (g g2 : Nat) (w : World) (h0 : w.cell? ⟨g, 0, none⟩ = some (.int .i16 c.a)) (h1 : w.cell? ⟨g, 1, none⟩ = some (.int .i16 c.b)) (h2 : w.cell? ⟨g2, 0, none⟩ = some (.int .i16 d.a)) (h3 : w.cell? ⟨g2, 1, none⟩ = some (.int .i16 d.b)) :
    Calls Tryd.prog 56 #[.slice (some ⟨g, 0, none⟩) 2 2, .slice (some ⟨g2, 0, none⟩) 2 2] w fun e w' => e = .returned (.int .i64 (lexI c d)) ∧ w = w' := by
  have i0 := fun w => run_indexAt (P := Tryd.prog) (t := 79) (e := 23) Tryd.underlying79 info_i16 (b := g) (o := 0) (n := 2) (cap := 2) (k := 0) (by omega) w
  have i1 := fun w => run_indexAt (P := Tryd.prog) (t := 79) (e := 23) Tryd.underlying79 info_i16 (b := g) (o := 0) (n := 2) (cap := 2) (k := 1) (by omega) w
  have j0 := fun w => run_indexAt (P := Tryd.prog) (t := 79) (e := 23) Tryd.underlying79 info_i16 (b := g2) (o := 0) (n := 2) (cap := 2) (k := 0) (by omega) w
  have j1 := fun w => run_indexAt (P := Tryd.prog) (t := 79) (e := 23) Tryd.underlying79 info_i16 (b := g2) (o := 0) (n := 2) (cap := 2) (k := 1) (by omega) w
  simp only [Nat.zero_add, Nat.zero_mul, Nat.one_mul, Int.natCast_zero, Int.natCast_one] at i0 i1 j0 j1
  go_enter Tryd.func56, Tryd.ntmps56
  go_wp2_with fail
  go_loopw [11] (fun i wr => w = wr ∧ ((i = .int .i64 0) ∨ (i = .int .i64 1 ∧ Hid (cmpI c.a d.a = 0)) ∨ (i = .int .i64 2 ∧ Hid (cmpI c.a d.a = 0) ∧ Hid (cmpI c.b d.b = 0)))) (fun i _ => 2 - (intOf i).toNat)
  case atStart => exact ⟨rfl, .inl rfl⟩
  case round =>
    obtain ⟨rfl, hc⟩ := hrel
    rcases hc with rfl | ⟨rfl, hz⟩ | ⟨rfl, hz, hz2⟩
    · go_wp2_with fail
      refine (iCmp16 _ _ _).mono ?_
      rintro e w1 ⟨rfl, rfl⟩
      by_cases h : cmpI c.a d.a = 0
      · go_wp2
        go_roundw
        case rel => exact ⟨trivial, .inr (.inl ⟨by go_num, hid h⟩)⟩
        case measure => simp [intOf]
      · have e := hid (show lexI c d = cmpI c.a d.a from if_pos h)
        go_wp2
        go_ret
        exact ⟨by rw [e.out]; rfl, rfl⟩
    · have e := hid (show lexI c d = cmpI c.b d.b from if_neg (fun h => h hz.out))
      go_wp2_with fail
      refine (iCmp16 _ _ _).mono ?_
      rintro e w1 ⟨rfl, rfl⟩
      by_cases h : cmpI c.b d.b = 0
      · go_wp2
        go_roundw
        case rel => exact ⟨trivial, .inr (.inr ⟨by go_num, hz, hid h⟩)⟩
        case measure => simp [intOf]
      · go_wp2
        go_ret
        exact ⟨by rw [e.out]; rfl, rfl⟩
    · have e := hid (show lexI c d = 0 from (if_neg (fun h => h hz.out)).trans hz2.out)
      go_wp2
      go_ret
      exact ⟨by rw [e.out]; rfl, rfl⟩

theorem cmp_pos {a b : Int} : 0 ≤ cmpI a b ↔ ¬ a < b := by
  unfold cmpI
  by_cases h1 : a < b
  · rw [if_pos h1]; omega
  · rw [if_neg h1]
    by_cases h2 : b < a
    · rw [if_pos h2]; omega
    · rw [if_neg h2]; omega

theorem lex_bef (c d : E4) : (0 ≤ lexI c d) ↔ ¬ Bef c d := by
  unfold lexI Bef
  by_cases h : cmpI c.a d.a = 0
  · rw [if_neg (fun h' => h' h), cmp_pos]
    have := cmp_eq h
    omega
  · rw [if_pos h, cmp_pos]
    have h2 : c.a ≠ d.a := fun e => h (by unfold cmpI; rw [if_neg (by omega), if_neg (by omega)])
    omega

set_option maxRecDepth 100000 in
theorem iCmpSpots (c d : E4) (w : World) :
    Calls Tryd.prog 43 #[.agg #[.int .i16 c.a, .int .i16 c.b], .agg #[.int .i16 d.a, .int .i16 d.b]] w fun e w' => e = .returned (.int .i64 (lexI c d)) ∧ Below w.heap.size w w' := by
  have k0 : Hid (Kept w [(w.heap.size + 1, #[.int .i16 d.a, .int .i16 d.b], 26), (w.heap.size, #[.int .i16 c.a, .int .i16 c.b], 26)] ((w.alloc (.cells #[.int .i16 c.a, .int .i16 c.b] 26)).alloc (.cells #[.int .i16 d.a, .int .i16 d.b] 26))) := hid ((((Kept.nil w).push _ _).push _ _).sub (by simp))
  have HC : Hid (∀ w9, Kept w [(w.heap.size + 1, #[.int .i16 d.a, .int .i16 d.b], 26), (w.heap.size, #[.int .i16 c.a, .int .i16 c.b], 26)] w9 → Calls Tryd.prog 56 #[.slice (some ⟨w.heap.size, 0, none⟩) 2 2, .slice (some ⟨w.heap.size + 1, 0, none⟩) 2 2] w9 fun e w' => e = .returned (.int .i64 (lexI c d)) ∧ w9 = w') := hid fun w9 k =>
    have ra := k.at (x := (w.heap.size, #[.int .i16 c.a, .int .i16 c.b], 26)) (by simp)
    have rb := k.at (x := (w.heap.size + 1, #[.int .i16 d.a, .int .i16 d.b], 26)) (by simp)
    iCmpS c d _ _ w9 ((cell_of_row w9 _ 0 _ _ _ ra).trans rfl) ((cell_of_row w9 _ 1 _ _ _ ra).trans rfl) ((cell_of_row w9 _ 0 _ _ _ rb).trans rfl) ((cell_of_row w9 _ 1 _ _ _ rb).trans rfl)
  go_enter Tryd.func43, Tryd.ntmps43
  go_wp2_with fail
  generalize ((w.alloc (.cells #[.int .i16 c.a, .int .i16 c.b] 26)).alloc (.cells #[.int .i16 d.a, .int .i16 d.b] 26)) = w1 at k0 ⊢
  go_quiet ((go_at_call 56; exact Calls.quiet_of_same (back (HC.out _ (kept_drewK k0.out _)))))
  go_wp2
  go_ret
  exact ⟨rfl, (kept_drewK k0.out nq).1⟩

theorem ixs (a b : Int) (w : World) :
    (Instr.index 26 (.agg #[.int .i16 a, .int .i16 b]) (.int .i64 0)).run Tryd.prog w = .ok (.int .i16 a) w ∧ (Instr.index 26 (.agg #[.int .i16 a, .int .i16 b]) (.int .i64 1)).run Tryd.prog w = .ok (.int .i16 b) w :=
  ⟨run_index_vls Tryd.underlying26 Tryd.underlying23 rfl info_i16 2 (fun i => if i = 0 then .int .i16 a else .int .i16 b) 0 (by omega) (by omega) w,
    run_index_vls Tryd.underlying26 Tryd.underlying23 rfl info_i16 2 (fun i => if i = 0 then .int .i16 a else .int .i16 b) 1 (by omega) (by omega) w⟩

set_option maxRecDepth 100000 in
set_option maxHeartbeats 1000000 in
theorem iValidCell (c : E4) (hq : c.q < 4294967296) (r : Bool) (h : r = true ↔ OkC c) (w : World) :
    Calls Tryd.prog 42 #[.agg #[.int .i16 c.a, .int .i16 c.b, .float .f32 c.q, .int .i64 c.s]] w fun e w' => e = .returned (.bool r) ∧ Below w.heap.size w w' := by
  have H := hid h
  have HQ := hid hq
  have no : Hid (¬ OkC c → r = false) := hid fun hn => by
    cases r with
    | true => exact absurd (h.1 rfl) hn
    | false => rfl
  have k0 : Hid (Kept w [(w.heap.size, #[.int .i16 c.a, .int .i16 c.b, .float .f32 c.q, .int .i64 c.s], 29)] (w.alloc (.cells #[.int .i16 c.a, .int .i16 c.b, .float .f32 c.q, .int .i64 c.s] 29))) := hid ((Kept.nil w).push _ _)
  clear h hq
  have x0 := fun w => (ixs c.a c.b w).1
  have x1 := fun w => (ixs c.a c.b w).2
  go_enter Tryd.func42, Tryd.ntmps42
  go_wp2_with (refine wpList_load_cut rfl 26 _ rfl w.heap.size 0 rfl _ _ (k0.out.at (x := (w.heap.size, #[.int .i16 c.a, .int .i16 c.b, .float .f32 c.q, .int .i64 c.s], 29)) (by simp)) [.int .i16 c.a, .int .i16 c.b] rfl _ Tryd.underlying26 rfl info_spot ?_)
  generalize (w.alloc (.cells #[.int .i16 c.a, .int .i16 c.b, .float .f32 c.q, .int .i64 c.s] 29)) = w1 at k0 ⊢
  go_loopw [7] (fun i wr => w1 = wr ∧ ((i = .int .i64 0) ∨ (i = .int .i64 1 ∧ Hid (InK c.a)) ∨ (i = .int .i64 2 ∧ Hid (InK c.a) ∧ Hid (InK c.b)))) (fun i _ => 2 - (intOf i).toNat)
  case atStart => exact ⟨rfl, .inl rfl⟩
  case round =>
    obtain ⟨rfl, hc⟩ := hrel
    rcases hc with rfl | ⟨rfl, hz⟩ | ⟨rfl, hz, hz2⟩
    · by_cases h1 : InK c.a
      · obtain ⟨h2, h3⟩ := id h1
        have g2 : ¬ c.a < -1000 := by omega
        have g3 : ¬ 1000 < c.a := by omega
        have H1 := hid h1
        clear h1 h2 h3
        go_wp2
        go_roundw
        case rel => exact ⟨trivial, .inr (.inl ⟨by go_num, H1⟩)⟩
        case measure => simp [intOf]
      · have e := hid (no.out fun h => h1 h.1)
        have h2 : c.a < -1000 ∨ (¬ c.a < -1000 ∧ 1000 < c.a) := by unfold InK at h1; omega
        clear h1
        rcases h2 with h2 | ⟨h2, h3⟩
        all_goals
          go_wp2
          go_ret
          exact ⟨by rw [e.out]; rfl, k0.out.1⟩
    · by_cases h1 : InK c.b
      · obtain ⟨h2, h3⟩ := id h1
        have g2 : ¬ c.b < -1000 := by omega
        have g3 : ¬ 1000 < c.b := by omega
        have H1 := hid h1
        clear h1 h2 h3
        go_wp2
        go_roundw
        case rel => exact ⟨trivial, .inr (.inr ⟨by go_num, hz, H1⟩)⟩
        case measure => simp [intOf]
      · have e := hid (no.out fun h => h1 h.2.1)
        have h2 : c.b < -1000 ∨ (¬ c.b < -1000 ∧ 1000 < c.b) := by unfold InK at h1; omega
        clear h1
        rcases h2 with h2 | ⟨h2, h3⟩
        all_goals
          go_wp2
          go_ret
          exact ⟨by rw [e.out]; rfl, k0.out.1⟩
    · have ra := k0.out.at (x := (w.heap.size, #[.int .i16 c.a, .int .i16 c.b, .float .f32 c.q, .int .i64 c.s], 29)) (by simp)
      have c2 : w1.cell? ⟨w.heap.size, 2, none⟩ = some (.float .f32 c.q) := (cell_of_row w1 _ 2 _ _ _ ra).trans rfl
      have c3 : w1.cell? ⟨w.heap.size, 3, none⟩ = some (.int .i64 c.s) := (cell_of_row w1 _ 3 _ _ _ ra).trans rfl
      clear ra
      rcases ha : amtB c.q with _ | _
      · have e := hid (no.out fun h => by have := h.2.2.1; rw [ha] at this; cases this)
        have HA := hid ha
        clear ha
        go_wp2_with fail
        refine (isAmount_f _ HQ.out HA.out _).mono ?_
        rintro e9 w2 ⟨rfl, hb2⟩
        have k2 := hid (k0.out.stay hb2)
        go_wp2
        go_ret
        exact ⟨by rw [e.out]; rfl, k2.out.1⟩
      · by_cases h1 : 1 ≤ c.s
        · by_cases h2 : c.s ≤ 1000000
          · have e := hid (H.out.2 ⟨hz.out, hz2.out, ha, h1, h2⟩)
            have HA := hid ha
            clear ha
            go_wp2_with fail
            refine (isAmount_t _ HA.out _).mono ?_
            rintro e9 w2 ⟨rfl, rfl⟩
            go_wp2
            go_ret
            exact ⟨by rw [e.out]; first | rfl | (simp; done) | (simp; omega), k0.out.1⟩
          · have e := hid (no.out fun h => h2 h.2.2.2.2)
            have HA := hid ha
            clear ha
            go_wp2_with fail
            refine (isAmount_t _ HA.out _).mono ?_
            rintro e9 w2 ⟨rfl, rfl⟩
            go_wp2
            go_ret
            exact ⟨by rw [e.out]; first | rfl | (simp; done) | (simp; omega), k0.out.1⟩
        · have e := hid (no.out fun h => h1 h.2.2.2.1)
          have HA := hid ha
          clear ha
          go_wp2_with fail
          refine (isAmount_t _ HA.out _).mono ?_
          rintro e9 w2 ⟨rfl, rfl⟩
          go_wp2
          go_ret
          exact ⟨by rw [e.out]; first | rfl | (simp; done) | (simp; omega), k0.out.1⟩

def MapP (n : Nat) (x : Nat → E4) : Prop := ∀ i, i < n → OkC (x i) ∧ (i = 0 ∨ Bef (x (i - 1)) (x i))

theorem MapP.step {k : Nat} {x : Nat → E4} (h : MapP k x) (h1 : OkC (x k)) (h2 : k = 0 ∨ Bef (x (k - 1)) (x k)) : MapP (k + 1) x := fun i hi => by
  rcases Nat.lt_or_eq_of_le (Nat.le_of_lt_succ hi) with h3 | rfl
  · exact h i h3
  · exact ⟨h1, h2⟩

theorem l00In_q (n a b : Int) (w : World) :
    Calls Tryd.prog 39 #[.int .i64 n, .int .i64 a, .int .i64 b] w fun e w' => e = .returned (.bool (decide (a ≤ n ∧ n ≤ b))) ∧ w = w' := by
  by_cases h : a ≤ n ∧ n ≤ b
  · rw [decide_eq_true h]; exact l00In_t n a b h.1 h.2 w
  · rw [decide_eq_false h]; exact l00In_f n a b h w

set_option maxRecDepth 100000 in
set_option maxHeartbeats 2000000 in
theorem sMap (s : Value) (n : Nat) (x : Nat → E4) (hx : ∀ k, (x k).ok) (r : Bool) (h : r = true ↔ MapP n x ∧ n ≤ 400) (w : World) (hs : RdE w s n x) (hn : n ≤ 1048576) :
    Calls Tryd.prog 21 #[s] w fun e w' => e = .returned (.bool r) ∧ Below w.heap.size w w' := by
  obtain ⟨p, cap, rfl, hc⟩ := hs
  have HC := hid hc
  have HX := hid hx
  have HN := hid hn
  have H := hid h
  have no : Hid (¬ MapP n x → r = false) := hid fun hn => by
    cases r with
    | true => exact absurd (h.1 rfl).1 hn
    | false => rfl
  clear hc hx h hn
  go_enter Tryd.func21, Tryd.ntmps21
  go_wp2_with fail
  go_loopw [3] (fun i wr => ∃ k : Nat, k ≤ n ∧ i = .int .i64 k ∧ Hid (Kept w [] wr) ∧ Hid (MapP k x)) (fun i _ => n - (intOf i).toNat)
  case atStart => exact ⟨0, by omega, rfl, hid (Kept.nil w), hid fun i hi => absurd hi (Nat.not_lt_zero _)⟩
  case round =>
    obtain ⟨k, hk, rfl, h0, hm⟩ := hrel
    by_cases hlt : k < n
    · have hn9 := HN.out
      have hk3 : (k : Int) < (n : Int) := by omega
      obtain ⟨b, o, rfl, hcell⟩ := HC.out (by omega)
      have HK := hid hlt
      have R0 := hid (range_stay (hcell k hlt) rfl h0.out.1)
      obtain ⟨c0, c1, c2, c3⟩ := range_cells R0.out
      obtain ⟨hq, ⟨ba1, ba2⟩, bb1, bb2⟩ := HX.out k
      have i1 := fun w => run_indexAt (P := Tryd.prog) (t := 32) (e := 29) Tryd.underlying32 info_cell (b := b) (o := o) (n := n) (cap := cap) (k := k) hlt w
      have HQ := hid hq
      have wa : wrap64 (x k).a = (x k).a := by unfold wrap64; omega
      have wb : wrap64 (x k).b = (x k).b := by unfold wrap64; omega
      have RC := hid (fun i (hi : i < n) wq (hb : Below w.heap.size w wq) => range_stay (hcell i hi) rfl hb)
      clear hcell hq
      by_cases hok : OkC (x k)
      · obtain ⟨g1, g2, g3, g4, g5⟩ := id hok
        have d1 : decide (-1000 ≤ (x k).a ∧ (x k).a ≤ 1000) = true := decide_eq_true g1
        have d2 : decide (-1000 ≤ (x k).b ∧ (x k).b ≤ 1000) = true := decide_eq_true g2
        have d3 : decide (1 ≤ (x k).s ∧ (x k).s ≤ 1000000) = true := decide_eq_true ⟨g4, g5⟩
        have OK := hid hok
        have G3 := hid g3
        clear hok g1 g2 g3 g4 g5
        go_wp2_with fail
        refine (l00In_q _ _ _ _).mono ?_
        rintro e w2 ⟨rfl, rfl⟩
        go_wp2_with fail
        refine (l00In_q _ _ _ _).mono ?_
        rintro e w2 ⟨rfl, rfl⟩
        go_wp2_with fail
        refine (sAmount_t _ G3.out _).mono ?_
        rintro e w2 ⟨rfl, rfl⟩
        go_wp2_with fail
        refine (l00In_q _ _ _ _).mono ?_
        rintro e w2 ⟨rfl, rfl⟩
        rcases Nat.eq_zero_or_pos k with rfl | hp
        · go_wp2_with fail
          go_quiet (fail)
          go_wp2
          go_roundw
          case rel => exact ⟨1, by omega, by go_num, hid (kept_drewK h0.out nq), hid (hm.out.step OK.out (.inl rfl))⟩
          case measure => simp [intOf]; omega
        · obtain ⟨m, rfl⟩ : ∃ m, k = m + 1 := ⟨k - 1, by omega⟩
          have hm1 : 0 < (m : Int) + 1 := by omega
          have hm2 : wrap64 ((m : Int) + 1 - 1) = (m : Int) := by unfold wrap64; omega
          have hm3 : IntKind.i64.wrap (m : Int) = (m : Int) := by rw [IntKind.wrap_i64]; omega
          have HM := hid (show m < n by omega)
          have R1 := hid (RC.out (m + 1) HK.out)
          have R2 := hid (RC.out m HM.out)
          simp only [Int.natCast_add, Int.natCast_one]
          by_cases hb : Bef (x m) (x (m + 1))
          · have HB := hid (fun w => by have := sBefore (x m) (x (m + 1)) w; rw [decide_eq_true hb] at this; exact this)
            go_wp2_with fail
            refine region_kept (w0 := w) (l := []) 16 #[false, false, false, false, false, false, false, false, false, false, false, false, false, false, false, false] (by kernel_rfl) rfl rfl ?_
            have kd := h0.out.drew
            generalize World.drew _ = wd at kd ⊢
            refine take_val 0 _ _ (.int .i64 ((m : Int) + 1)) rfl (by rfl) (by kernel_rfl) (by kernel_rfl) (by kernel_rfl) (fun w => by rfl) rfl rfl kd ?_
            simp only [Act.put, List.setIfInBounds_toArray, List.set_cons_zero, List.set_cons_succ]
            refine take_val 1 _ _ (.bool true) rfl (by rfl) (by kernel_rfl) (by kernel_rfl) (by kernel_rfl) (fun w => by unfold execOp; go_simp) rfl rfl kd ?_
            simp only [Act.put, List.setIfInBounds_toArray, List.set_cons_zero, List.set_cons_succ]
            refine take_val 2 _ _ (.bool true) rfl (by rfl) (by kernel_rfl) (by kernel_rfl) (by kernel_rfl) (fun w => by rfl) rfl rfl kd ?_
            simp only [Act.put, List.setIfInBounds_toArray, List.set_cons_zero, List.set_cons_succ]
            refine take_val 3 _ _ (.slice (some ⟨b, o, none⟩) n cap) rfl (by rfl) (by kernel_rfl) (by kernel_rfl) (by kernel_rfl) (fun w => by rfl) rfl rfl kd ?_
            simp only [Act.put, List.setIfInBounds_toArray, List.set_cons_zero, List.set_cons_succ]
            refine take_val 4 _ _ (.int .i64 ((m : Int) + 1)) rfl (by rfl) (by kernel_rfl) (by kernel_rfl) (by kernel_rfl) (fun w => by rfl) rfl rfl kd ?_
            simp only [Act.put, List.setIfInBounds_toArray, List.set_cons_zero, List.set_cons_succ]
            refine take_val 5 _ _ (.int .i64 (m : Int)) rfl (by rfl) (by kernel_rfl) (by kernel_rfl) (by kernel_rfl) (fun w => by unfold execOp; go_simp) rfl rfl kd ?_
            simp only [Act.put, List.setIfInBounds_toArray, List.set_cons_zero, List.set_cons_succ]
            refine take_val 6 _ _ (.pointer (some ⟨b, o + m * 4, none⟩)) rfl (by rfl) (by kernel_rfl) (by kernel_rfl) (by kernel_rfl) (fun w => run_index_op _ _ rfl rfl (run_indexAt Tryd.underlying32 info_cell HM.out w)) rfl rfl kd ?_
            simp only [Act.put, List.setIfInBounds_toArray, List.set_cons_zero, List.set_cons_succ]
            refine take_val 7 _ _ (.pointer (some ⟨b, o + m * 4, none⟩)) rfl (by rfl) (by kernel_rfl) (by kernel_rfl) (by kernel_rfl) (fun w => by unfold execOp; go_simp) rfl rfl kd ?_
            simp only [Act.put, List.setIfInBounds_toArray, List.set_cons_zero, List.set_cons_succ]
            refine take_cell 8 _ _ (.agg #[.int .i16 (x m).a, .int .i16 (x m).b]) rfl (by rfl) (by kernel_rfl) (by kernel_rfl) (by kernel_rfl) (fun wq hS => run_load_mid 26 _ b (o + m * 4) [.int .i16 (x m).a, .int .i16 (x m).b] rfl (range_two (R2.out _ hS.1)) _ Tryd.underlying26 rfl info_spot) rfl rfl kd ?_
            simp only [Act.put, List.setIfInBounds_toArray, List.set_cons_zero, List.set_cons_succ]
            refine take_val 9 _ _ (.pointer (some ⟨b, o + (m + 1) * 4, none⟩)) rfl (by rfl) (by kernel_rfl) (by kernel_rfl) (by kernel_rfl) (fun w => by rfl) rfl rfl kd ?_
            simp only [Act.put, List.setIfInBounds_toArray, List.set_cons_zero, List.set_cons_succ]
            refine take_val 10 _ _ (.pointer (some ⟨b, o + (m + 1) * 4, none⟩)) rfl (by rfl) (by kernel_rfl) (by kernel_rfl) (by kernel_rfl) (fun w => by unfold execOp; go_simp) rfl rfl kd ?_
            simp only [Act.put, List.setIfInBounds_toArray, List.set_cons_zero, List.set_cons_succ]
            refine take_val 11 _ _ (.pointer (some ⟨b, o + (m + 1) * 4, none⟩)) rfl (by rfl) (by kernel_rfl) (by kernel_rfl) (by kernel_rfl) (fun w => by unfold execOp; go_simp) rfl rfl kd ?_
            simp only [Act.put, List.setIfInBounds_toArray, List.set_cons_zero, List.set_cons_succ]
            refine take_cell 12 _ _ (.agg #[.int .i16 (x (m + 1)).a, .int .i16 (x (m + 1)).b]) rfl (by rfl) (by kernel_rfl) (by kernel_rfl) (by kernel_rfl) (fun wq hS => run_load_mid 26 _ b (o + (m + 1) * 4) [.int .i16 (x (m + 1)).a, .int .i16 (x (m + 1)).b] rfl (range_two (R1.out _ hS.1)) _ Tryd.underlying26 rfl info_spot) rfl rfl kd ?_
            simp only [Act.put, List.setIfInBounds_toArray, List.set_cons_zero, List.set_cons_succ]
            refine wpAnyH_ready (rs := [13]) (by kernel_rfl) (by simp) ?_
            refine callK 13 _ _ (.bool true) kd rfl (by rfl) 41 #[.agg #[.int .i16 (x m).a, .int .i16 (x m).b], .agg #[.int .i16 (x (m + 1)).a, .int .i16 (x (m + 1)).b]] (fun w => by unfold execOp; go_simp) rfl rfl ?hc1 (fun w1 k1 => ?_) AllReadyH.nil
            case hc1 => exact HB.out _
            refine ⟨k1, ?_⟩
            simp only [Act.put, List.setIfInBounds_toArray, List.set_cons_zero, List.set_cons_succ]
            refine take_val 14 _ _ (.bool false) rfl (by rfl) (by kernel_rfl) (by kernel_rfl) (by kernel_rfl) (fun w => by unfold execOp; go_simp) rfl rfl k1 ?_
            simp only [Act.put, List.setIfInBounds_toArray, List.set_cons_zero, List.set_cons_succ]
            refine take_val 15 _ _ (.bool false) rfl (by rfl) (by kernel_rfl) (by kernel_rfl) (by kernel_rfl) (fun w => by unfold execOp; go_simp) rfl rfl k1 ?_
            simp only [Act.put, List.setIfInBounds_toArray, List.set_cons_zero, List.set_cons_succ]
            refine wpAnyH_done (by kernel_rfl) (NoPanic.normal ?_) _
            go_wp2
            go_roundw
            case rel => exact ⟨m + 1 + 1, by omega, by go_num, hid k1, hid (hm.out.step OK.out (.inr hb))⟩
            case measure => simp [intOf]; omega
          · have HB := hid (fun w => by have := sBefore (x m) (x (m + 1)) w; rw [decide_eq_false hb] at this; exact this)
            have e := hid (no.out fun h => by have := (h (m + 1) HK.out).2; rcases this with h1 | h1; omega; exact hb h1)
            go_wp2_with fail
            refine region_kept (w0 := w) (l := []) 16 #[false, false, false, false, false, false, false, false, false, false, false, false, false, false, false, false] (by kernel_rfl) rfl rfl ?_
            have kd := h0.out.drew
            generalize World.drew _ = wd at kd ⊢
            refine take_val 0 _ _ (.int .i64 ((m : Int) + 1)) rfl (by rfl) (by kernel_rfl) (by kernel_rfl) (by kernel_rfl) (fun w => by rfl) rfl rfl kd ?_
            simp only [Act.put, List.setIfInBounds_toArray, List.set_cons_zero, List.set_cons_succ]
            refine take_val 1 _ _ (.bool true) rfl (by rfl) (by kernel_rfl) (by kernel_rfl) (by kernel_rfl) (fun w => by unfold execOp; go_simp) rfl rfl kd ?_
            simp only [Act.put, List.setIfInBounds_toArray, List.set_cons_zero, List.set_cons_succ]
            refine take_val 2 _ _ (.bool true) rfl (by rfl) (by kernel_rfl) (by kernel_rfl) (by kernel_rfl) (fun w => by rfl) rfl rfl kd ?_
            simp only [Act.put, List.setIfInBounds_toArray, List.set_cons_zero, List.set_cons_succ]
            refine take_val 3 _ _ (.slice (some ⟨b, o, none⟩) n cap) rfl (by rfl) (by kernel_rfl) (by kernel_rfl) (by kernel_rfl) (fun w => by rfl) rfl rfl kd ?_
            simp only [Act.put, List.setIfInBounds_toArray, List.set_cons_zero, List.set_cons_succ]
            refine take_val 4 _ _ (.int .i64 ((m : Int) + 1)) rfl (by rfl) (by kernel_rfl) (by kernel_rfl) (by kernel_rfl) (fun w => by rfl) rfl rfl kd ?_
            simp only [Act.put, List.setIfInBounds_toArray, List.set_cons_zero, List.set_cons_succ]
            refine take_val 5 _ _ (.int .i64 (m : Int)) rfl (by rfl) (by kernel_rfl) (by kernel_rfl) (by kernel_rfl) (fun w => by unfold execOp; go_simp) rfl rfl kd ?_
            simp only [Act.put, List.setIfInBounds_toArray, List.set_cons_zero, List.set_cons_succ]
            refine take_val 6 _ _ (.pointer (some ⟨b, o + m * 4, none⟩)) rfl (by rfl) (by kernel_rfl) (by kernel_rfl) (by kernel_rfl) (fun w => run_index_op _ _ rfl rfl (run_indexAt Tryd.underlying32 info_cell HM.out w)) rfl rfl kd ?_
            simp only [Act.put, List.setIfInBounds_toArray, List.set_cons_zero, List.set_cons_succ]
            refine take_val 7 _ _ (.pointer (some ⟨b, o + m * 4, none⟩)) rfl (by rfl) (by kernel_rfl) (by kernel_rfl) (by kernel_rfl) (fun w => by unfold execOp; go_simp) rfl rfl kd ?_
            simp only [Act.put, List.setIfInBounds_toArray, List.set_cons_zero, List.set_cons_succ]
            refine take_cell 8 _ _ (.agg #[.int .i16 (x m).a, .int .i16 (x m).b]) rfl (by rfl) (by kernel_rfl) (by kernel_rfl) (by kernel_rfl) (fun wq hS => run_load_mid 26 _ b (o + m * 4) [.int .i16 (x m).a, .int .i16 (x m).b] rfl (range_two (R2.out _ hS.1)) _ Tryd.underlying26 rfl info_spot) rfl rfl kd ?_
            simp only [Act.put, List.setIfInBounds_toArray, List.set_cons_zero, List.set_cons_succ]
            refine take_val 9 _ _ (.pointer (some ⟨b, o + (m + 1) * 4, none⟩)) rfl (by rfl) (by kernel_rfl) (by kernel_rfl) (by kernel_rfl) (fun w => by rfl) rfl rfl kd ?_
            simp only [Act.put, List.setIfInBounds_toArray, List.set_cons_zero, List.set_cons_succ]
            refine take_val 10 _ _ (.pointer (some ⟨b, o + (m + 1) * 4, none⟩)) rfl (by rfl) (by kernel_rfl) (by kernel_rfl) (by kernel_rfl) (fun w => by unfold execOp; go_simp) rfl rfl kd ?_
            simp only [Act.put, List.setIfInBounds_toArray, List.set_cons_zero, List.set_cons_succ]
            refine take_val 11 _ _ (.pointer (some ⟨b, o + (m + 1) * 4, none⟩)) rfl (by rfl) (by kernel_rfl) (by kernel_rfl) (by kernel_rfl) (fun w => by unfold execOp; go_simp) rfl rfl kd ?_
            simp only [Act.put, List.setIfInBounds_toArray, List.set_cons_zero, List.set_cons_succ]
            refine take_cell 12 _ _ (.agg #[.int .i16 (x (m + 1)).a, .int .i16 (x (m + 1)).b]) rfl (by rfl) (by kernel_rfl) (by kernel_rfl) (by kernel_rfl) (fun wq hS => run_load_mid 26 _ b (o + (m + 1) * 4) [.int .i16 (x (m + 1)).a, .int .i16 (x (m + 1)).b] rfl (range_two (R1.out _ hS.1)) _ Tryd.underlying26 rfl info_spot) rfl rfl kd ?_
            simp only [Act.put, List.setIfInBounds_toArray, List.set_cons_zero, List.set_cons_succ]
            refine wpAnyH_ready (rs := [13]) (by kernel_rfl) (by simp) ?_
            refine callK 13 _ _ (.bool false) kd rfl (by rfl) 41 #[.agg #[.int .i16 (x m).a, .int .i16 (x m).b], .agg #[.int .i16 (x (m + 1)).a, .int .i16 (x (m + 1)).b]] (fun w => by unfold execOp; go_simp) rfl rfl ?hc1 (fun w1 k1 => ?_) AllReadyH.nil
            case hc1 => exact HB.out _
            refine ⟨k1, ?_⟩
            simp only [Act.put, List.setIfInBounds_toArray, List.set_cons_zero, List.set_cons_succ]
            refine take_val 14 _ _ (.bool true) rfl (by rfl) (by kernel_rfl) (by kernel_rfl) (by kernel_rfl) (fun w => by unfold execOp; go_simp) rfl rfl k1 ?_
            simp only [Act.put, List.setIfInBounds_toArray, List.set_cons_zero, List.set_cons_succ]
            refine take_val 15 _ _ (.bool true) rfl (by rfl) (by kernel_rfl) (by kernel_rfl) (by kernel_rfl) (fun w => by unfold execOp; go_simp) rfl rfl k1 ?_
            simp only [Act.put, List.setIfInBounds_toArray, List.set_cons_zero, List.set_cons_succ]
            refine wpAnyH_done (by kernel_rfl) (NoPanic.normal ?_) _
            go_wp2
            go_ret
            exact ⟨by rw [e.out]; rfl, k1.1⟩
      · have e := hid (no.out fun h => hok (h k hlt).1)
        by_cases g1 : InK (x k).a
        · have d1 : decide (-1000 ≤ (x k).a ∧ (x k).a ≤ 1000) = true := decide_eq_true g1
          by_cases g2 : InK (x k).b
          · have d2 : decide (-1000 ≤ (x k).b ∧ (x k).b ≤ 1000) = true := decide_eq_true g2
            rcases g3 : amtB (x k).q with _ | _
            · have G3 := hid g3
              clear hok g1 g2 g3
              go_wp2_with fail
              refine (l00In_q _ _ _ _).mono ?_
              rintro e9 w2 ⟨rfl, rfl⟩
              go_wp2_with fail
              refine (l00In_q _ _ _ _).mono ?_
              rintro e9 w2 ⟨rfl, rfl⟩
              go_wp2_with fail
              refine (sAmount_f _ HQ.out G3.out _).mono ?_
              rintro e9 w2 ⟨rfl, hb2⟩
              have k2 := hid (h0.out.stay hb2)
              go_wp2
              go_ret
              exact ⟨by rw [e.out]; rfl, k2.out.1⟩
            · have d3 : decide (1 ≤ (x k).s ∧ (x k).s ≤ 1000000) = false := decide_eq_false fun h => hok ⟨g1, g2, g3, h.1, h.2⟩
              have G3 := hid g3
              clear hok g1 g2 g3
              go_wp2_with fail
              refine (l00In_q _ _ _ _).mono ?_
              rintro e9 w2 ⟨rfl, rfl⟩
              go_wp2_with fail
              refine (l00In_q _ _ _ _).mono ?_
              rintro e9 w2 ⟨rfl, rfl⟩
              go_wp2_with fail
              refine (sAmount_t _ G3.out _).mono ?_
              rintro e9 w2 ⟨rfl, rfl⟩
              go_wp2_with fail
              refine (l00In_q _ _ _ _).mono ?_
              rintro e9 w2 ⟨rfl, rfl⟩
              rw [d3]
              go_wp2
              go_ret
              exact ⟨by rw [e.out]; rfl, h0.out.1⟩
          · have d2 : decide (-1000 ≤ (x k).b ∧ (x k).b ≤ 1000) = false := decide_eq_false g2
            clear hok g1 g2
            go_wp2_with fail
            refine (l00In_q _ _ _ _).mono ?_
            rintro e9 w2 ⟨rfl, rfl⟩
            go_wp2_with fail
            refine (l00In_q _ _ _ _).mono ?_
            rintro e9 w2 ⟨rfl, rfl⟩
            rw [d2]
            go_wp2
            go_ret
            exact ⟨by rw [e.out]; rfl, h0.out.1⟩
        · have d1 : decide (-1000 ≤ (x k).a ∧ (x k).a ≤ 1000) = false := decide_eq_false g1
          clear hok g1
          go_wp2_with fail
          refine (l00In_q _ _ _ _).mono ?_
          rintro e9 w2 ⟨rfl, rfl⟩
          rw [d1]
          go_wp2
          go_ret
          exact ⟨by rw [e.out]; rfl, h0.out.1⟩
    · obtain rfl : k = n := by omega
      have hk3 : ¬ (k : Int) < (k : Int) := by omega
      by_cases h4 : k ≤ 400
      · have h5 : (k : Int) ≤ 400 := by omega
        have e := hid (H.out.2 ⟨hm.out, h4⟩)
        clear hlt h4
        go_wp2
        go_ret
        exact ⟨by rw [e.out]; first | rfl | (simp; done) | (simp; omega), h0.out.1⟩
      · have h5 : ¬ (k : Int) ≤ 400 := by omega
        have e : Hid (r = false) := hid (by
          cases r with
          | true => exact absurd (H.out.1 rfl).2 h4
          | false => rfl)
        clear hlt h4
        go_wp2
        go_ret
        exact ⟨by rw [e.out]; first | rfl | (simp; done) | (simp; omega), h0.out.1⟩

set_option maxRecDepth 100000 in
set_option maxHeartbeats 4000000 in
theorem iMap (s : Value) (n : Nat) (x : Nat → E4) (hx : ∀ k, (x k).ok) (r : Bool) (h : r = true ↔ MapP n x ∧ n ≤ 400) (w : World) (hs : RdE w s n x) (hn : n ≤ 1048576) :
    Calls Tryd.prog 24 #[s] w fun e w' => e = .returned (.bool r) ∧ Below w.heap.size w w' := by
  obtain ⟨p, cap, rfl, hc⟩ := hs
  by_cases h4 : n ≤ 400
  · have HC := hid hc
    have HX := hid hx
    have HN := hid hn
    have H := hid h
    have no : Hid (¬ MapP n x → r = false) := hid fun hn => by
      cases r with
      | true => exact absurd (h.1 rfl).1 hn
      | false => rfl
    have h5 : ¬ 400 < (n : Int) := by omega
    have H4 := hid h4
    clear hc hx h hn h4
    go_enter Tryd.func24, Tryd.ntmps24
    go_wp2_with fail
    clear h5
    go_loopw [10] (fun i wr => ∃ k : Nat, k ≤ n ∧ i = .int .i64 k ∧ Hid (Kept w [] wr) ∧ Hid (MapP k x)) (fun i _ => n - (intOf i).toNat)
    case atStart => exact ⟨0, by omega, rfl, hid (Kept.nil w), hid fun i hi => absurd hi (Nat.not_lt_zero _)⟩
    case round =>
      obtain ⟨k, hk, rfl, h0, hm⟩ := hrel
      by_cases hlt : k < n
      · have hn9 := HN.out
        have hk3 : (k : Int) < (n : Int) := by omega
        obtain ⟨b, o, rfl, hcell⟩ := HC.out (by omega)
        have HK := hid hlt
        have R0 := hid (range_stay (hcell k hlt) rfl h0.out.1)
        have hq := (HX.out k).1
        have i1 := fun w => run_indexAt (P := Tryd.prog) (t := 32) (e := 29) Tryd.underlying32 info_cell (b := b) (o := o) (n := n) (cap := cap) (k := k) hlt w
        have HQ := hid hq
        have RC := hid (fun i (hi : i < n) wq (hb : Below w.heap.size w wq) => range_stay (hcell i hi) rfl hb)
        have K4 := hid (h0.out.push #[.int .i16 (x k).a, .int .i16 (x k).b, .float .f32 (x k).q, .int .i64 (x k).s] 29)
        clear hcell hq
        go_wp2_with (refine wpList_load_mid rfl 29 _ rfl b (o + k * 4) rfl [.int .i16 (x k).a, .int .i16 (x k).b, .float .f32 (x k).q, .int .i64 (x k).s] _ R0.out Tryd.underlying29 rfl info_cell ?_)
        generalize hg4 : wr.heap.size = g4 at K4 ⊢
        generalize wr.alloc (.cells #[.int .i16 (x k).a, .int .i16 (x k).b, .float .f32 (x k).q, .int .i64 (x k).s] 29) = w4 at K4 ⊢
        clear hg4
        by_cases hok : OkC (x k)
        · have OK := hid hok
          clear hok
          have HV := hid (fun w => iValidCell (x k) HQ.out true ⟨fun _ => OK.out, fun _ => rfl⟩ w)
          rcases Nat.eq_zero_or_pos k with rfl | hp
          · skip
            refine region_kept (w0 := w) (l := [(g4, #[.int .i16 (x 0).a, .int .i16 (x 0).b, .float .f32 (x 0).q, .int .i64 (x 0).s], 29)]) 19 #[false, false, false, false, false, false, false, false, false, false, false, false, false, false, false, false, false, false, false] (by kernel_rfl) rfl rfl ?_
            have kd := K4.out.drew
            generalize World.drew _ = wd at kd ⊢
            refine take_cell 0 _ _ (.agg #[.int .i16 (x 0).a, .int .i16 (x 0).b, .float .f32 (x 0).q, .int .i64 (x 0).s]) rfl (by rfl) (by kernel_rfl) (by kernel_rfl) (by kernel_rfl) (fun wq hS => run_load_mid 29 _ g4 0 (e4 (x 0)) rfl (range_part (hS.at (x := (g4, #[.int .i16 (x 0).a, .int .i16 (x 0).b, .float .f32 (x 0).q, .int .i64 (x 0).s], 29)) (by simp)) 0 (e4 (x 0)) rfl) _ Tryd.underlying29 rfl info_cell) rfl rfl kd ?_
            simp only [Act.put, List.setIfInBounds_toArray, List.set_cons_zero, List.set_cons_succ]
            refine wpAnyH_ready (rs := [1]) (by kernel_rfl) (by simp) ?_
            refine callK 1 _ _ (.bool true) kd rfl (by rfl) 42 #[.agg #[.int .i16 (x 0).a, .int .i16 (x 0).b, .float .f32 (x 0).q, .int .i64 (x 0).s]] (fun w => by unfold execOp; go_simp) rfl rfl ?hc1 (fun w1 k1 => ?_) AllReadyH.nil
            case hc1 => exact HV.out _
            refine ⟨k1, ?_⟩
            simp only [Act.put, List.setIfInBounds_toArray, List.set_cons_zero, List.set_cons_succ]
            refine take_val 2 _ _ (.bool false) rfl (by rfl) (by kernel_rfl) (by kernel_rfl) (by kernel_rfl) (fun w => by unfold execOp; go_simp) rfl rfl k1 ?_
            simp only [Act.put, List.setIfInBounds_toArray, List.set_cons_zero, List.set_cons_succ]
            refine take_val 3 _ _ (.bool false) rfl (by rfl) (by kernel_rfl) (by kernel_rfl) (by kernel_rfl) (fun w => by rfl) rfl rfl k1 ?_
            simp only [Act.put, List.setIfInBounds_toArray, List.set_cons_zero, List.set_cons_succ]
            refine take_val 4 _ _ (.int .i64 0) rfl (by rfl) (by kernel_rfl) (by kernel_rfl) (by kernel_rfl) (fun w => by rfl) rfl rfl k1 ?_
            simp only [Act.put, List.setIfInBounds_toArray, List.set_cons_zero, List.set_cons_succ]
            refine take_val 5 _ _ (.bool false) rfl (by rfl) (by kernel_rfl) (by kernel_rfl) (by kernel_rfl) (fun w => by unfold execOp; go_simp) rfl rfl k1 ?_
            simp only [Act.put, List.setIfInBounds_toArray, List.set_cons_zero, List.set_cons_succ]
            refine take_val 6 _ _ (.bool false) rfl (by rfl) (by kernel_rfl) (by kernel_rfl) (by kernel_rfl) (fun w => by rfl) rfl rfl k1 ?_
            simp only [Act.put, List.setIfInBounds_toArray, List.set_cons_zero, List.set_cons_succ]
            refine take_skip 7 _ _ rfl (by kernel_rfl) (by kernel_rfl) (by kernel_rfl) (by kernel_rfl) rfl rfl k1 ?_
            simp only [Act.put, List.setIfInBounds_toArray, List.set_cons_zero, List.set_cons_succ]
            refine take_skip 8 _ _ rfl (by kernel_rfl) (by kernel_rfl) (by kernel_rfl) (by kernel_rfl) rfl rfl k1 ?_
            simp only [Act.put, List.setIfInBounds_toArray, List.set_cons_zero, List.set_cons_succ]
            refine take_skip 9 _ _ rfl (by kernel_rfl) (by kernel_rfl) (by kernel_rfl) (by kernel_rfl) rfl rfl k1 ?_
            simp only [Act.put, List.setIfInBounds_toArray, List.set_cons_zero, List.set_cons_succ]
            refine take_skip 10 _ _ rfl (by kernel_rfl) (by kernel_rfl) (by kernel_rfl) (by kernel_rfl) rfl rfl k1 ?_
            simp only [Act.put, List.setIfInBounds_toArray, List.set_cons_zero, List.set_cons_succ]
            refine take_skip 11 _ _ rfl (by kernel_rfl) (by kernel_rfl) (by kernel_rfl) (by kernel_rfl) rfl rfl k1 ?_
            simp only [Act.put, List.setIfInBounds_toArray, List.set_cons_zero, List.set_cons_succ]
            refine take_skip 12 _ _ rfl (by kernel_rfl) (by kernel_rfl) (by kernel_rfl) (by kernel_rfl) rfl rfl k1 ?_
            simp only [Act.put, List.setIfInBounds_toArray, List.set_cons_zero, List.set_cons_succ]
            refine take_skip 13 _ _ rfl (by kernel_rfl) (by kernel_rfl) (by kernel_rfl) (by kernel_rfl) rfl rfl k1 ?_
            simp only [Act.put, List.setIfInBounds_toArray, List.set_cons_zero, List.set_cons_succ]
            refine take_skip 14 _ _ rfl (by kernel_rfl) (by kernel_rfl) (by kernel_rfl) (by kernel_rfl) rfl rfl k1 ?_
            simp only [Act.put, List.setIfInBounds_toArray, List.set_cons_zero, List.set_cons_succ]
            refine take_skip 15 _ _ rfl (by kernel_rfl) (by kernel_rfl) (by kernel_rfl) (by kernel_rfl) rfl rfl k1 ?_
            simp only [Act.put, List.setIfInBounds_toArray, List.set_cons_zero, List.set_cons_succ]
            refine take_skip 16 _ _ rfl (by kernel_rfl) (by kernel_rfl) (by kernel_rfl) (by kernel_rfl) rfl rfl k1 ?_
            simp only [Act.put, List.setIfInBounds_toArray, List.set_cons_zero, List.set_cons_succ]
            refine take_val 17 _ _ (.bool false) rfl (by rfl) (by kernel_rfl) (by kernel_rfl) (by kernel_rfl) (fun w => by unfold execOp; go_simp) rfl rfl k1 ?_
            simp only [Act.put, List.setIfInBounds_toArray, List.set_cons_zero, List.set_cons_succ]
            refine take_val 18 _ _ (.bool false) rfl (by rfl) (by kernel_rfl) (by kernel_rfl) (by kernel_rfl) (fun w => by unfold execOp; go_simp) rfl rfl k1 ?_
            simp only [Act.put, List.setIfInBounds_toArray, List.set_cons_zero, List.set_cons_succ]
            refine wpAnyH_done (by kernel_rfl) (NoPanic.normal ?_) _
            go_wp2
            go_roundw
            case rel => exact ⟨1, by omega, by go_num, hid (k1.sub (by simp)), hid (hm.out.step OK.out (.inl rfl))⟩
            case measure => simp [intOf]; omega
          · obtain ⟨m, rfl⟩ : ∃ m, k = m + 1 := ⟨k - 1, by omega⟩
            have hm1 : 0 < (m : Int) + 1 := by omega
            have hm2 : wrap64 ((m : Int) + 1 - 1) = (m : Int) := by unfold wrap64; omega
            have hm3 : IntKind.i64.wrap (m : Int) = (m : Int) := by rw [IntKind.wrap_i64]; omega
            have HM := hid (show m < n by omega)
            have R2 := hid (RC.out m HM.out)
            simp only [Int.natCast_add, Int.natCast_one]
            by_cases hb : Bef (x m) (x (m + 1))
            · have hlx : ¬ 0 ≤ lexI (x m) (x (m + 1)) := fun h => (lex_bef _ _).1 h hb
              skip
              refine region_kept (w0 := w) (l := [(g4, #[.int .i16 (x (m + 1)).a, .int .i16 (x (m + 1)).b, .float .f32 (x (m + 1)).q, .int .i64 (x (m + 1)).s], 29)]) 19 #[false, false, false, false, false, false, false, false, false, false, false, false, false, false, false, false, false, false, false] (by kernel_rfl) rfl rfl ?_
              have kd := K4.out.drew
              generalize World.drew _ = wd at kd ⊢
              refine take_cell 0 _ _ (.agg #[.int .i16 (x (m + 1)).a, .int .i16 (x (m + 1)).b, .float .f32 (x (m + 1)).q, .int .i64 (x (m + 1)).s]) rfl (by rfl) (by kernel_rfl) (by kernel_rfl) (by kernel_rfl) (fun wq hS => run_load_mid 29 _ g4 0 (e4 (x (m + 1))) rfl (range_part (hS.at (x := (g4, #[.int .i16 (x (m + 1)).a, .int .i16 (x (m + 1)).b, .float .f32 (x (m + 1)).q, .int .i64 (x (m + 1)).s], 29)) (by simp)) 0 (e4 (x (m + 1))) rfl) _ Tryd.underlying29 rfl info_cell) rfl rfl kd ?_
              simp only [Act.put, List.setIfInBounds_toArray, List.set_cons_zero, List.set_cons_succ]
              refine wpAnyH_ready (rs := [1]) (by kernel_rfl) (by simp) ?_
              refine callK 1 _ _ (.bool true) kd rfl (by rfl) 42 #[.agg #[.int .i16 (x (m + 1)).a, .int .i16 (x (m + 1)).b, .float .f32 (x (m + 1)).q, .int .i64 (x (m + 1)).s]] (fun w => by unfold execOp; go_simp) rfl rfl ?hc1 (fun w1 k1 => ?_) AllReadyH.nil
              case hc1 => exact HV.out _
              refine ⟨k1, ?_⟩
              simp only [Act.put, List.setIfInBounds_toArray, List.set_cons_zero, List.set_cons_succ]
              refine take_val 2 _ _ (.bool false) rfl (by rfl) (by kernel_rfl) (by kernel_rfl) (by kernel_rfl) (fun w => by unfold execOp; go_simp) rfl rfl k1 ?_
              simp only [Act.put, List.setIfInBounds_toArray, List.set_cons_zero, List.set_cons_succ]
              refine take_val 3 _ _ (.bool false) rfl (by rfl) (by kernel_rfl) (by kernel_rfl) (by kernel_rfl) (fun w => by rfl) rfl rfl k1 ?_
              simp only [Act.put, List.setIfInBounds_toArray, List.set_cons_zero, List.set_cons_succ]
              refine take_val 4 _ _ (.int .i64 ((m : Int) + 1)) rfl (by rfl) (by kernel_rfl) (by kernel_rfl) (by kernel_rfl) (fun w => by rfl) rfl rfl k1 ?_
              simp only [Act.put, List.setIfInBounds_toArray, List.set_cons_zero, List.set_cons_succ]
              refine take_val 5 _ _ (.bool true) rfl (by rfl) (by kernel_rfl) (by kernel_rfl) (by kernel_rfl) (fun w => by unfold execOp; go_simp) rfl rfl k1 ?_
              simp only [Act.put, List.setIfInBounds_toArray, List.set_cons_zero, List.set_cons_succ]
              refine take_val 6 _ _ (.bool true) rfl (by rfl) (by kernel_rfl) (by kernel_rfl) (by kernel_rfl) (fun w => by rfl) rfl rfl k1 ?_
              simp only [Act.put, List.setIfInBounds_toArray, List.set_cons_zero, List.set_cons_succ]
              refine take_val 7 _ _ (.slice (some ⟨b, o, none⟩) n cap) rfl (by rfl) (by kernel_rfl) (by kernel_rfl) (by kernel_rfl) (fun w => by rfl) rfl rfl k1 ?_
              simp only [Act.put, List.setIfInBounds_toArray, List.set_cons_zero, List.set_cons_succ]
              refine take_val 8 _ _ (.int .i64 ((m : Int) + 1)) rfl (by rfl) (by kernel_rfl) (by kernel_rfl) (by kernel_rfl) (fun w => by rfl) rfl rfl k1 ?_
              simp only [Act.put, List.setIfInBounds_toArray, List.set_cons_zero, List.set_cons_succ]
              refine take_val 9 _ _ (.int .i64 (m : Int)) rfl (by rfl) (by kernel_rfl) (by kernel_rfl) (by kernel_rfl) (fun w => by unfold execOp; go_simp) rfl rfl k1 ?_
              simp only [Act.put, List.setIfInBounds_toArray, List.set_cons_zero, List.set_cons_succ]
              refine take_val 10 _ _ (.pointer (some ⟨b, o + m * 4, none⟩)) rfl (by rfl) (by kernel_rfl) (by kernel_rfl) (by kernel_rfl) (fun w => run_index_op _ _ rfl rfl (run_indexAt Tryd.underlying32 info_cell HM.out w)) rfl rfl k1 ?_
              simp only [Act.put, List.setIfInBounds_toArray, List.set_cons_zero, List.set_cons_succ]
              refine take_val 11 _ _ (.pointer (some ⟨b, o + m * 4, none⟩)) rfl (by rfl) (by kernel_rfl) (by kernel_rfl) (by kernel_rfl) (fun w => by unfold execOp; go_simp) rfl rfl k1 ?_
              simp only [Act.put, List.setIfInBounds_toArray, List.set_cons_zero, List.set_cons_succ]
              refine take_cell 12 _ _ (.agg #[.int .i16 (x m).a, .int .i16 (x m).b]) rfl (by rfl) (by kernel_rfl) (by kernel_rfl) (by kernel_rfl) (fun wq hS => run_load_mid 26 _ b (o + m * 4) [.int .i16 (x m).a, .int .i16 (x m).b] rfl (range_two (R2.out _ hS.1)) _ Tryd.underlying26 rfl info_spot) rfl rfl k1 ?_
              simp only [Act.put, List.setIfInBounds_toArray, List.set_cons_zero, List.set_cons_succ]
              refine take_val 13 _ _ (.pointer (some ⟨g4, 0, none⟩)) rfl (by rfl) (by kernel_rfl) (by kernel_rfl) (by kernel_rfl) (fun w => by unfold execOp; go_simp) rfl rfl k1 ?_
              simp only [Act.put, List.setIfInBounds_toArray, List.set_cons_zero, List.set_cons_succ]
              refine take_cell 14 _ _ (.agg #[.int .i16 (x (m + 1)).a, .int .i16 (x (m + 1)).b]) rfl (by rfl) (by kernel_rfl) (by kernel_rfl) (by kernel_rfl) (fun wq hS => run_load_mid 26 _ g4 0 [.int .i16 (x (m + 1)).a, .int .i16 (x (m + 1)).b] rfl (range_part (hS.at (x := (g4, #[.int .i16 (x (m + 1)).a, .int .i16 (x (m + 1)).b, .float .f32 (x (m + 1)).q, .int .i64 (x (m + 1)).s], 29)) (by simp)) 0 [.int .i16 (x (m + 1)).a, .int .i16 (x (m + 1)).b] rfl) _ Tryd.underlying26 rfl info_spot) rfl rfl k1 ?_
              simp only [Act.put, List.setIfInBounds_toArray, List.set_cons_zero, List.set_cons_succ]
              refine wpAnyH_ready (rs := [15]) (by kernel_rfl) (by simp) ?_
              refine callK 15 _ _ (.int .i64 (lexI (x m) (x (m + 1)))) k1 rfl (by rfl) 43 #[.agg #[.int .i16 (x m).a, .int .i16 (x m).b], .agg #[.int .i16 (x (m + 1)).a, .int .i16 (x (m + 1)).b]] (fun w => by unfold execOp; go_simp) rfl rfl ?hc2 (fun w2 k2 => ?_) AllReadyH.nil
              case hc2 => exact iCmpSpots _ _ _
              refine ⟨k2, ?_⟩
              simp only [Act.put, List.setIfInBounds_toArray, List.set_cons_zero, List.set_cons_succ]
              refine take_val 16 _ _ (.bool false) rfl (by rfl) (by kernel_rfl) (by kernel_rfl) (by kernel_rfl) (fun w => by unfold execOp; go_simp) rfl rfl k2 ?_
              simp only [Act.put, List.setIfInBounds_toArray, List.set_cons_zero, List.set_cons_succ]
              refine take_val 17 _ _ (.bool false) rfl (by rfl) (by kernel_rfl) (by kernel_rfl) (by kernel_rfl) (fun w => by unfold execOp; go_simp) rfl rfl k2 ?_
              simp only [Act.put, List.setIfInBounds_toArray, List.set_cons_zero, List.set_cons_succ]
              refine take_val 18 _ _ (.bool false) rfl (by rfl) (by kernel_rfl) (by kernel_rfl) (by kernel_rfl) (fun w => by unfold execOp; go_simp) rfl rfl k2 ?_
              simp only [Act.put, List.setIfInBounds_toArray, List.set_cons_zero, List.set_cons_succ]
              refine wpAnyH_done (by kernel_rfl) (NoPanic.normal ?_) _
              go_wp2
              go_roundw
              case rel => exact ⟨m + 1 + 1, by omega, by go_num, hid (k2.sub (by simp)), hid (hm.out.step OK.out (.inr hb))⟩
              case measure => simp [intOf]; omega
            · have hlx : 0 ≤ lexI (x m) (x (m + 1)) := (lex_bef _ _).2 hb
              have e := hid (no.out fun h => by have := (h (m + 1) HK.out).2; rcases this with h1 | h1; omega; exact hb h1)
              skip
              refine region_kept (w0 := w) (l := [(g4, #[.int .i16 (x (m + 1)).a, .int .i16 (x (m + 1)).b, .float .f32 (x (m + 1)).q, .int .i64 (x (m + 1)).s], 29)]) 19 #[false, false, false, false, false, false, false, false, false, false, false, false, false, false, false, false, false, false, false] (by kernel_rfl) rfl rfl ?_
              have kd := K4.out.drew
              generalize World.drew _ = wd at kd ⊢
              refine take_cell 0 _ _ (.agg #[.int .i16 (x (m + 1)).a, .int .i16 (x (m + 1)).b, .float .f32 (x (m + 1)).q, .int .i64 (x (m + 1)).s]) rfl (by rfl) (by kernel_rfl) (by kernel_rfl) (by kernel_rfl) (fun wq hS => run_load_mid 29 _ g4 0 (e4 (x (m + 1))) rfl (range_part (hS.at (x := (g4, #[.int .i16 (x (m + 1)).a, .int .i16 (x (m + 1)).b, .float .f32 (x (m + 1)).q, .int .i64 (x (m + 1)).s], 29)) (by simp)) 0 (e4 (x (m + 1))) rfl) _ Tryd.underlying29 rfl info_cell) rfl rfl kd ?_
              simp only [Act.put, List.setIfInBounds_toArray, List.set_cons_zero, List.set_cons_succ]
              refine wpAnyH_ready (rs := [1]) (by kernel_rfl) (by simp) ?_
              refine callK 1 _ _ (.bool true) kd rfl (by rfl) 42 #[.agg #[.int .i16 (x (m + 1)).a, .int .i16 (x (m + 1)).b, .float .f32 (x (m + 1)).q, .int .i64 (x (m + 1)).s]] (fun w => by unfold execOp; go_simp) rfl rfl ?hc1 (fun w1 k1 => ?_) AllReadyH.nil
              case hc1 => exact HV.out _
              refine ⟨k1, ?_⟩
              simp only [Act.put, List.setIfInBounds_toArray, List.set_cons_zero, List.set_cons_succ]
              refine take_val 2 _ _ (.bool false) rfl (by rfl) (by kernel_rfl) (by kernel_rfl) (by kernel_rfl) (fun w => by unfold execOp; go_simp) rfl rfl k1 ?_
              simp only [Act.put, List.setIfInBounds_toArray, List.set_cons_zero, List.set_cons_succ]
              refine take_val 3 _ _ (.bool false) rfl (by rfl) (by kernel_rfl) (by kernel_rfl) (by kernel_rfl) (fun w => by rfl) rfl rfl k1 ?_
              simp only [Act.put, List.setIfInBounds_toArray, List.set_cons_zero, List.set_cons_succ]
              refine take_val 4 _ _ (.int .i64 ((m : Int) + 1)) rfl (by rfl) (by kernel_rfl) (by kernel_rfl) (by kernel_rfl) (fun w => by rfl) rfl rfl k1 ?_
              simp only [Act.put, List.setIfInBounds_toArray, List.set_cons_zero, List.set_cons_succ]
              refine take_val 5 _ _ (.bool true) rfl (by rfl) (by kernel_rfl) (by kernel_rfl) (by kernel_rfl) (fun w => by unfold execOp; go_simp) rfl rfl k1 ?_
              simp only [Act.put, List.setIfInBounds_toArray, List.set_cons_zero, List.set_cons_succ]
              refine take_val 6 _ _ (.bool true) rfl (by rfl) (by kernel_rfl) (by kernel_rfl) (by kernel_rfl) (fun w => by rfl) rfl rfl k1 ?_
              simp only [Act.put, List.setIfInBounds_toArray, List.set_cons_zero, List.set_cons_succ]
              refine take_val 7 _ _ (.slice (some ⟨b, o, none⟩) n cap) rfl (by rfl) (by kernel_rfl) (by kernel_rfl) (by kernel_rfl) (fun w => by rfl) rfl rfl k1 ?_
              simp only [Act.put, List.setIfInBounds_toArray, List.set_cons_zero, List.set_cons_succ]
              refine take_val 8 _ _ (.int .i64 ((m : Int) + 1)) rfl (by rfl) (by kernel_rfl) (by kernel_rfl) (by kernel_rfl) (fun w => by rfl) rfl rfl k1 ?_
              simp only [Act.put, List.setIfInBounds_toArray, List.set_cons_zero, List.set_cons_succ]
              refine take_val 9 _ _ (.int .i64 (m : Int)) rfl (by rfl) (by kernel_rfl) (by kernel_rfl) (by kernel_rfl) (fun w => by unfold execOp; go_simp) rfl rfl k1 ?_
              simp only [Act.put, List.setIfInBounds_toArray, List.set_cons_zero, List.set_cons_succ]
              refine take_val 10 _ _ (.pointer (some ⟨b, o + m * 4, none⟩)) rfl (by rfl) (by kernel_rfl) (by kernel_rfl) (by kernel_rfl) (fun w => run_index_op _ _ rfl rfl (run_indexAt Tryd.underlying32 info_cell HM.out w)) rfl rfl k1 ?_
              simp only [Act.put, List.setIfInBounds_toArray, List.set_cons_zero, List.set_cons_succ]
              refine take_val 11 _ _ (.pointer (some ⟨b, o + m * 4, none⟩)) rfl (by rfl) (by kernel_rfl) (by kernel_rfl) (by kernel_rfl) (fun w => by unfold execOp; go_simp) rfl rfl k1 ?_
              simp only [Act.put, List.setIfInBounds_toArray, List.set_cons_zero, List.set_cons_succ]
              refine take_cell 12 _ _ (.agg #[.int .i16 (x m).a, .int .i16 (x m).b]) rfl (by rfl) (by kernel_rfl) (by kernel_rfl) (by kernel_rfl) (fun wq hS => run_load_mid 26 _ b (o + m * 4) [.int .i16 (x m).a, .int .i16 (x m).b] rfl (range_two (R2.out _ hS.1)) _ Tryd.underlying26 rfl info_spot) rfl rfl k1 ?_
              simp only [Act.put, List.setIfInBounds_toArray, List.set_cons_zero, List.set_cons_succ]
              refine take_val 13 _ _ (.pointer (some ⟨g4, 0, none⟩)) rfl (by rfl) (by kernel_rfl) (by kernel_rfl) (by kernel_rfl) (fun w => by unfold execOp; go_simp) rfl rfl k1 ?_
              simp only [Act.put, List.setIfInBounds_toArray, List.set_cons_zero, List.set_cons_succ]
              refine take_cell 14 _ _ (.agg #[.int .i16 (x (m + 1)).a, .int .i16 (x (m + 1)).b]) rfl (by rfl) (by kernel_rfl) (by kernel_rfl) (by kernel_rfl) (fun wq hS => run_load_mid 26 _ g4 0 [.int .i16 (x (m + 1)).a, .int .i16 (x (m + 1)).b] rfl (range_part (hS.at (x := (g4, #[.int .i16 (x (m + 1)).a, .int .i16 (x (m + 1)).b, .float .f32 (x (m + 1)).q, .int .i64 (x (m + 1)).s], 29)) (by simp)) 0 [.int .i16 (x (m + 1)).a, .int .i16 (x (m + 1)).b] rfl) _ Tryd.underlying26 rfl info_spot) rfl rfl k1 ?_
              simp only [Act.put, List.setIfInBounds_toArray, List.set_cons_zero, List.set_cons_succ]
              refine wpAnyH_ready (rs := [15]) (by kernel_rfl) (by simp) ?_
              refine callK 15 _ _ (.int .i64 (lexI (x m) (x (m + 1)))) k1 rfl (by rfl) 43 #[.agg #[.int .i16 (x m).a, .int .i16 (x m).b], .agg #[.int .i16 (x (m + 1)).a, .int .i16 (x (m + 1)).b]] (fun w => by unfold execOp; go_simp) rfl rfl ?hc2 (fun w2 k2 => ?_) AllReadyH.nil
              case hc2 => exact iCmpSpots _ _ _
              refine ⟨k2, ?_⟩
              simp only [Act.put, List.setIfInBounds_toArray, List.set_cons_zero, List.set_cons_succ]
              refine take_val 16 _ _ (.bool true) rfl (by rfl) (by kernel_rfl) (by kernel_rfl) (by kernel_rfl) (fun w => by unfold execOp; go_simp) rfl rfl k2 ?_
              simp only [Act.put, List.setIfInBounds_toArray, List.set_cons_zero, List.set_cons_succ]
              refine take_val 17 _ _ (.bool true) rfl (by rfl) (by kernel_rfl) (by kernel_rfl) (by kernel_rfl) (fun w => by unfold execOp; go_simp) rfl rfl k2 ?_
              simp only [Act.put, List.setIfInBounds_toArray, List.set_cons_zero, List.set_cons_succ]
              refine take_val 18 _ _ (.bool true) rfl (by rfl) (by kernel_rfl) (by kernel_rfl) (by kernel_rfl) (fun w => by unfold execOp; go_simp) rfl rfl k2 ?_
              simp only [Act.put, List.setIfInBounds_toArray, List.set_cons_zero, List.set_cons_succ]
              refine wpAnyH_done (by kernel_rfl) (NoPanic.normal ?_) _
              go_wp2
              go_ret
              exact ⟨by rw [e.out]; rfl, k2.1⟩
        · have e := hid (no.out fun h => hok (h k HK.out).1)
          have HV := hid (fun w => iValidCell (x k) HQ.out false ⟨fun h => (by cases h), fun h => absurd h hok⟩ w)
          clear hok
          skip
          refine region_kept (w0 := w) (l := [(g4, #[.int .i16 (x k).a, .int .i16 (x k).b, .float .f32 (x k).q, .int .i64 (x k).s], 29)]) 19 #[false, false, false, false, false, false, false, false, false, false, false, false, false, false, false, false, false, false, false] (by kernel_rfl) rfl rfl ?_
          have kd := K4.out.drew
          generalize World.drew _ = wd at kd ⊢
          refine take_cell 0 _ _ (.agg #[.int .i16 (x k).a, .int .i16 (x k).b, .float .f32 (x k).q, .int .i64 (x k).s]) rfl (by rfl) (by kernel_rfl) (by kernel_rfl) (by kernel_rfl) (fun wq hS => run_load_mid 29 _ g4 0 (e4 (x k)) rfl (range_part (hS.at (x := (g4, #[.int .i16 (x k).a, .int .i16 (x k).b, .float .f32 (x k).q, .int .i64 (x k).s], 29)) (by simp)) 0 (e4 (x k)) rfl) _ Tryd.underlying29 rfl info_cell) rfl rfl kd ?_
          simp only [Act.put, List.setIfInBounds_toArray, List.set_cons_zero, List.set_cons_succ]
          refine wpAnyH_ready (rs := [1]) (by kernel_rfl) (by simp) ?_
          refine callK 1 _ _ (.bool false) kd rfl (by rfl) 42 #[.agg #[.int .i16 (x k).a, .int .i16 (x k).b, .float .f32 (x k).q, .int .i64 (x k).s]] (fun w => by unfold execOp; go_simp) rfl rfl ?hc1 (fun w1 k1 => ?_) AllReadyH.nil
          case hc1 => exact HV.out _
          refine ⟨k1, ?_⟩
          simp only [Act.put, List.setIfInBounds_toArray, List.set_cons_zero, List.set_cons_succ]
          refine take_val 2 _ _ (.bool true) rfl (by rfl) (by kernel_rfl) (by kernel_rfl) (by kernel_rfl) (fun w => by unfold execOp; go_simp) rfl rfl k1 ?_
          simp only [Act.put, List.setIfInBounds_toArray, List.set_cons_zero, List.set_cons_succ]
          refine take_val 3 _ _ (.bool true) rfl (by rfl) (by kernel_rfl) (by kernel_rfl) (by kernel_rfl) (fun w => by rfl) rfl rfl k1 ?_
          simp only [Act.put, List.setIfInBounds_toArray, List.set_cons_zero, List.set_cons_succ]
          refine take_skip 4 _ _ rfl (by kernel_rfl) (by kernel_rfl) (by kernel_rfl) (by kernel_rfl) rfl rfl k1 ?_
          simp only [Act.put, List.setIfInBounds_toArray, List.set_cons_zero, List.set_cons_succ]
          refine take_skip 5 _ _ rfl (by kernel_rfl) (by kernel_rfl) (by kernel_rfl) (by kernel_rfl) rfl rfl k1 ?_
          simp only [Act.put, List.setIfInBounds_toArray, List.set_cons_zero, List.set_cons_succ]
          refine take_skip 6 _ _ rfl (by kernel_rfl) (by kernel_rfl) (by kernel_rfl) (by kernel_rfl) rfl rfl k1 ?_
          simp only [Act.put, List.setIfInBounds_toArray, List.set_cons_zero, List.set_cons_succ]
          refine take_skip 7 _ _ rfl (by kernel_rfl) (by kernel_rfl) (by kernel_rfl) (by kernel_rfl) rfl rfl k1 ?_
          simp only [Act.put, List.setIfInBounds_toArray, List.set_cons_zero, List.set_cons_succ]
          refine take_skip 8 _ _ rfl (by kernel_rfl) (by kernel_rfl) (by kernel_rfl) (by kernel_rfl) rfl rfl k1 ?_
          simp only [Act.put, List.setIfInBounds_toArray, List.set_cons_zero, List.set_cons_succ]
          refine take_skip 9 _ _ rfl (by kernel_rfl) (by kernel_rfl) (by kernel_rfl) (by kernel_rfl) rfl rfl k1 ?_
          simp only [Act.put, List.setIfInBounds_toArray, List.set_cons_zero, List.set_cons_succ]
          refine take_skip 10 _ _ rfl (by kernel_rfl) (by kernel_rfl) (by kernel_rfl) (by kernel_rfl) rfl rfl k1 ?_
          simp only [Act.put, List.setIfInBounds_toArray, List.set_cons_zero, List.set_cons_succ]
          refine take_skip 11 _ _ rfl (by kernel_rfl) (by kernel_rfl) (by kernel_rfl) (by kernel_rfl) rfl rfl k1 ?_
          simp only [Act.put, List.setIfInBounds_toArray, List.set_cons_zero, List.set_cons_succ]
          refine take_skip 12 _ _ rfl (by kernel_rfl) (by kernel_rfl) (by kernel_rfl) (by kernel_rfl) rfl rfl k1 ?_
          simp only [Act.put, List.setIfInBounds_toArray, List.set_cons_zero, List.set_cons_succ]
          refine take_skip 13 _ _ rfl (by kernel_rfl) (by kernel_rfl) (by kernel_rfl) (by kernel_rfl) rfl rfl k1 ?_
          simp only [Act.put, List.setIfInBounds_toArray, List.set_cons_zero, List.set_cons_succ]
          refine take_skip 14 _ _ rfl (by kernel_rfl) (by kernel_rfl) (by kernel_rfl) (by kernel_rfl) rfl rfl k1 ?_
          simp only [Act.put, List.setIfInBounds_toArray, List.set_cons_zero, List.set_cons_succ]
          refine take_skip 15 _ _ rfl (by kernel_rfl) (by kernel_rfl) (by kernel_rfl) (by kernel_rfl) rfl rfl k1 ?_
          simp only [Act.put, List.setIfInBounds_toArray, List.set_cons_zero, List.set_cons_succ]
          refine take_skip 16 _ _ rfl (by kernel_rfl) (by kernel_rfl) (by kernel_rfl) (by kernel_rfl) rfl rfl k1 ?_
          simp only [Act.put, List.setIfInBounds_toArray, List.set_cons_zero, List.set_cons_succ]
          refine take_skip 17 _ _ rfl (by kernel_rfl) (by kernel_rfl) (by kernel_rfl) (by kernel_rfl) rfl rfl k1 ?_
          simp only [Act.put, List.setIfInBounds_toArray, List.set_cons_zero, List.set_cons_succ]
          refine take_val 18 _ _ (.bool true) rfl (by rfl) (by kernel_rfl) (by kernel_rfl) (by kernel_rfl) (fun w => by unfold execOp; go_simp) rfl rfl k1 ?_
          simp only [Act.put, List.setIfInBounds_toArray, List.set_cons_zero, List.set_cons_succ]
          refine wpAnyH_done (by kernel_rfl) (NoPanic.normal ?_) _
          go_wp2
          go_ret
          exact ⟨by rw [e.out]; rfl, k1.1⟩
      · obtain rfl : k = n := by omega
        have hk3 : ¬ (k : Int) < (k : Int) := by omega
        have e := hid (H.out.2 ⟨hm.out, H4.out⟩)
        clear hlt
        go_wp2
        go_ret
        exact ⟨by rw [e.out]; rfl, h0.out.1⟩
  · have e : Hid (r = false) := hid (by
      cases r with
      | true => exact absurd (h.1 rfl).2 h4
      | false => rfl)
    have h5 : 400 < (n : Int) := by omega
    clear h hx hc h4
    go_enter Tryd.func24, Tryd.ntmps24
    go_wp2
    go_ret
    exact ⟨by rw [e.out]; rfl, Below.refl _ _⟩

/-- The errors that are variables: each points to a cell of its own. -/
structure Sent (w : World) (A : Nat → Addr) : Prop where
  c0 : w.cell? ⟨0, 0, none⟩ = some (.iface 102 (.pointer (some (A 0))))
  c1 : w.cell? ⟨2, 0, none⟩ = some (.iface 102 (.pointer (some (A 1))))
  c2 : w.cell? ⟨3, 0, none⟩ = some (.iface 102 (.pointer (some (A 2))))
  c3 : w.cell? ⟨4, 0, none⟩ = some (.iface 102 (.pointer (some (A 3))))
  c4 : w.cell? ⟨1, 0, none⟩ = some (.iface 102 (.pointer (some (A 4))))
  b : ∀ i, i < 5 → ∃ c t, w.heap[(A i).block]? = some (.cells c t (0, 0))
  ne : ∀ i j, i < 5 → j < 5 → i ≠ j → A i ≠ A j

theorem cell_below {w w' : World} {a : Addr} {v : Value} (h : w.cell? a = some v) (hb : Below w.heap.size w w') : w'.cell? a = some v := by
  have hlt : a.block < w.heap.size := by
    rcases Nat.lt_or_ge a.block w.heap.size with h' | h'
    · exact h'
    · simp [World.cell?, Array.getElem?_eq_none h'] at h
  unfold World.cell? at h ⊢
  rw [hb.block _ hlt]
  exact h

theorem Sent.stay {w w' : World} {A : Nat → Addr} (h : Sent w A) (hb : Below w.heap.size w w') : Sent w' A :=
  ⟨cell_below h.c0 hb, cell_below h.c1 hb, cell_below h.c2 hb, cell_below h.c3 hb, cell_below h.c4 hb, fun i hi => by
    obtain ⟨c, t, e⟩ := h.b i hi
    exact ⟨c, t, by rw [hb.block _ (lt_of_block e)]; exact e⟩, h.ne⟩

theorem code_0 (A : Nat → Addr) (w : World) (S : Sent w A) : Calls Tryd.prog 25 #[.iface 102 (.pointer (some (A 0)))] w fun e w' => e = .returned (.int .i64 1) ∧ w' = w := by
  have c0 := S.c0
  have HS := hid S
  clear S
  go_enter Tryd.func25, Tryd.ntmps25
  go_wp2_with fail
  refine (is_same (A 0) _).mono ?_
  rintro e9 u9 ⟨rfl, rfl⟩
  go_wp2
  go_ret
  exact ⟨rfl, rfl⟩

theorem code_4 (A : Nat → Addr) (w : World) (S : Sent w A) : Calls Tryd.prog 25 #[.iface 102 (.pointer (some (A 4)))] w fun e w' => e = .returned (.int .i64 6) ∧ w' = w := by
  have c0 := S.c0
  have c1 := S.c1
  have c2 := S.c2
  have c3 := S.c3
  have c4 := S.c4
  have HS := hid S
  clear S
  go_enter Tryd.func25, Tryd.ntmps25
  go_wp2_with fail
  refine (is_other (A 4) (A 0) _ _ _ _ _ (HS.out.ne 4 0 (by omega) (by omega) (by omega)) (HS.out.b 4 (by omega)).choose_spec.choose_spec (HS.out.b 0 (by omega)).choose_spec.choose_spec).mono ?_
  rintro e0 u0 ⟨rfl, rfl⟩
  go_wp2_with fail
  refine (is_other (A 4) (A 1) _ _ _ _ _ (HS.out.ne 4 1 (by omega) (by omega) (by omega)) (HS.out.b 4 (by omega)).choose_spec.choose_spec (HS.out.b 1 (by omega)).choose_spec.choose_spec).mono ?_
  rintro e1 u1 ⟨rfl, rfl⟩
  go_wp2_with fail
  refine (is_other (A 4) (A 2) _ _ _ _ _ (HS.out.ne 4 2 (by omega) (by omega) (by omega)) (HS.out.b 4 (by omega)).choose_spec.choose_spec (HS.out.b 2 (by omega)).choose_spec.choose_spec).mono ?_
  rintro e2 u2 ⟨rfl, rfl⟩
  go_wp2_with fail
  refine (is_other (A 4) (A 3) _ _ _ _ _ (HS.out.ne 4 3 (by omega) (by omega) (by omega)) (HS.out.b 4 (by omega)).choose_spec.choose_spec (HS.out.b 3 (by omega)).choose_spec.choose_spec).mono ?_
  rintro e3 u3 ⟨rfl, rfl⟩
  go_wp2_with fail
  refine (is_same (A 4) _).mono ?_
  rintro e9 u9 ⟨rfl, rfl⟩
  go_wp2
  go_ret
  exact ⟨rfl, rfl⟩

theorem err_star : "*" ++ "errors.errorString" = "*errors.errorString" := by decide

theorem row_err (u : TypeId) (h : Tryd.prog.typeName? 3 u = some "*errors.errorString") : u = 102 :=
  typeName_ptr_named (nm := "errors.errorString") (by rw [err_star]; kernel_rfl) (by kernel_rfl) (by decide) u (by rw [err_star]; exact h)

/-- What the rows' condition says of the variables. -/
theorem sent_of {W : World} (h : laidMetH Tryd.prog Rows.fnExactEchoAtRow.laid W) : ∃ A, Sent W A ∧ (W.var? Tryd.prog "loop.example/g01224/impl.errUnfit" = some #[.iface 102 (.pointer (some (A 0)))] ∧ W.var? Tryd.prog "loop.example/g01224/impl.errBeyond" = some #[.iface 102 (.pointer (some (A 1)))] ∧ W.var? Tryd.prog "loop.example/g01224/impl.errCrowded" = some #[.iface 102 (.pointer (some (A 2)))] ∧ W.var? Tryd.prog "loop.example/g01224/impl.errNoText" = some #[.iface 102 (.pointer (some (A 3)))] ∧ W.var? Tryd.prog "loop.example/g01224/impl.errNowhere" = some #[.iface 102 (.pointer (some (A 4)))]) := by
  rw [MakeChecks.laidMetH_plain _ _ _ (by kernel_rfl)] at h
  obtain ⟨a0, a1, a2, a3, a4, ⟨v0, v1, v2, v3, v4⟩, ⟨b0, b1, b2, b3, b4⟩, n01, n02, n03, n04, n12, n13, n14, n23, n24, n34⟩ := laid_five (tp := 102) h
    (g0 := 0) (by kernel_rfl) (by kernel_rfl)
    (g1 := 2) (by kernel_rfl) (by kernel_rfl)
    (g2 := 3) (by kernel_rfl) (by kernel_rfl)
    (g3 := 4) (by kernel_rfl) (by kernel_rfl)
    (g4 := 1) (by kernel_rfl) (by kernel_rfl)
    Tryd.underlying55 row_err Tryd.underlying102 Tryd.underlying128 rfl rfl Tryd.underlying9 (by kernel_rfl) (by kernel_rfl)
  refine ⟨fun i => match i with | 0 => a0 | 1 => a1 | 2 => a2 | 3 => a3 | _ => a4, ⟨?_, ?_, ?_, ?_, ?_, ?_, ?_⟩, v0, v1, v2, v3, v4⟩
  · simpa using World.var?_cell (g := 0) (by kernel_rfl) v0 0
  · simpa using World.var?_cell (g := 2) (by kernel_rfl) v1 0
  · simpa using World.var?_cell (g := 3) (by kernel_rfl) v2 0
  · simpa using World.var?_cell (g := 4) (by kernel_rfl) v3 0
  · simpa using World.var?_cell (g := 1) (by kernel_rfl) v4 0
  · intro i hi
    match i, hi with
    | 0, _ => exact b0
    | 1, _ => exact b1
    | 2, _ => exact b2
    | 3, _ => exact b3
    | 4, _ => exact b4
  · intro i j hi hj hne
    match i, j, hi, hj, hne with
    | 0, 0, _, _, h => exact absurd rfl h
    | 0, 1, _, _, _ => exact n01
    | 0, 2, _, _, _ => exact n02
    | 0, 3, _, _, _ => exact n03
    | 0, 4, _, _, _ => exact n04
    | 1, 0, _, _, _ => exact n01.symm
    | 1, 1, _, _, h => exact absurd rfl h
    | 1, 2, _, _, _ => exact n12
    | 1, 3, _, _, _ => exact n13
    | 1, 4, _, _, _ => exact n14
    | 2, 0, _, _, _ => exact n02.symm
    | 2, 1, _, _, _ => exact n12.symm
    | 2, 2, _, _, h => exact absurd rfl h
    | 2, 3, _, _, _ => exact n23
    | 2, 4, _, _, _ => exact n24
    | 3, 0, _, _, _ => exact n03.symm
    | 3, 1, _, _, _ => exact n13.symm
    | 3, 2, _, _, _ => exact n23.symm
    | 3, 3, _, _, h => exact absurd rfl h
    | 3, 4, _, _, _ => exact n34
    | 4, 0, _, _, _ => exact n04.symm
    | 4, 1, _, _, _ => exact n14.symm
    | 4, 2, _, _, _ => exact n24.symm
    | 4, 3, _, _, _ => exact n34.symm
    | 4, 4, _, _, h => exact absurd rfl h

theorem rdE_stay {w w' : World} {m : Nat} {v : Value} {n : Nat} {x : Nat → E4} (h : RdE w v n x) (hm : m = w.heap.size) (hb : Below m w w') : RdE w' v n x := by
  obtain ⟨p, cap, e, h⟩ := h
  refine ⟨p, cap, e, fun hn => ?_⟩
  obtain ⟨b, o, e2, h2⟩ := h hn
  exact ⟨b, o, e2, fun i hi => range_stay (h2 i hi) hm hb⟩

theorem ord_gt {x y : Nat} (hx : amtB x = true) (hy : amtB y = true) : (FloatKind.f32.format.order x y == some .gt) = decide (y < x) := by
  show (S.order x y == some .gt) = _
  rw [order_lt (amtB_iff.1 hx) (amtB_iff.1 hy)]
  by_cases h : y < x
  · rw [Nat.compare_eq_gt.2 h, decide_eq_true h]; rfl
  · rw [decide_eq_false h]
    rcases Nat.lt_or_eq_of_le (Nat.not_lt.1 h) with h | h
    · rw [Nat.compare_eq_lt.2 h]; rfl
    · rw [Nat.compare_eq_eq.2 h]; rfl

theorem ord_lt {x y : Nat} (hx : amtB x = true) (hy : amtB y = true) : (FloatKind.f32.format.order x y == some .lt) = decide (x < y) := by
  show (S.order x y == some .lt) = _
  rw [order_lt (amtB_iff.1 hx) (amtB_iff.1 hy)]
  by_cases h : x < y
  · rw [Nat.compare_eq_lt.2 h, decide_eq_true h]; rfl
  · rw [decide_eq_false h]
    rcases Nat.lt_or_eq_of_le (Nat.not_lt.1 h) with h | h
    · rw [Nat.compare_eq_gt.2 h]; rfl
    · rw [Nat.compare_eq_eq.2 h.symm]; rfl

theorem ord_eq {x : Nat} (hx : amtB x = true) : (FloatKind.f32.format.order x x == some .eq) = true := by
  show (S.order x x == some .eq) = _
  rw [order_lt (amtB_iff.1 hx) (amtB_iff.1 hx), Nat.compare_eq_eq.2 rfl]; rfl

theorem iNaN32 (x : Nat) (hx : amtB x = true) (w : World) : Calls Tryd.prog 45 #[.float .f32 x] w fun e w' => e = .returned (.bool false) ∧ w' = w := by
  have h : (FloatKind.f32.format.order x x != some .eq) = false := by rw [bne, ord_eq hx]; rfl
  clear hx
  go_enter Tryd.func45, Tryd.ntmps45
  go_wp2
  go_ret
  exact ⟨rfl, rfl⟩

def cmpN (x y : Nat) : Int := if x < y then -1 else if y < x then 1 else 0

theorem iCmp32 (x y : Nat) (hx : amtB x = true) (hy : amtB y = true) (w : World) : Calls Tryd.prog 29 #[.float .f32 x, .float .f32 y] w fun e w' => e = .returned (.int .i64 (cmpN x y)) ∧ w' = w := by
  have g := ord_gt hx hy
  have l := ord_lt hx hy
  have HX := hid hx
  have HY := hid hy
  clear hx hy
  have hc : (x < y ∧ cmpN x y = -1) ∨ (¬ x < y ∧ y < x ∧ cmpN x y = 1) ∨ (¬ x < y ∧ ¬ y < x ∧ cmpN x y = 0) := by
    unfold cmpN
    by_cases h1 : x < y
    · exact .inl ⟨h1, if_pos h1⟩
    · by_cases h2 : y < x
      · exact .inr (.inl ⟨h1, h2, by rw [if_neg h1, if_pos h2]⟩)
      · exact .inr (.inr ⟨h1, h2, by rw [if_neg h1, if_neg h2]⟩)
  rcases hc with ⟨h1, h3⟩ | ⟨h1, h2, h3⟩ | ⟨h1, h2, h3⟩
  · rw [decide_eq_true h1] at l
    clear g
    rw [h3]
    clear h3 h1
    go_enter Tryd.func29, Tryd.ntmps29
    go_wp2_with fail
    refine (iNaN32 x HX.out _).mono ?_
    rintro e u ⟨rfl, rfl⟩
    go_wp2_with fail
    refine (iNaN32 y HY.out _).mono ?_
    rintro e u ⟨rfl, rfl⟩
    go_wp2
    go_ret
    exact ⟨rfl, rfl⟩
  · rw [decide_eq_false h1] at l; rw [decide_eq_true h2] at g
    skip
    rw [h3]
    clear h3 h1 h2
    go_enter Tryd.func29, Tryd.ntmps29
    go_wp2_with fail
    refine (iNaN32 x HX.out _).mono ?_
    rintro e u ⟨rfl, rfl⟩
    go_wp2_with fail
    refine (iNaN32 y HY.out _).mono ?_
    rintro e u ⟨rfl, rfl⟩
    go_wp2
    go_ret
    exact ⟨rfl, rfl⟩
  · rw [decide_eq_false h1] at l; rw [decide_eq_false h2] at g
    skip
    rw [h3]
    clear h3 h1 h2
    go_enter Tryd.func29, Tryd.ntmps29
    go_wp2_with fail
    refine (iNaN32 x HX.out _).mono ?_
    rintro e u ⟨rfl, rfl⟩
    go_wp2_with fail
    refine (iNaN32 y HY.out _).mono ?_
    rintro e u ⟨rfl, rfl⟩
    go_wp2
    go_ret
    exact ⟨rfl, rfl⟩

theorem iCmpPow (c d : E4) (hc : amtB c.q = true) (hd : amtB d.q = true) (w : World) : Calls Tryd.prog 28 #[.agg #[.int .i16 (c).a, .int .i16 (c).b, .float .f32 (c).q, .int .i64 (c).s], .agg #[.int .i16 (d).a, .int .i16 (d).b, .float .f32 (d).q, .int .i64 (d).s]] w fun e w' => e = .returned (.int .i64 (cmpN c.q d.q)) ∧ Below w.heap.size w w' := by
  have HC := hid hc
  have HD := hid hd
  clear hc hd
  have k0 : Hid (Kept w [(w.heap.size + 1, #[.int .i16 (d).a, .int .i16 (d).b, .float .f32 (d).q, .int .i64 (d).s], 29), (w.heap.size, #[.int .i16 (c).a, .int .i16 (c).b, .float .f32 (c).q, .int .i64 (c).s], 29)] ((w.alloc (.cells #[.int .i16 (c).a, .int .i16 (c).b, .float .f32 (c).q, .int .i64 (c).s] 29)).alloc (.cells #[.int .i16 (d).a, .int .i16 (d).b, .float .f32 (d).q, .int .i64 (d).s] 29))) := hid ((((Kept.nil w).push _ _).push _ _).sub (by simp))
  go_enter Tryd.func28, Tryd.ntmps28
  go_wp2_with fail
  refine (iCmp32 c.q d.q HC.out HD.out _).mono ?_
  rintro e u ⟨rfl, rfl⟩
  go_wp2
  go_ret
  exact ⟨rfl, k0.out.1⟩

/-- The first of the strongest among 0 .. k. -/
def best (x : Nat → E4) : Nat → Nat
  | 0 => 0
  | k + 1 => if (x (best x k)).q < (x (k + 1)).q then k + 1 else best x k

theorem best_le (x : Nat → E4) : ∀ k, best x k ≤ k
  | 0 => Nat.le_refl _
  | k + 1 => by
    unfold best
    split
    · exact Nat.le_refl _
    · exact Nat.le_succ_of_le (best_le x k)

theorem best_t {x : Nat → E4} {j : Nat} (h0 : 0 < j) (h : (x (best x (j - 1))).q < (x j).q) : best x j = j := by
  obtain ⟨k, rfl⟩ : ∃ k, j = k + 1 := ⟨j - 1, by omega⟩
  rw [Nat.add_sub_cancel] at h
  exact if_pos h

theorem best_f {x : Nat → E4} {j : Nat} (h0 : 0 < j) (h : ¬ (x (best x (j - 1))).q < (x j).q) : best x j = best x (j - 1) := by
  obtain ⟨k, rfl⟩ : ∃ k, j = k + 1 := ⟨j - 1, by omega⟩
  rw [Nat.add_sub_cancel] at h ⊢
  exact if_neg h

set_option maxRecDepth 100000 in
set_option maxHeartbeats 4000000 in
theorem iMax (s : Value) (n : Nat) (x : Nat → E4) (h0n : 0 < n) (hx : ∀ k, k < n → amtB (x k).q = true) (w : World) (hs : RdE w s n x) (hn : n ≤ 1048576) :
    Calls Tryd.prog 27 #[s, .func (.func 28) #[] #[]] w fun e w' => e = .returned (.agg #[.int .i16 (x (best x (n - 1))).a, .int .i16 (x (best x (n - 1))).b, .float .f32 (x (best x (n - 1))).q, .int .i64 (x (best x (n - 1))).s]) ∧ Below w.heap.size w w' := by
  have R := hid hs
  obtain ⟨p, cap, rfl, hc⟩ := hs
  obtain ⟨b, o, rfl, hcell⟩ := hc h0n
  have RC := hid (fun i (hi : i < n) wq (hb : Below w.heap.size w wq) => range_stay (hcell i hi) rfl hb)
  have HX := hid hx
  have HN := hid hn
  have H0 := hid h0n
  have hn1 : ¬ (n : Int) < 1 := by omega
  have K0 := hid ((Kept.nil w).push #[.int .i16 0, .int .i16 0, .float .f32 0, .int .i64 0] 29)
  have R0 := hid (RC.out 0 h0n _ K0.out.1)
  have i0 := fun w => run_indexAt (P := Tryd.prog) (t := 32) (e := 29) Tryd.underlying32 info_cell (b := b) (o := o) (n := n) (cap := cap) (k := 0) h0n w
  simp only [Nat.zero_mul, Nat.add_zero, Int.natCast_zero] at i0
  have K1 := hid (K0.out.push #[.int .i16 (x 0).a, .int .i16 (x 0).b, .float .f32 (x 0).q, .int .i64 (x 0).s] 29)
  clear hx hn h0n hc hcell
  go_enter Tryd.func27, Tryd.ntmps27
  go_wp2_with (refine wpList_load_mid rfl 29 _ rfl b o rfl [.int .i16 (x 0).a, .int .i16 (x 0).b, .float .f32 (x 0).q, .int .i64 (x 0).s] _ (by have := R0.out; simpa [e4] using this) Tryd.underlying29 rfl info_cell ?_)
  clear i0 R0
  have K2 : Hid (Kept w [(w.heap.size + 1, #[.int .i16 (x (best x (1 - 1))).a, .int .i16 (x (best x (1 - 1))).b, .float .f32 (x (best x (1 - 1))).q, .int .i64 (x (best x (1 - 1))).s], 29), (w.heap.size, #[.int .i16 0, .int .i16 0, .float .f32 0, .int .i64 0], 29)] ((w.alloc (.cells #[.int .i16 0, .int .i16 0, .float .f32 0, .int .i64 0] 29)).alloc (.cells #[.int .i16 (x 0).a, .int .i16 (x 0).b, .float .f32 (x 0).q, .int .i64 (x 0).s] 29))) := hid (((((Kept.nil w).push _ _).push _ _)).sub (by simp [best]))
  generalize ((w.alloc (.cells #[.int .i16 0, .int .i16 0, .float .f32 0, .int .i64 0] 29)).alloc (.cells #[.int .i16 (x 0).a, .int .i16 (x 0).b, .float .f32 (x 0).q, .int .i64 (x 0).s] 29)) = w1 at K2 ⊢
  clear K0 K1
  go_loopw [6] (fun i wr => ∃ j : Nat, 1 ≤ j ∧ j ≤ n ∧ i = .int .i64 j ∧ Hid (Kept w [(w.heap.size + 1, #[.int .i16 (x (best x (j - 1))).a, .int .i16 (x (best x (j - 1))).b, .float .f32 (x (best x (j - 1))).q, .int .i64 (x (best x (j - 1))).s], 29), (w.heap.size, #[.int .i16 0, .int .i16 0, .float .f32 0, .int .i64 0], 29)] wr)) (fun i _ => n - (intOf i).toNat)
  case atStart => exact ⟨1, Nat.le_refl _, H0.out, rfl, K2⟩
  case round =>
    obtain ⟨j, hj1, hj, rfl, h0⟩ := hrel
    clear K2 hn1
    have hn9 := HN.out
    by_cases hlt : j < n
    · have hk3 : (j : Int) < (n : Int) := by omega
      have HL := hid hlt
      have J1 := hid hj1
      have i1 := fun w => run_indexAt (P := Tryd.prog) (t := 32) (e := 29) Tryd.underlying32 info_cell (b := b) (o := o) (n := n) (cap := cap) (k := j) hlt w
      have hbj : best x (j - 1) < n := by have := best_le x (j - 1); omega
      have CP := hid (fun w => iCmpPow (x j) (x (best x (j - 1))) (HX.out j hlt) (HX.out _ hbj) w)
      clear hbj
      by_cases hq : (x (best x (j - 1))).q < (x j).q
      · have hcm : cmpN (x j).q (x (best x (j - 1))).q = 1 := by unfold cmpN; rw [if_neg (by omega), if_pos hq]
        rw [hcm] at CP
        have hbt := best_t (by omega) hq
        have HB := hid hbt
        clear hcm hq hbt hj1 hj
        go_wp2_with fail
        refine region_kept (w0 := w) (l := [(w.heap.size + 1, #[.int .i16 (x (best x (j - 1))).a, .int .i16 (x (best x (j - 1))).b, .float .f32 (x (best x (j - 1))).q, .int .i64 (x (best x (j - 1))).s], 29), (w.heap.size, #[.int .i16 0, .int .i16 0, .float .f32 0, .int .i64 0], 29)]) 8 #[false, false, false, false, false, false, false, false] (by kernel_rfl) rfl rfl ?_
        have kd := h0.out.drew
        generalize World.drew _ = wd at kd ⊢
        refine take_val 0 _ _ (.func (.func 28) #[] #[]) rfl (by rfl) (by kernel_rfl) (by kernel_rfl) (by kernel_rfl) (fun w => by rfl) rfl rfl kd ?_
        simp only [Act.put, List.setIfInBounds_toArray, List.set_cons_zero, List.set_cons_succ]
        refine take_val 1 _ _ (.slice (some ⟨b, o, none⟩) n cap) rfl (by rfl) (by kernel_rfl) (by kernel_rfl) (by kernel_rfl) (fun w => by rfl) rfl rfl kd ?_
        simp only [Act.put, List.setIfInBounds_toArray, List.set_cons_zero, List.set_cons_succ]
        refine take_val 2 _ _ (.int .i64 (j : Int)) rfl (by rfl) (by kernel_rfl) (by kernel_rfl) (by kernel_rfl) (fun w => by rfl) rfl rfl kd ?_
        simp only [Act.put, List.setIfInBounds_toArray, List.set_cons_zero, List.set_cons_succ]
        refine take_val 3 _ _ (.pointer (some ⟨b, o + j * 4, none⟩)) rfl (by rfl) (by kernel_rfl) (by kernel_rfl) (by kernel_rfl) (fun w => run_index_op _ _ rfl rfl (run_indexAt Tryd.underlying32 info_cell HL.out w)) rfl rfl kd ?_
        simp only [Act.put, List.setIfInBounds_toArray, List.set_cons_zero, List.set_cons_succ]
        refine take_cell 4 _ _ (.agg #[.int .i16 (x j).a, .int .i16 (x j).b, .float .f32 (x j).q, .int .i64 (x j).s]) rfl (by rfl) (by kernel_rfl) (by kernel_rfl) (by kernel_rfl) (fun wq hS => run_load_mid 29 _ b (o + j * 4) (e4 (x j)) rfl (RC.out j HL.out _ hS.1) _ Tryd.underlying29 rfl info_cell) rfl rfl kd ?_
        simp only [Act.put, List.setIfInBounds_toArray, List.set_cons_zero, List.set_cons_succ]
        refine take_cell 5 _ _ (.agg #[.int .i16 (x (best x (j - 1))).a, .int .i16 (x (best x (j - 1))).b, .float .f32 (x (best x (j - 1))).q, .int .i64 (x (best x (j - 1))).s]) rfl (by rfl) (by kernel_rfl) (by kernel_rfl) (by kernel_rfl) (fun wq hS => run_load_mid 29 _ (w.heap.size + 1) 0 (e4 (x (best x (j - 1)))) rfl (range_part (hS.at (x := (w.heap.size + 1, #[.int .i16 (x (best x (j - 1))).a, .int .i16 (x (best x (j - 1))).b, .float .f32 (x (best x (j - 1))).q, .int .i64 (x (best x (j - 1))).s], 29)) (by simp)) 0 (e4 (x (best x (j - 1)))) rfl) _ Tryd.underlying29 rfl info_cell) rfl rfl kd ?_
        simp only [Act.put, List.setIfInBounds_toArray, List.set_cons_zero, List.set_cons_succ]
        refine wpAnyH_ready (rs := [6]) (by kernel_rfl) (by simp) ?_
        refine callK 6 _ _ (.int .i64 (1)) kd rfl (by rfl) 28 #[.agg #[.int .i16 (x j).a, .int .i16 (x j).b, .float .f32 (x j).q, .int .i64 (x j).s], .agg #[.int .i16 (x (best x (j - 1))).a, .int .i16 (x (best x (j - 1))).b, .float .f32 (x (best x (j - 1))).q, .int .i64 (x (best x (j - 1))).s]] (fun w => by unfold execOp; go_simp) rfl rfl ?hc1 (fun w1 k1 => ?_) AllReadyH.nil
        case hc1 => exact CP.out _
        refine ⟨k1, ?_⟩
        simp only [Act.put, List.setIfInBounds_toArray, List.set_cons_zero, List.set_cons_succ]
        refine take_val 7 _ _ (.bool true) rfl (by rfl) (by kernel_rfl) (by kernel_rfl) (by kernel_rfl) (fun w => by unfold execOp; go_simp) rfl rfl k1 ?_
        simp only [Act.put, List.setIfInBounds_toArray, List.set_cons_zero, List.set_cons_succ]
        refine wpAnyH_done (by kernel_rfl) (NoPanic.normal ?_) _
        have k2 := hid k1
        clear k1
        have R1 := hid (RC.out j HL.out _ k2.out.1)
        have tok : True := trivial
        go_wp2_with (first | refine wpList_load_mid rfl 29 _ rfl b (o + j * 4) rfl [.int .i16 (x j).a, .int .i16 (x j).b, .float .f32 (x j).q, .int .i64 (x j).s] _ R1.out Tryd.underlying29 rfl info_cell ?_ | (have _t := tok; refine store_kept (w0 := w) (l := [(w.heap.size, #[.int .i16 0, .int .i16 0, .float .f32 0, .int .i64 0], 29)]) rfl 29 _ _ rfl (w.heap.size + 1) (#[.int .i16 (x j).a, .int .i16 (x j).b, .float .f32 (x j).q, .int .i64 (x j).s]) rfl rfl 29 (#[.int .i16 (x (best x (j - 1))).a, .int .i16 (x (best x (j - 1))).b, .float .f32 (x (best x (j - 1))).q, .int .i64 (x (best x (j - 1))).s]) k2.out (by omega) (by simp) info_cell (by simp) (by simp [Value.oneCell']) ?_; intro w9 k9; clear tok; have k9 := hid k9))
        go_roundw
        case rel => exact ⟨j + 1, by omega, HL.out, by go_num, by rw [Nat.add_sub_cancel, HB.out]; exact k9⟩
        case measure => have := HL.out; simp [intOf]; omega
      · have hcm : ¬ 0 < cmpN (x j).q (x (best x (j - 1))).q := by unfold cmpN; split <;> simp_all
        generalize cmpN (x j).q (x (best x (j - 1))).q = cv at CP hcm
        have hbf := best_f (by omega) hq
        have HB := hid hbf
        clear hq hbf hj1 hj
        go_wp2_with fail
        refine region_kept (w0 := w) (l := [(w.heap.size + 1, #[.int .i16 (x (best x (j - 1))).a, .int .i16 (x (best x (j - 1))).b, .float .f32 (x (best x (j - 1))).q, .int .i64 (x (best x (j - 1))).s], 29), (w.heap.size, #[.int .i16 0, .int .i16 0, .float .f32 0, .int .i64 0], 29)]) 8 #[false, false, false, false, false, false, false, false] (by kernel_rfl) rfl rfl ?_
        have kd := h0.out.drew
        generalize World.drew _ = wd at kd ⊢
        refine take_val 0 _ _ (.func (.func 28) #[] #[]) rfl (by rfl) (by kernel_rfl) (by kernel_rfl) (by kernel_rfl) (fun w => by rfl) rfl rfl kd ?_
        simp only [Act.put, List.setIfInBounds_toArray, List.set_cons_zero, List.set_cons_succ]
        refine take_val 1 _ _ (.slice (some ⟨b, o, none⟩) n cap) rfl (by rfl) (by kernel_rfl) (by kernel_rfl) (by kernel_rfl) (fun w => by rfl) rfl rfl kd ?_
        simp only [Act.put, List.setIfInBounds_toArray, List.set_cons_zero, List.set_cons_succ]
        refine take_val 2 _ _ (.int .i64 (j : Int)) rfl (by rfl) (by kernel_rfl) (by kernel_rfl) (by kernel_rfl) (fun w => by rfl) rfl rfl kd ?_
        simp only [Act.put, List.setIfInBounds_toArray, List.set_cons_zero, List.set_cons_succ]
        refine take_val 3 _ _ (.pointer (some ⟨b, o + j * 4, none⟩)) rfl (by rfl) (by kernel_rfl) (by kernel_rfl) (by kernel_rfl) (fun w => run_index_op _ _ rfl rfl (run_indexAt Tryd.underlying32 info_cell HL.out w)) rfl rfl kd ?_
        simp only [Act.put, List.setIfInBounds_toArray, List.set_cons_zero, List.set_cons_succ]
        refine take_cell 4 _ _ (.agg #[.int .i16 (x j).a, .int .i16 (x j).b, .float .f32 (x j).q, .int .i64 (x j).s]) rfl (by rfl) (by kernel_rfl) (by kernel_rfl) (by kernel_rfl) (fun wq hS => run_load_mid 29 _ b (o + j * 4) (e4 (x j)) rfl (RC.out j HL.out _ hS.1) _ Tryd.underlying29 rfl info_cell) rfl rfl kd ?_
        simp only [Act.put, List.setIfInBounds_toArray, List.set_cons_zero, List.set_cons_succ]
        refine take_cell 5 _ _ (.agg #[.int .i16 (x (best x (j - 1))).a, .int .i16 (x (best x (j - 1))).b, .float .f32 (x (best x (j - 1))).q, .int .i64 (x (best x (j - 1))).s]) rfl (by rfl) (by kernel_rfl) (by kernel_rfl) (by kernel_rfl) (fun wq hS => run_load_mid 29 _ (w.heap.size + 1) 0 (e4 (x (best x (j - 1)))) rfl (range_part (hS.at (x := (w.heap.size + 1, #[.int .i16 (x (best x (j - 1))).a, .int .i16 (x (best x (j - 1))).b, .float .f32 (x (best x (j - 1))).q, .int .i64 (x (best x (j - 1))).s], 29)) (by simp)) 0 (e4 (x (best x (j - 1)))) rfl) _ Tryd.underlying29 rfl info_cell) rfl rfl kd ?_
        simp only [Act.put, List.setIfInBounds_toArray, List.set_cons_zero, List.set_cons_succ]
        refine wpAnyH_ready (rs := [6]) (by kernel_rfl) (by simp) ?_
        refine callK 6 _ _ (.int .i64 (cv)) kd rfl (by rfl) 28 #[.agg #[.int .i16 (x j).a, .int .i16 (x j).b, .float .f32 (x j).q, .int .i64 (x j).s], .agg #[.int .i16 (x (best x (j - 1))).a, .int .i16 (x (best x (j - 1))).b, .float .f32 (x (best x (j - 1))).q, .int .i64 (x (best x (j - 1))).s]] (fun w => by unfold execOp; go_simp) rfl rfl ?hc1 (fun w1 k1 => ?_) AllReadyH.nil
        case hc1 => exact CP.out _
        refine ⟨k1, ?_⟩
        simp only [Act.put, List.setIfInBounds_toArray, List.set_cons_zero, List.set_cons_succ]
        refine take_val 7 _ _ (.bool false) rfl (by rfl) (by kernel_rfl) (by kernel_rfl) (by kernel_rfl) (fun w => by unfold execOp; go_simp) rfl rfl k1 ?_
        simp only [Act.put, List.setIfInBounds_toArray, List.set_cons_zero, List.set_cons_succ]
        refine wpAnyH_done (by kernel_rfl) (NoPanic.normal ?_) _
        have k2 := hid k1
        clear k1
        go_wp2
        go_roundw
        case rel => exact ⟨j + 1, by omega, HL.out, by go_num, by rw [Nat.add_sub_cancel, HB.out]; exact k2⟩
        case measure => have := HL.out; simp [intOf]; omega
    · obtain rfl : j = n := by omega
      have hnl : ¬ (j : Int) < (j : Int) := by omega
      have tok : True := trivial
      go_wp2_with (first | refine wpList_load_row rfl 29 _ rfl (w.heap.size + 1) rfl 29 (#[.int .i16 (x (best x (j - 1))).a, .int .i16 (x (best x (j - 1))).b, .float .f32 (x (best x (j - 1))).q, .int .i64 (x (best x (j - 1))).s]) (0, 0) _ (h0.out.at (x := (w.heap.size + 1, #[.int .i16 (x (best x (j - 1))).a, .int .i16 (x (best x (j - 1))).b, .float .f32 (x (best x (j - 1))).q, .int .i64 (x (best x (j - 1))).s], 29)) (by simp)) Tryd.underlying29 rfl info_cell ?_ | (have _t := tok; refine store_kept (w0 := w) (l := []) rfl 29 _ _ rfl w.heap.size (#[.int .i16 (x (best x (j - 1))).a, .int .i16 (x (best x (j - 1))).b, .float .f32 (x (best x (j - 1))).q, .int .i64 (x (best x (j - 1))).s]) rfl rfl 29 (#[.int .i16 0, .int .i16 0, .float .f32 0, .int .i64 0]) (h0.out.sub (by simp)) (by omega) (by simp) info_cell (by simp) (by simp [Value.oneCell']) ?_; intro w9 k9; clear tok; have k9 := hid k9))
      exact bodyPost_ret (results_cell_row rfl _ _ w.heap.size 29 #[.int .i16 (x (best x (j - 1))).a, .int .i16 (x (best x (j - 1))).b, .float .f32 (x (best x (j - 1))).q, .int .i64 (x (best x (j - 1))).s] (0, 0) _ rfl (k9.out.at (x := (w.heap.size, #[.int .i16 (x (best x (j - 1))).a, .int .i16 (x (best x (j - 1))).b, .float .f32 (x (best x (j - 1))).q, .int .i64 (x (best x (j - 1))).s], 29)) (by simp)) Tryd.underlying29 rfl info_cell) rfl ⟨rfl, k9.out.1⟩

theorem words_cons : ∀ (v : List Char) (r : List Char), (∀ c ∈ v, c ≠ Char.ofNat 32) → wordsSigns (v ++ Char.ofNat 32 :: r) = v :: wordsSigns r
  | [], r, _ => rfl
  | c :: v, r, h => by
    have ih := words_cons v r (fun x hx => h x (by simp [hx]))
    have hc : c ≠ Char.ofNat 32 := h c (by simp)
    show wordsSigns (c :: (v ++ Char.ofNat 32 :: r)) = _
    rw [wordsSigns.eq_3 _ _ (fun e => hc e), ih]

def w0 : List Nat := [104, 97, 114, 110, 101, 115, 115]

def w1 : List Nat := [48, 48, 101, 54, 53, 51, 54, 57, 49, 55, 48, 48, 48, 53, 54, 53, 100, 54, 102, 54, 99, 56, 102, 50, 49, 51, 49, 49, 102, 52, 100, 49, 101, 50, 57, 102, 55, 49, 98, 52, 99, 57, 55, 98, 56, 49, 55, 50, 52, 102, 56, 99, 52, 56, 51, 54, 101, 53, 54, 52, 48, 99, 55, 97]

def w2 : List Nat := [99, 117, 116]

def w3 : List Nat := [97, 116, 32, 108, 111, 111, 112, 46, 101, 120, 97, 109, 112, 108, 101, 47, 103, 48, 49, 50, 50, 52, 47, 108, 97, 119, 115, 46, 70, 110, 69, 120, 97, 99, 116, 69, 99, 104, 111, 65, 116, 32, 108, 111, 111, 112, 46, 101, 120, 97, 109, 112, 108, 101, 47, 103, 48, 49, 50, 50, 52, 47, 108, 97, 119, 115, 46, 70, 110, 69, 120, 97, 99, 116, 83, 116, 114, 111, 110, 103, 101, 115, 116, 67, 101, 108, 108, 32, 108, 111, 111, 112, 46, 101, 120, 97, 109, 112, 108, 101, 47, 103, 48, 49, 50, 50, 52, 47, 108, 97, 119, 115, 46, 70, 110, 69, 120, 97, 99, 116, 70, 111, 108, 100, 83, 112, 101, 101, 100, 32, 108, 111, 111, 112, 46, 101, 120, 97, 109, 112, 108, 101, 47, 103, 48, 49, 50, 50, 52, 47, 108, 97, 119, 115, 46, 70, 110, 69, 120, 97, 99, 116, 76, 111, 117, 100, 110, 101, 115, 115, 79, 102]

def letters (l : List Nat) : List Char := l.map Char.ofNat

theorem head_reads : Tryd.prog.initOrder = String.ofList (letters w0 ++ Char.ofNat 32 :: (letters w1 ++ Char.ofNat 32 :: (letters w2 ++ Char.ofNat 32 :: letters w3))) := by kernel_rfl

theorem no_blank {l : List Nat} (h : l.all (fun n => Char.ofNat n != Char.ofNat 32) = true) : ∀ c ∈ letters l, c ≠ Char.ofNat 32 := by
  intro c hc
  obtain ⟨n, hn, rfl⟩ := List.mem_map.1 hc
  have := List.all_eq_true.1 h n hn
  simpa using this

theorem h0 : letters w0 = "harness".toList := by kernel_rfl

theorem h2 : letters w2 = "cut".toList := by kernel_rfl

theorem sums : isSumSigns (letters w1) = true := by kernel_rfl

theorem words : wordsSigns Tryd.prog.initOrder.toList = "harness".toList :: letters w1 :: "cut".toList :: wordsSigns (letters w3) := by
  rw [head_reads, String.toList_ofList, words_cons _ _ (no_blank (by decide +kernel)), words_cons _ _ (no_blank (by decide +kernel)), words_cons _ _ (no_blank (by decide +kernel)), h0, h2]

theorem behind : ∃ r, behindMainWord (wordsSigns Tryd.prog.initOrder.toList) = "cut".toList :: r := by
  refine ⟨wordsSigns (letters w3), ?_⟩
  rw [words]
  generalize wordsSigns (letters w3) = r
  have hs := sums
  generalize letters w1 = v at hs
  unfold behindMainWord
  simp [hs]

theorem not_later : Tryd.prog.laysLater = false := by kernel_rfl

theorem no_reflect : Tryd.prog.bearsReflect = false := by kernel_rfl

theorem no_doors : Tryd.prog.doorFits [] = true := by kernel_rfl

theorem strips (r : List (List Char)) : stripLifts liftWords ("cut".toList :: r) = ([], "cut".toList :: r) := by kernel_rfl

theorem may_enter_of (P : Program) (r : List (List Char)) (h : behindMainWord (wordsSigns P.initOrder.toList) = "cut".toList :: r) (h1 : P.laysLater = false) (h2 : P.bearsReflect = false) (h3 : P.doorFits [] = true) : P.mayEnter = true := by
  unfold Program.mayEnter
  rw [h]
  dsimp only
  rw [strips, h1, h2, h3]
  kernel_rfl

theorem lifts_final_of (P : Program) (r : List (List Char)) (h : behindMainWord (wordsSigns P.initOrder.toList) = "cut".toList :: r) : P.liftsFinal = false := by
  unfold Program.liftsFinal Program.headLifts
  rw [h]
  dsimp only
  rw [strips]
  kernel_rfl

theorem made_of (P : Program) (r : List (List Char)) (h : behindMainWord (wordsSigns P.initOrder.toList) = "cut".toList :: r) : P.make = some .cut := by
  unfold Program.make
  rw [h]
  kernel_rfl

theorem may_enter : Tryd.prog.mayEnter = true := let ⟨r, h⟩ := behind; may_enter_of _ r h not_later no_reflect no_doors

theorem lifts_final : Tryd.prog.liftsFinal = false := let ⟨r, h⟩ := behind; lifts_final_of _ r h

theorem made : Tryd.prog.make = some .cut := let ⟨r, h⟩ := behind; made_of _ r h

theorem laid : laidOutB Tryd.prog = true := by kernel_rfl

theorem rowed : mapsRowed Tryd.prog = true := by kernel_rfl

theorem no_stops : Tryd.prog.stops = [] := by kernel_rfl

theorem no_knobs : Tryd.prog.stopKnobs = [] := by kernel_rfl

theorem plain_keys : Tryd.prog.plainKeys = true := by kernel_rfl

theorem stops_heard : Tryd.prog.stopsHeard = true := by kernel_rfl

theorem arr1 {α : Type} {cs : Array α} (h : cs.size = 1) : ∃ c0, cs = #[c0] := by
  obtain ⟨l⟩ := cs
  match l, h with
  | [a], _ => exact ⟨a, rfl⟩

theorem own : ownKnob Tryd.prog.godebug = none := by kernel_rfl

theorem cellsF : Tryd.prog.cellsOf 27 = 1 := by kernel_rfl

theorem rde : Tryd.prog.readableRec 22 = true ∧ 22 < Tryd.prog.types.size := ⟨by kernel_rfl, of_decide_eq_true (by kernel_rfl)⟩

theorem cellsE4 : Tryd.prog.cellsOf 52 = 4 := by kernel_rfl

theorem cellsE2 : Tryd.prog.cellsOf 24 = 2 := by kernel_rfl

theorem cellsE1 : Tryd.prog.cellsOf 23 = 1 := by kernel_rfl

theorem cellsEI : Tryd.prog.cellsOf 2 = 1 := by kernel_rfl

/-- The door's own heap meets the rows' condition. -/
theorem door_met (os : Os) (args : Array Value) : laidMetH Tryd.prog Rows.fnExactEchoAtRow.laid ((World.doorLaid Tryd.prog 400 os).forCall (fun _ _ => 0) ⟨#[], args, []⟩).memory :=
  laidMetH_of_parts3 (fuel := 8) (laidMet_of_run' 8 (by kernel_rfl) (by kernel_rfl)) (by kernel_rfl) (by kernel_rfl)

/-- A variable of the five, as a reading of it wants. -/
theorem var_is {W : World} {n : String} {g : Nat} {a : Addr} (hg : Tryd.prog.globalNamed n = some g) (ht : (Tryd.prog.globals[g]?).map (·.type) = some 55) (h : W.var? Tryd.prog n = some #[.iface 102 (.pointer (some a))]) :
    ∃ g ti ms, Tryd.prog.globalNamed n = some g ∧ (Tryd.prog.globals[g]?).map (·.type) = some ti ∧ Tryd.prog.underlying ti = some (.interface ms) ∧ W.var? Tryd.prog n = some #[.iface 102 (.pointer (some a))] ∧ IsIface (.iface 102 (.pointer (some a))) :=
  ⟨g, _, _, hg, ht, Tryd.underlying55, h, trivial⟩

set_option maxRecDepth 100000 in
set_option maxHeartbeats 4000000 in
theorem iStrong_bad (A : Nat → Addr) (s : Value) (n : Nat) (x : Nat → E4) (hx : ∀ k, (x k).ok) (hbad : ¬ (MapP n x ∧ n ≤ 400)) (w : World) (hA : Sent w A) (hs : RdE w s n x) (hn : n ≤ 1048576) :
    Calls Tryd.prog 15 #[s] w fun e w' => e = .returned (.tuple #[.agg #[.int .i16 0, .int .i16 0, .float .f32 0, .int .i64 0], .int .i64 1]) ∧ Below w.heap.size w w' := by
  have R := hid hs
  obtain ⟨p, cap, rfl, hc⟩ := hs
  have HC := hid hc
  have HX := hid hx
  have HN := hid hn
  have HS := hid hA
  clear hA
  clear hc hx hn
  have HB := hid hbad
  clear hbad
  have k0 : Hid (Kept w [(w.heap.size, #[.int .i16 0, .int .i16 0, .float .f32 0, .int .i64 0], 29)] (w.alloc (.cells #[.int .i16 0, .int .i16 0, .float .f32 0, .int .i64 0] 29))) := hid (((Kept.nil w).push _ _).sub (by simp))
  go_enter Tryd.func15, Tryd.ntmps15
  go_wp2_with fail
  generalize (w.alloc (.cells #[.int .i16 0, .int .i16 0, .float .f32 0, .int .i64 0] 29)) = w1 at k0 ⊢
  refine (iMap (.slice p n cap) n x HX.out false ⟨fun h => Bool.noConfusion h, fun h => absurd h HB.out⟩ _ (rdE_stay R.out rfl k0.out.1) HN.out).mono ?_
  rintro e w2 ⟨rfl, b2⟩
  have k2 := hid (k0.out.stay b2)
  clear b2 k0
  have S2 := hid (HS.out.stay k2.out.1)
  have c0 := S2.out.c0
  go_wp2_with fail
  refine (code_0 A _ S2.out).mono ?_
  rintro e u ⟨rfl, rfl⟩
  have tok : True := trivial
  go_wp2_with (first | (have _t := tok; refine store_kept (w0 := w) (l := []) rfl 29 _ _ rfl w.heap.size (#[.int .i16 0, .int .i16 0, .float .f32 0, .int .i64 0]) rfl rfl 29 (#[.int .i16 0, .int .i16 0, .float .f32 0, .int .i64 0]) (k2.out.sub (by simp)) (by omega) (by simp) info_cell (by simp) (by simp [Value.oneCell']) ?_; intro w9 k9; clear tok; have k9 := hid k9))
  exact bodyPost_ret (results_row_tmp rfl _ _ w.heap.size 29 #[.int .i16 0, .int .i16 0, .float .f32 0, .int .i64 0] (0, 0) _ rfl (k9.out.at (x := (w.heap.size, #[.int .i16 0, .int .i16 0, .float .f32 0, .int .i64 0], 29)) (by simp)) Tryd.underlying29 rfl info_cell) rfl ⟨rfl, k9.out.1⟩

set_option maxRecDepth 100000 in
set_option maxHeartbeats 4000000 in
theorem iStrong_none (A : Nat → Addr) (s : Value) (n : Nat) (x : Nat → E4) (hx : ∀ k, (x k).ok) (hok : MapP n x ∧ n ≤ 400) (h0 : n = 0) (w : World) (hA : Sent w A) (hs : RdE w s n x) (hn : n ≤ 1048576) :
    Calls Tryd.prog 15 #[s] w fun e w' => e = .returned (.tuple #[.agg #[.int .i16 0, .int .i16 0, .float .f32 0, .int .i64 0], .int .i64 6]) ∧ Below w.heap.size w w' := by
  have R := hid hs
  obtain ⟨p, cap, rfl, hc⟩ := hs
  have HC := hid hc
  have HX := hid hx
  have HN := hid hn
  have HS := hid hA
  clear hA
  clear hc hx hn
  have HK := hid hok
  clear hok
  subst h0
  have k0 : Hid (Kept w [(w.heap.size, #[.int .i16 0, .int .i16 0, .float .f32 0, .int .i64 0], 29)] (w.alloc (.cells #[.int .i16 0, .int .i16 0, .float .f32 0, .int .i64 0] 29))) := hid (((Kept.nil w).push _ _).sub (by simp))
  go_enter Tryd.func15, Tryd.ntmps15
  go_wp2_with fail
  generalize (w.alloc (.cells #[.int .i16 0, .int .i16 0, .float .f32 0, .int .i64 0] 29)) = w1 at k0 ⊢
  refine (iMap (.slice p 0 cap) 0 x HX.out true ⟨fun _ => HK.out, fun _ => rfl⟩ _ (rdE_stay R.out rfl k0.out.1) HN.out).mono ?_
  rintro e w2 ⟨rfl, b2⟩
  have k2 := hid (k0.out.stay b2)
  clear b2 k0
  have S2 := hid (HS.out.stay k2.out.1)
  have c4 := S2.out.c4
  go_wp2_with fail
  refine (code_4 A _ S2.out).mono ?_
  rintro e u ⟨rfl, rfl⟩
  have tok : True := trivial
  go_wp2_with (first | (have _t := tok; refine store_kept (w0 := w) (l := []) rfl 29 _ _ rfl w.heap.size (#[.int .i16 0, .int .i16 0, .float .f32 0, .int .i64 0]) rfl rfl 29 (#[.int .i16 0, .int .i16 0, .float .f32 0, .int .i64 0]) (k2.out.sub (by simp)) (by omega) (by simp) info_cell (by simp) (by simp [Value.oneCell']) ?_; intro w9 k9; clear tok; have k9 := hid k9))
  exact bodyPost_ret (results_row_tmp rfl _ _ w.heap.size 29 #[.int .i16 0, .int .i16 0, .float .f32 0, .int .i64 0] (0, 0) _ rfl (k9.out.at (x := (w.heap.size, #[.int .i16 0, .int .i16 0, .float .f32 0, .int .i64 0], 29)) (by simp)) Tryd.underlying29 rfl info_cell) rfl ⟨rfl, k9.out.1⟩

set_option maxRecDepth 100000 in
set_option maxHeartbeats 4000000 in
theorem iStrong_ok (A : Nat → Addr) (s : Value) (n : Nat) (x : Nat → E4) (hx : ∀ k, (x k).ok) (hok : MapP n x ∧ n ≤ 400) (h0 : 0 < n) (w : World) (hA : Sent w A) (hs : RdE w s n x) (hn : n ≤ 1048576) :
    Calls Tryd.prog 15 #[s] w fun e w' => e = .returned (.tuple #[.agg #[.int .i16 (x (best x (n - 1))).a, .int .i16 (x (best x (n - 1))).b, .float .f32 (x (best x (n - 1))).q, .int .i64 (x (best x (n - 1))).s], .int .i64 0]) ∧ Below w.heap.size w w' := by
  have R := hid hs
  obtain ⟨p, cap, rfl, hc⟩ := hs
  have HC := hid hc
  have HX := hid hx
  have HN := hid hn
  have HS := hid hA
  clear hA
  clear hc hx hn
  have HK := hid hok
  have H0 := hid h0
  have hnz : ¬ (n : Int) = 0 := by omega
  have hnb : ((n : Int) == 0) = false := by simp; omega
  clear hok h0
  have k0 : Hid (Kept w [(w.heap.size, #[.int .i16 0, .int .i16 0, .float .f32 0, .int .i64 0], 29)] (w.alloc (.cells #[.int .i16 0, .int .i16 0, .float .f32 0, .int .i64 0] 29))) := hid (((Kept.nil w).push _ _).sub (by simp))
  go_enter Tryd.func15, Tryd.ntmps15
  go_wp2_with fail
  generalize (w.alloc (.cells #[.int .i16 0, .int .i16 0, .float .f32 0, .int .i64 0] 29)) = w1 at k0 ⊢
  refine (iMap (.slice p n cap) n x HX.out true ⟨fun _ => HK.out, fun _ => rfl⟩ _ (rdE_stay R.out rfl k0.out.1) HN.out).mono ?_
  rintro e w2 ⟨rfl, b2⟩
  have k2 := hid (k0.out.stay b2)
  clear b2 k0
  have R2 := hid (rdE_stay R.out rfl k2.out.1)
  go_wp2_with fail
  refine (iMax (.slice p n cap) n x H0.out (fun k hk => (HK.out.1 k hk).1.2.2.1) _ R2.out HN.out).mono ?_
  rintro e w3 ⟨rfl, b3⟩
  have k3 := hid (k2.out.stay b3)
  clear b3 k2 R2
  have tok : True := trivial
  go_wp2_with (first | (have _t := tok; refine store_kept (w0 := w) (l := []) rfl 29 _ _ rfl w.heap.size (#[.int .i16 (x (best x (n - 1))).a, .int .i16 (x (best x (n - 1))).b, .float .f32 (x (best x (n - 1))).q, .int .i64 (x (best x (n - 1))).s]) rfl rfl 29 (#[.int .i16 0, .int .i16 0, .float .f32 0, .int .i64 0]) (k3.out.sub (by simp)) (by omega) (by simp) info_cell (by simp) (by simp [Value.oneCell']) ?_; intro w9 k9; clear tok; have k9 := hid k9))
  exact bodyPost_ret (results_row_tmp rfl _ _ w.heap.size 29 #[.int .i16 (x (best x (n - 1))).a, .int .i16 (x (best x (n - 1))).b, .float .f32 (x (best x (n - 1))).q, .int .i64 (x (best x (n - 1))).s] (0, 0) _ rfl (k9.out.at (x := (w.heap.size, #[.int .i16 (x (best x (n - 1))).a, .int .i16 (x (best x (n - 1))).b, .float .f32 (x (best x (n - 1))).q, .int .i64 (x (best x (n - 1))).s], 29)) (by simp)) Tryd.underlying29 rfl info_cell) rfl ⟨rfl, k9.out.1⟩

set_option maxRecDepth 100000 in
set_option maxHeartbeats 4000000 in
theorem sStrong_bad (s : Value) (n : Nat) (x : Nat → E4) (hx : ∀ k, (x k).ok) (hbad : ¬ (MapP n x ∧ n ≤ 400)) (w : World) (hs : RdE w s n x) (hn : n ≤ 1048576) :
    Calls Tryd.prog 14 #[s] w fun e w' => e = .returned (.tuple #[.agg #[.int .i16 0, .int .i16 0, .float .f32 0, .int .i64 0], .int .i64 1]) ∧ Below w.heap.size w w' := by
  have R := hid hs
  obtain ⟨p, cap, rfl, hc⟩ := hs
  have HC := hid hc
  have HX := hid hx
  have HN := hid hn
  clear hc hx hn
  have HB := hid hbad
  clear hbad
  have k0 : Hid (Kept w [(w.heap.size, #[.int .i16 0, .int .i16 0, .float .f32 0, .int .i64 0], 29)] (w.alloc (.cells #[.int .i16 0, .int .i16 0, .float .f32 0, .int .i64 0] 29))) := hid (((Kept.nil w).push _ _).sub (by simp))
  go_enter Tryd.func14, Tryd.ntmps14
  go_wp2_with fail
  generalize (w.alloc (.cells #[.int .i16 0, .int .i16 0, .float .f32 0, .int .i64 0] 29)) = w1 at k0 ⊢
  refine (sMap (.slice p n cap) n x HX.out false ⟨fun h => Bool.noConfusion h, fun h => absurd h HB.out⟩ _ (rdE_stay R.out rfl k0.out.1) HN.out).mono ?_
  rintro e w2 ⟨rfl, b2⟩
  have k2 := hid (k0.out.stay b2)
  clear b2 k0
  have tok : True := trivial
  go_wp2_with (first | (have _t := tok; refine store_kept (w0 := w) (l := []) rfl 29 _ _ rfl w.heap.size (#[.int .i16 0, .int .i16 0, .float .f32 0, .int .i64 0]) rfl rfl 29 (#[.int .i16 0, .int .i16 0, .float .f32 0, .int .i64 0]) (k2.out.sub (by simp)) (by omega) (by simp) info_cell (by simp) (by simp [Value.oneCell']) ?_; intro w9 k9; clear tok; have k9 := hid k9))
  exact bodyPost_ret (results_row_tmp rfl _ _ w.heap.size 29 #[.int .i16 0, .int .i16 0, .float .f32 0, .int .i64 0] (0, 0) _ rfl (k9.out.at (x := (w.heap.size, #[.int .i16 0, .int .i16 0, .float .f32 0, .int .i64 0], 29)) (by simp)) Tryd.underlying29 rfl info_cell) rfl ⟨rfl, k9.out.1⟩

set_option maxRecDepth 100000 in
set_option maxHeartbeats 4000000 in
theorem sStrong_none (s : Value) (n : Nat) (x : Nat → E4) (hx : ∀ k, (x k).ok) (hok : MapP n x ∧ n ≤ 400) (h0 : n = 0) (w : World) (hs : RdE w s n x) (hn : n ≤ 1048576) :
    Calls Tryd.prog 14 #[s] w fun e w' => e = .returned (.tuple #[.agg #[.int .i16 0, .int .i16 0, .float .f32 0, .int .i64 0], .int .i64 6]) ∧ Below w.heap.size w w' := by
  have R := hid hs
  obtain ⟨p, cap, rfl, hc⟩ := hs
  have HC := hid hc
  have HX := hid hx
  have HN := hid hn
  clear hc hx hn
  have HK := hid hok
  clear hok
  subst h0
  have k0 : Hid (Kept w [(w.heap.size, #[.int .i16 0, .int .i16 0, .float .f32 0, .int .i64 0], 29)] (w.alloc (.cells #[.int .i16 0, .int .i16 0, .float .f32 0, .int .i64 0] 29))) := hid (((Kept.nil w).push _ _).sub (by simp))
  go_enter Tryd.func14, Tryd.ntmps14
  go_wp2_with fail
  generalize (w.alloc (.cells #[.int .i16 0, .int .i16 0, .float .f32 0, .int .i64 0] 29)) = w1 at k0 ⊢
  refine (sMap (.slice p 0 cap) 0 x HX.out true ⟨fun _ => HK.out, fun _ => rfl⟩ _ (rdE_stay R.out rfl k0.out.1) HN.out).mono ?_
  rintro e w2 ⟨rfl, b2⟩
  have k2 := hid (k0.out.stay b2)
  clear b2 k0
  have tok : True := trivial
  go_wp2_with (first | (have _t := tok; refine store_kept (w0 := w) (l := []) rfl 29 _ _ rfl w.heap.size (#[.int .i16 0, .int .i16 0, .float .f32 0, .int .i64 0]) rfl rfl 29 (#[.int .i16 0, .int .i16 0, .float .f32 0, .int .i64 0]) (k2.out.sub (by simp)) (by omega) (by simp) info_cell (by simp) (by simp [Value.oneCell']) ?_; intro w9 k9; clear tok; have k9 := hid k9))
  exact bodyPost_ret (results_row_tmp rfl _ _ w.heap.size 29 #[.int .i16 0, .int .i16 0, .float .f32 0, .int .i64 0] (0, 0) _ rfl (k9.out.at (x := (w.heap.size, #[.int .i16 0, .int .i16 0, .float .f32 0, .int .i64 0], 29)) (by simp)) Tryd.underlying29 rfl info_cell) rfl ⟨rfl, k9.out.1⟩

set_option maxRecDepth 100000 in
set_option maxHeartbeats 4000000 in
theorem sStrong_ok (s : Value) (n : Nat) (x : Nat → E4) (hx : ∀ k, (x k).ok) (hok : MapP n x ∧ n ≤ 400) (h0 : 0 < n) (w : World) (hs : RdE w s n x) (hn : n ≤ 1048576) :
    Calls Tryd.prog 14 #[s] w fun e w' => e = .returned (.tuple #[.agg #[.int .i16 (x (best x (n - 1))).a, .int .i16 (x (best x (n - 1))).b, .float .f32 (x (best x (n - 1))).q, .int .i64 (x (best x (n - 1))).s], .int .i64 0]) ∧ Below w.heap.size w w' := by
  have R := hid hs
  obtain ⟨p, cap, rfl, hc⟩ := hs
  have HC := hid hc
  have HX := hid hx
  have HN := hid hn
  clear hc hx hn
  have HK := hid hok
  have H0 := hid h0
  have hnz : ¬ (n : Int) = 0 := by omega
  have hnb : ((n : Int) == 0) = false := by simp; omega
  clear hok h0
  have k0 : Hid (Kept w [(w.heap.size, #[.int .i16 0, .int .i16 0, .float .f32 0, .int .i64 0], 29)] (w.alloc (.cells #[.int .i16 0, .int .i16 0, .float .f32 0, .int .i64 0] 29))) := hid (((Kept.nil w).push _ _).sub (by simp))
  go_enter Tryd.func14, Tryd.ntmps14
  go_wp2_with fail
  generalize (w.alloc (.cells #[.int .i16 0, .int .i16 0, .float .f32 0, .int .i64 0] 29)) = w1 at k0 ⊢
  refine (sMap (.slice p n cap) n x HX.out true ⟨fun _ => HK.out, fun _ => rfl⟩ _ (rdE_stay R.out rfl k0.out.1) HN.out).mono ?_
  rintro e w2 ⟨rfl, b2⟩
  have k2 := hid (k0.out.stay b2)
  clear b2 k0
  obtain ⟨b, o, rfl, hcell⟩ := HC.out H0.out
  have RC := hid (fun i (hi : i < n) wq (hb : Below w.heap.size w wq) => range_stay (hcell i hi) rfl hb)
  clear hcell
  go_wp2_with fail
  clear hnz hnb
  go_loopw [4, 5] (fun u i wr => ∃ j : Nat, 1 ≤ j ∧ j ≤ n ∧ i = .int .i64 j ∧ u = .int .i64 (best x (j - 1) : Nat) ∧ Hid (Kept w [(w.heap.size, #[.int .i16 0, .int .i16 0, .float .f32 0, .int .i64 0], 29)] wr)) (fun _ i _ => n - (intOf i).toNat)
  case atStart => exact ⟨1, Nat.le_refl _, H0.out, rfl, rfl, k2⟩
  case round =>
    obtain ⟨j, hj1, hj, rfl, rfl, h0⟩ := hrel
    clear k2
    have hn9 := HN.out
    have hble := best_le x (j - 1)
    have hbj : best x (j - 1) < n := by have := H0.out; omega
    have i2 := fun w => run_indexAt (P := Tryd.prog) (t := 32) (e := 29) Tryd.underlying32 info_cell (b := b) (o := o) (n := n) (cap := cap) (k := best x (j - 1)) hbj w
    by_cases hlt : j < n
    · have hk3 : (j : Int) < (n : Int) := by omega
      have HL := hid hlt
      have i1 := fun w => run_indexAt (P := Tryd.prog) (t := 32) (e := 29) Tryd.underlying32 info_cell (b := b) (o := o) (n := n) (cap := cap) (k := j) hlt w
      obtain ⟨-, -, c2, -⟩ := range_cells (RC.out j hlt _ h0.out.1)
      obtain ⟨-, -, d2, -⟩ := range_cells (RC.out _ hbj _ h0.out.1)
      have g := ord_gt (HK.out.1 j hlt).1.2.2.1 (HK.out.1 _ hbj).1.2.2.1
      have HBL := hid hble
      clear hble
      by_cases hq : (x (best x (j - 1))).q < (x j).q
      · rw [decide_eq_true hq] at g
        have HB := hid (best_t (by omega) hq)
        clear hq hj1 hj hbj
        generalize best x (j - 1) = bb at i2 d2 g ⊢
        go_wp2_with fail
        go_quiet (fail)
        go_wp2
        go_roundw
        case rel => exact ⟨j + 1, by omega, HL.out, by go_num, by rw [Nat.add_sub_cancel, HB.out], hid (kept_drewK h0.out nq)⟩
        case measure => have := HL.out; simp [intOf]; omega
      · rw [decide_eq_false hq] at g
        have HB := hid (best_f (by omega) hq)
        clear hq hj1 hj hbj
        generalize hbb : best x (j - 1) = bb at i2 d2 g HB ⊢
        clear hbb
        go_wp2_with fail
        go_quiet (fail)
        go_wp2
        go_roundw
        case rel => exact ⟨j + 1, by omega, HL.out, by go_num, by rw [Nat.add_sub_cancel, HB.out], hid (kept_drewK h0.out nq)⟩
        case measure => have := HL.out; simp [intOf]; omega
    · obtain rfl : j = n := by omega
      have hnl : ¬ (j : Int) < (j : Int) := by omega
      have R1 := hid (RC.out _ hbj _ h0.out.1)
      have HBB := hid hbj
      clear hble hbj
      have tok : True := trivial
      generalize hbb : best x (j - 1) = bb at i2 R1 HBB ⊢
      have HE := hid hbb
      clear hbb
      go_wp2_with (first | refine wpList_load_mid rfl 29 _ rfl b (o + bb * 4) rfl [.int .i16 (x bb).a, .int .i16 (x bb).b, .float .f32 (x bb).q, .int .i64 (x bb).s] _ R1.out Tryd.underlying29 rfl info_cell ?_ | (have _t := tok; refine store_kept (w0 := w) (l := []) rfl 29 _ _ rfl w.heap.size (#[.int .i16 (x bb).a, .int .i16 (x bb).b, .float .f32 (x bb).q, .int .i64 (x bb).s]) rfl rfl 29 (#[.int .i16 0, .int .i16 0, .float .f32 0, .int .i64 0]) (h0.out.sub (by simp)) (by omega) (by simp) info_cell (by simp) (by simp [Value.oneCell']) ?_; intro w9 k9; clear tok; have k9 := hid k9))
      exact bodyPost_ret (results_row_tmp rfl _ _ w.heap.size 29 #[.int .i16 (x bb).a, .int .i16 (x bb).b, .float .f32 (x bb).q, .int .i64 (x bb).s] (0, 0) _ rfl (k9.out.at (x := (w.heap.size, #[.int .i16 (x bb).a, .int .i16 (x bb).b, .float .f32 (x bb).q, .int .i64 (x bb).s], 29)) (by simp)) Tryd.underlying29 rfl info_cell) rfl ⟨by rw [HE.out]; rfl, k9.out.1⟩

set_option maxRecDepth 100000 in
set_option maxHeartbeats 4000000 in
theorem coreStrongestCell (A : Nat → Addr) (n : Nat) (x : Nat → E4) (hx : ∀ k, (x k).ok) (c : E4) (hc : c.q < 4294967296) (r : Int)
    (hS : ∀ w s, RdE w s n x → Calls Tryd.prog 14 #[s] w fun e w' => e = .returned (.tuple #[.agg #[.int .i16 c.a, .int .i16 c.b, .float .f32 c.q, .int .i64 c.s], .int .i64 r]) ∧ Below w.heap.size w w')
    (hI : ∀ w s, Sent w A → RdE w s n x → Calls Tryd.prog 15 #[s] w fun e w' => e = .returned (.tuple #[.agg #[.int .i16 c.a, .int .i16 c.b, .float .f32 c.q, .int .i64 c.s], .int .i64 r]) ∧ Below w.heap.size w w')
    (s : Value) (w : World) (hA : Sent w A) (hs : RdE w s n x) (hn : n ≤ 1048576) :
    Calls Tryd.prog 4 #[s] w fun e w' => e = .returned (.bool true) ∧ Below w.heap.size w w' := by
  have R := hid hs
  obtain ⟨p, cap, rfl, _⟩ := hs
  have HX := hid hx
  have HC := hid hc
  have HS := hid hS
  have HI := hid hI
  have HN := hid hn
  have SA := hid hA
  have hneg : ¬ (1048576 - (n : Int) < 0) := by omega
  have k0 : Hid (Kept w [] w) := hid (Kept.nil w)
  clear hx hc hS hI hn hA
  go_enter Tryd.func4, Tryd.ntmps4
  go_wp2_with fail
  refine (szCells_ok _ _ _ HN.out _).mono ?_
  rintro e u0 ⟨rfl, rfl⟩
  go_wp2_with fail
  refine (toCells _ n x _ R.out HN.out).mono ?_
  rintro e y1 ⟨g1, rfl, r1, b1⟩
  have ka := hid (k0.out.stay b1)
  have ra := hid r1
  clear b1 r1
  go_wp2_with fail
  refine (HS.out _ _ ra.out).mono ?_
  rintro e y2 ⟨rfl, b2⟩
  have kb := hid (ka.out.stay b2)
  clear b2 ra
  have kc := hid (kb.out.push #[.int .i16 c.a, .int .i16 c.b, .float .f32 c.q, .int .i64 c.s] 29)
  go_wp2_with fail
  refine (toCells _ n x _ (rdE_stay R.out rfl kc.out.1) HN.out).mono ?_
  rintro e y3 ⟨g3, rfl, r3, b3⟩
  have kd := hid (kc.out.stay b3)
  have rd := hid r3
  clear b3 r3
  go_wp2_with fail
  refine (HI.out _ _ (SA.out.stay kd.out.1) rd.out).mono ?_
  rintro e y4 ⟨rfl, b4⟩
  have ke := hid (kd.out.stay b4)
  have re := hid (rdE_stay rd.out rfl b4)
  clear b4
  have b5 := (Below.refl y4.heap.size y4).alloc (Nat.le_refl _) (.cells #[.int .i16 c.a, .int .i16 c.b, .float .f32 c.q, .int .i64 c.s] 29)
  have kf := hid (ke.out.push #[.int .i16 c.a, .int .i16 c.b, .float .f32 c.q, .int .i64 c.s] 29)
  have rf := hid (rdE_stay re.out rfl b5)
  clear b5
  go_wp2_with (first | refine wpList_load_row rfl 29 _ rfl (y4.heap.size) rfl 29 (#[.int .i16 c.a, .int .i16 c.b, .float .f32 c.q, .int .i64 c.s]) (0, 0) _ (kf.out.at (x := (y4.heap.size, #[.int .i16 c.a, .int .i16 c.b, .float .f32 c.q, .int .i64 c.s], 29)) (by simp)) Tryd.underlying29 rfl (info_cell) ?_ | refine wpList_load_row rfl 29 _ rfl (y2.heap.size) rfl 29 (#[.int .i16 c.a, .int .i16 c.b, .float .f32 c.q, .int .i64 c.s]) (0, 0) _ (kf.out.at (x := (y2.heap.size, #[.int .i16 c.a, .int .i16 c.b, .float .f32 c.q, .int .i64 c.s], 29)) (by simp)) Tryd.underlying29 rfl (info_cell) ?_)
  refine (eqCell c.a c.b c.q c.s HC.out _).mono ?_
  rintro e y5 ⟨rfl, b6⟩
  have kg := hid (kf.out.stay b6)
  have rg := hid (rdE_stay rf.out rfl b6)
  clear b6
  go_wp2_with fail
  refine (toCells _ n x _ (rdE_stay R.out rfl kg.out.1) HN.out).mono ?_
  rintro e y6 ⟨g6, rfl, r6, b7⟩
  have kh := hid (kg.out.stay b7)
  have rh := hid (rdE_stay rg.out rfl b7)
  have rj := hid r6
  clear b7 r6
  go_wp2_with fail
  refine (eqCells _ _ n x HX.out _ rh.out rj.out HN.out).mono ?_
  rintro e y7 ⟨rfl, b8⟩
  have ki := hid (kh.out.stay b8)
  clear b8
  go_wp2
  go_ret
  exact ⟨rfl, ki.out.1⟩

theorem lawStrongestCell (A : Nat → Addr) (n : Nat) (x : Nat → E4) (s : Value) (hx : ∀ k, (x k).ok) {w : World} (hA : Sent w A) (hs : RdE w s n x) (hm : n ≤ maxLen) :
    Calls Tryd.prog 4 #[s] w fun e w' => e = .returned (.bool true) ∧ Below w.heap.size w w' := by
  by_cases hn : n ≤ 1048576
  · rcases Classical.em (MapP n x ∧ n ≤ 400) with h | h
    · rcases Nat.eq_zero_or_pos n with h0 | h0
      · exact coreStrongestCell A n x hx ⟨0, 0, 0, 0⟩ (by decide) 6 (fun w s hs => sStrong_none s n x hx h h0 w hs hn) (fun w s hA hs => iStrong_none A s n x hx h h0 w hA hs hn) s w hA hs hn
      · exact coreStrongestCell A n x hx (x (best x (n - 1))) (hx _).1 0 (fun w s hs => sStrong_ok s n x hx h h0 w hs hn) (fun w s hA hs => iStrong_ok A s n x hx h h0 w hA hs hn) s w hA hs hn
    · exact coreStrongestCell A n x hx ⟨0, 0, 0, 0⟩ (by decide) 1 (fun w s hs => sStrong_bad s n x hx h w hs hn) (fun w s hA hs => iStrong_bad A s n x hx h w hA hs hn) s w hA hs hn
  · obtain ⟨p, cap, rfl, _⟩ := hs
    have HN := hid (show 1048576 < n by omega)
    have HM := hid hm
    clear hx hm hn hA
    go_enter Tryd.func4, Tryd.ntmps4
    go_wp2_with fail
    refine (szCells_no _ _ _ HN.out HM.out _).mono ?_
    rintro e u0 ⟨rfl, rfl⟩
    go_wp2
    go_ret
    exact ⟨rfl, Below.refl _ _⟩
end Go.Proofs.YtllkjockdogagaaDoor

namespace Go.Proofs.YtllkjockdogagaaDoor.fnExactStrongestCell
open Go.RowKit Go.Fl Go.ChangeShapes Go.WideShapes Go.ChangeAt

set_option maxHeartbeats 2000000 in
theorem closed : joinedFacts Tryd.prog 4 Tryd.f4 Rows.fnExactStrongestCellSpec Rows.fnExactStrongestCellRow = true := by
  unfold joinedFacts
  simp only [Bool.and_eq_true]
  exact ⟨⟨⟨⟨⟨⟨⟨⟨⟨⟨⟨⟨⟨⟨⟨⟨⟨⟨⟨⟨⟨⟨⟨⟨⟨⟨⟨⟨⟨⟨⟨(by as_aux_lemma => kernel_rfl),
    laid⟩,
    rowed⟩,
    (by as_aux_lemma => kernel_rfl)⟩,
    (by as_aux_lemma => kernel_rfl)⟩,
    (by as_aux_lemma => kernel_rfl)⟩,
    (by rw [no_stops]; rfl)⟩,
    (by as_aux_lemma => kernel_rfl)⟩,
    (by rw [no_knobs]; rfl)⟩,
    (by as_aux_lemma => kernel_rfl)⟩,
    (by as_aux_lemma => kernel_rfl)⟩,
    (by as_aux_lemma => kernel_rfl)⟩,
    (by as_aux_lemma => kernel_rfl)⟩,
    (by as_aux_lemma => kernel_rfl)⟩,
    (by as_aux_lemma => kernel_rfl)⟩,
    (by as_aux_lemma => kernel_rfl)⟩,
    (by as_aux_lemma => kernel_rfl)⟩,
    (by as_aux_lemma => kernel_rfl)⟩,
    (by as_aux_lemma => kernel_rfl)⟩,
    (by as_aux_lemma => kernel_rfl)⟩,
    (by as_aux_lemma => kernel_rfl)⟩,
    (by as_aux_lemma => kernel_rfl)⟩,
    (show (Rows.fnExactStrongestCellRow.plainKeys == Tryd.prog.plainKeys) = true by rw [plain_keys]; rfl)⟩,
    (by as_aux_lemma => kernel_rfl)⟩,
    stops_heard⟩,
    may_enter⟩,
    (show (Rows.fnExactStrongestCellRow.lifted == Tryd.prog.liftsFinal) = true by rw [lifts_final]; rfl)⟩,
    (show (Tryd.prog.make == some Rows.fnExactStrongestCellRow.make) = true by rw [made]; rfl)⟩,
    (by as_aux_lemma => kernel_rfl)⟩,
    (by as_aux_lemma => kernel_rfl)⟩,
    (by as_aux_lemma => kernel_rfl)⟩,
    (by as_aux_lemma => kernel_rfl)⟩

set_option maxRecDepth 100000 in
theorem lifted (os : Os) (started : os.Started) (H : Type) (enc : TypeId × Value → H) :
    ReturnsInHanded {} Tryd.checked os 4 .any (fun w args => (Rows.fnExactStrongestCellSpec.pre enc Tryd.prog Tryd.f4 Rows.fnExactStrongestCellRow.domain false w args ∧ laidMetH Tryd.prog Rows.fnExactStrongestCellRow.laid w) ∧ sizedMet enc Tryd.prog Tryd.f4 (OpenSpec.ofChange Rows.fnExactStrongestCellSpec) false w args) (Rows.fnExactStrongestCellSpec.post enc Tryd.prog Tryd.f4 false true false false) := by
  refine LawFrame.lifted_vars (C := Tryd.checked) (fn := Tryd.f4) (n := 1) (tb := 4) (laidL := Rows.fnExactStrongestCellRow.laid) started own (by kernel_rfl) Tryd.func4 laid ?_ rfl ?_ rfl Tryd.underlying4 ?_
    (ChangeSpec.witness_shaped (enc := enc) (C := Tryd.checked) (os := os) (X := fun w _ => laidMetH Tryd.prog Rows.fnExactStrongestCellRow.laid w) false (World.doorLaid Tryd.prog 400 os) #[.slice none 0 0] 8 rfl (World.shaped_of_RefB (by kernel_rfl) (by kernel_rfl)) (by kernel_rfl) (by kernel_rfl) (by kernel_rfl) (door_met os _)) ?_
  · intro t ht
    simp only [Tryd.params4, List.mem_cons, List.not_mem_nil, or_false] at ht
    subst ht; exact rde
  · intro ds gs hd hg
    match ds, gs, hd, hg with
    | [d0], [g0, g1, g2, g3, g4], _, _ => rfl
  · intro W hL
    obtain ⟨A, -, v0, v1, v2, v3, v4⟩ := sent_of hL
    exact ⟨[.iface 102 (.pointer (some (A 0))), .iface 102 (.pointer (some (A 4))), .iface 102 (.pointer (some (A 1))), .iface 102 (.pointer (some (A 2))), .iface 102 (.pointer (some (A 3)))], var_is (g := 0) (by kernel_rfl) (by kernel_rfl) v0, var_is (g := 1) (by kernel_rfl) (by kernel_rfl) v4, var_is (g := 2) (by kernel_rfl) (by kernel_rfl) v1, var_is (g := 3) (by kernel_rfl) (by kernel_rfl) v2, var_is (g := 4) (by kernel_rfl) (by kernel_rfl) v3, trivial⟩
  · intro W base args ds ps hval hn hT hL
    obtain ⟨v0, rfl⟩ : ∃ v0, args = #[v0] := arr1 hn
    simp only [Tryd.params4] at hT
    obtain ⟨A, hA, -⟩ := sent_of hL
    obtain ⟨d0, p0, t0⟩ := trodAll_head hT
    obtain ⟨n0, x0, R0, M0, X0⟩ := open_echo Tryd.underlying22 Tryd.underlying52 Tryd.underlying24 Tryd.underlying23 Tryd.underlying27 Tryd.underlying2 ⟨rfl, rfl⟩ ⟨rfl, rfl⟩ ⟨rfl, rfl⟩ cellsE4 cellsE2 cellsE1 cellsF cellsEI t0 (open_sl Tryd.underlying22 (hval 0 22 v0 rfl rfl))
    exact lawStrongestCell A n0 x0 v0 X0 hA R0 M0

theorem over : Rows.fnExactStrongestCellRow.holds Tryd.pinned (OpenSpec.ofChange Rows.fnExactStrongestCellSpec) :=
  OpenClaim.holds_of_wide 4 Tryd.f4 rfl rfl rfl rfl rfl rfl rfl ⟨rfl, rfl, rfl, rfl, rfl⟩ rfl rfl rfl rfl rfl (by kernel_rfl) Tryd.func4 closed
    (of_decide_eq_true (by kernel_rfl)) (by unfold Func.isWrapper; rw [if_neg (by decide +kernel)]; exact ⟨rfl, rfl⟩)
    (fun os started H enc _ => lifted os started H enc)

theorem named : Tryd.prog.funcNamed "loop.example/g01224/laws.FnExactStrongestCell" = some 4 := by kernel_rfl
theorem proved : Rows.FnExactStrongestCellCardSaid :=
  Claim7.holds_tied_plain_at .later [] [.sentinel, .sentinel, .sentinel, .sentinel, .sentinel] true (true, "00e6536917000565d6f6c8f21311f4d1e29f71b4c97b81724f8c4836e5640c7a") true
    over (fun _ h => by cases h) (by kernel_rfl) (fun _ h => by cases h) fnExactStrongestCell_row_tie rfl ⟨rfl, rfl⟩ (by kernel_rfl) rfl
    (fun f fn hf hfn => by
      obtain rfl : f = 4 := Option.some.inj (named.symm.trans hf) |>.symm
      obtain rfl : fn = Tryd.f4 := (Option.some.inj (Tryd.func4.symm.trans hfn)).symm
      exact ⟨by kernel_rfl, fun j t ht => by
        have hm := Array.mem_of_getElem? ht
        rw [Tryd.params4] at hm
        simp only [List.mem_toArray, List.mem_cons, List.not_mem_nil, or_false] at hm
        subst hm; exact (show Tryd.prog.wantsStandIn 22 = false by kernel_rfl)⟩)
    (by kernel_rfl)
#print axioms proved
end Go.Proofs.YtllkjockdogagaaDoor.fnExactStrongestCell
