import Derived.Test.YtllkjockdogagaaDoorCFoldSpeed
import Derived.Test.YtllkjockdogagaaDoorChecked
import Derived.Test.YtllkjockdogagaaDoorRows
import Derived.Test.YtllkjockdogagaaDoorCards
import Derived.Test.YtllkjockdogagaaDoorTie
import Derived.Laws.FloatArith
import Derived.ProofKit
import Derived.WalkKit
import Derived.WalkLawsBesides
import Derived.WalkSpells
import Derived.Deep.RegionHeld3
import Derived.ChangeKeysEq
import Derived.Laws.BitsAllLaws
import Derived.Deep.MidRow
import Derived.Deep.WholeRow
import Derived.StillTailTactics
import Derived.Deep.Slices
import Derived.ChangeSame
import Derived.OrdersIn
import Derived.ControlIn
import Derived.RangeFuncSeq
import Derived.RangeFuncNested
import Derived.ArgAppend
import Derived.OwnWalkIn
import Derived.TacticsInMore
import Derived.Deep.QuietTactic
import Derived.BigQuiet
import Derived.LaidEql
import Derived.Stop.Asserts
import Derived.RowKitTokens
import Derived.Below
import Derived.Laws.AppendOwn
import Derived.RangeFuncLeaves
import Derived.RangeFuncBox
import Derived.LoopNIn
import Derived.LoopIn
import Derived.Shelf.Abstract
import Derived.Deep.Strs
import Derived.OpenShut
import Derived.Stop.LaidErr
import Derived.LaidMore
import Derived.Handed
import Derived.LaidHandle
import Derived.Stop.Joined
import Derived.MakeChecks
import Derived.Laws.ComplexArith
import Derived.SevenTiedAt
/- The tied card of FnExactFoldSpeed. -/
namespace Go.Proofs.YtllkjockdogagaaDoor
open Go.RowKit Go.Fl

@[go_sem] theorem ext_f64bits (y : Nat) (w : World) : (callFunc 61 #[.float .f64 y]).run Tryd.prog w = .ok (.value (.int .u64 y)) w := by
  rw [run_callFunc_extern Tryd.func61 (by kernel_rfl) (by kernel_rfl) (by kernel_rfl) (e := Extern.MathFloatBits.float64bits) (by kernel_rfl)]
  rfl

@[go_sem] theorem ext_f64from (n : Int) (w : World) : (callFunc 62 #[.int .u64 n]).run Tryd.prog w = .ok (.value (.float .f64 n.toNat)) w := by
  rw [run_callFunc_extern Tryd.func62 (by kernel_rfl) (by kernel_rfl) (by kernel_rfl) (e := Extern.MathFloatBits.float64frombits) (by kernel_rfl)]
  rfl

theorem hid {p : Prop} (h : p) : Hid p := h

theorem clear_sign (y : Nat) (h : y < 18446744073709551616) : (bits BinOp.andNot IntKind.u64 (y : Int) 9223372036854775808).toNat = y % 9223372036854775808 := by
  rw [u64_andNot _ _ (by omega) (by omega) (by omega) (by omega)]
  rw [Int.toNat_natCast, Int.toNat_natCast]
  exact Nat.and_two_pow_sub_one_eq_mod y 63

theorem abs_f64 (y : Nat) (h : y < 18446744073709551616) (w : World) :
    Calls Tryd.prog 59 #[.float .f64 y] w fun e w' => e = .returned (.float .f64 (y % 9223372036854775808)) ∧ w = w' := by
  have hc := hid (clear_sign y h)
  clear h
  go_enter Tryd.func59, Tryd.ntmps59
  go_wp2
  go_ret
  exact ⟨by simp [hc.out], rfl⟩

theorem isNaN_f64 (y : Nat) (w : World) :
    Calls Tryd.prog 50 #[.float .f64 y] w fun e w' => e = .returned (.bool (FloatKind.f64.format.order y y != some .eq)) ∧ w = w' := by
  go_enter Tryd.func50, Tryd.ntmps50
  go_wp2
  go_ret
  exact ⟨rfl, rfl⟩

theorem isInf_f64 (y : Nat) (h : y < 18446744073709551616) (w : World) :
    Calls Tryd.prog 51 #[.float .f64 y, .int .i64 0] w fun e w' => e = .returned (.bool (FloatKind.f64.format.order (y % 9223372036854775808) 9218868437227405311 == some .gt)) ∧ w = w' := by
  have hc := hid h
  clear h
  go_enter Tryd.func51, Tryd.ntmps51
  go_wp2_with (go_at_call 59; refine (abs_f64 y hc.out _).mono ?_; rintro e w' ⟨rfl, rfl⟩)
  go_ret
  exact ⟨rfl, rfl⟩

theorem isFinite_t (x : Nat) (hx : x < 4294967296) (h : finB x = true) (w : World) :
    Calls Tryd.prog 37 #[.float .f32 x] w fun e w' => e = .returned (.bool true) ∧ w = w' := by
  rw [finB_iff] at h
  have hc := fun w => run_conv_wid (P := Tryd.prog) w 27 43 x hx Tryd.underlying27 Tryd.underlying43 h
  obtain ⟨a, b, m, e, hr⟩ := read_wid_fin hx h
  have hn : (FloatKind.f64.format.order (wid x) (wid x) != some .eq) = false := by
    show (D.order (wid x) (wid x) != some .eq) = false
    rw [order_self hr]; rfl
  have hi : (FloatKind.f64.format.order (wid x % 9223372036854775808) 9218868437227405311 == some .gt) = false := by
    show (D.order (wid x % 9223372036854775808) 9218868437227405311 == some .gt) = false
    rw [b, order_ltD a (by decide)]
    rw [DINF_val] at a
    have hle : wid (mg x) ≤ 9218868437227405311 := by omega
    rcases Nat.lt_or_eq_of_le hle with h' | h'
    · rw [Nat.compare_eq_lt.2 h']; rfl
    · rw [Nat.compare_eq_eq.2 h']; rfl
  have hw : wid x < 18446744073709551616 := D.write_lt _
  have Hn := hid hn
  have Hi := hid hi
  have Hw := hid hw
  clear hn hi hw hr a b h hx
  go_enter Tryd.func37, Tryd.ntmps37
  go_wp2_with (first | (go_at_call 50; refine (isNaN_f64 (wid x) _).mono ?_; rintro e w' ⟨rfl, rfl⟩; rw [Hn.out]) | (go_at_call 51; refine (isInf_f64 (wid x) Hw.out _).mono ?_; rintro e w' ⟨rfl, rfl⟩; rw [Hi.out]))
  go_ret
  exact ⟨rfl, rfl⟩

theorem isFinite_f (x : Nat) (hx : x < 4294967296) (h : finB x = false) (w : World) :
    Calls Tryd.prog 37 #[.float .f32 x] w fun e w' => e = .returned (.bool false) ∧ Below w.heap.size w w' := by
  rw [finB_iff'] at h
  rcases Nat.lt_or_eq_of_le h with h | h
  · obtain ⟨z, hc, h1, _⟩ := run_conv_nan (P := Tryd.prog) w 27 43 x Tryd.underlying27 Tryd.underlying43 h
    obtain ⟨s, t, hr⟩ := read_nanD h1
    have Hn := hid (show (FloatKind.f64.format.order z z != some .eq) = true by
      show (D.order z z != some .eq) = true
      rw [order_nan hr]; rfl)
    clear h h1 hr hx
    go_enter Tryd.func37, Tryd.ntmps37
    go_wp2_with (go_at_call 50; refine (isNaN_f64 z _).mono ?_; rintro e w' ⟨rfl, rfl⟩; rw [Hn.out])
    go_ret
    exact ⟨rfl, (Below.refl _ _).drew⟩
  · obtain ⟨z, hc, h1, h2⟩ := run_conv_inf (P := Tryd.prog) w 27 43 x hx Tryd.underlying27 Tryd.underlying43 h.symm
    have hr : D.read z = .infinity (decide (9223372036854775808 ≤ z)) := by rw [read_signD h2, h1, read_DINF]
    have Hn := hid (show (FloatKind.f64.format.order z z != some .eq) = false by
      show (D.order z z != some .eq) = false
      rw [order_inf hr]; rfl)
    have Hi := hid (show (FloatKind.f64.format.order (z % 9223372036854775808) 9218868437227405311 == some .gt) = true by
      rw [h1]; decide)
    have H2 := hid h2
    clear h h1 hr hx h2
    go_enter Tryd.func37, Tryd.ntmps37
    go_wp2_with (first | (go_at_call 50; refine (isNaN_f64 z _).mono ?_; rintro e w' ⟨rfl, rfl⟩; rw [Hn.out]) | (go_at_call 51; refine (isInf_f64 z H2.out _).mono ?_; rintro e w' ⟨rfl, rfl⟩; rw [Hi.out]))
    go_ret
    exact ⟨rfl, Below.refl _ _⟩

theorem round_even (X K : Nat) (h : D.write ((D.read X).integral .even) = K) (hn : ∃ s m e, D.read X = .number s m e) (w : World) : (callFunc 46 #[.float .f64 X]).run Tryd.prog w = .ok (.value (.float .f64 K)) w := by
  rw [run_callFunc_extern Tryd.func46 (by kernel_rfl) (by kernel_rfl) (by kernel_rfl) (e := Extern.MathFloor.toIntegral "math.RoundToEven" .even) (by kernel_rfl)]
  obtain ⟨s, m, e, hr⟩ := hn
  have hr' : FloatKind.f64.decode X = .number s m e := hr
  rw [hr] at h
  have h' : FloatKind.f64.encode ((Ieee.Datum.number s m e).integral .even) = K := h
  have e2 : (Extern.MathFloor.toIntegral "math.RoundToEven" .even #[.float .f64 X]).run Tryd.prog w = .ok (.float .f64 K) w := by
    rw [← h']
    show Sem.run _ (match FloatKind.f64.decode X with | .nan _ _ => _ | d => (pure (Value.float .f64 (FloatKind.f64.encode (d.integral .even))) : Sem Value)) w = _
    rw [hr']
    rfl
  rw [e2]
  rfl

theorem iNearest_z (X K : Nat) (hx : ∀ w, (callFunc 46 #[.float .f64 X]).run Tryd.prog w = .ok (.value (.float .f64 K)) w) (ho : (FloatKind.f64.format.order K 0 == some .eq) = true) (w : World) :
    Calls Tryd.prog 49 #[.float .f64 X] w fun e w' => e = .returned (.float .f64 0) ∧ w = w' := by
  go_enter Tryd.func49, Tryd.ntmps49
  go_wp2
  go_ret
  exact ⟨rfl, rfl⟩

theorem iNearest_n (X K : Nat) (hx : ∀ w, (callFunc 46 #[.float .f64 X]).run Tryd.prog w = .ok (.value (.float .f64 K)) w) (ho : (FloatKind.f64.format.order K 0 == some .eq) = false) (w : World) :
    Calls Tryd.prog 49 #[.float .f64 X] w fun e w' => e = .returned (.float .f64 K) ∧ w = w' := by
  go_enter Tryd.func49, Tryd.ntmps49
  go_wp2
  go_ret
  exact ⟨rfl, rfl⟩

theorem info_f32 : ∃ i, Tryd.prog.info? 27 = some i ∧ i.size = 1 := by
  have h : (Tryd.prog.info? 27).map (·.size) = some 1 := by kernel_rfl
  cases hi : Tryd.prog.info? 27 with
  | none => rw [hi] at h; cases h
  | some i => rw [hi] at h; exact ⟨i, rfl, Option.some.inj h⟩

@[go_sem] theorem ext_f32bits (y : Nat) (w : World) : (callFunc 54 #[.float .f32 y]).run Tryd.prog w = .ok (.value (.int .u32 y)) w := by
  rw [run_callFunc_extern Tryd.func54 (by kernel_rfl) (by kernel_rfl) (by kernel_rfl) (e := Extern.MathFloatBits.float32bits) (by kernel_rfl)]
  rfl

theorem sFinite_t (x : Nat) (hx : x < 4294967296) (h : finB x = true) (w : World) :
    Calls Tryd.prog 30 #[.float .f32 x] w fun e w' => e = .returned (.bool true) ∧ w = w' := by
  have hr := fun w => run_float_arith (P := Tryd.prog) w .sub 27 .f32 x x 0 (sub_self_fin hx h)
  clear h hx
  go_enter Tryd.func30, Tryd.ntmps30
  go_wp2
  go_ret
  exact ⟨rfl, rfl⟩

theorem sFinite_f (x : Nat) (hx : x < 4294967296) (h : finB x = false) (w : World) :
    Calls Tryd.prog 30 #[.float .f32 x] w fun e w' => e = .returned (.bool false) ∧ Below w.heap.size w w' := by
  obtain ⟨z, hr, h1, _⟩ := run_arith_nan (P := Tryd.prog) w .sub (by simp) 27 x x (sub_self_none hx h)
  have Hn := hid (show (FloatKind.f32.format.order z 0 == some .eq) = false by
    show (S.order z 0 == some .eq) = false
    rw [order_nan32 h1]; rfl)
  clear h hx h1
  go_enter Tryd.func30, Tryd.ntmps30
  go_wp2
  go_ret
  exact ⟨by simp [Hn.out], (Below.refl _ _).drew⟩

theorem div_one_some {y m : Nat} {s : Bool} {e : Int} (h : D.read y = .number s m e) : ∃ q, floatBits .quo .f64 4607182418800017408 y = some q := by
  have h1 : D.read 4607182418800017408 = .number false 4503599627370496 (-52) := by decide
  show ∃ q, D.div 4607182418800017408 y = some q
  unfold Ieee.Format.div
  rw [h, h1]
  simp only [Ieee.Datum.quotient]
  by_cases hm : m = 0
  · rw [if_pos hm]; exact ⟨_, rfl⟩
  · rw [if_neg hm]; exact ⟨_, rfl⟩

set_option maxRecDepth 100000 in
theorem sameFloat (x : Nat) (hx : x < 4294967296) (h : finB x = true) (w : World) :
    Calls Tryd.prog 18 #[.float .f64 (wid x), .float .f64 (wid x)] w fun e w' => e = .returned (.bool true) ∧ w = w' := by
  obtain ⟨a, b, m, e, hr⟩ := read_wid_fin hx (finB_iff.1 h)
  have hn : (FloatKind.f64.format.order (wid x) (wid x) != some .eq) = false := by
    show (D.order (wid x) (wid x) != some .eq) = false
    rw [order_self hr]; rfl
  have hq : (FloatKind.f64.format.order (wid x) (wid x) == some .eq) = true := by
    show (D.order (wid x) (wid x) == some .eq) = true
    rw [order_self hr]; rfl
  obtain ⟨q, hd⟩ := div_one_some hr
  have hdiv := fun w => run_float_arith (P := Tryd.prog) w .quo 43 .f64 4607182418800017408 (wid x) q hd
  clear hd hr a b h hx
  rcases hz : (FloatKind.f64.format.order (wid x) 0 == some .eq) with _ | _
  · go_enter Tryd.func18, Tryd.ntmps18
    go_wp2
    go_ret
    exact ⟨by simp, rfl⟩
  · go_enter Tryd.func18, Tryd.ntmps18
    go_wp2
    go_ret
    exact ⟨by simp, rfl⟩

theorem iTold_t (x : Nat) (hx : x < 4294967296) (h : finB x = true) (w : World) :
    Calls Tryd.prog 36 #[.float .f32 x] w fun e w' => e = .returned (.tuple #[.float .f32 x, .int .i64 0]) ∧ w = w' := by
  have H := hid h
  have Hx := hid hx
  clear h hx
  go_enter Tryd.func36, Tryd.ntmps36
  go_wp2_with (go_at_call 37; refine (isFinite_t x Hx.out H.out _).mono ?_; rintro e w' ⟨rfl, rfl⟩)
  go_ret2
  exact ⟨rfl, rfl⟩

theorem iTold_f (x : Nat) (hx : x < 4294967296) (h : finB x = false) (w : World) :
    Calls Tryd.prog 36 #[.float .f32 x] w fun e w' => e = .returned (.tuple #[.float .f32 0, .int .i64 4]) ∧ Below w.heap.size w w' := by
  have H := hid h
  have Hx := hid hx
  clear h hx
  go_enter Tryd.func36, Tryd.ntmps36
  go_wp2_with (go_at_call 37; refine (isFinite_f x Hx.out H.out _).mono ?_; rintro e w' ⟨rfl, hb⟩)
  go_ret2
  exact ⟨rfl, hb⟩

theorem iTold (x : Nat) (hx : x < 4294967296) (w : World) :
    Calls Tryd.prog 36 #[.float .f32 x] w fun e w' => e = .returned (told x) ∧ Below w.heap.size w w' := by
  rcases h : finB x with _ | _
  · rw [told_f h]; exact iTold_f x hx h w
  · rw [told_t h]; exact (iTold_t x hx h w).mono fun e w' ⟨a, b⟩ => ⟨a, b ▸ Below.refl _ _⟩

theorem isTypeOf (v : Value) (w : World) : (Extern.ReflectliteType.typeOf #[.iface 102 v]).run Tryd.prog w = .ok (.iface 91 (.agg #[.pointer (some ⟨6, 102, none⟩)])) w := by kernel_rfl

theorem isComparable (w : World) : ((Extern.ReflectliteType.method fun t => do Extern.Rtype.noPackHeld "Comparable" t; pure (.bool (← typeInfo t).comparable)) #[.agg #[.pointer (some ⟨6, 102, none⟩)]]).run Tryd.prog w = .ok (.bool true) w := by kernel_rfl

theorem isCompCall (w : World) : (callFunc 85 #[.agg #[.pointer (some ⟨6, 102, none⟩)]]).run Tryd.prog w = .ok (Next.value (.bool true)) w := by
  have h32 := @run_callFunc_extern Tryd.prog 85 _ (Extern.ReflectliteType.method fun t => do Extern.Rtype.noPackHeld "Comparable" t; pure (.bool (← typeInfo t).comparable)) Tryd.func85 (by kernel_rfl) (by kernel_rfl) (by kernel_rfl) (by kernel_rfl)
  rw [h32, isComparable]
  rfl

theorem isMethodComparable (v : Value) (w : World) : (Go.method 240 91 v "Comparable").run Tryd.prog w = .ok (85, v) w := by kernel_rfl

theorem isComp : (Tryd.prog.info? 102).map (·.comparable) = some true := by kernel_rfl

theorem isSize : (Tryd.prog.info? 128).map (·.size) = some 1 := by kernel_rfl

theorem noIsE (v : Value) (xT : TypeId) (w : World) : (Instr.typeAssert (.iface 102 v) xT 93 true).run Tryd.prog w = .ok (.tuple #[.nilIface, .bool false]) w := run_typeAssert_lacksB Tryd.underlying93 (by kernel_rfl) (by kernel_rfl) v xT w

theorem noUnwrapE (v : Value) (xT : TypeId) (w : World) : (Instr.typeAssert (.iface 102 v) xT 96 true).run Tryd.prog w = .ok (.tuple #[.nilIface, .bool false]) w := run_typeAssert_lacksB Tryd.underlying96 (by kernel_rfl) (by kernel_rfl) v xT w

theorem noUnwrapsE (v : Value) (xT : TypeId) (w : World) : (Instr.typeAssert (.iface 102 v) xT 98 true).run Tryd.prog w = .ok (.tuple #[.nilIface, .bool false]) w := run_typeAssert_lacksB Tryd.underlying98 (by kernel_rfl) (by kernel_rfl) v xT w

set_option maxRecDepth 100000 in
/-- errors.Is(x, x), x a pointer to an errors.errorString. -/
theorem is_same (a : Addr) (w : World) :
    Calls Tryd.prog 44 #[.iface 102 (.pointer (some a)), .iface 102 (.pointer (some a))] w fun e w' => e = .returned (.bool true) ∧ w' = w := by
  obtain ⟨i, hi, hcmp⟩ := Option.map_eq_some_iff.1 isComp
  obtain ⟨j, hj, hjs⟩ := Option.map_eq_some_iff.1 isSize
  have h8 := @run_callFunc_extern Tryd.prog 57 _ Extern.ReflectliteType.typeOf Tryd.func57 (by kernel_rfl) (by kernel_rfl) (by kernel_rfl) (by kernel_rfl)
  have tT := isTypeOf
  have cT := isCompCall
  have mR := isMethodComparable
  have heq := run_eql_iface_ptr_same (P := Tryd.prog) w a Tryd.underlying55 Tryd.underlying102 hi hcmp hj
  go_enter Tryd.func44, Tryd.ntmps44
  go_wp2
  refine wp_loop_rounds 1 ?_
  rw [rounds_succ]
  go_wp2
  go_ret
  exact ⟨rfl, rfl⟩

set_option maxRecDepth 100000 in
/-- errors.Is(x, y), two different pointers to errors.errorString. -/
theorem is_other (a b : Addr) (ca cb : Array Value) (ta tb : TypeId) (w : World) (hne : a ≠ b) (ha : w.heap[a.block]? = some (.cells ca ta (0, 0))) (hb : w.heap[b.block]? = some (.cells cb tb (0, 0))) :
    Calls Tryd.prog 44 #[.iface 102 (.pointer (some a)), .iface 102 (.pointer (some b))] w fun e w' => e = .returned (.bool false) ∧ w' = w := by
  obtain ⟨i, hi, hcmp⟩ := Option.map_eq_some_iff.1 isComp
  obtain ⟨j, hj, hjs⟩ := Option.map_eq_some_iff.1 isSize
  have h8 := @run_callFunc_extern Tryd.prog 57 _ Extern.ReflectliteType.typeOf Tryd.func57 (by kernel_rfl) (by kernel_rfl) (by kernel_rfl) (by kernel_rfl)
  have tT := isTypeOf
  have cT := isCompCall
  have mR := isMethodComparable
  have nE := noIsE
  have uE := noUnwrapE
  have vE := noUnwrapsE
  have heq := run_eql_iface_ptr_other (P := Tryd.prog) w Tryd.underlying55 Tryd.underlying102 hi hcmp hj (by rw [hjs]; decide) hne ha hb
  go_enter Tryd.func44, Tryd.ntmps44
  go_wp2
  refine wp_loop_rounds 1 ?_
  rw [rounds_succ]
  go_wp2
  go_ret
  exact ⟨rfl, rfl⟩

@[go_sem] theorem semAtSome (l : Nat) (ρ : Operand → Value) (o : Oper) (h : ∀ c, o.op ≠ .defer c) : Oper.semAt (some l) ρ o = execOp ρ o := Oper.semAt_some l ρ o h

/-- The errors that are variables: each points to a cell of its own. -/
structure Sent (w : World) (A : Nat → Addr) : Prop where
  c0 : w.cell? ⟨0, 0, none⟩ = some (.iface 102 (.pointer (some (A 0))))
  c1 : w.cell? ⟨2, 0, none⟩ = some (.iface 102 (.pointer (some (A 1))))
  c2 : w.cell? ⟨3, 0, none⟩ = some (.iface 102 (.pointer (some (A 2))))
  c3 : w.cell? ⟨4, 0, none⟩ = some (.iface 102 (.pointer (some (A 3))))
  c4 : w.cell? ⟨1, 0, none⟩ = some (.iface 102 (.pointer (some (A 4))))
  b : ∀ i, i < 5 → ∃ c t, w.heap[(A i).block]? = some (.cells c t (0, 0))
  ne : ∀ i j, i < 5 → j < 5 → i ≠ j → A i ≠ A j

theorem cell_below {w w' : World} {a : Addr} {v : Value} (h : w.cell? a = some v) (hb : Below w.heap.size w w') : w'.cell? a = some v := by
  have hlt : a.block < w.heap.size := by
    rcases Nat.lt_or_ge a.block w.heap.size with h' | h'
    · exact h'
    · simp [World.cell?, Array.getElem?_eq_none h'] at h
  unfold World.cell? at h ⊢
  rw [hb.block _ hlt]
  exact h

theorem Sent.stay {w w' : World} {A : Nat → Addr} (h : Sent w A) (hb : Below w.heap.size w w') : Sent w' A :=
  ⟨cell_below h.c0 hb, cell_below h.c1 hb, cell_below h.c2 hb, cell_below h.c3 hb, cell_below h.c4 hb, fun i hi => by
    obtain ⟨c, t, e⟩ := h.b i hi
    exact ⟨c, t, by rw [hb.block _ (lt_of_block e)]; exact e⟩, h.ne⟩

theorem code_1 (A : Nat → Addr) (w : World) (S : Sent w A) : Calls Tryd.prog 25 #[.iface 102 (.pointer (some (A 1)))] w fun e w' => e = .returned (.int .i64 2) ∧ w' = w := by
  have c0 := S.c0
  have c1 := S.c1
  have HS := hid S
  clear S
  go_enter Tryd.func25, Tryd.ntmps25
  go_wp2_with fail
  refine (is_other (A 1) (A 0) _ _ _ _ _ (HS.out.ne 1 0 (by omega) (by omega) (by omega)) (HS.out.b 1 (by omega)).choose_spec.choose_spec (HS.out.b 0 (by omega)).choose_spec.choose_spec).mono ?_
  rintro e0 u0 ⟨rfl, rfl⟩
  go_wp2_with fail
  refine (is_same (A 1) _).mono ?_
  rintro e9 u9 ⟨rfl, rfl⟩
  go_wp2
  go_ret
  exact ⟨rfl, rfl⟩

theorem err_star : "*" ++ "errors.errorString" = "*errors.errorString" := by decide

theorem row_err (u : TypeId) (h : Tryd.prog.typeName? 3 u = some "*errors.errorString") : u = 102 :=
  typeName_ptr_named (nm := "errors.errorString") (by rw [err_star]; kernel_rfl) (by kernel_rfl) (by decide) u (by rw [err_star]; exact h)

/-- What the rows' condition says of the variables. -/
theorem sent_of {W : World} (h : laidMetH Tryd.prog Rows.fnExactEchoAtRow.laid W) : ∃ A, Sent W A ∧ (W.var? Tryd.prog "loop.example/g01224/impl.errUnfit" = some #[.iface 102 (.pointer (some (A 0)))] ∧ W.var? Tryd.prog "loop.example/g01224/impl.errBeyond" = some #[.iface 102 (.pointer (some (A 1)))] ∧ W.var? Tryd.prog "loop.example/g01224/impl.errCrowded" = some #[.iface 102 (.pointer (some (A 2)))] ∧ W.var? Tryd.prog "loop.example/g01224/impl.errNoText" = some #[.iface 102 (.pointer (some (A 3)))] ∧ W.var? Tryd.prog "loop.example/g01224/impl.errNowhere" = some #[.iface 102 (.pointer (some (A 4)))]) := by
  rw [MakeChecks.laidMetH_plain _ _ _ (by kernel_rfl)] at h
  obtain ⟨a0, a1, a2, a3, a4, ⟨v0, v1, v2, v3, v4⟩, ⟨b0, b1, b2, b3, b4⟩, n01, n02, n03, n04, n12, n13, n14, n23, n24, n34⟩ := laid_five (tp := 102) h
    (g0 := 0) (by kernel_rfl) (by kernel_rfl)
    (g1 := 2) (by kernel_rfl) (by kernel_rfl)
    (g2 := 3) (by kernel_rfl) (by kernel_rfl)
    (g3 := 4) (by kernel_rfl) (by kernel_rfl)
    (g4 := 1) (by kernel_rfl) (by kernel_rfl)
    Tryd.underlying55 row_err Tryd.underlying102 Tryd.underlying128 rfl rfl Tryd.underlying9 (by kernel_rfl) (by kernel_rfl)
  refine ⟨fun i => match i with | 0 => a0 | 1 => a1 | 2 => a2 | 3 => a3 | _ => a4, ⟨?_, ?_, ?_, ?_, ?_, ?_, ?_⟩, v0, v1, v2, v3, v4⟩
  · simpa using World.var?_cell (g := 0) (by kernel_rfl) v0 0
  · simpa using World.var?_cell (g := 2) (by kernel_rfl) v1 0
  · simpa using World.var?_cell (g := 3) (by kernel_rfl) v2 0
  · simpa using World.var?_cell (g := 4) (by kernel_rfl) v3 0
  · simpa using World.var?_cell (g := 1) (by kernel_rfl) v4 0
  · intro i hi
    match i, hi with
    | 0, _ => exact b0
    | 1, _ => exact b1
    | 2, _ => exact b2
    | 3, _ => exact b3
    | 4, _ => exact b4
  · intro i j hi hj hne
    match i, j, hi, hj, hne with
    | 0, 0, _, _, h => exact absurd rfl h
    | 0, 1, _, _, _ => exact n01
    | 0, 2, _, _, _ => exact n02
    | 0, 3, _, _, _ => exact n03
    | 0, 4, _, _, _ => exact n04
    | 1, 0, _, _, _ => exact n01.symm
    | 1, 1, _, _, h => exact absurd rfl h
    | 1, 2, _, _, _ => exact n12
    | 1, 3, _, _, _ => exact n13
    | 1, 4, _, _, _ => exact n14
    | 2, 0, _, _, _ => exact n02.symm
    | 2, 1, _, _, _ => exact n12.symm
    | 2, 2, _, _, h => exact absurd rfl h
    | 2, 3, _, _, _ => exact n23
    | 2, 4, _, _, _ => exact n24
    | 3, 0, _, _, _ => exact n03.symm
    | 3, 1, _, _, _ => exact n13.symm
    | 3, 2, _, _, _ => exact n23.symm
    | 3, 3, _, _, h => exact absurd rfl h
    | 3, 4, _, _, _ => exact n34
    | 4, 0, _, _, _ => exact n04.symm
    | 4, 1, _, _, _ => exact n14.symm
    | 4, 2, _, _, _ => exact n24.symm
    | 4, 3, _, _, _ => exact n34.symm
    | 4, 4, _, _, h => exact absurd rfl h

theorem round_any (X K : Nat) (h : D.write ((D.read X).integral .even) = K) (hn : (∃ s m e, D.read X = .number s m e) ∨ ∃ s, D.read X = .infinity s) (w : World) : (callFunc 46 #[.float .f64 X]).run Tryd.prog w = .ok (.value (.float .f64 K)) w := by
  rcases hn with hn | ⟨s, hr⟩
  · exact round_even X K h hn w
  · rw [run_callFunc_extern Tryd.func46 (by kernel_rfl) (by kernel_rfl) (by kernel_rfl) (e := Extern.MathFloor.toIntegral "math.RoundToEven" .even) (by kernel_rfl)]
    have hr' : FloatKind.f64.decode X = .infinity s := hr
    rw [hr] at h
    have h' : FloatKind.f64.encode ((Ieee.Datum.infinity s).integral .even) = K := h
    have e2 : (Extern.MathFloor.toIntegral "math.RoundToEven" .even #[.float .f64 X]).run Tryd.prog w = .ok (.float .f64 K) w := by
      rw [← h']
      show Sem.run _ (match FloatKind.f64.decode X with | .nan _ _ => _ | d => (pure (Value.float .f64 (FloatKind.f64.encode (d.integral .even))) : Sem Value)) w = _
      rw [hr']
      rfl
    rw [e2]
    rfl

def limB (l : Nat) : Bool := amtB l && decide (l ≠ 0)

theorem gt0_lim {l : Nat} (hl : l < 4294967296) (hf : finB l = true) : (FloatKind.f32.format.order l 0 == some .gt) = limB l := by
  have hw : FW l := ⟨hl, finB_iff.1 hf⟩
  have h0 : FW 0 := ⟨by decide, by decide⟩
  have hI := INF_val
  have hmg := hw.2
  rw [Bool.eq_iff_iff]
  refine (gt_sv hw h0).trans ?_
  unfold limB
  rw [Bool.and_eq_true, amtB_iff, decide_eq_true_eq, show sv 0 = 0 by decide]
  unfold sv
  by_cases hs : 2147483648 ≤ l
  · rw [if_pos hs]
    constructor
    · intro h; omega
    · intro h; omega
  · have hm : mg l = l := by unfold mg; omega
    rw [if_neg hs, hm]
    constructor
    · intro h
      refine ⟨by omega, ?_⟩
      rintro rfl
      rw [show val 0 = 0 by decide] at h
      omega
    · intro h
      have := valPos1 h.2
      omega

theorem lim_fin {l : Nat} (h : finB l = false) : limB l = false := by
  unfold limB
  cases ha : amtB l with
  | false => rfl
  | true => rw [amt_fin ha] at h; exact Bool.noConfusion h

theorem iLimit (l : Nat) (hl : l < 4294967296) (w : World) : Calls Tryd.prog 47 #[.float .f32 l] w fun e w' => e = .returned (.bool (limB l)) ∧ Below w.heap.size w w' := by
  have HL := hid hl
  rcases hf : finB l with _ | _
  · rw [lim_fin hf]
    have HF := hid hf
    clear hl hf
    go_enter Tryd.func47, Tryd.ntmps47
    go_wp2_with fail
    refine (isFinite_f l HL.out HF.out _).mono ?_
    rintro e u ⟨rfl, b⟩
    go_wp2
    go_ret
    exact ⟨rfl, b⟩
  · have hg := gt0_lim hl hf
    have HF := hid hf
    clear hl hf
    generalize limB l = r at hg ⊢
    go_enter Tryd.func47, Tryd.ntmps47
    go_wp2_with fail
    refine (isFinite_t l HL.out HF.out _).mono ?_
    rintro e u ⟨rfl, rfl⟩
    go_wp2
    go_ret
    exact ⟨rfl, Below.refl _ _⟩

theorem sLimit (l : Nat) (hl : l < 4294967296) (w : World) : Calls Tryd.prog 31 #[.float .f32 l] w fun e w' => e = .returned (.bool (limB l)) ∧ Below w.heap.size w w' := by
  have HL := hid hl
  rcases hf : finB l with _ | _
  · rw [lim_fin hf]
    have HF := hid hf
    clear hl hf
    go_enter Tryd.func31, Tryd.ntmps31
    go_wp2_with fail
    refine (sFinite_f l HL.out HF.out _).mono ?_
    rintro e u ⟨rfl, b⟩
    go_wp2
    go_ret
    exact ⟨rfl, b⟩
  · have hg := gt0_lim hl hf
    have HF := hid hf
    clear hl hf
    generalize limB l = r at hg ⊢
    go_enter Tryd.func31, Tryd.ntmps31
    go_wp2_with fail
    refine (sFinite_t l HL.out HF.out _).mono ?_
    rintro e u ⟨rfl, rfl⟩
    go_wp2
    go_ret
    exact ⟨rfl, Below.refl _ _⟩

theorem iAll (x : Nat) (hx : x < 4294967296) (g : Nat) (w : World) (hc : w.cell? ⟨g, 0, none⟩ = some (.float .f32 x)) :
    Calls Tryd.prog 48 #[.slice (some ⟨g, 0, none⟩) 1 1, .func (.func 37) #[] #[]] w fun e w' => e = .returned (.bool (finB x)) ∧ Below w.heap.size w w' := by
  have HX := hid hx
  have i0 := fun w => run_indexAt (P := Tryd.prog) (t := 72) (e := 27) Tryd.underlying72 (by obtain ⟨i, h1, h2⟩ := info_f32; rw [h1]; exact congrArg some h2) (b := g) (o := 0) (n := 1) (cap := 1) (k := 0) (by omega) w
  simp only [Nat.zero_mul, Nat.add_zero, Int.natCast_zero] at i0
  rcases hf : finB x with _ | _
  · have HF := hid hf
    clear hx hf
    go_enter Tryd.func48, Tryd.ntmps48
    go_wp2
    refine wp_loop_rounds 1 ?_
    rw [rounds_succ]
    go_wp2_with fail
    refine (isFinite_f x HX.out HF.out _).mono ?_
    rintro e u ⟨rfl, b⟩
    go_wp2
    go_ret
    exact ⟨rfl, b⟩
  · have HF := hid hf
    clear hx hf
    go_enter Tryd.func48, Tryd.ntmps48
    go_wp2
    refine wp_loop_rounds 2 ?_
    rw [rounds_succ]
    go_wp2_with fail
    refine (isFinite_t x HX.out HF.out _).mono ?_
    rintro e u ⟨rfl, rfl⟩
    go_wp2
    rw [rounds_succ]
    go_wp2
    go_ret
    exact ⟨rfl, Below.refl _ _⟩

theorem iCheck_t (x l : Nat) (hx : x < 4294967296) (hl : l < 4294967296) (hf : finB x = true) (hb : limB l = true) (g : Nat) (w : World) (hc : w.cell? ⟨g, 0, none⟩ = some (.float .f32 x)) :
    Calls Tryd.prog 34 #[.float .f32 l, .slice (some ⟨g, 0, none⟩) 1 1] w fun e w' => e = .returned .nilIface ∧ Below w.heap.size w w' := by
  have HL := hid (fun w => by have := iLimit l hl w; rw [hb] at this; exact this)
  have HA := hid (fun w hc => by have := iAll x hx g w hc; rw [hf] at this; exact this)
  have C := hid hc
  clear hx hl hf hb hc
  go_enter Tryd.func34, Tryd.ntmps34
  go_wp2_with fail
  refine (HL.out _).mono ?_
  rintro e u ⟨rfl, b⟩
  have B := hid b
  clear b
  go_wp2_with fail
  refine (HA.out _ (cell_below C.out B.out)).mono ?_
  rintro e u2 ⟨rfl, b2⟩
  have B2 := hid (B.out.trans (b2.mono B.out.size))
  clear b2
  go_wp2
  go_ret
  exact ⟨rfl, B2.out⟩

theorem iCheck_l (A : Nat → Addr) (x l : Nat) (hl : l < 4294967296) (hb : limB l = false) (g : Nat) (w : World) (hA : Sent w A) :
    Calls Tryd.prog 34 #[.float .f32 l, .slice (some ⟨g, 0, none⟩) 1 1] w fun e w' => e = .returned (.iface 102 (.pointer (some (A 1)))) ∧ Below w.heap.size w w' := by
  have HL := hid (fun w => by have := iLimit l hl w; rw [hb] at this; exact this)
  have SA := hid hA
  clear hl hb hA
  go_enter Tryd.func34, Tryd.ntmps34
  go_wp2_with fail
  refine (HL.out _).mono ?_
  rintro e u ⟨rfl, b⟩
  have B := hid b
  have c1 := (SA.out.stay b).c1
  clear b
  go_wp2
  go_ret
  exact ⟨rfl, B.out⟩

theorem iCheck_f (A : Nat → Addr) (x l : Nat) (hx : x < 4294967296) (hl : l < 4294967296) (hf : finB x = false) (hb : limB l = true) (g : Nat) (w : World) (hA : Sent w A) (hc : w.cell? ⟨g, 0, none⟩ = some (.float .f32 x)) :
    Calls Tryd.prog 34 #[.float .f32 l, .slice (some ⟨g, 0, none⟩) 1 1] w fun e w' => e = .returned (.iface 102 (.pointer (some (A 1)))) ∧ Below w.heap.size w w' := by
  have HL := hid (fun w => by have := iLimit l hl w; rw [hb] at this; exact this)
  have HA := hid (fun w hc => by have := iAll x hx g w hc; rw [hf] at this; exact this)
  have C := hid hc
  have SA := hid hA
  clear hx hl hf hb hc hA
  go_enter Tryd.func34, Tryd.ntmps34
  go_wp2_with fail
  refine (HL.out _).mono ?_
  rintro e u ⟨rfl, b⟩
  have B := hid b
  clear b
  go_wp2_with fail
  refine (HA.out _ (cell_below C.out B.out)).mono ?_
  rintro e u2 ⟨rfl, b2⟩
  have B2 := hid (B.out.trans (b2.mono B.out.size))
  have c1 := (SA.out.stay B2.out).c1
  clear b2
  go_wp2
  go_ret
  exact ⟨rfl, B2.out⟩

theorem iFolds_n {x l w q Q K k : Nat} (hu : FoldF x l w q Q K k) (hz : (D.order K 0 == some .eq) = false) (W : World) :
    Calls Tryd.prog 35 #[.float .f32 x, .float .f32 l] W fun e W' => e = .returned (.float .f32 k) ∧ W = W' := by
  have cQ := fun w => run_convert_float_float (P := Tryd.prog) w 27 43 .f32 .f64 _ _ (by rw [Tryd.underlying27]; rfl) Tryd.underlying43 hu.cQ
  have ck := fun w => run_convert_float_float (P := Tryd.prog) w 43 27 .f64 .f32 _ _ (by rw [Tryd.underlying43]; rfl) Tryd.underlying27 hu.ck
  have mq := fun w => run_float_arith (P := Tryd.prog) w .quo 27 .f32 _ _ _ hu.hq
  have mw := fun w => run_float_arith (P := Tryd.prog) w .mul 27 .f32 _ _ _ hu.hw
  have rr := fun w => round_any Q K hu.hK hu.rd w
  have HR := hid rr
  have HZ := hid hz
  clear hu hz rr
  go_enter Tryd.func35, Tryd.ntmps35
  go_wp2_with fail
  refine (iNearest_n Q K HR.out HZ.out _).mono ?_
  rintro e u ⟨rfl, rfl⟩
  go_wp2
  go_ret
  exact ⟨rfl, rfl⟩

theorem iFolds_z {x l w q Q K k : Nat} (hu : FoldF x l w q Q K k) (hz : (D.order K 0 == some .eq) = true) (W : World) :
    Calls Tryd.prog 35 #[.float .f32 x, .float .f32 l] W fun e W' => e = .returned (.float .f32 0) ∧ W = W' := by
  have cQ := fun w => run_convert_float_float (P := Tryd.prog) w 27 43 .f32 .f64 _ _ (by rw [Tryd.underlying27]; rfl) Tryd.underlying43 hu.cQ
  have ck := fun w => run_convert_float_float (P := Tryd.prog) w 43 27 .f64 .f32 _ _ (by rw [Tryd.underlying43]; rfl) Tryd.underlying27 hu.ck
  have mq := fun w => run_float_arith (P := Tryd.prog) w .quo 27 .f32 _ _ _ hu.hq
  have mw := fun w => run_float_arith (P := Tryd.prog) w .mul 27 .f32 _ _ _ hu.hw
  have rr := fun w => round_any Q K hu.hK hu.rd w
  have c0 := fun w => run_convert_float_float (P := Tryd.prog) w 43 27 .f64 .f32 0 0 (by rw [Tryd.underlying43]; rfl) Tryd.underlying27 (by decide)
  have HR := hid rr
  have HZ := hid hz
  clear hu hz rr ck
  go_enter Tryd.func35, Tryd.ntmps35
  go_wp2_with fail
  refine (iNearest_z Q K HR.out HZ.out _).mono ?_
  rintro e u ⟨rfl, rfl⟩
  go_wp2
  go_ret
  exact ⟨rfl, rfl⟩

theorem sNear {x l w q Q K k : Nat} (hu : FoldF x l w q Q K k) (W : World) :
    Calls Tryd.prog 32 #[.float .f32 q] W fun e W' => e = .returned (.float .f32 k) ∧ W = W' := by
  have cQ := fun w => run_convert_float_float (P := Tryd.prog) w 27 43 .f32 .f64 _ _ (by rw [Tryd.underlying27]; rfl) Tryd.underlying43 hu.cQ
  have ck := fun w => run_convert_float_float (P := Tryd.prog) w 43 27 .f64 .f32 _ _ (by rw [Tryd.underlying43]; rfl) Tryd.underlying27 hu.ck
  have mq := fun w => run_float_arith (P := Tryd.prog) w .quo 27 .f32 _ _ _ hu.hq
  have mw := fun w => run_float_arith (P := Tryd.prog) w .mul 27 .f32 _ _ _ hu.hw
  have rr := fun w => round_any Q K hu.hK hu.rd w
  clear hu mq mw
  go_enter Tryd.func32, Tryd.ntmps32
  go_wp2
  go_ret
  exact ⟨rfl, rfl⟩

theorem sNumber (v : Nat) (hv : v < 4294967296) (w : World) : Calls Tryd.prog 33 #[.float .f32 v] w fun e w' => e = .returned (told v) ∧ Below w.heap.size w w' := by
  have HV := hid hv
  rcases h : finB v with _ | _
  · rw [told_f h]
    have HF := hid h
    clear hv h
    go_enter Tryd.func33, Tryd.ntmps33
    go_wp2_with fail
    refine (sFinite_f v HV.out HF.out _).mono ?_
    rintro e u ⟨rfl, b⟩
    go_wp2
    exact bodyPost_ret (results_tmp2 rfl _ _ _) rfl ⟨rfl, b⟩
  · rw [told_t h]
    have HF := hid h
    clear hv h
    go_enter Tryd.func33, Tryd.ntmps33
    go_wp2_with fail
    refine (sFinite_t v HV.out HF.out _).mono ?_
    rintro e u ⟨rfl, rfl⟩
    go_wp2
    exact bodyPost_ret (results_tmp2 rfl _ _ _) rfl ⟨rfl, Below.refl _ _⟩

theorem iFold_l (A : Nat → Addr) (x l : Nat) (hx : x < 4294967296) (hl : l < 4294967296) (hb : limB l = false) (w : World) (hA : Sent w A) :
    Calls Tryd.prog 17 #[.float .f32 x, .float .f32 l] w fun e w' => e = .returned (.tuple #[.float .f32 0, .int .i64 2]) ∧ Below w.heap.size w w' := by
  have HX := hid hx
  have HL := hid hl
  have SA := hid hA
  have HB := hid hb
  clear hb
  have k0 := hid ((Kept.nil w).push #[.float .f32 x] 27)
  have C0 : Hid ((w.alloc (.cells #[.float .f32 x] 27)).cell? ⟨w.heap.size, 0, none⟩ = some (.float .f32 x)) := hid ((cell_of_row _ w.heap.size 0 _ _ _ (k0.out.at (x := (w.heap.size, #[.float .f32 x], 27)) (by simp))).trans rfl)
  clear hx hl hA
  go_enter Tryd.func17, Tryd.ntmps17
  go_wp2_with fail
  refine (iCheck_l A x l HL.out HB.out _ _ (SA.out.stay k0.out.1)).mono ?_
  rintro e u ⟨rfl, b⟩
  have k1 := hid (k0.out.stay b)
  have S2 := hid (SA.out.stay k1.out.1)
  clear b
  go_wp2_with fail
  refine (code_1 A _ S2.out).mono ?_
  rintro e u2 ⟨rfl, rfl⟩
  go_wp2
  exact bodyPost_ret (results_tmp2 rfl _ _ _) rfl ⟨rfl, k1.out.1⟩

theorem iFold_x (A : Nat → Addr) (x l : Nat) (hx : x < 4294967296) (hl : l < 4294967296) (hb : limB l = true) (hf : finB x = false) (w : World) (hA : Sent w A) :
    Calls Tryd.prog 17 #[.float .f32 x, .float .f32 l] w fun e w' => e = .returned (.tuple #[.float .f32 0, .int .i64 2]) ∧ Below w.heap.size w w' := by
  have HX := hid hx
  have HL := hid hl
  have SA := hid hA
  have HB := hid hb
  have HF := hid hf
  clear hb hf
  have k0 := hid ((Kept.nil w).push #[.float .f32 x] 27)
  have C0 : Hid ((w.alloc (.cells #[.float .f32 x] 27)).cell? ⟨w.heap.size, 0, none⟩ = some (.float .f32 x)) := hid ((cell_of_row _ w.heap.size 0 _ _ _ (k0.out.at (x := (w.heap.size, #[.float .f32 x], 27)) (by simp))).trans rfl)
  clear hx hl hA
  go_enter Tryd.func17, Tryd.ntmps17
  go_wp2_with fail
  refine (iCheck_f A x l HX.out HL.out HF.out HB.out _ _ (SA.out.stay k0.out.1) C0.out).mono ?_
  rintro e u ⟨rfl, b⟩
  have k1 := hid (k0.out.stay b)
  have S2 := hid (SA.out.stay k1.out.1)
  clear b
  go_wp2_with fail
  refine (code_1 A _ S2.out).mono ?_
  rintro e u2 ⟨rfl, rfl⟩
  go_wp2
  exact bodyPost_ret (results_tmp2 rfl _ _ _) rfl ⟨rfl, k1.out.1⟩

theorem iFold_z {x l w9 q Q K k : Nat} (hu : FoldF x l w9 q Q K k) (hx : x < 4294967296) (hl : l < 4294967296) (hb : limB l = true) (hf : finB x = true) (hz : (D.order K 0 == some .eq) = true) (w : World) :
    Calls Tryd.prog 17 #[.float .f32 x, .float .f32 l] w fun e w' => e = .returned (.tuple #[.float .f32 x, .int .i64 0]) ∧ Below w.heap.size w w' := by
  have HX := hid hx
  have HL := hid hl
  have HB := hid hb
  have HF := hid hf
  have U := hid hu
  have HZ := hid hz
  clear hz
  have k0 := hid ((Kept.nil w).push #[.float .f32 x] 27)
  have C0 : Hid ((w.alloc (.cells #[.float .f32 x] 27)).cell? ⟨w.heap.size, 0, none⟩ = some (.float .f32 x)) := hid ((cell_of_row _ w.heap.size 0 _ _ _ (k0.out.at (x := (w.heap.size, #[.float .f32 x], 27)) (by simp))).trans rfl)
  clear hx hl hb hf hu
  go_enter Tryd.func17, Tryd.ntmps17
  go_wp2_with fail
  refine (iCheck_t x l HX.out HL.out HF.out HB.out _ _ C0.out).mono ?_
  rintro e u ⟨rfl, b⟩
  have k1 := hid (k0.out.stay b)
  clear b
  go_wp2_with fail
  refine (iFolds_z U.out HZ.out _).mono ?_
  rintro e u2 ⟨rfl, rfl⟩
  go_wp2
  exact bodyPost_ret (results_tmp2 rfl _ _ _) rfl ⟨rfl, k1.out.1⟩

theorem iFold_k {x l w9 q Q K k : Nat} (hu : FoldF x l w9 q Q K k) (hx : x < 4294967296) (hl : l < 4294967296) (hb : limB l = true) (hf : finB x = true) (hz : (D.order K 0 == some .eq) = false) (ho : (FloatKind.f32.format.order k 0 == some .eq) = true) (w : World) :
    Calls Tryd.prog 17 #[.float .f32 x, .float .f32 l] w fun e w' => e = .returned (.tuple #[.float .f32 x, .int .i64 0]) ∧ Below w.heap.size w w' := by
  have HX := hid hx
  have HL := hid hl
  have HB := hid hb
  have HF := hid hf
  have U := hid hu
  have HZ := hid hz
  clear hz
  have k0 := hid ((Kept.nil w).push #[.float .f32 x] 27)
  have C0 : Hid ((w.alloc (.cells #[.float .f32 x] 27)).cell? ⟨w.heap.size, 0, none⟩ = some (.float .f32 x)) := hid ((cell_of_row _ w.heap.size 0 _ _ _ (k0.out.at (x := (w.heap.size, #[.float .f32 x], 27)) (by simp))).trans rfl)
  clear hx hl hb hf hu
  go_enter Tryd.func17, Tryd.ntmps17
  go_wp2_with fail
  refine (iCheck_t x l HX.out HL.out HF.out HB.out _ _ C0.out).mono ?_
  rintro e u ⟨rfl, b⟩
  have k1 := hid (k0.out.stay b)
  clear b
  go_wp2_with fail
  refine (iFolds_n U.out HZ.out _).mono ?_
  rintro e u2 ⟨rfl, rfl⟩
  go_wp2
  exact bodyPost_ret (results_tmp2 rfl _ _ _) rfl ⟨rfl, k1.out.1⟩

theorem iFold_n {x l w9 q Q K k : Nat} (hu : FoldF x l w9 q Q K k) (hx : x < 4294967296) (hl : l < 4294967296) (hb : limB l = true) (hf : finB x = true) (hz : (D.order K 0 == some .eq) = false) (ho : (FloatKind.f32.format.order k 0 == some .eq) = false) {p v : Nat} (hp : S.mul w9 k = some p) (hv : S.sub x p = some v) (hv2 : v < 4294967296) {r : Nat} {c : Int} (ht : told v = .tuple #[.float .f32 r, .int .i64 c]) (w : World) :
    Calls Tryd.prog 17 #[.float .f32 x, .float .f32 l] w fun e w' => e = .returned (.tuple #[.float .f32 r, .int .i64 c]) ∧ Below w.heap.size w w' := by
  have HX := hid hx
  have HL := hid hl
  have HB := hid hb
  have HF := hid hf
  have U := hid hu
  have HZ := hid hz
  have HT := hid (fun w => by have := iTold v hv2 w; rw [ht] at this; exact this)
  have mw := fun w => run_float_arith (P := Tryd.prog) w .mul 27 .f32 _ _ _ hu.hw
  have mp := fun w => run_float_arith (P := Tryd.prog) w .mul 27 .f32 _ _ _ hp
  have mv := fun w => run_float_arith (P := Tryd.prog) w .sub 27 .f32 _ _ _ hv
  clear hz hp hv hv2 ht
  have k0 := hid ((Kept.nil w).push #[.float .f32 x] 27)
  have C0 : Hid ((w.alloc (.cells #[.float .f32 x] 27)).cell? ⟨w.heap.size, 0, none⟩ = some (.float .f32 x)) := hid ((cell_of_row _ w.heap.size 0 _ _ _ (k0.out.at (x := (w.heap.size, #[.float .f32 x], 27)) (by simp))).trans rfl)
  clear hx hl hb hf hu
  go_enter Tryd.func17, Tryd.ntmps17
  go_wp2_with fail
  refine (iCheck_t x l HX.out HL.out HF.out HB.out _ _ C0.out).mono ?_
  rintro e u ⟨rfl, b⟩
  have k1 := hid (k0.out.stay b)
  clear b
  go_wp2_with fail
  refine (iFolds_n U.out HZ.out _).mono ?_
  rintro e u2 ⟨rfl, rfl⟩
  go_wp2_with fail
  refine (HT.out _).mono ?_
  rintro e u3 ⟨rfl, b⟩
  have k2 := hid (k1.out.stay b)
  clear b
  go_wp2
  exact bodyPost_ret (results_tmp2 rfl _ _ _) rfl ⟨rfl, k2.out.1⟩

theorem sFold_x (x l : Nat) (hx : x < 4294967296) (hf : finB x = false) (w : World) :
    Calls Tryd.prog 16 #[.float .f32 x, .float .f32 l] w fun e w' => e = .returned (.tuple #[.float .f32 0, .int .i64 2]) ∧ Below w.heap.size w w' := by
  have HX := hid hx
  have HF := hid hf
  clear hx hf
  go_enter Tryd.func16, Tryd.ntmps16
  go_wp2_with fail
  refine (sFinite_f x HX.out HF.out _).mono ?_
  rintro e u ⟨rfl, b⟩
  go_wp2
  exact bodyPost_ret (results_tmp2 rfl _ _ _) rfl ⟨rfl, b⟩

theorem sFold_l (x l : Nat) (hx : x < 4294967296) (hl : l < 4294967296) (hf : finB x = true) (hb : limB l = false) (w : World) :
    Calls Tryd.prog 16 #[.float .f32 x, .float .f32 l] w fun e w' => e = .returned (.tuple #[.float .f32 0, .int .i64 2]) ∧ Below w.heap.size w w' := by
  have HX := hid hx
  have HF := hid hf
  have HL := hid (fun w => by have := sLimit l hl w; rw [hb] at this; exact this)
  clear hx hf hl hb
  go_enter Tryd.func16, Tryd.ntmps16
  go_wp2_with fail
  refine (sFinite_t x HX.out HF.out _).mono ?_
  rintro e u ⟨rfl, rfl⟩
  go_wp2_with fail
  refine (HL.out _).mono ?_
  rintro e u ⟨rfl, b⟩
  go_wp2
  exact bodyPost_ret (results_tmp2 rfl _ _ _) rfl ⟨rfl, b⟩

theorem sFold_z {x l w9 q Q K k : Nat} (hu : FoldF x l w9 q Q K k) (hx : x < 4294967296) (hl : l < 4294967296) (hb : limB l = true) (hf : finB x = true) (ho : (FloatKind.f32.format.order k 0 == some .eq) = true) (w : World) :
    Calls Tryd.prog 16 #[.float .f32 x, .float .f32 l] w fun e w' => e = .returned (.tuple #[.float .f32 x, .int .i64 0]) ∧ Below w.heap.size w w' := by
  have HX := hid hx
  have HF := hid hf
  have HL := hid (fun w => by have := sLimit l hl w; rw [hb] at this; exact this)
  have U := hid hu
  have mq := fun w => run_float_arith (P := Tryd.prog) w .quo 27 .f32 _ _ _ hu.hq
  have mw := fun w => run_float_arith (P := Tryd.prog) w .mul 27 .f32 _ _ _ hu.hw

  clear hx hl hb hf hu
  go_enter Tryd.func16, Tryd.ntmps16
  go_wp2_with fail
  refine (sFinite_t x HX.out HF.out _).mono ?_
  rintro e u ⟨rfl, rfl⟩
  go_wp2_with fail
  refine (HL.out _).mono ?_
  rintro e u ⟨rfl, b⟩
  have B := hid b
  clear b
  go_wp2_with fail
  refine (sNear U.out _).mono ?_
  rintro e u2 ⟨rfl, rfl⟩
  go_wp2
  exact bodyPost_ret (results_tmp2 rfl _ _ _) rfl ⟨rfl, B.out⟩

theorem sFold_n {x l w9 q Q K k : Nat} (hu : FoldF x l w9 q Q K k) (hx : x < 4294967296) (hl : l < 4294967296) (hb : limB l = true) (hf : finB x = true) (ho : (FloatKind.f32.format.order k 0 == some .eq) = false) {p v : Nat} (hp : S.mul w9 k = some p) (hv : S.sub x p = some v) (hv2 : v < 4294967296) {r : Nat} {c : Int} (ht : told v = .tuple #[.float .f32 r, .int .i64 c]) (w : World) :
    Calls Tryd.prog 16 #[.float .f32 x, .float .f32 l] w fun e w' => e = .returned (.tuple #[.float .f32 r, .int .i64 c]) ∧ Below w.heap.size w w' := by
  have HX := hid hx
  have HF := hid hf
  have HL := hid (fun w => by have := sLimit l hl w; rw [hb] at this; exact this)
  have U := hid hu
  have mq := fun w => run_float_arith (P := Tryd.prog) w .quo 27 .f32 _ _ _ hu.hq
  have mw := fun w => run_float_arith (P := Tryd.prog) w .mul 27 .f32 _ _ _ hu.hw
  have HT := hid (fun w => by have := sNumber v hv2 w; rw [ht] at this; exact this)
  have mp := fun w => run_float_arith (P := Tryd.prog) w .mul 27 .f32 _ _ _ hp
  have mv := fun w => run_float_arith (P := Tryd.prog) w .sub 27 .f32 _ _ _ hv
  clear hp hv hv2 ht
  clear hx hl hb hf hu
  go_enter Tryd.func16, Tryd.ntmps16
  go_wp2_with fail
  refine (sFinite_t x HX.out HF.out _).mono ?_
  rintro e u ⟨rfl, rfl⟩
  go_wp2_with fail
  refine (HL.out _).mono ?_
  rintro e u ⟨rfl, b⟩
  have B := hid b
  clear b
  go_wp2_with fail
  refine (sNear U.out _).mono ?_
  rintro e u2 ⟨rfl, rfl⟩
  go_wp2_with fail
  refine (HT.out _).mono ?_
  rintro e u3 ⟨rfl, b⟩
  have B2 := hid (B.out.trans (b.mono B.out.size))
  clear b
  go_wp2
  exact bodyPost_ret (results_tmp2 rfl _ _ _) rfl ⟨rfl, B2.out⟩

theorem coreFoldSpeed (x l r : Nat) (c : Int) (hr : r < 4294967296) (hf : finB r = true) (w : World)
    (hS : ∀ w, Calls Tryd.prog 16 #[.float .f32 x, .float .f32 l] w fun e w' => e = .returned (.tuple #[.float .f32 r, .int .i64 c]) ∧ Below w.heap.size w w')
    (hI : ∀ w', Below w.heap.size w w' → Calls Tryd.prog 17 #[.float .f32 x, .float .f32 l] w' fun e w2 => e = .returned (.tuple #[.float .f32 r, .int .i64 c]) ∧ Below w'.heap.size w' w2) :
    Calls Tryd.prog 5 #[.float .f32 x, .float .f32 l] w fun e w' => e = .returned (.bool true) ∧ Below w.heap.size w w' := by
  have HS := hid hS
  have HI := hid hI
  have HR := hid hr
  have HF := hid hf
  have hc := fun w => run_conv_wid (P := Tryd.prog) w 27 43 r hr Tryd.underlying27 Tryd.underlying43 (finB_iff.1 hf)
  clear hS hI hr hf
  go_enter Tryd.func5, Tryd.ntmps5
  go_wp2_with fail
  refine (HS.out _).mono ?_
  rintro e u ⟨rfl, b⟩
  have B := hid b
  clear b
  go_wp2_with fail
  refine (HI.out _ B.out).mono ?_
  rintro e u2 ⟨rfl, b⟩
  have B2 := hid (B.out.trans (b.mono B.out.size))
  clear b
  go_wp2_with fail
  refine (sameFloat r HR.out HF.out _).mono ?_
  rintro e u3 ⟨rfl, rfl⟩
  go_wp2
  go_ret
  exact ⟨rfl, B2.out⟩

theorem told_two (v : Nat) (hv : v < 4294967296) : ∃ r c, told v = .tuple #[.float .f32 r, .int .i64 c] ∧ r < 4294967296 ∧ finB r = true := by
  unfold told
  by_cases h : finB v = true
  · rw [if_pos h]; exact ⟨v, 0, rfl, hv, h⟩
  · rw [if_neg h]; exact ⟨0, 4, rfl, by decide, by decide⟩

theorem lawFoldSpeed (A : Nat → Addr) (x l : Nat) (hx : x < 4294967296) (hl : l < 4294967296) {w : World} (hA : Sent w A) :
    Calls Tryd.prog 5 #[.float .f32 x, .float .f32 l] w fun e w' => e = .returned (.bool true) ∧ Below w.heap.size w w' := by
  rcases hf : finB x with _ | _
  · refine coreFoldSpeed x l 0 2 (by decide) (by decide) w (sFold_x x l hx hf) fun w' b => ?_
    rcases hb : limB l with _ | _
    · exact iFold_l A x l hx hl hb w' (hA.stay b)
    · exact iFold_x A x l hx hl hb hf w' (hA.stay b)
  · rcases hb : limB l with _ | _
    · exact coreFoldSpeed x l 0 2 (by decide) (by decide) w (sFold_l x l hx hl hf hb) fun w' b => iFold_l A x l hx hl hb w' (hA.stay b)
    · have hb' := hb
      unfold limB at hb'
      rw [Bool.and_eq_true, decide_eq_true_eq] at hb'
      obtain ⟨w9, q, Q, K, k, hu⟩ := fold_f (x := x) (l := l) ⟨hx, finB_iff.1 hf⟩ hb'.1 hb'.2
      rcases ho : (FloatKind.f32.format.order k 0 == some .eq) with _ | _
      · obtain ⟨p, v, hp, hv, hv2⟩ := hu.nz ho
        obtain ⟨r, c, ht, hr, hfr⟩ := told_two v hv2
        have hz : (D.order K 0 == some .eq) = false := by
          cases hz : (D.order K 0 == some .eq) with
          | false => rfl
          | true => have := hu.zk hz; rw [show (S.order k 0 == some .eq) = false from ho] at this; exact Bool.noConfusion this
        refine coreFoldSpeed x l r c hr hfr w (fun w => ?_) fun w' b => ?_
        · exact sFold_n hu hx hl hb hf ho hp hv hv2 ht w
        · exact iFold_n hu hx hl hb hf hz ho hp hv hv2 ht w'
      · refine coreFoldSpeed x l x 0 hx hf w (sFold_z hu hx hl hb hf ho) fun w' b => ?_
        cases hz : (D.order K 0 == some .eq) with
        | false => exact iFold_k hu hx hl hb hf hz ho w'
        | true => exact iFold_z hu hx hl hb hf hz w'

theorem words_cons : ∀ (v : List Char) (r : List Char), (∀ c ∈ v, c ≠ Char.ofNat 32) → wordsSigns (v ++ Char.ofNat 32 :: r) = v :: wordsSigns r
  | [], r, _ => rfl
  | c :: v, r, h => by
    have ih := words_cons v r (fun x hx => h x (by simp [hx]))
    have hc : c ≠ Char.ofNat 32 := h c (by simp)
    show wordsSigns (c :: (v ++ Char.ofNat 32 :: r)) = _
    rw [wordsSigns.eq_3 _ _ (fun e => hc e), ih]

def w0 : List Nat := [104, 97, 114, 110, 101, 115, 115]

def w1 : List Nat := [48, 48, 101, 54, 53, 51, 54, 57, 49, 55, 48, 48, 48, 53, 54, 53, 100, 54, 102, 54, 99, 56, 102, 50, 49, 51, 49, 49, 102, 52, 100, 49, 101, 50, 57, 102, 55, 49, 98, 52, 99, 57, 55, 98, 56, 49, 55, 50, 52, 102, 56, 99, 52, 56, 51, 54, 101, 53, 54, 52, 48, 99, 55, 97]

def w2 : List Nat := [99, 117, 116]

def w3 : List Nat := [97, 116, 32, 108, 111, 111, 112, 46, 101, 120, 97, 109, 112, 108, 101, 47, 103, 48, 49, 50, 50, 52, 47, 108, 97, 119, 115, 46, 70, 110, 69, 120, 97, 99, 116, 69, 99, 104, 111, 65, 116, 32, 108, 111, 111, 112, 46, 101, 120, 97, 109, 112, 108, 101, 47, 103, 48, 49, 50, 50, 52, 47, 108, 97, 119, 115, 46, 70, 110, 69, 120, 97, 99, 116, 83, 116, 114, 111, 110, 103, 101, 115, 116, 67, 101, 108, 108, 32, 108, 111, 111, 112, 46, 101, 120, 97, 109, 112, 108, 101, 47, 103, 48, 49, 50, 50, 52, 47, 108, 97, 119, 115, 46, 70, 110, 69, 120, 97, 99, 116, 70, 111, 108, 100, 83, 112, 101, 101, 100, 32, 108, 111, 111, 112, 46, 101, 120, 97, 109, 112, 108, 101, 47, 103, 48, 49, 50, 50, 52, 47, 108, 97, 119, 115, 46, 70, 110, 69, 120, 97, 99, 116, 76, 111, 117, 100, 110, 101, 115, 115, 79, 102]

def letters (l : List Nat) : List Char := l.map Char.ofNat

theorem head_reads : Tryd.prog.initOrder = String.ofList (letters w0 ++ Char.ofNat 32 :: (letters w1 ++ Char.ofNat 32 :: (letters w2 ++ Char.ofNat 32 :: letters w3))) := by kernel_rfl

theorem no_blank {l : List Nat} (h : l.all (fun n => Char.ofNat n != Char.ofNat 32) = true) : ∀ c ∈ letters l, c ≠ Char.ofNat 32 := by
  intro c hc
  obtain ⟨n, hn, rfl⟩ := List.mem_map.1 hc
  have := List.all_eq_true.1 h n hn
  simpa using this

theorem h0 : letters w0 = "harness".toList := by kernel_rfl

theorem h2 : letters w2 = "cut".toList := by kernel_rfl

theorem sums : isSumSigns (letters w1) = true := by kernel_rfl

theorem words : wordsSigns Tryd.prog.initOrder.toList = "harness".toList :: letters w1 :: "cut".toList :: wordsSigns (letters w3) := by
  rw [head_reads, String.toList_ofList, words_cons _ _ (no_blank (by decide +kernel)), words_cons _ _ (no_blank (by decide +kernel)), words_cons _ _ (no_blank (by decide +kernel)), h0, h2]

theorem behind : ∃ r, behindMainWord (wordsSigns Tryd.prog.initOrder.toList) = "cut".toList :: r := by
  refine ⟨wordsSigns (letters w3), ?_⟩
  rw [words]
  generalize wordsSigns (letters w3) = r
  have hs := sums
  generalize letters w1 = v at hs
  unfold behindMainWord
  simp [hs]

theorem not_later : Tryd.prog.laysLater = false := by kernel_rfl

theorem no_reflect : Tryd.prog.bearsReflect = false := by kernel_rfl

theorem no_doors : Tryd.prog.doorFits [] = true := by kernel_rfl

theorem strips (r : List (List Char)) : stripLifts liftWords ("cut".toList :: r) = ([], "cut".toList :: r) := by kernel_rfl

theorem may_enter_of (P : Program) (r : List (List Char)) (h : behindMainWord (wordsSigns P.initOrder.toList) = "cut".toList :: r) (h1 : P.laysLater = false) (h2 : P.bearsReflect = false) (h3 : P.doorFits [] = true) : P.mayEnter = true := by
  unfold Program.mayEnter
  rw [h]
  dsimp only
  rw [strips, h1, h2, h3]
  kernel_rfl

theorem lifts_final_of (P : Program) (r : List (List Char)) (h : behindMainWord (wordsSigns P.initOrder.toList) = "cut".toList :: r) : P.liftsFinal = false := by
  unfold Program.liftsFinal Program.headLifts
  rw [h]
  dsimp only
  rw [strips]
  kernel_rfl

theorem made_of (P : Program) (r : List (List Char)) (h : behindMainWord (wordsSigns P.initOrder.toList) = "cut".toList :: r) : P.make = some .cut := by
  unfold Program.make
  rw [h]
  kernel_rfl

theorem may_enter : Tryd.prog.mayEnter = true := let ⟨r, h⟩ := behind; may_enter_of _ r h not_later no_reflect no_doors

theorem lifts_final : Tryd.prog.liftsFinal = false := let ⟨r, h⟩ := behind; lifts_final_of _ r h

theorem made : Tryd.prog.make = some .cut := let ⟨r, h⟩ := behind; made_of _ r h

theorem laid : laidOutB Tryd.prog = true := by kernel_rfl

theorem rowed : mapsRowed Tryd.prog = true := by kernel_rfl

theorem no_stops : Tryd.prog.stops = [] := by kernel_rfl

theorem no_knobs : Tryd.prog.stopKnobs = [] := by kernel_rfl

theorem plain_keys : Tryd.prog.plainKeys = true := by kernel_rfl

theorem stops_heard : Tryd.prog.stopsHeard = true := by kernel_rfl

theorem arr2 {α : Type} {cs : Array α} (h : cs.size = 2) : ∃ c0 c1, cs = #[c0, c1] := by
  obtain ⟨l⟩ := cs
  match l, h with
  | [a, b], _ => exact ⟨a, b, rfl⟩

theorem own : ownKnob Tryd.prog.godebug = none := by kernel_rfl

theorem rdf : Tryd.prog.readableRec 27 = true ∧ 27 < Tryd.prog.types.size := ⟨by kernel_rfl, of_decide_eq_true (by kernel_rfl)⟩

/-- The door's own heap meets the rows' condition. -/
theorem door_met (os : Os) (args : Array Value) : laidMetH Tryd.prog Rows.fnExactEchoAtRow.laid ((World.doorLaid Tryd.prog 400 os).forCall (fun _ _ => 0) ⟨#[], args, []⟩).memory :=
  laidMetH_of_parts3 (fuel := 8) (laidMet_of_run' 8 (by kernel_rfl) (by kernel_rfl)) (by kernel_rfl) (by kernel_rfl)

/-- A variable of the five, as a reading of it wants. -/
theorem var_is {W : World} {n : String} {g : Nat} {a : Addr} (hg : Tryd.prog.globalNamed n = some g) (ht : (Tryd.prog.globals[g]?).map (·.type) = some 55) (h : W.var? Tryd.prog n = some #[.iface 102 (.pointer (some a))]) :
    ∃ g ti ms, Tryd.prog.globalNamed n = some g ∧ (Tryd.prog.globals[g]?).map (·.type) = some ti ∧ Tryd.prog.underlying ti = some (.interface ms) ∧ W.var? Tryd.prog n = some #[.iface 102 (.pointer (some a))] ∧ IsIface (.iface 102 (.pointer (some a))) :=
  ⟨g, _, _, hg, ht, Tryd.underlying55, h, trivial⟩
end Go.Proofs.YtllkjockdogagaaDoor

namespace Go.Proofs.YtllkjockdogagaaDoor.fnExactFoldSpeed
open Go.RowKit Go.Fl Go.ChangeShapes Go.WideShapes Go.ChangeAt

set_option maxHeartbeats 2000000 in
theorem closed : joinedFacts Tryd.prog 5 Tryd.f5 Rows.fnExactFoldSpeedSpec Rows.fnExactFoldSpeedRow = true := by
  unfold joinedFacts
  simp only [Bool.and_eq_true]
  exact ⟨⟨⟨⟨⟨⟨⟨⟨⟨⟨⟨⟨⟨⟨⟨⟨⟨⟨⟨⟨⟨⟨⟨⟨⟨⟨⟨⟨⟨⟨⟨(by as_aux_lemma => kernel_rfl),
    laid⟩,
    rowed⟩,
    (by as_aux_lemma => kernel_rfl)⟩,
    (by as_aux_lemma => kernel_rfl)⟩,
    (by as_aux_lemma => kernel_rfl)⟩,
    (by rw [no_stops]; rfl)⟩,
    (by as_aux_lemma => kernel_rfl)⟩,
    (by rw [no_knobs]; rfl)⟩,
    (by as_aux_lemma => kernel_rfl)⟩,
    (by as_aux_lemma => kernel_rfl)⟩,
    (by as_aux_lemma => kernel_rfl)⟩,
    (by as_aux_lemma => kernel_rfl)⟩,
    (by as_aux_lemma => kernel_rfl)⟩,
    (by as_aux_lemma => kernel_rfl)⟩,
    (by as_aux_lemma => kernel_rfl)⟩,
    (by as_aux_lemma => kernel_rfl)⟩,
    (by as_aux_lemma => kernel_rfl)⟩,
    (by as_aux_lemma => kernel_rfl)⟩,
    (by as_aux_lemma => kernel_rfl)⟩,
    (by as_aux_lemma => kernel_rfl)⟩,
    (by as_aux_lemma => kernel_rfl)⟩,
    (show (Rows.fnExactFoldSpeedRow.plainKeys == Tryd.prog.plainKeys) = true by rw [plain_keys]; rfl)⟩,
    (by as_aux_lemma => kernel_rfl)⟩,
    stops_heard⟩,
    may_enter⟩,
    (show (Rows.fnExactFoldSpeedRow.lifted == Tryd.prog.liftsFinal) = true by rw [lifts_final]; rfl)⟩,
    (show (Tryd.prog.make == some Rows.fnExactFoldSpeedRow.make) = true by rw [made]; rfl)⟩,
    (by as_aux_lemma => kernel_rfl)⟩,
    (by as_aux_lemma => kernel_rfl)⟩,
    (by as_aux_lemma => kernel_rfl)⟩,
    (by as_aux_lemma => kernel_rfl)⟩

set_option maxRecDepth 100000 in
theorem lifted (os : Os) (started : os.Started) (H : Type) (enc : TypeId × Value → H) :
    ReturnsInHanded {} Tryd.checked os 5 .any (fun w args => (Rows.fnExactFoldSpeedSpec.pre enc Tryd.prog Tryd.f5 Rows.fnExactFoldSpeedRow.domain false w args ∧ laidMetH Tryd.prog Rows.fnExactFoldSpeedRow.laid w) ∧ sizedMet enc Tryd.prog Tryd.f5 (OpenSpec.ofChange Rows.fnExactFoldSpeedSpec) false w args) (Rows.fnExactFoldSpeedSpec.post enc Tryd.prog Tryd.f5 false true false false) := by
  refine LawFrame.lifted_vars (C := Tryd.checked) (fn := Tryd.f5) (n := 2) (tb := 4) (laidL := Rows.fnExactFoldSpeedRow.laid) started own (by kernel_rfl) Tryd.func5 laid ?_ rfl ?_ rfl Tryd.underlying4 ?_
    (ChangeSpec.witness_shaped (enc := enc) (C := Tryd.checked) (os := os) (X := fun w _ => laidMetH Tryd.prog Rows.fnExactFoldSpeedRow.laid w) false (World.doorLaid Tryd.prog 400 os) #[.float .f32 0, .float .f32 0] 8 rfl (World.shaped_of_RefB (by kernel_rfl) (by kernel_rfl)) (by kernel_rfl) (by kernel_rfl) (by kernel_rfl) (door_met os _)) ?_
  · intro t ht
    simp only [Tryd.params5, List.mem_cons, List.not_mem_nil, or_false] at ht
    rcases ht with rfl | rfl <;> first | exact rdf
  · intro ds gs hd hg
    match ds, gs, hd, hg with
    | [d0, d1], [g0, g1, g2, g3, g4], _, _ => rfl
  · intro W hL
    obtain ⟨A, -, v0, v1, v2, v3, v4⟩ := sent_of hL
    exact ⟨[.iface 102 (.pointer (some (A 1))), .iface 102 (.pointer (some (A 0))), .iface 102 (.pointer (some (A 2))), .iface 102 (.pointer (some (A 3))), .iface 102 (.pointer (some (A 4)))], var_is (g := 2) (by kernel_rfl) (by kernel_rfl) v1, var_is (g := 0) (by kernel_rfl) (by kernel_rfl) v0, var_is (g := 3) (by kernel_rfl) (by kernel_rfl) v2, var_is (g := 4) (by kernel_rfl) (by kernel_rfl) v3, var_is (g := 1) (by kernel_rfl) (by kernel_rfl) v4, trivial⟩
  · intro W base args ds ps hval hn hT hL
    obtain ⟨v0, v1, rfl⟩ : ∃ v0 v1, args = #[v0, v1] := arr2 hn
    simp only [Tryd.params5] at hT
    obtain ⟨A, hA, -⟩ := sent_of hL
    obtain ⟨c0, rfl, hb0⟩ := open_f32 Tryd.underlying27 (hval 0 27 v0 rfl rfl)
    obtain ⟨c1, rfl, hb1⟩ := open_f32 Tryd.underlying27 (hval 1 27 v1 rfl rfl)
    exact lawFoldSpeed A c0 c1 hb0 hb1 hA

theorem over : Rows.fnExactFoldSpeedRow.holds Tryd.pinned (OpenSpec.ofChange Rows.fnExactFoldSpeedSpec) :=
  OpenClaim.holds_of_wide 5 Tryd.f5 rfl rfl rfl rfl rfl rfl rfl ⟨rfl, rfl, rfl, rfl, rfl⟩ rfl rfl rfl rfl rfl (by kernel_rfl) Tryd.func5 closed
    (of_decide_eq_true (by kernel_rfl)) (by unfold Func.isWrapper; rw [if_neg (by decide +kernel)]; exact ⟨rfl, rfl⟩)
    (fun os started H enc _ => lifted os started H enc)

theorem named : Tryd.prog.funcNamed "loop.example/g01224/laws.FnExactFoldSpeed" = some 5 := by kernel_rfl
theorem proved : Rows.FnExactFoldSpeedCardSaid :=
  Claim7.holds_tied_plain_at .later [] [.sentinel, .sentinel, .sentinel, .sentinel, .sentinel] true (true, "00e6536917000565d6f6c8f21311f4d1e29f71b4c97b81724f8c4836e5640c7a") true
    over (fun _ h => by cases h) (by kernel_rfl) (fun _ h => by cases h) fnExactFoldSpeed_row_tie rfl ⟨rfl, rfl⟩ (by kernel_rfl) rfl
    (fun f fn hf hfn => by
      obtain rfl : f = 5 := Option.some.inj (named.symm.trans hf) |>.symm
      obtain rfl : fn = Tryd.f5 := (Option.some.inj (Tryd.func5.symm.trans hfn)).symm
      exact ⟨by kernel_rfl, fun j t ht => by
        have hm := Array.mem_of_getElem? ht
        rw [Tryd.params5] at hm
        simp only [List.mem_toArray, List.mem_cons, List.not_mem_nil, or_false] at hm
        rcases hm with rfl | rfl
        · exact (show Tryd.prog.wantsStandIn 27 = false by kernel_rfl)
        · exact (show Tryd.prog.wantsStandIn 27 = false by kernel_rfl)⟩)
    (by kernel_rfl)
#print axioms proved
end Go.Proofs.YtllkjockdogagaaDoor.fnExactFoldSpeed
