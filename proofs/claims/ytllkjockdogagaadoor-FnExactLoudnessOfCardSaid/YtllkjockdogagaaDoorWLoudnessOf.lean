import Derived.Test.YtllkjockdogagaaDoorCLoudnessOf
import Derived.Test.YtllkjockdogagaaDoorChecked
import Derived.Test.YtllkjockdogagaaDoorRows
import Derived.Test.YtllkjockdogagaaDoorCards
import Derived.Test.YtllkjockdogagaaDoorTie
import Derived.Laws.FloatArith
import Derived.ProofKit
import Derived.WalkKit
import Derived.WalkLawsBesides
import Derived.WalkSpells
import Derived.Deep.RegionHeld3
import Derived.ChangeKeysEq
import Derived.Laws.BitsAllLaws
import Derived.Deep.MidRow
import Derived.Deep.WholeRow
import Derived.StillTailTactics
import Derived.Deep.Slices
import Derived.ChangeSame
import Derived.OrdersIn
import Derived.ControlIn
import Derived.RangeFuncSeq
import Derived.RangeFuncNested
import Derived.ArgAppend
import Derived.OwnWalkIn
import Derived.TacticsInMore
import Derived.Laws.ComplexArith
import Derived.Deep.QuietTactic
import Derived.BigQuiet
import Derived.LaidEql
import Derived.Stop.Asserts
import Derived.RowKitTokens
import Derived.Below
import Derived.Laws.AppendOwn
import Derived.RangeFuncLeaves
import Derived.RangeFuncBox
import Derived.LoopNIn
import Derived.LoopIn
import Derived.Shelf.Abstract
import Derived.Deep.Strs
import Derived.OpenShut
import Derived.Stop.LaidErr
import Derived.LaidMore
import Derived.Handed
import Derived.LaidHandle
import Derived.Stop.Joined
import Derived.MakeChecks
import Derived.SevenTiedAt
/- The tied card of FnExactLoudnessOf. -/
namespace Go.Proofs.YtllkjockdogagaaDoor
open Go.RowKit Go.Fl

@[go_sem] theorem ext_f64bits (y : Nat) (w : World) : (callFunc 61 #[.float .f64 y]).run Tryd.prog w = .ok (.value (.int .u64 y)) w := by
  rw [run_callFunc_extern Tryd.func61 (by kernel_rfl) (by kernel_rfl) (by kernel_rfl) (e := Extern.MathFloatBits.float64bits) (by kernel_rfl)]
  rfl

@[go_sem] theorem ext_f64from (n : Int) (w : World) : (callFunc 62 #[.int .u64 n]).run Tryd.prog w = .ok (.value (.float .f64 n.toNat)) w := by
  rw [run_callFunc_extern Tryd.func62 (by kernel_rfl) (by kernel_rfl) (by kernel_rfl) (e := Extern.MathFloatBits.float64frombits) (by kernel_rfl)]
  rfl

theorem hid {p : Prop} (h : p) : Hid p := h

theorem clear_sign (y : Nat) (h : y < 18446744073709551616) : (bits BinOp.andNot IntKind.u64 (y : Int) 9223372036854775808).toNat = y % 9223372036854775808 := by
  rw [u64_andNot _ _ (by omega) (by omega) (by omega) (by omega)]
  rw [Int.toNat_natCast, Int.toNat_natCast]
  exact Nat.and_two_pow_sub_one_eq_mod y 63

theorem abs_f64 (y : Nat) (h : y < 18446744073709551616) (w : World) :
    Calls Tryd.prog 59 #[.float .f64 y] w fun e w' => e = .returned (.float .f64 (y % 9223372036854775808)) ∧ w = w' := by
  have hc := hid (clear_sign y h)
  clear h
  go_enter Tryd.func59, Tryd.ntmps59
  go_wp2
  go_ret
  exact ⟨by simp [hc.out], rfl⟩

theorem isNaN_f64 (y : Nat) (w : World) :
    Calls Tryd.prog 50 #[.float .f64 y] w fun e w' => e = .returned (.bool (FloatKind.f64.format.order y y != some .eq)) ∧ w = w' := by
  go_enter Tryd.func50, Tryd.ntmps50
  go_wp2
  go_ret
  exact ⟨rfl, rfl⟩

theorem isInf_f64 (y : Nat) (h : y < 18446744073709551616) (w : World) :
    Calls Tryd.prog 51 #[.float .f64 y, .int .i64 0] w fun e w' => e = .returned (.bool (FloatKind.f64.format.order (y % 9223372036854775808) 9218868437227405311 == some .gt)) ∧ w = w' := by
  have hc := hid h
  clear h
  go_enter Tryd.func51, Tryd.ntmps51
  go_wp2_with (go_at_call 59; refine (abs_f64 y hc.out _).mono ?_; rintro e w' ⟨rfl, rfl⟩)
  go_ret
  exact ⟨rfl, rfl⟩

theorem isFinite_t (x : Nat) (hx : x < 4294967296) (h : finB x = true) (w : World) :
    Calls Tryd.prog 37 #[.float .f32 x] w fun e w' => e = .returned (.bool true) ∧ w = w' := by
  rw [finB_iff] at h
  have hc := fun w => run_conv_wid (P := Tryd.prog) w 27 43 x hx Tryd.underlying27 Tryd.underlying43 h
  obtain ⟨a, b, m, e, hr⟩ := read_wid_fin hx h
  have hn : (FloatKind.f64.format.order (wid x) (wid x) != some .eq) = false := by
    show (D.order (wid x) (wid x) != some .eq) = false
    rw [order_self hr]; rfl
  have hi : (FloatKind.f64.format.order (wid x % 9223372036854775808) 9218868437227405311 == some .gt) = false := by
    show (D.order (wid x % 9223372036854775808) 9218868437227405311 == some .gt) = false
    rw [b, order_ltD a (by decide)]
    rw [DINF_val] at a
    have hle : wid (mg x) ≤ 9218868437227405311 := by omega
    rcases Nat.lt_or_eq_of_le hle with h' | h'
    · rw [Nat.compare_eq_lt.2 h']; rfl
    · rw [Nat.compare_eq_eq.2 h']; rfl
  have hw : wid x < 18446744073709551616 := D.write_lt _
  have Hn := hid hn
  have Hi := hid hi
  have Hw := hid hw
  clear hn hi hw hr a b h hx
  go_enter Tryd.func37, Tryd.ntmps37
  go_wp2_with (first | (go_at_call 50; refine (isNaN_f64 (wid x) _).mono ?_; rintro e w' ⟨rfl, rfl⟩; rw [Hn.out]) | (go_at_call 51; refine (isInf_f64 (wid x) Hw.out _).mono ?_; rintro e w' ⟨rfl, rfl⟩; rw [Hi.out]))
  go_ret
  exact ⟨rfl, rfl⟩

theorem isFinite_f (x : Nat) (hx : x < 4294967296) (h : finB x = false) (w : World) :
    Calls Tryd.prog 37 #[.float .f32 x] w fun e w' => e = .returned (.bool false) ∧ Below w.heap.size w w' := by
  rw [finB_iff'] at h
  rcases Nat.lt_or_eq_of_le h with h | h
  · obtain ⟨z, hc, h1, _⟩ := run_conv_nan (P := Tryd.prog) w 27 43 x Tryd.underlying27 Tryd.underlying43 h
    obtain ⟨s, t, hr⟩ := read_nanD h1
    have Hn := hid (show (FloatKind.f64.format.order z z != some .eq) = true by
      show (D.order z z != some .eq) = true
      rw [order_nan hr]; rfl)
    clear h h1 hr hx
    go_enter Tryd.func37, Tryd.ntmps37
    go_wp2_with (go_at_call 50; refine (isNaN_f64 z _).mono ?_; rintro e w' ⟨rfl, rfl⟩; rw [Hn.out])
    go_ret
    exact ⟨rfl, (Below.refl _ _).drew⟩
  · obtain ⟨z, hc, h1, h2⟩ := run_conv_inf (P := Tryd.prog) w 27 43 x hx Tryd.underlying27 Tryd.underlying43 h.symm
    have hr : D.read z = .infinity (decide (9223372036854775808 ≤ z)) := by rw [read_signD h2, h1, read_DINF]
    have Hn := hid (show (FloatKind.f64.format.order z z != some .eq) = false by
      show (D.order z z != some .eq) = false
      rw [order_inf hr]; rfl)
    have Hi := hid (show (FloatKind.f64.format.order (z % 9223372036854775808) 9218868437227405311 == some .gt) = true by
      rw [h1]; decide)
    have H2 := hid h2
    clear h h1 hr hx h2
    go_enter Tryd.func37, Tryd.ntmps37
    go_wp2_with (first | (go_at_call 50; refine (isNaN_f64 z _).mono ?_; rintro e w' ⟨rfl, rfl⟩; rw [Hn.out]) | (go_at_call 51; refine (isInf_f64 z H2.out _).mono ?_; rintro e w' ⟨rfl, rfl⟩; rw [Hi.out]))
    go_ret
    exact ⟨rfl, Below.refl _ _⟩

@[go_sem] theorem ext_f32bits (y : Nat) (w : World) : (callFunc 54 #[.float .f32 y]).run Tryd.prog w = .ok (.value (.int .u32 y)) w := by
  rw [run_callFunc_extern Tryd.func54 (by kernel_rfl) (by kernel_rfl) (by kernel_rfl) (e := Extern.MathFloatBits.float32bits) (by kernel_rfl)]
  rfl

theorem sFinite_t (x : Nat) (hx : x < 4294967296) (h : finB x = true) (w : World) :
    Calls Tryd.prog 30 #[.float .f32 x] w fun e w' => e = .returned (.bool true) ∧ w = w' := by
  have hr := fun w => run_float_arith (P := Tryd.prog) w .sub 27 .f32 x x 0 (sub_self_fin hx h)
  clear h hx
  go_enter Tryd.func30, Tryd.ntmps30
  go_wp2
  go_ret
  exact ⟨rfl, rfl⟩

theorem sFinite_f (x : Nat) (hx : x < 4294967296) (h : finB x = false) (w : World) :
    Calls Tryd.prog 30 #[.float .f32 x] w fun e w' => e = .returned (.bool false) ∧ Below w.heap.size w w' := by
  obtain ⟨z, hr, h1, _⟩ := run_arith_nan (P := Tryd.prog) w .sub (by simp) 27 x x (sub_self_none hx h)
  have Hn := hid (show (FloatKind.f32.format.order z 0 == some .eq) = false by
    show (S.order z 0 == some .eq) = false
    rw [order_nan32 h1]; rfl)
  clear h hx h1
  go_enter Tryd.func30, Tryd.ntmps30
  go_wp2
  go_ret
  exact ⟨by simp [Hn.out], (Below.refl _ _).drew⟩

theorem div_one_some {y m : Nat} {s : Bool} {e : Int} (h : D.read y = .number s m e) : ∃ q, floatBits .quo .f64 4607182418800017408 y = some q := by
  have h1 : D.read 4607182418800017408 = .number false 4503599627370496 (-52) := by decide
  show ∃ q, D.div 4607182418800017408 y = some q
  unfold Ieee.Format.div
  rw [h, h1]
  simp only [Ieee.Datum.quotient]
  by_cases hm : m = 0
  · rw [if_pos hm]; exact ⟨_, rfl⟩
  · rw [if_neg hm]; exact ⟨_, rfl⟩

set_option maxRecDepth 100000 in
theorem sameFloat (x : Nat) (hx : x < 4294967296) (h : finB x = true) (w : World) :
    Calls Tryd.prog 18 #[.float .f64 (wid x), .float .f64 (wid x)] w fun e w' => e = .returned (.bool true) ∧ w = w' := by
  obtain ⟨a, b, m, e, hr⟩ := read_wid_fin hx (finB_iff.1 h)
  have hn : (FloatKind.f64.format.order (wid x) (wid x) != some .eq) = false := by
    show (D.order (wid x) (wid x) != some .eq) = false
    rw [order_self hr]; rfl
  have hq : (FloatKind.f64.format.order (wid x) (wid x) == some .eq) = true := by
    show (D.order (wid x) (wid x) == some .eq) = true
    rw [order_self hr]; rfl
  obtain ⟨q, hd⟩ := div_one_some hr
  have hdiv := fun w => run_float_arith (P := Tryd.prog) w .quo 43 .f64 4607182418800017408 (wid x) q hd
  clear hd hr a b h hx
  rcases hz : (FloatKind.f64.format.order (wid x) 0 == some .eq) with _ | _
  · go_enter Tryd.func18, Tryd.ntmps18
    go_wp2
    go_ret
    exact ⟨by simp, rfl⟩
  · go_enter Tryd.func18, Tryd.ntmps18
    go_wp2
    go_ret
    exact ⟨by simp, rfl⟩

theorem isTypeOf (v : Value) (w : World) : (Extern.ReflectliteType.typeOf #[.iface 102 v]).run Tryd.prog w = .ok (.iface 91 (.agg #[.pointer (some ⟨6, 102, none⟩)])) w := by kernel_rfl

theorem isComparable (w : World) : ((Extern.ReflectliteType.method fun t => do Extern.Rtype.noPackHeld "Comparable" t; pure (.bool (← typeInfo t).comparable)) #[.agg #[.pointer (some ⟨6, 102, none⟩)]]).run Tryd.prog w = .ok (.bool true) w := by kernel_rfl

theorem isCompCall (w : World) : (callFunc 85 #[.agg #[.pointer (some ⟨6, 102, none⟩)]]).run Tryd.prog w = .ok (Next.value (.bool true)) w := by
  have h32 := @run_callFunc_extern Tryd.prog 85 _ (Extern.ReflectliteType.method fun t => do Extern.Rtype.noPackHeld "Comparable" t; pure (.bool (← typeInfo t).comparable)) Tryd.func85 (by kernel_rfl) (by kernel_rfl) (by kernel_rfl) (by kernel_rfl)
  rw [h32, isComparable]
  rfl

theorem isMethodComparable (v : Value) (w : World) : (Go.method 240 91 v "Comparable").run Tryd.prog w = .ok (85, v) w := by kernel_rfl

theorem isComp : (Tryd.prog.info? 102).map (·.comparable) = some true := by kernel_rfl

theorem isSize : (Tryd.prog.info? 128).map (·.size) = some 1 := by kernel_rfl

theorem noIsE (v : Value) (xT : TypeId) (w : World) : (Instr.typeAssert (.iface 102 v) xT 93 true).run Tryd.prog w = .ok (.tuple #[.nilIface, .bool false]) w := run_typeAssert_lacksB Tryd.underlying93 (by kernel_rfl) (by kernel_rfl) v xT w

theorem noUnwrapE (v : Value) (xT : TypeId) (w : World) : (Instr.typeAssert (.iface 102 v) xT 96 true).run Tryd.prog w = .ok (.tuple #[.nilIface, .bool false]) w := run_typeAssert_lacksB Tryd.underlying96 (by kernel_rfl) (by kernel_rfl) v xT w

theorem noUnwrapsE (v : Value) (xT : TypeId) (w : World) : (Instr.typeAssert (.iface 102 v) xT 98 true).run Tryd.prog w = .ok (.tuple #[.nilIface, .bool false]) w := run_typeAssert_lacksB Tryd.underlying98 (by kernel_rfl) (by kernel_rfl) v xT w

set_option maxRecDepth 100000 in
/-- errors.Is(x, x), x a pointer to an errors.errorString. -/
theorem is_same (a : Addr) (w : World) :
    Calls Tryd.prog 44 #[.iface 102 (.pointer (some a)), .iface 102 (.pointer (some a))] w fun e w' => e = .returned (.bool true) ∧ w' = w := by
  obtain ⟨i, hi, hcmp⟩ := Option.map_eq_some_iff.1 isComp
  obtain ⟨j, hj, hjs⟩ := Option.map_eq_some_iff.1 isSize
  have h8 := @run_callFunc_extern Tryd.prog 57 _ Extern.ReflectliteType.typeOf Tryd.func57 (by kernel_rfl) (by kernel_rfl) (by kernel_rfl) (by kernel_rfl)
  have tT := isTypeOf
  have cT := isCompCall
  have mR := isMethodComparable
  have heq := run_eql_iface_ptr_same (P := Tryd.prog) w a Tryd.underlying55 Tryd.underlying102 hi hcmp hj
  go_enter Tryd.func44, Tryd.ntmps44
  go_wp2
  refine wp_loop_rounds 1 ?_
  rw [rounds_succ]
  go_wp2
  go_ret
  exact ⟨rfl, rfl⟩

set_option maxRecDepth 100000 in
/-- errors.Is(x, y), two different pointers to errors.errorString. -/
theorem is_other (a b : Addr) (ca cb : Array Value) (ta tb : TypeId) (w : World) (hne : a ≠ b) (ha : w.heap[a.block]? = some (.cells ca ta (0, 0))) (hb : w.heap[b.block]? = some (.cells cb tb (0, 0))) :
    Calls Tryd.prog 44 #[.iface 102 (.pointer (some a)), .iface 102 (.pointer (some b))] w fun e w' => e = .returned (.bool false) ∧ w' = w := by
  obtain ⟨i, hi, hcmp⟩ := Option.map_eq_some_iff.1 isComp
  obtain ⟨j, hj, hjs⟩ := Option.map_eq_some_iff.1 isSize
  have h8 := @run_callFunc_extern Tryd.prog 57 _ Extern.ReflectliteType.typeOf Tryd.func57 (by kernel_rfl) (by kernel_rfl) (by kernel_rfl) (by kernel_rfl)
  have tT := isTypeOf
  have cT := isCompCall
  have mR := isMethodComparable
  have nE := noIsE
  have uE := noUnwrapE
  have vE := noUnwrapsE
  have heq := run_eql_iface_ptr_other (P := Tryd.prog) w Tryd.underlying55 Tryd.underlying102 hi hcmp hj (by rw [hjs]; decide) hne ha hb
  go_enter Tryd.func44, Tryd.ntmps44
  go_wp2
  refine wp_loop_rounds 1 ?_
  rw [rounds_succ]
  go_wp2
  go_ret
  exact ⟨rfl, rfl⟩

theorem normalize_f64 (y : Nat) (h0 : 4503599627370496 ≤ y) (h1 : y < 9218868437227405312) (w : World) :
    Calls Tryd.prog 60 #[.float .f64 y] w fun e w' => e = .returned (.tuple #[.float .f64 y, .int .i64 0]) ∧ w = w' := by
  have hl := hid (show y < 18446744073709551616 by omega)
  have hm : y % 9223372036854775808 = y := Nat.mod_eq_of_lt (by omega)
  have hc : (FloatKind.f64.format.order y 4503599627370496 == some .lt) = false := by
    show (D.order y 4503599627370496 == some .lt) = false
    rw [order_ltD (by rw [DINF_val]; omega) (by rw [DINF_val]; decide)]
    rcases Nat.lt_or_eq_of_le h0 with h | h
    · rw [Nat.compare_eq_gt.2 h]; rfl
    · rw [Nat.compare_eq_eq.2 h.symm]; rfl
  have Hm := hid hm
  clear h0 h1 hm
  go_enter Tryd.func60, Tryd.ntmps60
  go_wp2_with fail
  refine (abs_f64 y hl.out _).mono ?_
  rintro e w1 ⟨rfl, rfl⟩
  rw [Hm.out]
  go_wp2
  go_ret2
  exact ⟨rfl, rfl⟩

@[go_sem] theorem semAtSome (l : Nat) (ρ : Operand → Value) (o : Oper) (h : ∀ c, o.op ≠ .defer c) : Oper.semAt (some l) ρ o = execOp ρ o := Oper.semAt_some l ρ o h

def InK (n : Int) : Prop := -1000 ≤ n ∧ n ≤ 1000

def OkC (c : E4) : Prop := InK c.a ∧ InK c.b ∧ amtB c.q = true ∧ 1 ≤ c.s ∧ c.s ≤ 1000000

def MapP (n : Nat) (x : Nat → E4) : Prop := ∀ i, i < n → OkC (x i) ∧ (i = 0 ∨ Bef (x (i - 1)) (x i))

theorem MapP.step {k : Nat} {x : Nat → E4} (h : MapP k x) (h1 : OkC (x k)) (h2 : k = 0 ∨ Bef (x (k - 1)) (x k)) : MapP (k + 1) x := fun i hi => by
  rcases Nat.lt_or_eq_of_le (Nat.le_of_lt_succ hi) with h3 | rfl
  · exact h i h3
  · exact ⟨h1, h2⟩

/-- The errors that are variables: each points to a cell of its own. -/
structure Sent (w : World) (A : Nat → Addr) : Prop where
  c0 : w.cell? ⟨0, 0, none⟩ = some (.iface 102 (.pointer (some (A 0))))
  c1 : w.cell? ⟨2, 0, none⟩ = some (.iface 102 (.pointer (some (A 1))))
  c2 : w.cell? ⟨3, 0, none⟩ = some (.iface 102 (.pointer (some (A 2))))
  c3 : w.cell? ⟨4, 0, none⟩ = some (.iface 102 (.pointer (some (A 3))))
  c4 : w.cell? ⟨1, 0, none⟩ = some (.iface 102 (.pointer (some (A 4))))
  b : ∀ i, i < 5 → ∃ c t, w.heap[(A i).block]? = some (.cells c t (0, 0))
  ne : ∀ i j, i < 5 → j < 5 → i ≠ j → A i ≠ A j

theorem cell_below {w w' : World} {a : Addr} {v : Value} (h : w.cell? a = some v) (hb : Below w.heap.size w w') : w'.cell? a = some v := by
  have hlt : a.block < w.heap.size := by
    rcases Nat.lt_or_ge a.block w.heap.size with h' | h'
    · exact h'
    · simp [World.cell?, Array.getElem?_eq_none h'] at h
  unfold World.cell? at h ⊢
  rw [hb.block _ hlt]
  exact h

theorem Sent.stay {w w' : World} {A : Nat → Addr} (h : Sent w A) (hb : Below w.heap.size w w') : Sent w' A :=
  ⟨cell_below h.c0 hb, cell_below h.c1 hb, cell_below h.c2 hb, cell_below h.c3 hb, cell_below h.c4 hb, fun i hi => by
    obtain ⟨c, t, e⟩ := h.b i hi
    exact ⟨c, t, by rw [hb.block _ (lt_of_block e)]; exact e⟩, h.ne⟩

theorem code_1 (A : Nat → Addr) (w : World) (S : Sent w A) : Calls Tryd.prog 25 #[.iface 102 (.pointer (some (A 1)))] w fun e w' => e = .returned (.int .i64 2) ∧ w' = w := by
  have c0 := S.c0
  have c1 := S.c1
  have HS := hid S
  clear S
  go_enter Tryd.func25, Tryd.ntmps25
  go_wp2_with fail
  refine (is_other (A 1) (A 0) _ _ _ _ _ (HS.out.ne 1 0 (by omega) (by omega) (by omega)) (HS.out.b 1 (by omega)).choose_spec.choose_spec (HS.out.b 0 (by omega)).choose_spec.choose_spec).mono ?_
  rintro e0 u0 ⟨rfl, rfl⟩
  go_wp2_with fail
  refine (is_same (A 1) _).mono ?_
  rintro e9 u9 ⟨rfl, rfl⟩
  go_wp2
  go_ret
  exact ⟨rfl, rfl⟩

theorem err_star : "*" ++ "errors.errorString" = "*errors.errorString" := by decide

theorem row_err (u : TypeId) (h : Tryd.prog.typeName? 3 u = some "*errors.errorString") : u = 102 :=
  typeName_ptr_named (nm := "errors.errorString") (by rw [err_star]; kernel_rfl) (by kernel_rfl) (by decide) u (by rw [err_star]; exact h)

/-- What the rows' condition says of the variables. -/
theorem sent_of {W : World} (h : laidMetH Tryd.prog Rows.fnExactEchoAtRow.laid W) : ∃ A, Sent W A ∧ (W.var? Tryd.prog "loop.example/g01224/impl.errUnfit" = some #[.iface 102 (.pointer (some (A 0)))] ∧ W.var? Tryd.prog "loop.example/g01224/impl.errBeyond" = some #[.iface 102 (.pointer (some (A 1)))] ∧ W.var? Tryd.prog "loop.example/g01224/impl.errCrowded" = some #[.iface 102 (.pointer (some (A 2)))] ∧ W.var? Tryd.prog "loop.example/g01224/impl.errNoText" = some #[.iface 102 (.pointer (some (A 3)))] ∧ W.var? Tryd.prog "loop.example/g01224/impl.errNowhere" = some #[.iface 102 (.pointer (some (A 4)))]) := by
  rw [MakeChecks.laidMetH_plain _ _ _ (by kernel_rfl)] at h
  obtain ⟨a0, a1, a2, a3, a4, ⟨v0, v1, v2, v3, v4⟩, ⟨b0, b1, b2, b3, b4⟩, n01, n02, n03, n04, n12, n13, n14, n23, n24, n34⟩ := laid_five (tp := 102) h
    (g0 := 0) (by kernel_rfl) (by kernel_rfl)
    (g1 := 2) (by kernel_rfl) (by kernel_rfl)
    (g2 := 3) (by kernel_rfl) (by kernel_rfl)
    (g3 := 4) (by kernel_rfl) (by kernel_rfl)
    (g4 := 1) (by kernel_rfl) (by kernel_rfl)
    Tryd.underlying55 row_err Tryd.underlying102 Tryd.underlying128 rfl rfl Tryd.underlying9 (by kernel_rfl) (by kernel_rfl)
  refine ⟨fun i => match i with | 0 => a0 | 1 => a1 | 2 => a2 | 3 => a3 | _ => a4, ⟨?_, ?_, ?_, ?_, ?_, ?_, ?_⟩, v0, v1, v2, v3, v4⟩
  · simpa using World.var?_cell (g := 0) (by kernel_rfl) v0 0
  · simpa using World.var?_cell (g := 2) (by kernel_rfl) v1 0
  · simpa using World.var?_cell (g := 3) (by kernel_rfl) v2 0
  · simpa using World.var?_cell (g := 4) (by kernel_rfl) v3 0
  · simpa using World.var?_cell (g := 1) (by kernel_rfl) v4 0
  · intro i hi
    match i, hi with
    | 0, _ => exact b0
    | 1, _ => exact b1
    | 2, _ => exact b2
    | 3, _ => exact b3
    | 4, _ => exact b4
  · intro i j hi hj hne
    match i, j, hi, hj, hne with
    | 0, 0, _, _, h => exact absurd rfl h
    | 0, 1, _, _, _ => exact n01
    | 0, 2, _, _, _ => exact n02
    | 0, 3, _, _, _ => exact n03
    | 0, 4, _, _, _ => exact n04
    | 1, 0, _, _, _ => exact n01.symm
    | 1, 1, _, _, h => exact absurd rfl h
    | 1, 2, _, _, _ => exact n12
    | 1, 3, _, _, _ => exact n13
    | 1, 4, _, _, _ => exact n14
    | 2, 0, _, _, _ => exact n02.symm
    | 2, 1, _, _, _ => exact n12.symm
    | 2, 2, _, _, h => exact absurd rfl h
    | 2, 3, _, _, _ => exact n23
    | 2, 4, _, _, _ => exact n24
    | 3, 0, _, _, _ => exact n03.symm
    | 3, 1, _, _, _ => exact n13.symm
    | 3, 2, _, _, _ => exact n23.symm
    | 3, 3, _, _, h => exact absurd rfl h
    | 3, 4, _, _, _ => exact n34
    | 4, 0, _, _, _ => exact n04.symm
    | 4, 1, _, _, _ => exact n14.symm
    | 4, 2, _, _, _ => exact n24.symm
    | 4, 3, _, _, _ => exact n34.symm
    | 4, 4, _, _, h => exact absurd rfl h

def limB (l : Nat) : Bool := amtB l && decide (l ≠ 0)

theorem gt0_lim {l : Nat} (hl : l < 4294967296) (hf : finB l = true) : (FloatKind.f32.format.order l 0 == some .gt) = limB l := by
  have hw : FW l := ⟨hl, finB_iff.1 hf⟩
  have h0 : FW 0 := ⟨by decide, by decide⟩
  have hI := INF_val
  have hmg := hw.2
  rw [Bool.eq_iff_iff]
  refine (gt_sv hw h0).trans ?_
  unfold limB
  rw [Bool.and_eq_true, amtB_iff, decide_eq_true_eq, show sv 0 = 0 by decide]
  unfold sv
  by_cases hs : 2147483648 ≤ l
  · rw [if_pos hs]
    constructor
    · intro h; omega
    · intro h; omega
  · have hm : mg l = l := by unfold mg; omega
    rw [if_neg hs, hm]
    constructor
    · intro h
      refine ⟨by omega, ?_⟩
      rintro rfl
      rw [show val 0 = 0 by decide] at h
      omega
    · intro h
      have := valPos1 h.2
      omega

structure FrexpF (Q : Nat) (H : Nat) (E : Int) : Prop where
  hE : wrap64 (wrap64 (wrap64 (bits BinOp.and IntKind.u64 ((Q : Int) / 4503599627370496) 2047) - 1023) + 1) = E
  hH : (bits BinOp.or IntKind.u64 (bits BinOp.andNot IntKind.u64 (Q : Int) 9218868437227405312) 4602678819172646912).toNat = H
  hW : wrap64 E = E

theorem frexp_of {Q : Nat} (h0 : 4503599627370496 ≤ Q) (h1 : Q < 9218868437227405312) : FrexpF Q (1022 * 4503599627370496 + Q % 4503599627370496) (((Q / 4503599627370496 : Nat) : Int) - 1022) := by
  have hc : ((Q : Int) / 4503599627370496) = ((Q / 4503599627370496 : Nat) : Int) := by omega
  have hq : Q / 4503599627370496 < 2048 := by omega
  have hw : ∀ z : Int, -9223372036854775808 ≤ z → z < 9223372036854775808 → wrap64 z = z := fun z a b => by unfold wrap64; omega
  have hfm := and_mask (y := Q) (by omega)
  have ha : bits BinOp.and IntKind.u64 ((Q / 4503599627370496 : Nat) : Int) 2047 = ((Q / 4503599627370496 : Nat) : Int) := by
    have e := u64_and_nat (Q / 4503599627370496) 2047 (by omega) (by decide)
    rw [show ((2047 : Nat) : Int) = 2047 from rfl] at e
    rw [e, show (2047 : Nat) = 2 ^ 11 - 1 by decide, Nat.and_two_pow_sub_one_eq_mod, Nat.mod_eq_of_lt (by omega)]
  generalize hQ : Q / 4503599627370496 = q at *
  generalize hF : Q % 4503599627370496 = f at *
  have hf : f < 4503599627370496 := by omega
  refine ⟨?_, ?_, hw _ (by omega) (by omega)⟩
  · rw [hc, ha, hw (q : Int) (by omega) (by omega), hw ((q : Int) - 1023) (by omega) (by omega), hw _ (by omega) (by omega)]
    omega
  · have e1 := u64_andNot_nat Q 9218868437227405312 (by omega) (by decide)
    rw [show (18446744073709551615 - 9218868437227405312 : Nat) = 9227875636482146303 by decide, hfm] at e1
    rw [show ((9218868437227405312 : Nat) : Int) = 9218868437227405312 from rfl] at e1
    rw [e1]
    have e2 := u64_or_nat f (1022 * 4503599627370496) (by omega) (by decide)
    rw [show ((1022 * 4503599627370496 : Nat) : Int) = 4602678819172646912 from rfl] at e2
    rw [e2, Int.toNat_natCast, Nat.or_comm]
    have := Nat.shiftLeft_add_eq_or_of_lt (a := 1022) (b := f) (i := 52) (by omega)
    rw [Nat.shiftLeft_eq] at this
    rw [show (2 : Nat) ^ 52 = 4503599627370496 by decide] at this
    exact this.symm

set_option maxRecDepth 100000 in
theorem frexp_f64 (Q H : Nat) (E : Int) (h0 : 4503599627370496 ≤ Q) (h1 : Q < 9218868437227405312) (hF : FrexpF Q H E) (w : World) :
    Calls Tryd.prog 53 #[.float .f64 Q] w fun e w' => e = .returned (.tuple #[.float .f64 H, .int .i64 E]) ∧ w = w' := by
  have hl := hid (show Q < 18446744073709551616 by omega)
  have H0 := hid h0
  have H1 := hid h1
  have hy0 : (FloatKind.f64.format.order Q 0 == some .eq) = false := by
    show (D.order Q 0 == some .eq) = false
    rw [order_ltD (by rw [DINF_val]; omega) (by rw [DINF_val]; decide), Nat.compare_eq_gt.2 (by omega)]; rfl
  have hi := hid (show (FloatKind.f64.format.order (Q % 9223372036854775808) 9218868437227405311 == some .gt) = false by
    rw [Nat.mod_eq_of_lt (by omega)]
    show (D.order Q 9218868437227405311 == some .gt) = false
    rcases Nat.lt_or_eq_of_le (show Q ≤ 9218868437227405311 by omega) with h | h
    · rw [order_ltD (by rw [DINF_val]; omega) (by rw [DINF_val]; decide), Nat.compare_eq_lt.2 h]; rfl
    · rw [h]; decide +kernel)
  have hq := hid (show (FloatKind.f64.format.order Q Q != some .eq) = false by
    show (D.order Q Q != some .eq) = false
    rw [order_ltD (by rw [DINF_val]; omega) (by rw [DINF_val]; omega), Nat.compare_eq_eq.2 rfl]; rfl)
  obtain ⟨hE, hH, hW⟩ := hF
  have HW := hid hW
  clear hW
  clear h0 h1
  go_enter Tryd.func53, Tryd.ntmps53
  go_wp2_with fail
  refine (isInf_f64 Q hl.out _).mono ?_
  rintro e w1 ⟨rfl, rfl⟩
  rw [hi.out]
  go_wp2_with fail
  refine (isNaN_f64 Q _).mono ?_
  rintro e w1 ⟨rfl, rfl⟩
  rw [hq.out]
  go_wp2_with fail
  refine (normalize_f64 Q H0.out H1.out _).mono ?_
  rintro e w1 ⟨rfl, rfl⟩
  go_wp2
  exact bodyPost_ret (results_tmp2 rfl _ _ _) rfl ⟨by show Ending.returned (.tuple #[.float .f64 H, .int .i64 (wrap64 E)]) = _; rw [HW.out], rfl⟩

theorem Frexp_f64 (Q H : Nat) (E : Int) (h0 : 4503599627370496 ≤ Q) (h1 : Q < 9218868437227405312) (hF : FrexpF Q H E) (w : World) :
    Calls Tryd.prog 38 #[.float .f64 Q] w fun e w' => e = .returned (.tuple #[.float .f64 H, .int .i64 E]) ∧ w = w' := by
  have HF := hid hF
  have H0 := hid h0
  have H1 := hid h1
  clear h0 h1 hF
  go_enter Tryd.func38, Tryd.ntmps38
  go_wp2_with fail
  refine (frexp_f64 Q H E H0.out H1.out HF.out _).mono ?_
  rintro e w1 ⟨rfl, rfl⟩
  go_wp2
  exact bodyPost_ret (results_tmp2 rfl _ _ _) rfl ⟨rfl, rfl⟩

theorem le0_lim {l : Nat} (hl : l < 4294967296) (hf : finB l = true) : (FloatKind.f32.format.order l 0 == some .lt || FloatKind.f32.format.order l 0 == some .eq) = !limB l := by
  have hw : FW l := ⟨hl, finB_iff.1 hf⟩
  have h0 : FW 0 := ⟨by decide, by decide⟩
  rw [← gt0_lim hl hf]
  show (S.order l 0 == some .lt || S.order l 0 == some .eq) = !(S.order l 0 == some .gt)
  rw [order_sv hw h0]
  rcases Int.lt_trichotomy (sv l) (sv 0) with h | h | h
  · rw [Int.compare_eq_lt.2 h]; rfl
  · rw [Int.compare_eq_eq.2 h]; rfl
  · rw [Int.compare_eq_gt.2 h]; rfl

theorem iLoud_bad (A : Nat → Addr) (p : Nat) (hp : p < 4294967296) (hb : limB p = false) (w : World) (hA : Sent w A) :
    Calls Tryd.prog 20 #[.float .f32 p] w fun e w' => e = .returned (.tuple #[.float .f32 0, .int .i64 2]) ∧ Below w.heap.size w w' := by
  have HP := hid hp
  have SA := hid hA
  rcases hf : finB p with _ | _
  · have HF := hid hf
    clear hp hb hA hf
    go_enter Tryd.func20, Tryd.ntmps20
    go_wp2_with fail
    refine (isFinite_f p HP.out HF.out _).mono ?_
    rintro e u ⟨rfl, b⟩
    have B := hid b
    have S2 := hid (SA.out.stay b)
    have c1 := S2.out.c1
    clear b
    go_wp2_with fail
    refine (code_1 A _ S2.out).mono ?_
    rintro e u2 ⟨rfl, rfl⟩
    go_wp2
    exact bodyPost_ret (results_tmp2 rfl _ _ _) rfl ⟨rfl, B.out⟩
  · have HF := hid hf
    have hle := le0_lim hp hf
    rw [hb] at hle
    have c1 := hA.c1
    clear hp hb hA hf
    go_enter Tryd.func20, Tryd.ntmps20
    go_wp2_with fail
    refine (isFinite_t p HP.out HF.out _).mono ?_
    rintro e u ⟨rfl, rfl⟩
    go_wp2_with fail
    refine (code_1 A _ SA.out).mono ?_
    rintro e u2 ⟨rfl, rfl⟩
    go_wp2
    exact bodyPost_ret (results_tmp2 rfl _ _ _) rfl ⟨rfl, Below.refl _ _⟩

theorem sLoud_bad (p : Nat) (hp : p < 4294967296) (hb : limB p = false) (w : World) :
    Calls Tryd.prog 19 #[.float .f32 p] w fun e w' => e = .returned (.tuple #[.float .f32 0, .int .i64 2]) ∧ Below w.heap.size w w' := by
  have HP := hid hp
  rcases hf : finB p with _ | _
  · have HF := hid hf
    clear hp hb hf
    go_enter Tryd.func19, Tryd.ntmps19
    go_wp2_with fail
    refine (sFinite_f p HP.out HF.out _).mono ?_
    rintro e u ⟨rfl, b⟩
    go_wp2
    exact bodyPost_ret (results_tmp2 rfl _ _ _) rfl ⟨rfl, b⟩
  · have HF := hid hf
    have hgt := gt0_lim hp hf
    rw [hb] at hgt
    clear hp hb hf
    go_enter Tryd.func19, Tryd.ntmps19
    go_wp2_with fail
    refine (sFinite_t p HP.out HF.out _).mono ?_
    rintro e u ⟨rfl, rfl⟩
    go_wp2
    exact bodyPost_ret (results_tmp2 rfl _ _ _) rfl ⟨rfl, Below.refl _ _⟩

set_option maxRecDepth 100000 in
set_option maxHeartbeats 2000000 in
theorem iLoud_ok (p : Nat) (hp : p < 4294967296) (hf : finB p = true) (hb : limB p = true) {H z : Nat} {E k : Int} (hF : FrexpF (wid p) H E) (hr1 : 4503599627370496 ≤ wid p) (hr2 : wid p < 9218868437227405312) (hz : Go.Fl.D.mul 4611686018427387904 H = some z) (hk : wrap64 (E - 1) = k) {a b u v g h i tw x y r : Nat} (hu : LoudF z (floatOfInt .f64 k) a b u v g h i tw x y r) (w : World) :
    Calls Tryd.prog 20 #[.float .f32 p] w fun e w' => e = .returned (.tuple #[.float .f32 r, .int .i64 0]) ∧ w = w' := by
  have HP := hid hp
  have HF := hid hf
  have U := hid hu
  have HR := hid (fun w => Frexp_f64 (wid p) H E hr1 hr2 hF w)
  have hle := le0_lim hp hf
  rw [hb] at hle
  have cw := fun w => run_conv_wid (P := Tryd.prog) w 27 43 p hp Tryd.underlying27 Tryd.underlying43 (finB_iff.1 hf)
  have fz := fun w => run_float_arith (P := Tryd.prog) w .mul 43 .f64 _ _ _ hz
  have fa := fun w => run_float_arith (P := Tryd.prog) w .sub 43 .f64 _ _ _ hu.ha
  have fb := fun w => run_float_arith (P := Tryd.prog) w .add 43 .f64 _ _ _ hu.hb
  have fu := fun w => run_float_arith (P := Tryd.prog) w .quo 43 .f64 _ _ _ hu.hu
  have fv := fun w => run_float_arith (P := Tryd.prog) w .mul 43 .f64 _ _ _ hu.hv
  clear hp hf hb hF hr1 hr2 hz hu
  go_enter Tryd.func20, Tryd.ntmps20
  go_wp2_with fail
  refine (isFinite_t p HP.out HF.out _).mono ?_
  rintro e u1 ⟨rfl, rfl⟩
  go_wp2_with fail
  refine (HR.out _).mono ?_
  rintro e u2 ⟨rfl, rfl⟩
  go_wp2_with fail
  clear cw fz fa fb fu fv hk hle
  go_loop [11, 10] (fun i s => ∃ n j : Nat, n + j = 15 ∧ i = .int .i64 ((n : Int) - 1) ∧ s = .float .f64 (lS v j)) (fun i _ => (intOf i + 1).toNat)
  case atStart => exact ⟨15, 0, rfl, rfl, rfl⟩
  case round =>
    obtain ⟨n, j, hn, rfl, rfl⟩ := hrel
    by_cases h0 : 0 < n
    · obtain ⟨m, rfl⟩ : ∃ m, n = m + 1 := ⟨n - 1, by omega⟩
      rw [show ((m + 1 : Nat) : Int) - 1 = (m : Int) by omega]
      obtain ⟨c1, _⟩ := lc_one (m := m) (by omega)
      obtain ⟨s1, s2⟩ := lS_step U.out.hv1 (j := j) (by omega)
      rw [show 14 - j = m by omega] at s2
      have d1 := fun w => run_float_arith (P := Tryd.prog) w .quo 43 .f64 _ _ _ c1
      have d2 := fun w => run_float_arith (P := Tryd.prog) w .mul 43 .f64 _ _ _ s1
      have d3 := fun w => run_float_arith (P := Tryd.prog) w .add 43 .f64 _ _ _ s2
      have hm0 : 0 ≤ (m : Int) := by omega
      have hw1 : wrap64 (2 * (m : Int)) = 2 * (m : Int) := by unfold wrap64; omega
      have hw2 : wrap64 (2 * (m : Int) + 1) = 2 * (m : Int) + 1 := by unfold wrap64; omega
      have hw3 : wrap64 ((m : Int) - 1) = (m : Int) - 1 := by unfold wrap64; omega
      clear c1 s1 s2
      go_wp2_with fail
      go_round
      case rel => exact ⟨m, j + 1, by omega, rfl, rfl⟩
      case measure => simp [intOf]
    · obtain rfl : n = 0 := by omega
      obtain rfl : j = 15 := by omega
      have fg := fun w => run_float_arith (P := Tryd.prog) w .mul 43 .f64 _ _ _ U.out.hg
      have fh := fun w => run_float_arith (P := Tryd.prog) w .mul 43 .f64 _ _ _ U.out.hh
      have fi := fun w => run_float_arith (P := Tryd.prog) w .quo 43 .f64 _ _ _ U.out.hi
      have ft := fun w => run_float_arith (P := Tryd.prog) w .add 43 .f64 _ _ _ U.out.ht
      have fx := fun w => run_float_arith (P := Tryd.prog) w .mul 43 .f64 _ _ _ U.out.hx
      have fy := fun w => run_float_arith (P := Tryd.prog) w .mul 43 .f64 _ _ _ U.out.hy
      have fr := fun w => run_convert_float_float (P := Tryd.prog) w 43 27 .f64 .f32 _ _ (by rw [Tryd.underlying43]; rfl) Tryd.underlying27 U.out.hr
      have hneg : ¬ (0 : Int) ≤ ((0 : Nat) : Int) - 1 := by omega
      go_wp2
      exact bodyPost_ret (results_tmp2 rfl _ _ _) rfl ⟨rfl, rfl⟩

def L1 (Q t zz : Nat) : Prop := zz + t * 4503599627370496 = Q ∧ t ≤ 140 ∧ (t = 0 ∨ 4607182418800017408 ≤ zz) ∧ 3936146074321813504 ≤ Q ∧ Q < 5183643171103440896

theorem L1.fin {Q t zz : Nat} (h : L1 Q t zz) : zz < DINF := by obtain ⟨a, b, c, d, e⟩ := h; rw [DINF_val]; omega

theorem L1.step {Q t zz : Nat} (h : L1 Q t zz) (hc : 4611686018427387904 ≤ zz) : ∃ z2, zz = z2 + 4503599627370496 ∧ L1 Q (t + 1) z2 := by
  obtain ⟨a, b, c, d, e⟩ := h
  exact ⟨zz - 4503599627370496, by omega, by omega, by omega, .inr (by omega), d, e⟩

theorem L1.rng {Q t zz : Nat} (h : L1 Q t zz) : -150 ≤ (t : Int) ∧ (t : Int) ≤ 150 := by obtain ⟨a, b, c, d, e⟩ := h; omega

def L2 (Q t s zz : Nat) : Prop := zz + t * 4503599627370496 = Q + s * 4503599627370496 ∧ t ≤ 140 ∧ zz < 4611686018427387904 ∧ (s = 0 ∨ t = 0) ∧ (t = 0 ∨ 4607182418800017408 ≤ zz) ∧ 3936146074321813504 ≤ Q ∧ 3936146074321813504 ≤ zz

theorem L2.of {Q t zz : Nat} (h : L1 Q t zz) (hc : ¬ 4611686018427387904 ≤ zz) : L2 Q t 0 zz := by
  obtain ⟨a, b, c, d, e⟩ := h
  refine ⟨by omega, b, by omega, .inl rfl, c, d, ?_⟩
  rcases c with rfl | c <;> omega

theorem L2.fin {Q t s zz : Nat} (h : L2 Q t s zz) : zz < DINF ∧ 4503599627370496 ≤ zz ∧ zz + 4503599627370496 < DINF := by obtain ⟨a, b, c, d, e, f, g⟩ := h; rw [DINF_val]; omega

theorem L2.step {Q t s zz : Nat} (h : L2 Q t s zz) (hc : zz < 4607182418800017408) : L2 Q t (s + 1) (zz + 4503599627370496) ∧ 4611686018427387904 - (zz + 4503599627370496) < 4611686018427387904 - zz := by
  obtain ⟨a, b, c, d, e, f, g⟩ := h
  have ht : t = 0 := by rcases e with e | e <;> omega
  exact ⟨⟨by omega, b, by omega, .inr ht, .inl ht, f, by omega⟩, by omega⟩

theorem L2.rng {Q t s zz : Nat} (h : L2 Q t s zz) : -150 ≤ (t : Int) - (s : Int) ∧ (t : Int) - (s : Int) ≤ 150 := by obtain ⟨a, b, c, d, e, f, g⟩ := h; omega

theorem L2.end {Q t s zz z : Nat} {k : Int} (h : L2 Q t s zz) (hc : ¬ zz < 4607182418800017408) (hz : (z : Int) = (Q : Int) - k * 4503599627370496) (h1 : 4607182418800017408 ≤ z) (h2 : z < 4611686018427387904) : zz = z ∧ (t : Int) - (s : Int) = k := by
  obtain ⟨a, b, c, d, e, f, g⟩ := h
  omega

set_option maxRecDepth 100000 in
set_option maxHeartbeats 2000000 in
theorem sLoud_ok (p : Nat) (hp : p < 4294967296) (hf : finB p = true) (hb : limB p = true) (hr1 : 3936146074321813504 ≤ wid p) (hr2 : wid p < 5183643171103440896) {z : Nat} {k : Int} (hzz : (z : Int) = (wid p : Int) - k * 4503599627370496) (hz1 : 4607182418800017408 ≤ z) (hz2 : z < 4611686018427387904) {a b u v g h i tw x y r : Nat} (hu : LoudF z (dW k) a b u v g h i tw x y r) (w : World) :
    Calls Tryd.prog 19 #[.float .f32 p] w fun e w' => e = .returned (.tuple #[.float .f32 r, .int .i64 0]) ∧ w = w' := by
  have HP := hid hp
  have HF := hid hf
  have U := hid hu
  have HE := hid (fun t s zz (hl : L2 (wid p) t s zz) hc => hl.end hc hzz hz1 hz2)
  have HL : Hid (L1 (wid p) 0 (wid p)) := hid ⟨by omega, by omega, .inl rfl, hr1, hr2⟩
  have hgt := gt0_lim hp hf
  rw [hb] at hgt
  have cw := fun w => run_conv_wid (P := Tryd.prog) w 27 43 p hp Tryd.underlying27 Tryd.underlying43 (finB_iff.1 hf)
  have A1 := hid (fun (k : Int) (h : -150 ≤ k ∧ k ≤ 150) => dW_one (k := k) h)
  have A0 := hid (show dW 0 = 0 by decide +kernel)
  clear hp hf hb hr1 hr2 hzz hz1 hz2 hu
  generalize dW = dw at U A1 A0
  generalize wid p = Q at cw HE HL
  go_enter Tryd.func19, Tryd.ntmps19
  go_wp2_with fail
  refine (sFinite_t p HP.out HF.out _).mono ?_
  rintro e u1 ⟨rfl, rfl⟩
  go_wp2_with fail
  clear cw hgt
  go_loop [4, 5] (fun Z E => ∃ t zz : Nat, Z = .float .f64 zz ∧ E = .float .f64 (dw (t : Int)) ∧ Hid (L1 Q t zz)) (fun Z _ => (match Z with | .float _ n => n | _ => 0))
  case atStart => exact ⟨0, Q, rfl, by rw [show ((0 : Nat) : Int) = 0 from rfl, A0.out], HL⟩
  case round =>
    obtain ⟨t, zz, rfl, rfl, hq⟩ := hrel
    clear HL
    have hge : (FloatKind.f64.format.order zz 4611686018427387904 == some .gt || FloatKind.f64.format.order zz 4611686018427387904 == some .eq) = decide (4611686018427387904 ≤ zz) := geD hq.out.fin (by decide)
    by_cases hc : 4611686018427387904 ≤ zz
    · rw [decide_eq_true hc] at hge
      have q0 := hlv (s := zz) (by omega) hq.out.fin
      obtain ⟨z2, rfl, hn⟩ := hq.out.step hc
      rw [Nat.add_sub_cancel] at q0
      have q1 := fun w => run_float_arith (P := Tryd.prog) w .quo 43 .f64 _ _ _ q0
      have q2 := fun w => run_float_arith (P := Tryd.prog) w .add 43 .f64 _ _ _ (A1.out (t : Int) hq.out.rng).1
      have HN := hid hn
      generalize hzn : z2 + 4503599627370496 = zz at hge q1 hq
      have G3 := hid (show z2 < zz by omega)
      clear hc q0 hn hzn
      go_wp2_with fail
      go_round
      case rel => exact ⟨t + 1, z2, rfl, by rw [Int.natCast_add, Int.natCast_one], HN⟩
      case measure => exact G3.out
    · rw [decide_eq_false hc] at hge
      have H2 := hid (L2.of hq.out hc)
      clear hc hq
      go_wp2_with fail
      clear hge
      go_loop [4, 5] (fun Z E => ∃ s zz : Nat, Z = .float .f64 zz ∧ E = .float .f64 (dw ((t : Int) - (s : Int))) ∧ Hid (L2 Q t s zz)) (fun Z _ => 4611686018427387904 - (match Z with | .float _ n => n | _ => 0))
      case atStart => exact ⟨0, zz, rfl, by rw [show (t : Int) - ((0 : Nat) : Int) = (t : Int) by omega], H2⟩
      case round =>
        clear H2
        obtain ⟨s, zy, rfl, rfl, hs⟩ := hrel
        have hl0 : (FloatKind.f64.format.order zy 4607182418800017408 == some .lt) = decide (zy < 4607182418800017408) := ltD hs.out.fin.1 (by decide)
        by_cases hc : zy < 4607182418800017408
        · rw [decide_eq_true hc] at hl0
          have q1 := fun w => run_float_arith (P := Tryd.prog) w .mul 43 .f64 _ _ _ (dbl (s := zy) hs.out.fin.2.1 hs.out.fin.2.2)
          have q2 := fun w => run_float_arith (P := Tryd.prog) w .sub 43 .f64 _ _ _ (A1.out ((t : Int) - (s : Int)) hs.out.rng).2
          have en2 : (t : Int) - (s : Int) - 1 = (t : Int) - ((s + 1 : Nat) : Int) := by omega
          rw [en2] at q2
          have HN := hid (hs.out.step hc)
          clear hc en2 hs
          generalize zy + 4503599627370496 = zn at q1 HN
          generalize hk2 : (t : Int) - ((s + 1 : Nat) : Int) = k2 at q2
          have HK2 := hid hk2
          clear hk2
          go_wp2_with fail
          go_round
          case rel => exact ⟨s + 1, zn, rfl, by rw [HK2.out], HN.out.1⟩
          case measure => exact HN.out.2
        · rw [decide_eq_false hc] at hl0
          obtain ⟨rfl, ek⟩ := HE.out t s zy hs.out hc
          rw [ek]
          clear hc hs ek HE
          have hu := U.out
          have fa := fun w => run_float_arith (P := Tryd.prog) w .sub 43 .f64 _ _ _ hu.ha
          have fb := fun w => run_float_arith (P := Tryd.prog) w .add 43 .f64 _ _ _ hu.hb
          have fu := fun w => run_float_arith (P := Tryd.prog) w .quo 43 .f64 _ _ _ hu.hu
          have fv := fun w => run_float_arith (P := Tryd.prog) w .mul 43 .f64 _ _ _ hu.hv
          clear hu
          go_wp2_with fail
          clear fa fb fu fv hl0
          go_loop [9, 8] (fun i s => ∃ n j : Nat, n + j = 15 ∧ i = .int .i64 ((n : Int) - 1) ∧ s = .float .f64 (lS v j)) (fun i _ => (intOf i + 1).toNat)
          case atStart => exact ⟨15, 0, rfl, rfl, rfl⟩
          case round =>
            obtain ⟨n, j, hn, rfl, rfl⟩ := hrel
            by_cases h0 : 0 < n
            · obtain ⟨m, rfl⟩ : ∃ m, n = m + 1 := ⟨n - 1, by omega⟩
              rw [show ((m + 1 : Nat) : Int) - 1 = (m : Int) by omega]
              obtain ⟨c1, _⟩ := lc_one (m := m) (by omega)
              obtain ⟨s1, s2⟩ := lS_step U.out.hv1 (j := j) (by omega)
              rw [show 14 - j = m by omega] at s2
              have d1 := fun w => run_float_arith (P := Tryd.prog) w .quo 43 .f64 _ _ _ c1
              have d2 := fun w => run_float_arith (P := Tryd.prog) w .mul 43 .f64 _ _ _ s1
              have d3 := fun w => run_float_arith (P := Tryd.prog) w .add 43 .f64 _ _ _ s2
              have hm0 : 0 ≤ (m : Int) := by omega
              have hw1 : wrap64 (2 * (m : Int)) = 2 * (m : Int) := by unfold wrap64; omega
              have hw2 : wrap64 (2 * (m : Int) + 1) = 2 * (m : Int) + 1 := by unfold wrap64; omega
              have hw3 : wrap64 ((m : Int) - 1) = (m : Int) - 1 := by unfold wrap64; omega
              clear c1 s1 s2
              go_wp2_with fail
              go_round
              case rel => exact ⟨m, j + 1, by omega, rfl, rfl⟩
              case measure => simp [intOf]
            · obtain rfl : n = 0 := by omega
              obtain rfl : j = 15 := by omega
              have fg := fun w => run_float_arith (P := Tryd.prog) w .mul 43 .f64 _ _ _ U.out.hg
              have fh := fun w => run_float_arith (P := Tryd.prog) w .mul 43 .f64 _ _ _ U.out.hh
              have fi := fun w => run_float_arith (P := Tryd.prog) w .quo 43 .f64 _ _ _ U.out.hi
              have ft := fun w => run_float_arith (P := Tryd.prog) w .add 43 .f64 _ _ _ U.out.ht
              have fx := fun w => run_float_arith (P := Tryd.prog) w .mul 43 .f64 _ _ _ U.out.hx
              have fy := fun w => run_float_arith (P := Tryd.prog) w .mul 43 .f64 _ _ _ U.out.hy
              have fr := fun w => run_convert_float_float (P := Tryd.prog) w 43 27 .f64 .f32 _ _ (by rw [Tryd.underlying43]; rfl) Tryd.underlying27 U.out.hr
              have hneg : ¬ (0 : Int) ≤ ((0 : Nat) : Int) - 1 := by omega
              go_wp2
              exact bodyPost_ret (results_tmp2 rfl _ _ _) rfl ⟨rfl, rfl⟩

theorem words_cons : ∀ (v : List Char) (r : List Char), (∀ c ∈ v, c ≠ Char.ofNat 32) → wordsSigns (v ++ Char.ofNat 32 :: r) = v :: wordsSigns r
  | [], r, _ => rfl
  | c :: v, r, h => by
    have ih := words_cons v r (fun x hx => h x (by simp [hx]))
    have hc : c ≠ Char.ofNat 32 := h c (by simp)
    show wordsSigns (c :: (v ++ Char.ofNat 32 :: r)) = _
    rw [wordsSigns.eq_3 _ _ (fun e => hc e), ih]

def w0 : List Nat := [104, 97, 114, 110, 101, 115, 115]

def w1 : List Nat := [48, 48, 101, 54, 53, 51, 54, 57, 49, 55, 48, 48, 48, 53, 54, 53, 100, 54, 102, 54, 99, 56, 102, 50, 49, 51, 49, 49, 102, 52, 100, 49, 101, 50, 57, 102, 55, 49, 98, 52, 99, 57, 55, 98, 56, 49, 55, 50, 52, 102, 56, 99, 52, 56, 51, 54, 101, 53, 54, 52, 48, 99, 55, 97]

def w2 : List Nat := [99, 117, 116]

def w3 : List Nat := [97, 116, 32, 108, 111, 111, 112, 46, 101, 120, 97, 109, 112, 108, 101, 47, 103, 48, 49, 50, 50, 52, 47, 108, 97, 119, 115, 46, 70, 110, 69, 120, 97, 99, 116, 69, 99, 104, 111, 65, 116, 32, 108, 111, 111, 112, 46, 101, 120, 97, 109, 112, 108, 101, 47, 103, 48, 49, 50, 50, 52, 47, 108, 97, 119, 115, 46, 70, 110, 69, 120, 97, 99, 116, 83, 116, 114, 111, 110, 103, 101, 115, 116, 67, 101, 108, 108, 32, 108, 111, 111, 112, 46, 101, 120, 97, 109, 112, 108, 101, 47, 103, 48, 49, 50, 50, 52, 47, 108, 97, 119, 115, 46, 70, 110, 69, 120, 97, 99, 116, 70, 111, 108, 100, 83, 112, 101, 101, 100, 32, 108, 111, 111, 112, 46, 101, 120, 97, 109, 112, 108, 101, 47, 103, 48, 49, 50, 50, 52, 47, 108, 97, 119, 115, 46, 70, 110, 69, 120, 97, 99, 116, 76, 111, 117, 100, 110, 101, 115, 115, 79, 102]

def letters (l : List Nat) : List Char := l.map Char.ofNat

theorem head_reads : Tryd.prog.initOrder = String.ofList (letters w0 ++ Char.ofNat 32 :: (letters w1 ++ Char.ofNat 32 :: (letters w2 ++ Char.ofNat 32 :: letters w3))) := by kernel_rfl

theorem no_blank {l : List Nat} (h : l.all (fun n => Char.ofNat n != Char.ofNat 32) = true) : ∀ c ∈ letters l, c ≠ Char.ofNat 32 := by
  intro c hc
  obtain ⟨n, hn, rfl⟩ := List.mem_map.1 hc
  have := List.all_eq_true.1 h n hn
  simpa using this

theorem h0 : letters w0 = "harness".toList := by kernel_rfl

theorem h2 : letters w2 = "cut".toList := by kernel_rfl

theorem sums : isSumSigns (letters w1) = true := by kernel_rfl

theorem words : wordsSigns Tryd.prog.initOrder.toList = "harness".toList :: letters w1 :: "cut".toList :: wordsSigns (letters w3) := by
  rw [head_reads, String.toList_ofList, words_cons _ _ (no_blank (by decide +kernel)), words_cons _ _ (no_blank (by decide +kernel)), words_cons _ _ (no_blank (by decide +kernel)), h0, h2]

theorem behind : ∃ r, behindMainWord (wordsSigns Tryd.prog.initOrder.toList) = "cut".toList :: r := by
  refine ⟨wordsSigns (letters w3), ?_⟩
  rw [words]
  generalize wordsSigns (letters w3) = r
  have hs := sums
  generalize letters w1 = v at hs
  unfold behindMainWord
  simp [hs]

theorem not_later : Tryd.prog.laysLater = false := by kernel_rfl

theorem no_reflect : Tryd.prog.bearsReflect = false := by kernel_rfl

theorem no_doors : Tryd.prog.doorFits [] = true := by kernel_rfl

theorem strips (r : List (List Char)) : stripLifts liftWords ("cut".toList :: r) = ([], "cut".toList :: r) := by kernel_rfl

theorem may_enter_of (P : Program) (r : List (List Char)) (h : behindMainWord (wordsSigns P.initOrder.toList) = "cut".toList :: r) (h1 : P.laysLater = false) (h2 : P.bearsReflect = false) (h3 : P.doorFits [] = true) : P.mayEnter = true := by
  unfold Program.mayEnter
  rw [h]
  dsimp only
  rw [strips, h1, h2, h3]
  kernel_rfl

theorem lifts_final_of (P : Program) (r : List (List Char)) (h : behindMainWord (wordsSigns P.initOrder.toList) = "cut".toList :: r) : P.liftsFinal = false := by
  unfold Program.liftsFinal Program.headLifts
  rw [h]
  dsimp only
  rw [strips]
  kernel_rfl

theorem made_of (P : Program) (r : List (List Char)) (h : behindMainWord (wordsSigns P.initOrder.toList) = "cut".toList :: r) : P.make = some .cut := by
  unfold Program.make
  rw [h]
  kernel_rfl

theorem may_enter : Tryd.prog.mayEnter = true := let ⟨r, h⟩ := behind; may_enter_of _ r h not_later no_reflect no_doors

theorem lifts_final : Tryd.prog.liftsFinal = false := let ⟨r, h⟩ := behind; lifts_final_of _ r h

theorem made : Tryd.prog.make = some .cut := let ⟨r, h⟩ := behind; made_of _ r h

theorem laid : laidOutB Tryd.prog = true := by kernel_rfl

theorem rowed : mapsRowed Tryd.prog = true := by kernel_rfl

theorem no_stops : Tryd.prog.stops = [] := by kernel_rfl

theorem no_knobs : Tryd.prog.stopKnobs = [] := by kernel_rfl

theorem plain_keys : Tryd.prog.plainKeys = true := by kernel_rfl

theorem stops_heard : Tryd.prog.stopsHeard = true := by kernel_rfl

theorem arr1 {α : Type} {cs : Array α} (h : cs.size = 1) : ∃ c0, cs = #[c0] := by
  obtain ⟨l⟩ := cs
  match l, h with
  | [a], _ => exact ⟨a, rfl⟩

theorem own : ownKnob Tryd.prog.godebug = none := by kernel_rfl

theorem rdf : Tryd.prog.readableRec 27 = true ∧ 27 < Tryd.prog.types.size := ⟨by kernel_rfl, of_decide_eq_true (by kernel_rfl)⟩

/-- The door's own heap meets the rows' condition. -/
theorem door_met (os : Os) (args : Array Value) : laidMetH Tryd.prog Rows.fnExactEchoAtRow.laid ((World.doorLaid Tryd.prog 400 os).forCall (fun _ _ => 0) ⟨#[], args, []⟩).memory :=
  laidMetH_of_parts3 (fuel := 8) (laidMet_of_run' 8 (by kernel_rfl) (by kernel_rfl)) (by kernel_rfl) (by kernel_rfl)

/-- A variable of the five, as a reading of it wants. -/
theorem var_is {W : World} {n : String} {g : Nat} {a : Addr} (hg : Tryd.prog.globalNamed n = some g) (ht : (Tryd.prog.globals[g]?).map (·.type) = some 55) (h : W.var? Tryd.prog n = some #[.iface 102 (.pointer (some a))]) :
    ∃ g ti ms, Tryd.prog.globalNamed n = some g ∧ (Tryd.prog.globals[g]?).map (·.type) = some ti ∧ Tryd.prog.underlying ti = some (.interface ms) ∧ W.var? Tryd.prog n = some #[.iface 102 (.pointer (some a))] ∧ IsIface (.iface 102 (.pointer (some a))) :=
  ⟨g, _, _, hg, ht, Tryd.underlying55, h, trivial⟩

theorem coreLoud (p r : Nat) (c : Int) (hr : r < 4294967296) (hf : finB r = true) (w : World)
    (hS : ∀ w, Calls Tryd.prog 19 #[.float .f32 p] w fun e w' => e = .returned (.tuple #[.float .f32 r, .int .i64 c]) ∧ Below w.heap.size w w')
    (hI : ∀ w', Below w.heap.size w w' → Calls Tryd.prog 20 #[.float .f32 p] w' fun e w2 => e = .returned (.tuple #[.float .f32 r, .int .i64 c]) ∧ Below w'.heap.size w' w2) :
    Calls Tryd.prog 6 #[.float .f32 p] w fun e w' => e = .returned (.bool true) ∧ Below w.heap.size w w' := by
  have HS := hid hS
  have HI := hid hI
  have HR := hid hr
  have HF := hid hf
  have hc := fun w => run_conv_wid (P := Tryd.prog) w 27 43 r hr Tryd.underlying27 Tryd.underlying43 (finB_iff.1 hf)
  clear hS hI hr hf
  go_enter Tryd.func6, Tryd.ntmps6
  go_wp2_with fail
  refine (HS.out _).mono ?_
  rintro e u ⟨rfl, b⟩
  have B := hid b
  clear b
  go_wp2_with fail
  refine (HI.out _ B.out).mono ?_
  rintro e u2 ⟨rfl, b⟩
  have B2 := hid (B.out.trans (b.mono B.out.size))
  clear b
  go_wp2_with fail
  refine (sameFloat r HR.out HF.out _).mono ?_
  rintro e u3 ⟨rfl, rfl⟩
  go_wp2
  go_ret
  exact ⟨rfl, B2.out⟩

theorem lawLoudnessOf (A : Nat → Addr) (p : Nat) (hp : p < 4294967296) {w : World} (hA : Sent w A) :
    Calls Tryd.prog 6 #[.float .f32 p] w fun e w' => e = .returned (.bool true) ∧ Below w.heap.size w w' := by
  rcases hb : limB p with _ | _
  · exact coreLoud p 0 2 (by decide) (by decide) w (sLoud_bad p hp hb) fun w' b => iLoud_bad A p hp hb w' (hA.stay b)
  · have hb' := hb
    unfold limB at hb'
    rw [Bool.and_eq_true, decide_eq_true_eq] at hb'
    have hf := amt_fin hb'.1
    obtain ⟨r1, r2⟩ := wid_range hb'.1 hb'.2
    have hF := frexp_of (Q := wid p) (by omega) (by omega)
    have hm : wid p = wid p / 4503599627370496 * 4503599627370496 + wid p % 4503599627370496 := by omega
    generalize hq : wid p / 4503599627370496 = q at hF hm
    generalize hg : wid p % 4503599627370496 = f at hF hm
    have hf2 : f < 4503599627370496 := by omega
    have hz := dbl2 (s := 1022 * 4503599627370496 + f) (by omega) (by rw [DINF_val]; omega)
    have hk : wrap64 ((q : Int) - 1022 - 1) = (q : Int) - 1023 := by unfold wrap64; omega
    obtain ⟨a, b, u, v, g, h, i, tw, x, y, r, hu⟩ := loud_f (z := 1022 * 4503599627370496 + f + 4503599627370496) (k := (q : Int) - 1023) (by omega) (by omega) (by omega)
    refine coreLoud p r 0 hu.hf.1 hu.hf.2 w (fun w => ?_) fun w' b => ?_
    · exact (sLoud_ok p hp hf hb r1 r2 (z := 1022 * 4503599627370496 + f + 4503599627370496) (k := (q : Int) - 1023) (by omega) (by omega) (by omega) hu w).mono fun e w' ⟨h1, h2⟩ => ⟨h1, h2 ▸ Below.refl _ _⟩
    · exact (iLoud_ok p hp hf hb hF (by omega) (by omega) hz hk hu w').mono fun e w' ⟨h1, h2⟩ => ⟨h1, h2 ▸ Below.refl _ _⟩
end Go.Proofs.YtllkjockdogagaaDoor

namespace Go.Proofs.YtllkjockdogagaaDoor.fnExactLoudnessOf
open Go.RowKit Go.Fl Go.ChangeShapes Go.WideShapes Go.ChangeAt

set_option maxHeartbeats 2000000 in
theorem closed : joinedFacts Tryd.prog 6 Tryd.f6 Rows.fnExactLoudnessOfSpec Rows.fnExactLoudnessOfRow = true := by
  unfold joinedFacts
  simp only [Bool.and_eq_true]
  exact ⟨⟨⟨⟨⟨⟨⟨⟨⟨⟨⟨⟨⟨⟨⟨⟨⟨⟨⟨⟨⟨⟨⟨⟨⟨⟨⟨⟨⟨⟨⟨(by as_aux_lemma => kernel_rfl),
    laid⟩,
    rowed⟩,
    (by as_aux_lemma => kernel_rfl)⟩,
    (by as_aux_lemma => kernel_rfl)⟩,
    (by as_aux_lemma => kernel_rfl)⟩,
    (by rw [no_stops]; rfl)⟩,
    (by as_aux_lemma => kernel_rfl)⟩,
    (by rw [no_knobs]; rfl)⟩,
    (by as_aux_lemma => kernel_rfl)⟩,
    (by as_aux_lemma => kernel_rfl)⟩,
    (by as_aux_lemma => kernel_rfl)⟩,
    (by as_aux_lemma => kernel_rfl)⟩,
    (by as_aux_lemma => kernel_rfl)⟩,
    (by as_aux_lemma => kernel_rfl)⟩,
    (by as_aux_lemma => kernel_rfl)⟩,
    (by as_aux_lemma => kernel_rfl)⟩,
    (by as_aux_lemma => kernel_rfl)⟩,
    (by as_aux_lemma => kernel_rfl)⟩,
    (by as_aux_lemma => kernel_rfl)⟩,
    (by as_aux_lemma => kernel_rfl)⟩,
    (by as_aux_lemma => kernel_rfl)⟩,
    (show (Rows.fnExactLoudnessOfRow.plainKeys == Tryd.prog.plainKeys) = true by rw [plain_keys]; rfl)⟩,
    (by as_aux_lemma => kernel_rfl)⟩,
    stops_heard⟩,
    may_enter⟩,
    (show (Rows.fnExactLoudnessOfRow.lifted == Tryd.prog.liftsFinal) = true by rw [lifts_final]; rfl)⟩,
    (show (Tryd.prog.make == some Rows.fnExactLoudnessOfRow.make) = true by rw [made]; rfl)⟩,
    (by as_aux_lemma => kernel_rfl)⟩,
    (by as_aux_lemma => kernel_rfl)⟩,
    (by as_aux_lemma => kernel_rfl)⟩,
    (by as_aux_lemma => kernel_rfl)⟩

set_option maxRecDepth 100000 in
theorem lifted (os : Os) (started : os.Started) (H : Type) (enc : TypeId × Value → H) :
    ReturnsInHanded {} Tryd.checked os 6 .any (fun w args => (Rows.fnExactLoudnessOfSpec.pre enc Tryd.prog Tryd.f6 Rows.fnExactLoudnessOfRow.domain false w args ∧ laidMetH Tryd.prog Rows.fnExactLoudnessOfRow.laid w) ∧ sizedMet enc Tryd.prog Tryd.f6 (OpenSpec.ofChange Rows.fnExactLoudnessOfSpec) false w args) (Rows.fnExactLoudnessOfSpec.post enc Tryd.prog Tryd.f6 false true false false) := by
  refine LawFrame.lifted_vars (C := Tryd.checked) (fn := Tryd.f6) (n := 1) (tb := 4) (laidL := Rows.fnExactLoudnessOfRow.laid) started own (by kernel_rfl) Tryd.func6 laid ?_ rfl ?_ rfl Tryd.underlying4 ?_
    (ChangeSpec.witness_shaped (enc := enc) (C := Tryd.checked) (os := os) (X := fun w _ => laidMetH Tryd.prog Rows.fnExactLoudnessOfRow.laid w) false (World.doorLaid Tryd.prog 400 os) #[.float .f32 0] 8 rfl (World.shaped_of_RefB (by kernel_rfl) (by kernel_rfl)) (by kernel_rfl) (by kernel_rfl) (by kernel_rfl) (door_met os _)) ?_
  · intro t ht
    simp only [Tryd.params6, List.mem_cons, List.not_mem_nil, or_false] at ht
    subst ht; exact rdf
  · intro ds gs hd hg
    match ds, gs, hd, hg with
    | [d0], [g0, g1, g2, g3, g4], _, _ => rfl
  · intro W hL
    obtain ⟨A, -, v0, v1, v2, v3, v4⟩ := sent_of hL
    exact ⟨[.iface 102 (.pointer (some (A 1))), .iface 102 (.pointer (some (A 0))), .iface 102 (.pointer (some (A 2))), .iface 102 (.pointer (some (A 3))), .iface 102 (.pointer (some (A 4)))], var_is (g := 2) (by kernel_rfl) (by kernel_rfl) v1, var_is (g := 0) (by kernel_rfl) (by kernel_rfl) v0, var_is (g := 3) (by kernel_rfl) (by kernel_rfl) v2, var_is (g := 4) (by kernel_rfl) (by kernel_rfl) v3, var_is (g := 1) (by kernel_rfl) (by kernel_rfl) v4, trivial⟩
  · intro W base args ds ps hval hn hT hL
    obtain ⟨v0, rfl⟩ : ∃ v0, args = #[v0] := arr1 hn
    simp only [Tryd.params6] at hT
    obtain ⟨A, hA, -⟩ := sent_of hL
    obtain ⟨c0, rfl, hb0⟩ := open_f32 Tryd.underlying27 (hval 0 27 v0 rfl rfl)
    exact lawLoudnessOf A c0 hb0 hA

theorem over : Rows.fnExactLoudnessOfRow.holds Tryd.pinned (OpenSpec.ofChange Rows.fnExactLoudnessOfSpec) :=
  OpenClaim.holds_of_wide 6 Tryd.f6 rfl rfl rfl rfl rfl rfl rfl ⟨rfl, rfl, rfl, rfl, rfl⟩ rfl rfl rfl rfl rfl (by kernel_rfl) Tryd.func6 closed
    (of_decide_eq_true (by kernel_rfl)) (by unfold Func.isWrapper; rw [if_neg (by decide +kernel)]; exact ⟨rfl, rfl⟩)
    (fun os started H enc _ => lifted os started H enc)

theorem named : Tryd.prog.funcNamed "loop.example/g01224/laws.FnExactLoudnessOf" = some 6 := by kernel_rfl
theorem proved : Rows.FnExactLoudnessOfCardSaid :=
  Claim7.holds_tied_plain_at .later [] [.sentinel, .sentinel, .sentinel, .sentinel, .sentinel] true (true, "00e6536917000565d6f6c8f21311f4d1e29f71b4c97b81724f8c4836e5640c7a") true
    over (fun _ h => by cases h) (by kernel_rfl) (fun _ h => by cases h) fnExactLoudnessOf_row_tie rfl ⟨rfl, rfl⟩ (by kernel_rfl) rfl
    (fun f fn hf hfn => by
      obtain rfl : f = 6 := Option.some.inj (named.symm.trans hf) |>.symm
      obtain rfl : fn = Tryd.f6 := (Option.some.inj (Tryd.func6.symm.trans hfn)).symm
      exact ⟨by kernel_rfl, fun j t ht => by
        have hm := Array.mem_of_getElem? ht
        rw [Tryd.params6] at hm
        simp only [List.mem_toArray, List.mem_cons, List.not_mem_nil, or_false] at hm
        subst hm; exact (show Tryd.prog.wantsStandIn 27 = false by kernel_rfl)⟩)
    (by kernel_rfl)
#print axioms proved
end Go.Proofs.YtllkjockdogagaaDoor.fnExactLoudnessOf
