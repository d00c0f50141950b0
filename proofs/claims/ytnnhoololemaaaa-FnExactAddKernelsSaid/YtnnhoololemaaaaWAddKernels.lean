import Derived.Test.YtnnhoololemaaaaBAddKernels
import Derived.Test.YtnnhoololemaaaaChecked
import Derived.Test.YtnnhoololemaaaaRows
import Derived.Laws.FloatArith
import Derived.ProofKit
import Derived.WalkKit
import Derived.WalkLawsBesides
import Derived.WalkSpells
import Derived.Deep.QuietTactic
import Derived.BigQuiet
import Derived.Deep.RegionHeld3
import Derived.ChangeKeysEq
import Derived.Laws.BitsAllLaws
import Derived.Deep.MidRow
import Derived.StillTailTactics
import Derived.Deep.WholeRow
import Derived.OpenShut
/- The law FnExactAddKernels of chapter 1: at every argument the call returns true, and what was there before it is as it was. -/
namespace Go.Proofs.Ytnnhoololemaaaa
open Go.RowKit Go.Fl

@[go_sem] theorem ext_f64bits (y : Nat) (w : World) : (callFunc 203 #[.float .f64 y]).run Try.prog w = .ok (.value (.int .u64 y)) w := by
  rw [run_callFunc_extern Try.func203 (by kernel_rfl) (by kernel_rfl) (by kernel_rfl) (e := Extern.MathFloatBits.float64bits) (by kernel_rfl)]
  rfl

@[go_sem] theorem ext_f64from (n : Int) (w : World) : (callFunc 202 #[.int .u64 n]).run Try.prog w = .ok (.value (.float .f64 n.toNat)) w := by
  rw [run_callFunc_extern Try.func202 (by kernel_rfl) (by kernel_rfl) (by kernel_rfl) (e := Extern.MathFloatBits.float64frombits) (by kernel_rfl)]
  rfl

theorem hid {p : Prop} (h : p) : Hid p := h

theorem clear_sign (y : Nat) (h : y < 18446744073709551616) : (bits BinOp.andNot IntKind.u64 (y : Int) 9223372036854775808).toNat = y % 9223372036854775808 := by
  rw [u64_andNot _ _ (by omega) (by omega) (by omega) (by omega)]
  rw [Int.toNat_natCast, Int.toNat_natCast]
  exact Nat.and_two_pow_sub_one_eq_mod y 63

theorem abs_f64 (y : Nat) (h : y < 18446744073709551616) (w : World) :
    Calls Try.prog 145 #[.float .f64 y] w fun e w' => e = .returned (.float .f64 (y % 9223372036854775808)) ∧ w = w' := by
  have hc := hid (clear_sign y h)
  clear h
  go_enter Try.func145, Try.ntmps145
  go_wp2
  go_ret
  exact ⟨by simp [hc.out], rfl⟩

theorem isNaN_f64 (y : Nat) (w : World) :
    Calls Try.prog 187 #[.float .f64 y] w fun e w' => e = .returned (.bool (FloatKind.f64.format.order y y != some .eq)) ∧ w = w' := by
  go_enter Try.func187, Try.ntmps187
  go_wp2
  go_ret
  exact ⟨rfl, rfl⟩

theorem isInf_f64 (y : Nat) (h : y < 18446744073709551616) (w : World) :
    Calls Try.prog 188 #[.float .f64 y, .int .i64 0] w fun e w' => e = .returned (.bool (FloatKind.f64.format.order (y % 9223372036854775808) 9218868437227405311 == some .gt)) ∧ w = w' := by
  have hc := hid h
  clear h
  go_enter Try.func188, Try.ntmps188
  go_wp2_with (go_at_call 145; refine (abs_f64 y hc.out _).mono ?_; rintro e w' ⟨rfl, rfl⟩)
  go_ret
  exact ⟨rfl, rfl⟩

theorem isFinite_t (x : Nat) (hx : x < 4294967296) (h : finB x = true) (w : World) :
    Calls Try.prog 112 #[.float .f32 x] w fun e w' => e = .returned (.bool true) ∧ w = w' := by
  rw [finB_iff] at h
  have hc := fun w => run_conv_wid (P := Try.prog) w 22 26 x hx Try.underlying22 Try.underlying26 h
  obtain ⟨a, b, m, e, hr⟩ := read_wid_fin hx h
  have hn : (FloatKind.f64.format.order (wid x) (wid x) != some .eq) = false := by
    show (D.order (wid x) (wid x) != some .eq) = false
    rw [order_self hr]; rfl
  have hi : (FloatKind.f64.format.order (wid x % 9223372036854775808) 9218868437227405311 == some .gt) = false := by
    show (D.order (wid x % 9223372036854775808) 9218868437227405311 == some .gt) = false
    rw [b, order_ltD a (by decide)]
    rw [DINF_val] at a
    have hle : wid (mg x) ≤ 9218868437227405311 := by omega
    rcases Nat.lt_or_eq_of_le hle with h' | h'
    · rw [Nat.compare_eq_lt.2 h']; rfl
    · rw [Nat.compare_eq_eq.2 h']; rfl
  have hw : wid x < 18446744073709551616 := D.write_lt _
  have Hn := hid hn
  have Hi := hid hi
  have Hw := hid hw
  clear hn hi hw hr a b h hx
  go_enter Try.func112, Try.ntmps112
  go_wp2_with (first | (go_at_call 187; refine (isNaN_f64 (wid x) _).mono ?_; rintro e w' ⟨rfl, rfl⟩; rw [Hn.out]) | (go_at_call 188; refine (isInf_f64 (wid x) Hw.out _).mono ?_; rintro e w' ⟨rfl, rfl⟩; rw [Hi.out]))
  go_ret
  exact ⟨rfl, rfl⟩

theorem isFinite_f (x : Nat) (hx : x < 4294967296) (h : finB x = false) (w : World) :
    Calls Try.prog 112 #[.float .f32 x] w fun e w' => e = .returned (.bool false) ∧ Below w.heap.size w w' := by
  rw [finB_iff'] at h
  rcases Nat.lt_or_eq_of_le h with h | h
  · obtain ⟨z, hc, h1, _⟩ := run_conv_nan (P := Try.prog) w 22 26 x Try.underlying22 Try.underlying26 h
    obtain ⟨s, t, hr⟩ := read_nanD h1
    have Hn := hid (show (FloatKind.f64.format.order z z != some .eq) = true by
      show (D.order z z != some .eq) = true
      rw [order_nan hr]; rfl)
    clear h h1 hr hx
    go_enter Try.func112, Try.ntmps112
    go_wp2_with (go_at_call 187; refine (isNaN_f64 z _).mono ?_; rintro e w' ⟨rfl, rfl⟩; rw [Hn.out])
    go_ret
    exact ⟨rfl, (Below.refl _ _).drew⟩
  · obtain ⟨z, hc, h1, h2⟩ := run_conv_inf (P := Try.prog) w 22 26 x hx Try.underlying22 Try.underlying26 h.symm
    have hr : D.read z = .infinity (decide (9223372036854775808 ≤ z)) := by rw [read_signD h2, h1, read_DINF]
    have Hn := hid (show (FloatKind.f64.format.order z z != some .eq) = false by
      show (D.order z z != some .eq) = false
      rw [order_inf hr]; rfl)
    have Hi := hid (show (FloatKind.f64.format.order (z % 9223372036854775808) 9218868437227405311 == some .gt) = true by
      rw [h1]; decide)
    have H2 := hid h2
    clear h h1 hr hx h2
    go_enter Try.func112, Try.ntmps112
    go_wp2_with (first | (go_at_call 187; refine (isNaN_f64 z _).mono ?_; rintro e w' ⟨rfl, rfl⟩; rw [Hn.out]) | (go_at_call 188; refine (isInf_f64 z H2.out _).mono ?_; rintro e w' ⟨rfl, rfl⟩; rw [Hi.out]))
    go_ret
    exact ⟨rfl, Below.refl _ _⟩

theorem signbit_f64 (y : Nat) (w : World) :
    Calls Try.prog 184 #[.float .f64 y] w fun e w' => e = .returned (.bool (decide (wrap64 (y : Int) < 0))) ∧ w = w' := by
  go_enter Try.func184, Try.ntmps184
  go_wp2
  go_ret
  exact ⟨rfl, rfl⟩

theorem and_sign (y : Nat) (h : y < 18446744073709551616) : (decide (wrap64 (y : Int) < 0)) = decide (9223372036854775808 ≤ y) := by
  unfold wrap64
  by_cases h' : 9223372036854775808 ≤ y
  · rw [decide_eq_true h']; simp; omega
  · rw [decide_eq_false h']; simp; omega

theorem isAmount_t (x : Nat) (h : amtB x = true) (w : World) :
    Calls Try.prog 106 #[.float .f32 x] w fun e w' => e = .returned (.bool true) ∧ w = w' := by
  have hf := amt_fin h
  rw [amtB_iff, INF_val] at h
  have hx : x < 4294967296 := by omega
  have hc := fun w => run_conv_wid (P := Try.prog) w 22 26 x hx Try.underlying22 Try.underlying26 (finB_iff.1 hf)
  have hw : wid x < 18446744073709551616 := D.write_lt _
  have Hs := hid (show (decide (wrap64 (wid x : Int) < 0)) = false by
    rw [and_sign _ hw]
    have := (wid_val (x := x) (by rw [INF_val]; omega)).1
    rw [DINF_val] at this
    simp; omega)
  have Hx := hid hx
  have Hf := hid hf
  clear h hf hx hw
  go_enter Try.func106, Try.ntmps106
  go_wp2_with (first | (go_at_call 112; refine (isFinite_t x Hx.out Hf.out _).mono ?_; rintro e w' ⟨rfl, rfl⟩) | (go_at_call 184; refine (signbit_f64 (wid x) _).mono ?_; rintro e w' ⟨rfl, rfl⟩; rw [Hs.out]))
  go_ret
  exact ⟨rfl, rfl⟩

theorem isAmount_f (x : Nat) (hx : x < 4294967296) (h : amtB x = false) (w : World) :
    Calls Try.prog 106 #[.float .f32 x] w fun e w' => e = .returned (.bool false) ∧ Below w.heap.size w w' := by
  rcases hf : finB x with _ | _
  · have Hx := hid hx
    have Hf := hid hf
    clear h hf hx
    go_enter Try.func106, Try.ntmps106
    go_wp2_with (go_at_call 112; refine (isFinite_f x Hx.out Hf.out _).mono ?_; rintro e w' ⟨rfl, hb⟩)
    go_ret
    exact ⟨rfl, hb⟩
  · have hc := fun w => run_conv_wid (P := Try.prog) w 22 26 x hx Try.underlying22 Try.underlying26 (finB_iff.1 hf)
    have hw : wid x < 18446744073709551616 := D.write_lt _
    have Hs := hid (show (decide (wrap64 (wid x : Int) < 0)) = true by
      rw [and_sign _ hw, wid_fin hx (finB_iff.1 hf)]
      rw [amtB_iff', INF_val] at h
      rw [finB_iff, INF_val] at hf
      unfold mg at hf ⊢
      rw [if_pos (by omega)]
      simp)
    have Hx := hid hx
    have Hf := hid hf
    clear h hf hx hw
    go_enter Try.func106, Try.ntmps106
    go_wp2_with (first | (go_at_call 112; refine (isFinite_t x Hx.out Hf.out _).mono ?_; rintro e w' ⟨rfl, rfl⟩) | (go_at_call 184; refine (signbit_f64 (wid x) _).mono ?_; rintro e w' ⟨rfl, rfl⟩; rw [Hs.out]))
    go_ret
    exact ⟨rfl, Below.refl _ _⟩

theorem info_f32 : ∃ i, Try.prog.info? 22 = some i ∧ i.size = 1 := by
  have h : (Try.prog.info? 22).map (·.size) = some 1 := by kernel_rfl
  cases hi : Try.prog.info? 22 with
  | none => rw [hi] at h; cases h
  | some i => rw [hi] at h; exact ⟨i, rfl, Option.some.inj h⟩

theorem ix (T : TypeId) (hT : Try.prog.underlying T = some (.array 20 22)) (c : Nat → Nat) (k : Nat) (hk : k < 20) (w : World) :
    (Instr.index T (.agg (fls c)) (.int .i64 (k : Int))).run Try.prog w = .ok (.float .f32 (c k)) w := by
  obtain ⟨i, h1, h2⟩ := info_f32
  exact run_index_arr hT Try.underlying22 rfl h1 h2 _ _ hk _ (fls_get c hk) w

theorem info_arr : (Try.prog.info? 29).map (·.size) = some 20 := by kernel_rfl

set_option maxRecDepth 100000 in
theorem validSizes_t (c : Nat → Nat) (h : ∀ i, i < 20 → amtB (c i) = true) (w : World) :
    Calls Try.prog 111 #[.agg (fls c)] w fun e w' => e = .returned (.bool true) ∧ Below w.heap.size w w' := by
  have H := hid h
  clear h
  go_enter Try.func111, Try.ntmps111
  go_wp2_with (refine wpList_load_row rfl 29 _ rfl w.heap.size rfl 29 (fls c) (0, 0) _ (heap_alloc_new _ _) Try.underlying29 rfl (by rw [fls_size]; exact info_arr) ?_)
  go_loop [6] (fun i => ∃ k : Nat, k ≤ 20 ∧ i = .int .i64 k) (fun i => 20 - (intOf i).toNat)
  case atStart => exact ⟨0, by omega, rfl⟩
  case round =>
    obtain ⟨k, hk, rfl⟩ := hrel
    by_cases hlt : k < 20
    · have hix := ix 29 Try.underlying29 c k hlt
      go_wp2_with (go_at_call 106; refine (isAmount_t (c k) (H.out k hlt) _).mono ?_; rintro e w' ⟨rfl, rfl⟩)
      go_round
      case rel => exact ⟨k + 1, by omega, by go_num⟩
      case measure => simp [intOf]; omega
    · go_wp2
      go_ret
      exact ⟨rfl, (Below.refl _ _).alloc (Nat.le_refl _) _⟩

@[go_sem] theorem ext_f32bits (y : Nat) (w : World) : (callFunc 183 #[.float .f32 y]).run Try.prog w = .ok (.value (.int .u32 y)) w := by
  rw [run_callFunc_extern Try.func183 (by kernel_rfl) (by kernel_rfl) (by kernel_rfl) (e := Extern.MathFloatBits.float32bits) (by kernel_rfl)]
  rfl

theorem sFinite_t (x : Nat) (hx : x < 4294967296) (h : finB x = true) (w : World) :
    Calls Try.prog 109 #[.float .f32 x] w fun e w' => e = .returned (.bool true) ∧ w = w' := by
  have hr := fun w => run_float_arith (P := Try.prog) w .sub 22 .f32 x x 0 (sub_self_fin hx h)
  clear h hx
  go_enter Try.func109, Try.ntmps109
  go_wp2
  go_ret
  exact ⟨rfl, rfl⟩

theorem sFinite_f (x : Nat) (hx : x < 4294967296) (h : finB x = false) (w : World) :
    Calls Try.prog 109 #[.float .f32 x] w fun e w' => e = .returned (.bool false) ∧ Below w.heap.size w w' := by
  obtain ⟨z, hr, h1, _⟩ := run_arith_nan (P := Try.prog) w .sub (by simp) 22 x x (sub_self_none hx h)
  have Hn := hid (show (FloatKind.f32.format.order z 0 == some .eq) = false by
    show (S.order z 0 == some .eq) = false
    rw [order_nan32 h1]; rfl)
  clear h hx h1
  go_enter Try.func109, Try.ntmps109
  go_wp2
  go_ret
  exact ⟨by simp [Hn.out], (Below.refl _ _).drew⟩

theorem sAmount_t (x : Nat) (h : amtB x = true) (w : World) :
    Calls Try.prog 104 #[.float .f32 x] w fun e w' => e = .returned (.bool true) ∧ w = w' := by
  have hf := amt_fin h
  have h' := amtB_iff.1 h
  have hx : x < 4294967296 := by rw [INF_val] at h'; omega
  have Hx := hid hx
  have Hf := hid hf
  by_cases h0 : x = 0
  · subst h0
    clear h hf h' hx
    go_enter Try.func104, Try.ntmps104
    go_wp2_with (go_at_call 109; refine (sFinite_t 0 Hx.out Hf.out _).mono ?_; rintro e w' ⟨rfl, rfl⟩)
    go_ret
    exact ⟨rfl, rfl⟩
  · have hg : (FloatKind.f32.format.order x 0 == some .gt) = true := by
      show (S.order x 0 == some .gt) = true
      rw [order_zero_pos h', Nat.compare_eq_gt.2 (by omega)]; rfl
    clear h hf h' hx h0
    go_enter Try.func104, Try.ntmps104
    go_wp2_with (go_at_call 109; refine (sFinite_t x Hx.out Hf.out _).mono ?_; rintro e w' ⟨rfl, rfl⟩)
    go_ret
    exact ⟨rfl, rfl⟩

set_option maxRecDepth 100000 in
theorem validSizes_f (c : Nat → Nat) (hb : ∀ i, i < 20 → c i < 4294967296) (h : ¬ ∀ i, i < 20 → amtB (c i) = true) (w : World) :
    Calls Try.prog 111 #[.agg (fls c)] w fun e w' => e = .returned (.bool false) ∧ Below w.heap.size w w' := by
  have H := hid h
  have HB := hid hb
  clear h hb
  go_enter Try.func111, Try.ntmps111
  go_wp2_with (refine wpList_load_row rfl 29 _ rfl w.heap.size rfl 29 (fls c) (0, 0) _ (heap_alloc_new _ _) Try.underlying29 rfl (by rw [fls_size]; exact info_arr) ?_)
  go_loop [6] (fun i => ∃ k : Nat, k ≤ 20 ∧ Hid (∀ i, i < k → amtB (c i) = true) ∧ i = .int .i64 k) (fun i => 20 - (intOf i).toNat)
  case atStart => exact ⟨0, by omega, hid (fun i hi => by omega), rfl⟩
  case round =>
    obtain ⟨k, hk, HK, rfl⟩ := hrel
    by_cases hlt : k < 20
    · have hix := ix 29 Try.underlying29 c k hlt
      rcases hac : amtB (c k) with _ | _
      · have HA := hid hac
        clear hac
        go_wp2_with (go_at_call 106; refine (isAmount_f (c k) (HB.out k hlt) HA.out _).mono ?_; rintro e w' ⟨rfl, hb⟩)
        go_ret
        exact ⟨rfl, (((Below.refl _ _).alloc (Nat.le_refl _) _).trans (hb.mono (by simp)))⟩
      · have HA := hid hac
        clear hac
        go_wp2_with (go_at_call 106; refine (isAmount_t (c k) HA.out _).mono ?_; rintro e w' ⟨rfl, rfl⟩)
        go_round
        case rel =>
          refine ⟨k + 1, by omega, hid (fun i hi => ?_), by go_num⟩
          by_cases e : i = k
          · subst e; exact HA.out
          · exact HK.out i (by omega)
        case measure => simp [intOf]; omega
    · have hk20 : k = 20 := by omega
      exact (H.out (fun i hi => HK.out i (by omega))).elim

theorem info_a20 : (Try.prog.info? 28).map (·.size) = some 20 := by kernel_rfl

theorem div_one_some {y m : Nat} {s : Bool} {e : Int} (h : D.read y = .number s m e) : ∃ q, floatBits .quo .f64 4607182418800017408 y = some q := by
  have h1 : D.read 4607182418800017408 = .number false 4503599627370496 (-52) := by decide
  show ∃ q, D.div 4607182418800017408 y = some q
  unfold Ieee.Format.div
  rw [h, h1]
  simp only [Ieee.Datum.quotient]
  by_cases hm : m = 0
  · rw [if_pos hm]; exact ⟨_, rfl⟩
  · rw [if_neg hm]; exact ⟨_, rfl⟩

set_option maxRecDepth 100000 in
theorem sameFloat (x : Nat) (hx : x < 4294967296) (h : finB x = true) (w : World) :
    Calls Try.prog 33 #[.float .f64 (wid x), .float .f64 (wid x)] w fun e w' => e = .returned (.bool true) ∧ w = w' := by
  obtain ⟨a, b, m, e, hr⟩ := read_wid_fin hx (finB_iff.1 h)
  have hn : (FloatKind.f64.format.order (wid x) (wid x) != some .eq) = false := by
    show (D.order (wid x) (wid x) != some .eq) = false
    rw [order_self hr]; rfl
  have hq : (FloatKind.f64.format.order (wid x) (wid x) == some .eq) = true := by
    show (D.order (wid x) (wid x) == some .eq) = true
    rw [order_self hr]; rfl
  obtain ⟨q, hd⟩ := div_one_some hr
  have hdiv := fun w => run_float_arith (P := Try.prog) w .quo 26 .f64 4607182418800017408 (wid x) q hd
  clear hd hr a b h hx
  rcases hz : (FloatKind.f64.format.order (wid x) 0 == some .eq) with _ | _
  · go_enter Try.func33, Try.ntmps33
    go_wp2
    go_ret
    exact ⟨by simp, rfl⟩
  · go_enter Try.func33, Try.ntmps33
    go_wp2
    go_ret
    exact ⟨by simp, rfl⟩

theorem back {P : Program} {f : FuncId} {args : Array Value} {w : World} {v : Value} (h : Calls P f args w fun e w' => e = .returned v ∧ w = w') : Calls P f args w fun e w' => e = .returned v ∧ w' = w :=
  h.mono fun _ _ ⟨a, b⟩ => ⟨a, b.symm⟩

def Amts (c : Nat → Nat) : Prop := ∀ i, i < 20 → amtB (c i) = true

/-- A whole array stored: the world behind it under a name of its own. -/
theorem store_abs {P : Program} {ops : Array Oper} {rest : List Oper} {o : Oper} {a : Act} {w : World} {Q : Exit → Act → World → Prop} (hgd : o.guard = none) (ty : TypeId) (x y : Operand) (ho : o.op = .store ty x y)
    (g : Nat) (d : Nat → Nat) (hx : a.eval x = .pointer (some ⟨g, 0, none⟩)) (hy : a.eval y = .agg (fls d)) (t : TypeId) (old : Nat → Nat) (hg : arrAt w g old t) (hi : (P.info? ty).map (·.size) = some 20)
    (h : ∀ w', w' = w.setRow g (fls d) → wpList P ops Q rest (a.put o.dst undef) w') : wpList P ops Q (o :: rest) a w :=
  wpList_store_row hgd ty x y ho g (fls d) hx hy t (fls old) hg (by rw [fls_size]; exact hi) (by simp) (fls_one d) (h _ rfl)

set_option maxRecDepth 100000 in
theorem toA20 (c : Nat → Nat) (w : World) :
    Calls Try.prog 36 #[.agg (fls c)] w fun e w' => e = .returned (.agg (fls c)) ∧ Below w.heap.size w w' := by
  have b0 : Below w.heap.size w (w.alloc (.cells (fls c) 28)) := (Below.refl _ _).alloc (Nat.le_refl _) _
  have a0 := hid (arrAt.new w c 28)
  go_enter Try.func36, Try.ntmps36
  go_wp2
  go_loopw [4] (fun i wr => ∃ k : Nat, k ≤ 20 ∧ i = .int .i64 k ∧ Hid (arrAt wr w.heap.size c 28) ∧ Hid (arrAt wr (w.heap.size + 1) (fun _ => 0) 28) ∧ Hid (arrAt wr (w.heap.size + 1 + 1) (cut c k) 28) ∧ Hid (Below w.heap.size w wr)) (fun i _ => 20 - (intOf i).toNat)
  case atStart =>
    refine ⟨0, by omega, rfl, hid ((a0.out.alloc _).alloc _), hid ?_, hid ?_, hid ((b0.alloc (by simp) _).alloc (by simp; omega) _)⟩
    · have := arrAt.new (w.alloc (.cells (fls c) 28)) (fun _ => 0) 28
      have e : (w.alloc (.cells (fls c) 28)).heap.size = w.heap.size + 1 := by simp
      rw [e] at this
      exact this.alloc _
    · have := arrAt.new ((w.alloc (.cells (fls c) 28)).alloc (.cells (fls fun _ => 0) 28)) (fun _ => 0) 28
      have e : ((w.alloc (.cells (fls c) 28)).alloc (.cells (fls fun _ => 0) 28)).heap.size = w.heap.size + 1 + 1 := by simp
      rw [e] at this
      exact this.ext (fun i _ => (cut_zero' c i).symm)
  case round =>
    obtain ⟨k, hk, rfl, h0, h1, h2, hb⟩ := hrel
    by_cases hlt : k < 20
    · have q0 := h0.out.cell hlt
      have q2 := h2.out.cell hlt
      have f2 := h2.out.frozen k
      go_wp2
      go_roundw
      case rel => exact ⟨k + 1, by omega, by go_num, hid (h0.out.setOther (by simp; omega) _), hid (h1.out.setOther (by simp) _), hid ((h2.out.set k (c k)).ext (fun i _ => cut_succ c k i)), hid (hb.out.setCell (by simp; omega) _)⟩
      case measure => simp [intOf]; omega
    · obtain rfl : k = 20 := by omega
      have h2' := hid (h2.out.ext (cut_all c))
      clear h2
      go_wp2_with (first | (refine wpList_load_row rfl 28 _ rfl (w.heap.size + 1 + 1) rfl 28 (fls c) (0, 0) _ h2'.out Try.underlying28 rfl (by rw [fls_size]; exact info_a20) ?_) | (refine wpList_store_row rfl 28 _ _ rfl (w.heap.size + 1) (fls c) rfl rfl 28 _ h1.out (by rw [fls_size]; exact info_a20) (by simp) (fls_one c) ?_))
      exact bodyPost_ret (results_cell_row rfl _ _ (w.heap.size + 1) 28 (fls c) (0, 0) _ rfl (h1.out.setRow c) Try.underlying28 rfl (by rw [fls_size]; exact info_a20)) rfl ⟨rfl, below_row hb.out (by omega) _⟩

set_option maxRecDepth 100000 in
theorem eqA20 (c : Nat → Nat) (hb : ∀ i, i < 20 → c i < 4294967296) (h : ∀ i, i < 20 → finB (c i) = true) (w : World) :
    Calls Try.prog 41 #[.agg (fls c), .agg (fls c)] w fun e w' => e = .returned (.bool true) ∧ Below w.heap.size w w' := by
  have b0 : Below w.heap.size w (w.alloc (.cells (fls c) 28)) := (Below.refl _ _).alloc (Nat.le_refl _) _
  have a0 := hid (arrAt.new w c 28)
  have H := hid h
  have HB := hid hb
  clear h hb
  go_enter Try.func41, Try.ntmps41
  go_wp2
  go_loopw [5] (fun i wr => ∃ k : Nat, k ≤ 20 ∧ i = .int .i64 k ∧ Hid (arrAt wr w.heap.size c 28) ∧ Hid (arrAt wr (w.heap.size + 1) c 28) ∧ Hid (Below w.heap.size w wr)) (fun i _ => 20 - (intOf i).toNat)
  case atStart =>
    refine ⟨0, by omega, rfl, hid (a0.out.alloc _), hid ?_, hid (b0.alloc (by simp) _)⟩
    have := arrAt.new (w.alloc (.cells (fls c) 28)) c 28
    have e : (w.alloc (.cells (fls c) 28)).heap.size = w.heap.size + 1 := by simp
    rw [e] at this
    exact this
  case round =>
    obtain ⟨k, hk, rfl, h0, h1, hb⟩ := hrel
    by_cases hlt : k < 20
    · have q0 := h0.out.cell hlt
      have q1 := h1.out.cell hlt
      have hc := fun w => run_conv_wid (P := Try.prog) w 22 26 (c k) (HB.out k hlt) Try.underlying22 Try.underlying26 (finB_iff.1 (H.out k hlt))
      go_wp2
      go_quiet ((go_at_call 33; exact Calls.quiet_of_same (back (sameFloat (c k) (HB.out k hlt) (H.out k hlt) _))))
      go_wp2
      go_roundw
      case rel => exact ⟨k + 1, by omega, by go_num, h0, h1, hid (below_drewN hb.out _)⟩
      case measure => simp [intOf]; omega
    · go_wp2
      go_ret
      exact ⟨rfl, hb.out⟩

theorem info_kern : (Try.prog.info? 53).map (·.size) = some 400 := by kernel_rfl

theorem info_k20 : (Try.prog.info? 51).map (·.size) = some 400 := by kernel_rfl

@[go_sem] theorem zero_kern : Try.zeroCells53 = vls 400 (flw fun _ => 0) := by kernel_rfl

set_option maxRecDepth 100000 in
theorem toKernel (c : Nat → Nat) (w : World) :
    Calls Try.prog 51 #[.agg (vls 400 (flw c))] w fun e w' => e = .returned (.agg (vls 400 (flw c))) ∧ Below w.heap.size w w' := by
  have A0 := hid (((vAt.new w 400 (flw c) 51).alloc (.cells (vls 400 (flw fun _ => 0)) 53)).alloc (.cells (vls 400 (flw fun _ => 0)) 53))
  have A1 := hid ((vAt.new1 w (.cells (vls 400 (flw c)) 51) 400 (flw fun _ => 0) 53).alloc (.cells (vls 400 (flw fun _ => 0)) 53))
  have A2 := hid (vAt.new2 w (.cells (vls 400 (flw c)) 51) (.cells (vls 400 (flw fun _ => 0)) 53) 400 (flw fun _ => 0) 53)
  have b0 := boxed3 w (.cells (vls 400 (flw c)) 51) (.cells (vls 400 (flw fun _ => 0)) 53) (.cells (vls 400 (flw fun _ => 0)) 53)
  go_enter Try.func51, Try.ntmps51
  go_wp2_with fail
  go_loopw [4] (fun i wr => ∃ k : Nat, k ≤ 20 ∧ i = .int .i64 k ∧ Hid (vAt wr w.heap.size 400 (flw c) 51) ∧ Hid (vAt wr (w.heap.size + 1) 400 (flw fun _ => 0) 53) ∧ Hid (vAt wr (w.heap.size + 1 + 1) 400 (flw (rowsP c (fun _ => 0) k)) 53) ∧ Hid (Below w.heap.size w wr)) (fun i _ => 20 - (intOf i).toNat)
  case atStart => exact ⟨0, by omega, rfl, A0, A1, hid (A2.out.ext fun i _ => by unfold flw; rw [rowsP_zero]), hid b0⟩
  case round =>
    obtain ⟨k, hk, rfl, h0, h1, h2, hb⟩ := hrel
    by_cases hlt : k < 20
    · go_wp2_with (refine wpList_load_krow rfl 28 _ rfl w.heap.size k rfl c 51 h0.out hlt _ Try.underlying28 rfl info_a20 ?_)
      refine (toA20 (rowK c k) _).mono ?_
      rintro e w1 ⟨rfl, hb1⟩
      have g0 := hid (h0.out.stay hb1)
      have g1 := hid (h1.out.stay hb1)
      have g2 := hid (h2.out.stay hb1)
      have c1 := stp hb.out (Nat.le_refl _) hb1
      have n0 := hid (g0.out.setPartOther (k := w.heap.size + 1 + 1) (by omega) (k * 20) (fls (rowK c k)).toList)
      have n1 := hid (g1.out.setPartOther (k := w.heap.size + 1 + 1) (by omega) (k * 20) (fls (rowK c k)).toList)
      have n2 := hid g2.out.setKRow
      have nb := below_cells (g := w.heap.size + 1 + 1) (by omega) (fls (rowK c k)).toList (k * 20) c1
      clear h0 h1 h2 hb
      go_wp2_with (refine wpList_store_krow rfl 28 _ _ rfl (w.heap.size + 1 + 1) k (rowK c k) rfl rfl (rowsP c (fun _ => 0) k) 53 g2.out hlt info_a20 ?_; intro w9 hw9; rw [← hw9] at n0 n1 n2 nb; clear hw9 g0 g1 g2)
      go_roundw
      case rel => exact ⟨k + 1, by omega, by go_num, n0, n1, n2, hid nb⟩
      case measure => simp [intOf]; omega
    · obtain rfl : k = 20 := by omega
      have h2' := hid (h2.out.ext (d := flw c) fun i hi => by unfold flw; rw [rowsP_all _ _ i hi])
      clear h2
      go_wp2_with (first | (refine wpList_load_row rfl 53 _ rfl (w.heap.size + 1 + 1) rfl 53 (vls 400 (flw c)) (0, 0) _ h2'.out Try.underlying53 rfl (by rw [vls_size]; exact info_kern) ?_) | (refine wpList_store_row rfl 53 _ _ rfl (w.heap.size + 1) (vls 400 (flw c)) rfl rfl 53 _ h1.out (by rw [vls_size]; exact info_kern) (by simp) (vls_one (flw_one c)) ?_))
      exact bodyPost_ret (results_cell_row rfl _ _ (w.heap.size + 1) 53 (vls 400 (flw c)) (0, 0) _ rfl (h1.out.setRow (flw c)) Try.underlying53 rfl (by rw [vls_size]; exact info_kern)) rfl ⟨rfl, below_row hb.out (by omega) _⟩

set_option maxRecDepth 100000 in
theorem eqKernel (c : Nat → Nat) (hb : ∀ i, i < 400 → c i < 4294967296) (h : ∀ i, i < 400 → finB (c i) = true) (w : World) :
    Calls Try.prog 59 #[.agg (vls 400 (flw c)), .agg (vls 400 (flw c))] w fun e w' => e = .returned (.bool true) ∧ Below w.heap.size w w' := by
  have A0 := hid ((vAt.new w 400 (flw c) 53).alloc (.cells (vls 400 (flw c)) 53))
  have A1 := hid (vAt.new1 w (.cells (vls 400 (flw c)) 53) 400 (flw c) 53)
  have b0 := boxed2 w (.cells (vls 400 (flw c)) 53) (.cells (vls 400 (flw c)) 53)
  have H := hid h
  have HB := hid hb
  clear h hb
  go_enter Try.func59, Try.ntmps59
  go_wp2_with fail
  go_loopw [5] (fun i wr => ∃ k : Nat, k ≤ 20 ∧ i = .int .i64 k ∧ Hid (vAt wr w.heap.size 400 (flw c) 53) ∧ Hid (vAt wr (w.heap.size + 1) 400 (flw c) 53) ∧ Hid (Below w.heap.size w wr)) (fun i _ => 20 - (intOf i).toNat)
  case atStart => exact ⟨0, by omega, rfl, A0, A1, hid b0⟩
  case round =>
    obtain ⟨k, hk, rfl, h0, h1, hb⟩ := hrel
    by_cases hlt : k < 20
    · have hk3 : (k : Int) < 20 := by omega
      go_wp2_with fail
      have h0 := hid h0.out.drew
      have h1 := hid h1.out.drew
      have hb := hid hb.out.drew
      refine wp_region_still_tail 6 (by kernel_rfl) (by kernel_rfl) ?_
      change wpStill _ _ wr.drew (fun a' => wpList _ _ _ _ a' wr.drew) _ _
      simp only [List.take_succ_cons, List.take_zero, List.drop_succ_cons, List.drop_zero]
      generalize wr.drew = w2 at h0 h1 hb ⊢
      still_step
      still_step
      refine still_load rfl 28 _ rfl _ rfl _ (h0.out.krowAt (k := k) hlt Try.underlying28 rfl info_a20) ?_
      simp only [Act.put, List.setIfInBounds_toArray, List.set_cons_zero, List.set_cons_succ]
      still_step
      still_step
      refine still_load rfl 28 _ rfl _ rfl _ (h1.out.krowAt (k := k) hlt Try.underlying28 rfl info_a20) ?_
      refine wpStill_nil ?_
      go_wp2_with fail
      refine (eqA20 (rowK c k) (fun i hi => HB.out _ (by omega)) (fun i hi => H.out _ (by omega)) _).mono ?_
      rintro e w3 ⟨rfl, hb3⟩
      have h0 := hid (h0.out.stay hb3)
      have h1 := hid (h1.out.stay hb3)
      have hb := stp hb.out (Nat.le_refl _) hb3
      go_wp2
      go_roundw
      case rel => exact ⟨k + 1, by omega, by go_num, h0, h1, hid hb⟩
      case measure => simp [intOf]; omega
    · go_wp2
      go_ret
      exact ⟨rfl, hb.out⟩

theorem info_f32s : (Try.prog.info? 22).map (·.size) = some 1 := by kernel_rfl

def Plain (f : FuncId) : Prop := ∀ (args : Array Value) (w : World), (callFunc f args).run Try.prog w = .ok (.enter f args) w

theorem run_clo2 {f : FuncId} (hf : Plain f) (a : Act) (p q r : Tmp) (caps : Array Value) (v1 v2 : Value) (hx : a.eval (.tmp p) = .func (.func f) #[] caps) (h1 : a.eval (.tmp q) = v1) (h2 : a.eval (.tmp r) = v2) (d : Option Tmp) (ats : Array TypeId) (t : TypeId) (ps : String) (af : Array Edge) (gd : Option (Nat × Bool)) (w : World) :
    (execOp a.eval ⟨d, .call { callee := .value (.tmp p), args := #[.tmp q, .tmp r], argTypes := ats }, t, ps, af, gd⟩).run Try.prog w = .ok (.enter f (#[v1, v2] ++ caps)) w := by
  have hx' : a.tmps[p]?.getD undef = .func (.func f) #[] caps := by rw [← hx]; simp [Act.eval]
  have h1' : a.tmps[q]?.getD undef = v1 := by rw [← h1]; simp [Act.eval]
  have h2' : a.tmps[r]?.getD undef = v2 := by rw [← h2]; simp [Act.eval]
  have hc := hf (#[v1, v2] ++ caps) w
  clear hx h1 h2 hf
  unfold execOp
  go_simp

/-- The first n numbers are finite. -/
def FinN (N : Nat → Nat) (n : Nat) : Prop := ∀ i, i < n → finB (N i) = true

set_option maxHeartbeats 2000000 in
set_option maxRecDepth 100000 in
theorem iKernelOf {f : FuncId} (hf : Plain f) (caps : Array Value) (N : Nat → Nat) (hN : ∀ i, i < 400 → N i < 4294967296) (r : Nat → Nat) (q : Int) (h1 : FinN N 400 → r = N ∧ q = 0) (h2 : ¬ FinN N 400 → r = (fun _ => 0) ∧ q = 4) (w : World)
    (hC : ∀ i j, i < 20 → j < 20 → ∀ w', Below w.heap.size w w' → Calls Try.prog f (#[.int .i64 (i : Int), .int .i64 (j : Int)] ++ caps) w' fun e w'' => e = .returned (.float .f32 (N (i * 20 + j))) ∧ Below w'.heap.size w' w'') :
    Calls Try.prog 137 #[.func (.func f) #[] caps] w fun e w' => e = .returned (.tuple #[.agg (vls 400 (flw r)), .int .i64 q]) ∧ Below w.heap.size w w' := by
  have k0 : Hid (Kept w [(w.heap.size + 1, vls 400 (flw fun _ => 0), 53), (w.heap.size, vls 400 (flw fun _ => 0), 53)] ((w.alloc (.cells (vls 400 (flw fun _ => 0)) 53)).alloc (.cells (vls 400 (flw fun _ => 0)) 53))) := hid ((((Kept.nil w).push _ _).push _ _).sub (by simp))
  have HF := hid hf
  have HN := hid hN
  have H1 := hid h1
  have H2 := hid h2
  have HC := hid hC
  clear hf hN h1 h2 hC
  go_enter Try.func137, Try.ntmps137
  go_wp2_with fail
  go_loopw [7] (fun i wr => ∃ k : Nat, k ≤ 20 ∧ i = .int .i64 k ∧ Hid (Kept w [(w.heap.size + 1, vls 400 (flw (prt N (fun _ => 0) (k * 20))), 53), (w.heap.size, vls 400 (flw fun _ => 0), 53)] wr) ∧ Hid (FinN N (k * 20))) (fun i _ => 20 - (intOf i).toNat)
  case atStart => exact ⟨0, by omega, rfl, k0, hid fun i hi => by omega⟩
  case round =>
    obtain ⟨k, hk, rfl, hk1, hk2⟩ := hrel
    by_cases hlt : k < 20
    · have HL := hid hlt
      clear k0
      go_wp2_with fail
      go_loopw [10] (fun i wr => ∃ j : Nat, j ≤ 20 ∧ i = .int .i64 j ∧ Hid (Kept w [(w.heap.size + 1, vls 400 (flw (prt N (fun _ => 0) (k * 20 + j))), 53), (w.heap.size, vls 400 (flw fun _ => 0), 53)] wr) ∧ Hid (FinN N (k * 20 + j))) (fun i _ => 20 - (intOf i).toNat)
      case atStart => exact ⟨0, by omega, rfl, hk1, hk2⟩
      case round =>
        obtain ⟨j, hj, rfl, hj1, hj2⟩ := hrel
        by_cases hlj : j < 20
        · have HJ := hid hlj
          have hk3 : (k : Int) < 20 := by omega
          have hj3 : (j : Int) < 20 := by omega
          clear hk1 hk2
          go_wp2_with fail
          refine region_kept (w0 := w) (l := [(w.heap.size, vls 400 (flw fun _ => 0), 53)]) 9 #[false, false, false, false, false, false, false, false, false] (by kernel_rfl) rfl rfl ?_
          have kd := hj1.out.drew
          clear hj1
          generalize wr.drew = wd at kd ⊢
          refine take_val 0 _ _ (.int .i64 (k : Int)) rfl (by rfl) (by kernel_rfl) (by kernel_rfl) (by kernel_rfl) (fun w => by rfl) rfl rfl kd.tail ?_
          refine take_val 1 _ _ (.int .i64 (j : Int)) rfl (by rfl) (by kernel_rfl) (by kernel_rfl) (by kernel_rfl) (fun w => by rfl) rfl rfl kd.tail ?_
          refine take_val 2 _ _ (.func (.func f) #[] caps) rfl (by rfl) (by kernel_rfl) (by kernel_rfl) (by kernel_rfl) (fun w => by rfl) rfl rfl kd.tail ?_
          refine take_val 3 _ _ (.int .i64 (k : Int)) rfl (by rfl) (by kernel_rfl) (by kernel_rfl) (by kernel_rfl) (fun w => by rfl) rfl rfl kd.tail ?_
          refine take_val 4 _ _ (.int .i64 (j : Int)) rfl (by rfl) (by kernel_rfl) (by kernel_rfl) (by kernel_rfl) (fun w => by rfl) rfl rfl kd.tail ?_
          simp only [Act.put, List.setIfInBounds_toArray, List.set_cons_zero, List.set_cons_succ]
          refine take_val 6 _ _ (.pointer (some ⟨w.heap.size + 1, k * 20, none⟩)) rfl (by rfl) (by kernel_rfl) (by kernel_rfl) (by kernel_rfl) (fun w => by unfold execOp; go_simp) rfl rfl kd.tail ?_
          have hb9 : Below w.heap.size w wd := kd.1
          have hcall := HC.out k j HL.out HJ.out wd hb9
          refine wpAnyH_ready (rs := [5]) (by kernel_rfl) (by simp) ?_
          refine callK 5 _ _ (.float .f32 (N (k * 20 + j))) kd rfl (by rfl) f (#[.int .i64 (k : Int), .int .i64 (j : Int)] ++ caps) (fun w => run_clo2 HF.out _ 15 16 17 caps (.int .i64 (k : Int)) (.int .i64 (j : Int)) (by rfl) (by rfl) (by rfl) _ _ _ _ _ _ w) rfl rfl ?hc (fun w1 k1 => ?_) AllReadyH.nil
          case hc => exact hcall
          refine ⟨k1.tail, ?_⟩
          simp only [Act.put, List.setIfInBounds_toArray, List.set_cons_zero, List.set_cons_succ]
          refine take_val 7 _ _ (.pointer (some ⟨w.heap.size + 1, k * 20 + j, none⟩)) rfl (by rfl) (by kernel_rfl) (by kernel_rfl) (by kernel_rfl) (fun w => by unfold execOp; go_simp) rfl rfl k1.tail ?_
          refine wpAnyH_ready (rs := [8]) (by kernel_rfl) (by simp) ?_
          refine storeCellK 8 _ k1 (by omega) (by simp) rfl (by rfl) 22 _ _ rfl (k * 20 + j) (N (k * 20 + j)) (by have := HL.out; have := HJ.out; omega) (by rfl) (by rfl) info_f32s rfl (fun w2 k2 => ?_) AllReadyH.nil
          refine ⟨k2.tail, ?_⟩
          refine wpAnyH_done (by kernel_rfl) (NoPanic.normal ?_) _
          simp only [Act.put, List.setIfInBounds_toArray, List.set_cons_zero, List.set_cons_succ]
          rw [show upd (prt N (fun _ => 0) (k * 20 + j)) (k * 20 + j) (N (k * 20 + j)) = prt N (fun _ => 0) (k * 20 + j + 1) from funext fun i => part_succ N (fun _ => 0) (k * 20 + j) i] at k2
          have K2 := hid k2
          clear hcall kd k1 k2 hb9
          have hn : k * 20 + j < 400 := by have := HL.out; have := HJ.out; omega
          have hq := (K2.out.at (x := (w.heap.size + 1, vls 400 (flw (prt N (fun _ => 0) (k * 20 + j + 1))), 53)) (by simp))
          have q0 : w2.cell? ⟨w.heap.size + 1, k * 20 + j, none⟩ = some (.float .f32 (N (k * 20 + j))) := (vAt.fcell (c := prt N (fun _ => 0) (k * 20 + j + 1)) hq hn).trans (by rw [show prt N (fun _ => 0) (k * 20 + j + 1) (k * 20 + j) = N (k * 20 + j) from if_pos (by omega)])
          have hlt2 := HN.out _ hn
          clear hq
          rcases hfin : finB (N (k * 20 + j)) with _ | _
          · have HX := hid hfin
            have HX2 := hid hlt2
            have hne : Hid (¬ FinN N 400) := hid (fun hall => by have := hall _ hn; rw [hfin] at this; cases this)
            obtain ⟨rfl, rfl⟩ := H2.out hne.out
            clear hfin hlt2 hn
            go_wp2_with fail
            refine (isFinite_f (N (k * 20 + j)) HX2.out HX.out _).mono ?_
            rintro e w3 ⟨rfl, hb3⟩
            have K3 := hid (K2.out.stay hb3)
            have A3 : Hid (vAt w3 w.heap.size 400 (flw fun _ => 0) 53) := hid (K3.out.at (x := (w.heap.size, vls 400 (flw fun _ => 0), 53)) (by simp))
            have b3 := K3.out.1
            go_wp2_with (refine wpList_store_row rfl 53 _ _ rfl (w.heap.size) (vls 400 (flw fun _ => 0)) rfl rfl 53 _ A3.out (by rw [vls_size]; exact info_kern) (by simp) (vls_one (flw_one _)) ?_)
            exact bodyPost_ret (results_row_tmp rfl _ _ (w.heap.size) 53 (vls 400 (flw fun _ => 0)) (0, 0) _ rfl (A3.out.setRow (flw fun _ => 0)) Try.underlying53 rfl (by rw [vls_size]; exact info_kern)) rfl ⟨rfl, below_row b3 (Nat.le_refl _) _⟩
          · have HX := hid hfin
            have HX2 := hid hlt2
            have HFN : Hid (FinN N (k * 20 + j + 1)) := hid (all_step hj2.out hfin)
            clear hfin hlt2 hn
            go_wp2_with fail
            refine (isFinite_t (N (k * 20 + j)) HX2.out HX.out _).mono ?_
            rintro e w3 ⟨rfl, rfl⟩
            go_wp2
            go_roundw
            case rel => exact ⟨j + 1, by omega, by go_num, K2, HFN⟩
            case measure => simp [intOf]; omega
        · obtain rfl : j = 20 := by omega
          go_wp2
          go_roundw
          case rel => exact ⟨k + 1, by omega, by go_num, by rw [show (k + 1) * 20 = k * 20 + 20 by omega]; exact hj1, by rw [show (k + 1) * 20 = k * 20 + 20 by omega]; exact hj2⟩
          case measure => simp [intOf]; omega
    · obtain rfl : k = 20 := by omega
      have hall : FinN N 400 := hk2.out
      obtain ⟨rfl, rfl⟩ := H1.out hall
      have A3 : Hid (vAt wr w.heap.size 400 (flw fun _ => 0) 53) := hid (hk1.out.at (x := (w.heap.size, vls 400 (flw fun _ => 0), 53)) (by simp))
      have A4 : Hid (vAt wr (w.heap.size + 1) 400 (flw r) 53) := hid ((show vAt wr (w.heap.size + 1) 400 (flw (prt r (fun _ => 0) 400)) 53 from hk1.out.at (x := (w.heap.size + 1, vls 400 (flw (prt r (fun _ => 0) 400)), 53)) (by simp)).ext fun i hi => by unfold flw; rw [show prt r (fun _ => 0) 400 i = r i from if_pos hi])
      have b3 := hk1.out.1
      go_wp2_with (first | (refine wpList_load_row rfl 53 _ rfl (w.heap.size + 1) rfl 53 (vls 400 (flw r)) (0, 0) _ A4.out Try.underlying53 rfl (by rw [vls_size]; exact info_kern) ?_) | (refine wpList_store_row rfl 53 _ _ rfl (w.heap.size) (vls 400 (flw r)) rfl rfl 53 _ A3.out (by rw [vls_size]; exact info_kern) (by simp) (vls_one (flw_one _)) ?_))
      exact bodyPost_ret (results_row_tmp rfl _ _ (w.heap.size) 53 (vls 400 (flw r)) (0, 0) _ rfl (A3.out.setRow (flw r)) Try.underlying53 rfl (by rw [vls_size]; exact info_kern)) rfl ⟨rfl, below_row b3 (Nat.le_refl _) _⟩

set_option maxRecDepth 100000 in
theorem sTold3 (N : Nat → Nat) (hN : ∀ i, i < 400 → N i < 4294967296) (r : Nat → Nat) (q : Int) (h1 : FinN N 400 → r = N ∧ q = 0) (h2 : ¬ FinN N 400 → r = (fun _ => 0) ∧ q = 4) (w : World) :
    Calls Try.prog 140 #[.agg (vls 400 (flw N))] w fun e w' => e = .returned (.tuple #[.agg (vls 400 (flw r)), .int .i64 q]) ∧ Below w.heap.size w w' := by
  have A0 := hid ((vAt.new w 400 (flw N) 53).alloc (.cells (vls 400 (flw fun _ => 0)) 53))
  have A3 := hid (vAt.new1 w (.cells (vls 400 (flw N)) 53) 400 (flw fun _ => 0) 53)
  have b0 := boxed2 w (.cells (vls 400 (flw N)) 53) (.cells (vls 400 (flw fun _ => 0)) 53)
  have HN := hid hN
  have H1 := hid h1
  have H2 := hid h2
  clear hN h1 h2
  go_enter Try.func140, Try.ntmps140
  go_wp2_with fail
  go_loop [4] (fun i => ∃ k : Nat, k ≤ 20 ∧ i = .int .i64 k ∧ Hid (FinN N (k * 20))) (fun i => 20 - (intOf i).toNat)
  case atStart => exact ⟨0, by omega, rfl, hid fun i hi => by omega⟩
  case round =>
    obtain ⟨k, hk, rfl, hk2⟩ := hrel
    by_cases hlt : k < 20
    · have HL := hid hlt
      have hk3 : (k : Int) < 20 := by omega
      go_wp2_with fail
      go_loop [5] (fun i => ∃ j : Nat, j ≤ 20 ∧ i = .int .i64 j ∧ Hid (FinN N (k * 20 + j))) (fun i => 20 - (intOf i).toNat)
      case atStart => exact ⟨0, by omega, rfl, hk2⟩
      case round =>
        obtain ⟨j, hj, rfl, hj2⟩ := hrel
        by_cases hlj : j < 20
        · have hn : k * 20 + j < 400 := by have := HL.out; omega
          have hj3 : (j : Int) < 20 := by omega
          have q0 := A0.out.fcell hn
          have HX2 := hid (HN.out _ hn)
          rcases hfin : finB (N (k * 20 + j)) with _ | _
          · have HX := hid hfin
            have hne : Hid (¬ FinN N 400) := hid (fun hall => by have := hall _ hn; rw [hfin] at this; cases this)
            obtain ⟨rfl, rfl⟩ := H2.out hne.out
            clear hfin hn
            go_wp2_with fail
            refine (sFinite_f (N (k * 20 + j)) HX2.out HX.out _).mono ?_
            rintro e w3 ⟨rfl, hb3⟩
            have A3 := hid (A3.out.stay hb3)
            have b3 := stp b0 (Nat.le_refl _) hb3
            go_wp2_with (refine wpList_store_row rfl 53 _ _ rfl (w.heap.size + 1) (vls 400 (flw fun _ => 0)) rfl rfl 53 _ A3.out (by rw [vls_size]; exact info_kern) (by simp) (vls_one (flw_one _)) ?_)
            exact bodyPost_ret (results_row_tmp rfl _ _ (w.heap.size + 1) 53 (vls 400 (flw fun _ => 0)) (0, 0) _ rfl (A3.out.setRow (flw fun _ => 0)) Try.underlying53 rfl (by rw [vls_size]; exact info_kern)) rfl ⟨rfl, below_row b3 (by omega) _⟩
          · have HX := hid hfin
            have HFN : Hid (FinN N (k * 20 + j + 1)) := hid (all_step hj2.out hfin)
            clear hfin hn
            go_wp2_with fail
            refine (sFinite_t (N (k * 20 + j)) HX2.out HX.out _).mono ?_
            rintro e w3 ⟨rfl, rfl⟩
            go_wp2
            go_round
            case rel => exact ⟨j + 1, by omega, by go_num, HFN⟩
            case measure => simp [intOf]; omega
        · obtain rfl : j = 20 := by omega
          go_wp2
          go_round
          case rel => exact ⟨k + 1, by omega, by go_num, by rw [show (k + 1) * 20 = k * 20 + 20 by omega]; exact hj2⟩
          case measure => simp [intOf]; omega
    · obtain rfl : k = 20 := by omega
      have hall : FinN N 400 := hk2.out
      obtain ⟨rfl, rfl⟩ := H1.out hall
      go_wp2_with (first | (refine wpList_load_row rfl 53 _ rfl (w.heap.size) rfl 53 (vls 400 (flw r)) (0, 0) _ A0.out Try.underlying53 rfl (by rw [vls_size]; exact info_kern) ?_) | (refine wpList_store_row rfl 53 _ _ rfl (w.heap.size + 1) (vls 400 (flw r)) rfl rfl 53 _ A3.out (by rw [vls_size]; exact info_kern) (by simp) (vls_one (flw_one _)) ?_))
      exact bodyPost_ret (results_row_tmp rfl _ _ (w.heap.size + 1) 53 (vls 400 (flw r)) (0, 0) _ rfl (A3.out.setRow (flw r)) Try.underlying53 rfl (by rw [vls_size]; exact info_kern)) rfl ⟨rfl, below_row b0 (by omega) _⟩

theorem told_lit3 (N : Nat → Nat) (hN : ∀ i, i < 400 → N i < 4294967296) : ∃ (r : Nat → Nat) (q : Int), (FinN N 400 → r = N ∧ q = 0) ∧ (¬ FinN N 400 → r = (fun _ => 0) ∧ q = 4) ∧ (∀ i, i < 400 → r i < 4294967296) ∧ (∀ i, i < 400 → finB (r i) = true) := by
  rcases Classical.em (FinN N 400) with h | h
  · exact ⟨N, 0, fun _ => ⟨rfl, rfl⟩, fun h' => absurd h h', hN, h⟩
  · exact ⟨fun _ => 0, 4, fun h' => absurd h' h, fun _ => ⟨rfl, rfl⟩, fun _ _ => (by decide : (0 : Nat) < 4294967296), fun _ _ => (by decide : finB 0 = true)⟩

theorem sFinite_fq (x : Nat) (hx : x < 4294967296) (h : finB x = false) (w : World) :
    Calls Try.prog 109 #[.float .f32 x] w fun e w' => e = .returned (.bool false) ∧ ∃ m, w' = w.drewN m := by
  obtain ⟨z, hr, h1, _⟩ := run_arith_nan (P := Try.prog) w .sub (by simp) 22 x x (sub_self_none hx h)
  have Hn := hid (show (FloatKind.f32.format.order z 0 == some .eq) = false by
    show (S.order z 0 == some .eq) = false
    rw [order_nan32 h1]; rfl)
  clear h hx h1
  go_enter Try.func109, Try.ntmps109
  go_wp2
  go_ret
  exact ⟨by simp [Hn.out], 1, rfl⟩

theorem sAmount_fq (x : Nat) (hx : x < 4294967296) (h : amtB x = false) (w : World) :
    Calls Try.prog 104 #[.float .f32 x] w fun e w' => e = .returned (.bool false) ∧ ∃ m, w' = w.drewN m := by
  rcases hf : finB x with _ | _
  · have Hx := hid hx
    have Hf := hid hf
    clear h hf hx
    go_enter Try.func104, Try.ntmps104
    go_wp2_with (go_at_call 109; refine (sFinite_fq x Hx.out Hf.out _).mono ?_; rintro e w' ⟨rfl, hb⟩)
    go_ret
    exact ⟨rfl, hb⟩
  · have hs : 2147483648 ≤ x := by
      rw [amtB_iff', INF_val] at h
      have := finB_iff.1 hf
      rw [INF_val] at this
      unfold mg at this
      omega
    have hg : (FloatKind.f32.format.order x 0 == some .gt) = false := order_neg_zero hx hf hs
    have hb : ((x : Int) == 0) = false := by simp; omega
    have Hx := hid hx
    have Hf := hid hf
    clear h hf hx hs
    go_enter Try.func104, Try.ntmps104
    go_wp2_with (go_at_call 109; refine (sFinite_t x Hx.out Hf.out _).mono ?_; rintro e w' ⟨rfl, rfl⟩)
    go_ret
    exact ⟨rfl, 0, rfl⟩

/-- A kernel is valid. -/
def KOk (c : Nat → Nat) : Prop := AmtK c ∧ Sym c

set_option maxHeartbeats 1000000 in
set_option maxRecDepth 100000 in
theorem sKOk (c : Nat → Nat) (hb : ∀ i, i < 400 → c i < 4294967296) (q : Bool) (hq : q = true ↔ KOk c) (w : World) (g : Nat) (T : TypeId) (hg : vAt w g 400 (flw c) T) :
    Calls Try.prog 130 #[.pointer (some ⟨g, 0, none⟩)] w fun e w' => e = .returned (.bool q) ∧ Below w.heap.size w w' := by
  have HB := hid hb
  have HQ := hid hq
  have HG := hid hg
  clear hb hq hg
  go_enter Try.func130, Try.ntmps130
  go_wp2_with fail
  go_loopw [3] (fun i wr => ∃ k : Nat, k ≤ 20 ∧ i = .int .i64 k ∧ Hid (∀ i j, i < k → j < 20 → amtB (c (i * 20 + j)) = true ∧ (FloatKind.f32.format.order (c (i * 20 + j)) (c (j * 20 + i)) != some .eq) = false) ∧ Hid (vAt wr g 400 (flw c) T) ∧ Hid (Below w.heap.size w wr)) (fun i _ => 20 - (intOf i).toNat)
  case atStart => exact ⟨0, by omega, rfl, hid (fun i j hi => by omega), HG, hid (Below.refl _ _)⟩
  case round =>
    obtain ⟨k, hk, rfl, hA, h0, hb⟩ := hrel
    by_cases hlt : k < 20
    · have HK := hid hlt
      have hk3 : (k : Int) < 20 := by omega
      go_wp2_with fail
      go_loopw [4] (fun i wr => ∃ j : Nat, j ≤ 20 ∧ i = .int .i64 j ∧ Hid (∀ i, i < j → amtB (c (k * 20 + i)) = true ∧ (FloatKind.f32.format.order (c (k * 20 + i)) (c (i * 20 + k)) != some .eq) = false) ∧ Hid (vAt wr g 400 (flw c) T) ∧ Hid (Below w.heap.size w wr)) (fun i _ => 20 - (intOf i).toNat)
      case atStart => exact ⟨0, by omega, rfl, hid (fun i hi => by omega), h0, hb⟩
      case round =>
        clear h0 hb
        obtain ⟨j, hj, rfl, hR, h0, hb⟩ := hrel
        by_cases hlj : j < 20
        · have HJ := hid hlj
          have hj3 : (j : Int) < 20 := by omega
          have q0 := h0.out.fcell (k := k * 20 + j) (by omega)
          have q1 := h0.out.fcell (k := j * 20 + k) (by omega)
          have hx := HB.out (k * 20 + j) (by omega)
          rcases ha : amtB (c (k * 20 + j)) with _ | _
          · have HA := hid ha
            have HX := hid hx
            have hnq : q = false := by
              rw [← Bool.not_eq_true]
              intro ht
              have := (HQ.out.1 ht).1 (k * 20 + j) (by have := HK.out; have := HJ.out; omega)
              rw [ha] at this; cases this
            subst hnq
            clear ha hx
            go_wp2_with fail
            go_quiet ((go_at_call 104; exact Calls.quiet_of (sAmount_fq (c (k * 20 + j)) HX.out HA.out _)))
            go_wp2
            go_ret
            exact ⟨rfl, below_drewN hb.out _⟩
          · have HA := hid ha
            rcases ho : (FloatKind.f32.format.order (c (k * 20 + j)) (c (j * 20 + k)) != some .eq) with _ | _
            · have HR2 : Hid (∀ i, i < j + 1 → amtB (c (k * 20 + i)) = true ∧ (FloatKind.f32.format.order (c (k * 20 + i)) (c (i * 20 + k)) != some .eq) = false) := hid (all_step hR.out ⟨ha, ho⟩)
              clear ha hx
              go_wp2_with fail
              go_quiet ((go_at_call 104; exact Calls.quiet_of_same (back (sAmount_t (c (k * 20 + j)) HA.out _))))
              go_wp2
              go_roundw
              case rel => exact ⟨j + 1, by omega, by go_num, HR2, h0, hid (below_drewN hb.out _)⟩
              case measure => simp [intOf]; omega
            · have hnq : q = false := by
                rw [← Bool.not_eq_true]
                intro ht
                have hs := (HQ.out.1 ht).2 k j HK.out HJ.out
                have h1 := feq_amt ha (hs ▸ ha)
                rw [decide_eq_true hs] at h1
                have h2 : (!(FloatKind.f32.format.order (c (k * 20 + j)) (c (j * 20 + k)) == some .eq)) = true := ho
                rw [show (FloatKind.f32.format.order (c (k * 20 + j)) (c (j * 20 + k)) == some .eq) = true from h1] at h2
                cases h2
              subst hnq
              clear ha hx
              go_wp2_with fail
              go_quiet ((go_at_call 104; exact Calls.quiet_of_same (back (sAmount_t (c (k * 20 + j)) HA.out _))))
              go_wp2
              go_ret
              exact ⟨rfl, below_drewN hb.out _⟩
        · obtain rfl : j = 20 := by omega
          have HA2 : Hid (∀ i j, i < k + 1 → j < 20 → amtB (c (i * 20 + j)) = true ∧ (FloatKind.f32.format.order (c (i * 20 + j)) (c (j * 20 + i)) != some .eq) = false) := hid fun i j hi hj => by
            rcases Nat.lt_or_eq_of_le (Nat.le_of_lt_succ hi) with h | h
            · exact hA.out i j h hj
            · rw [h]; exact hR.out j hj
          go_wp2
          go_roundw
          case rel => exact ⟨k + 1, by omega, by go_num, HA2, h0, hb⟩
          case measure => simp [intOf]; omega
    · obtain rfl : k = 20 := by omega
      have hqt : q = true := HQ.out.2 ⟨fun n hn => by
        have := (hA.out (n / 20) (n % 20) (by omega) (by omega)).1
        rwa [show n / 20 * 20 + n % 20 = n by omega] at this, fun i j hi hj => by
        have h1 := feq_amt (hA.out i j hi hj).1 (hA.out j i hj hi).1
        have h2 : (!(FloatKind.f32.format.order (c (i * 20 + j)) (c (j * 20 + i)) == some .eq)) = false := (hA.out i j hi hj).2
        by_cases e : c (i * 20 + j) = c (j * 20 + i)
        · exact e
        · rw [decide_eq_false e] at h1
          rw [show (FloatKind.f32.format.order (c (i * 20 + j)) (c (j * 20 + i)) == some .eq) = false from h1] at h2
          cases h2⟩
      subst hqt
      go_wp2
      go_ret
      exact ⟨rfl, hb.out⟩

theorem ixk (c : Nat → Nat) (k : Nat) (hk : k < 20) (w : World) :
    (Instr.index 53 (.agg (vls 400 (flw c))) (.int .i64 (k : Int))).run Try.prog w = .ok (.agg (fls (rowK c k))) w :=
  run_index_row Try.underlying53 Try.underlying28 rfl info_a20 400 (flw c) k hk (by omega) w

theorem ixr (c : Nat → Nat) (k : Nat) (hk : k < 20) (w : World) :
    (Instr.index 28 (.agg (fls c)) (.int .i64 (k : Int))).run Try.prog w = .ok (.float .f32 (c k)) w := ix 28 Try.underlying28 c k hk w

set_option maxHeartbeats 1000000 in
set_option maxRecDepth 100000 in
theorem iTransposed (c : Nat → Nat) (w : World) :
    Calls Try.prog 131 #[.agg (vls 400 (flw c))] w fun e w' => e = .returned (.agg (vls 400 (flw (trK c)))) ∧ Below w.heap.size w w' := by
  have A0 := hid (((vAt.new w 400 (flw c) 53).alloc (.cells (vls 400 (flw fun _ => 0)) 53)).alloc (.cells (vls 400 (flw fun _ => 0)) 53))
  have A1 := hid ((vAt.new1 w (.cells (vls 400 (flw c)) 53) 400 (flw fun _ => 0) 53).alloc (.cells (vls 400 (flw fun _ => 0)) 53))
  have A2 := hid (vAt.new2 w (.cells (vls 400 (flw c)) 53) (.cells (vls 400 (flw fun _ => 0)) 53) 400 (flw fun _ => 0) 53)
  have b0 := boxed3 w (.cells (vls 400 (flw c)) 53) (.cells (vls 400 (flw fun _ => 0)) 53) (.cells (vls 400 (flw fun _ => 0)) 53)
  go_enter Try.func131, Try.ntmps131
  go_wp2_with (refine wpList_load_row rfl 53 _ rfl (w.heap.size) rfl 53 (vls 400 (flw c)) (0, 0) _ A0.out Try.underlying53 rfl (by rw [vls_size]; exact info_kern) ?_)
  go_loopw [9] (fun i wr => ∃ k : Nat, k ≤ 20 ∧ i = .int .i64 k ∧ Hid (vAt wr (w.heap.size + 1 + 1) 400 (flw (trP c k 0)) 53) ∧ Hid (vAt wr (w.heap.size + 1) 400 (flw fun _ => 0) 53) ∧ Hid (Below w.heap.size w wr)) (fun i _ => 20 - (intOf i).toNat)
  case atStart => exact ⟨0, by omega, rfl, hid (A2.out.ext fun i _ => by unfold flw; rw [trP_zero]), A1, hid b0⟩
  case round =>
    obtain ⟨k, hk, rfl, g2, g1, hb⟩ := hrel
    by_cases hlt : k < 20
    · have HK := hid hlt
      have hk3 : (k : Int) < 20 := by omega
      have hix := ixk c k hlt
      have hs := hb.out.size
      have N0 := hid (arrAt.new wr (fun _ => 0) 28)
      have P0 := hid (N0.out.setRow (rowK c k))
      have n2 := hid ((g2.out.alloc (.cells (fls fun _ => 0) 28)).setRowOther (k := wr.heap.size) (Nat.ne_of_lt g2.out.lt) (fls (rowK c k)))
      have n1 := hid ((g1.out.alloc (.cells (fls fun _ => 0) 28)).setRowOther (k := wr.heap.size) (Nat.ne_of_lt g1.out.lt) (fls (rowK c k)))
      have nb := below_row (hb.out.alloc hb.out.size (.cells (fls fun _ => 0) 28)) hb.out.size (g := wr.heap.size) (fls (rowK c k))
      clear A0 A1 A2
      have tok1 : True := trivial
      go_wp2_with (first | (have _t := P1; refine wpList_load_row rfl 28 _ rfl (wr.heap.size) rfl 28 (fls (rowK c k)) (0, 0) _ P1.out Try.underlying28 rfl (by rw [fls_size]; exact info_a20) ?_) | (have _t := tok1; refine store_abs rfl 28 _ _ rfl wr.heap.size (rowK c k) rfl rfl 28 _ N0.out info_a20 ?_; intro w9 hw9; rw [← hw9] at P0 n2 n1 nb; clear hw9 N0 g1 g2 hb tok1; have P1 := hid P0.out))
      clear hix
      go_loopw [14] (fun i wr2 => ∃ j : Nat, j ≤ 20 ∧ i = .int .i64 j ∧ Hid (vAt wr2 (w.heap.size + 1 + 1) 400 (flw (trP c k j)) 53) ∧ Hid (vAt wr2 (w.heap.size + 1) 400 (flw fun _ => 0) 53) ∧ Hid (Below w.heap.size w wr2)) (fun i _ => 20 - (intOf i).toNat)
      case atStart => exact ⟨0, by omega, rfl, n2, n1, hid nb⟩
      case round =>
        clear n2 n1 nb P0 P1
        obtain ⟨j, hj, rfl, g2, g1, hb⟩ := hrel
        by_cases hlj : j < 20
        · have HJ := hid hlj
          have hj3 : (j : Int) < 20 := by omega
          have hix := ixr (rowK c k) j hlj
          have q2 := g2.out.cell (k := j * 20 + k) (by omega)
          have f2 := g2.out.frozen (j * 20 + k)
          have n2 := hid ((g2.out.fset (j * 20 + k) (rowK c k j)).ext (d := flw (trP c k (j + 1))) fun n _ => by unfold flw; rw [show rowK c k j = c (k * 20 + j) from rfl, trP_set c HK.out HJ.out])
          have n1 := hid (g1.out.setOther (a := ⟨w.heap.size + 1 + 1, j * 20 + k, none⟩) (by simp) (.float .f32 (rowK c k j)))
          have nb := hb.out.setCell (p := ⟨w.heap.size + 1 + 1, j * 20 + k, none⟩) (by simp; omega) (.float .f32 (rowK c k j))
          clear g2 g1 hb
          go_wp2
          go_roundw
          case rel => exact ⟨j + 1, by omega, by go_num, n2, n1, hid nb⟩
          case measure => simp [intOf]; omega
        · obtain rfl : j = 20 := by omega
          have n2 := hid (g2.out.ext (d := flw (trP c (k + 1) 0)) fun n hn => by unfold flw; rw [trP_next c k n hn])
          clear g2
          go_wp2
          go_roundw
          case rel => exact ⟨k + 1, by omega, by go_num, n2, g1, hb⟩
          case measure => simp [intOf]; omega
    · obtain rfl : k = 20 := by omega
      have n2 := hid (g2.out.ext (d := flw (trK c)) fun n _ => by unfold flw; rw [trP_all])
      clear g2
      go_wp2_with (first | (refine wpList_load_row rfl 53 _ rfl (w.heap.size + 1 + 1) rfl 53 (vls 400 (flw (trK c))) (0, 0) _ n2.out Try.underlying53 rfl (by rw [vls_size]; exact info_kern) ?_) | (refine wpList_store_row rfl 53 _ _ rfl (w.heap.size + 1) (vls 400 (flw (trK c))) rfl rfl 53 _ g1.out (by rw [vls_size]; exact info_kern) (by simp) (vls_one (flw_one _)) ?_))
      exact bodyPost_ret (results_cell_row rfl _ _ (w.heap.size + 1) 53 (vls 400 (flw (trK c))) (0, 0) _ rfl (g1.out.setRow (flw (trK c))) Try.underlying53 rfl (by rw [vls_size]; exact info_kern)) rfl ⟨rfl, below_row hb.out (by omega) _⟩

theorem eq_kern (c d : Nat → Nat) (w : World) : (binOp .eql 53 (.agg (vls 400 (flw c))) (.agg (vls 400 (flw d)))).run Try.prog w = .ok (.bool (eqK c d)) w := by
  have hR : (Try.prog.info? 28).map (·.size) = some 20 := info_a20
  cases hi : Try.prog.info? 28 with
  | none => rw [hi] at hR; cases hR
  | some iR =>
    rw [hi] at hR
    obtain ⟨iE, h1, _⟩ := info_f32
    exact run_eq_kernels Try.underlying53 Try.underlying28 Try.underlying22 hi (by simpa using hR) h1 (by kernel_rfl) (by kernel_rfl) c d w

theorem run_trans (a : Act) (p : Tmp) (v : Value) (hx : a.eval (.tmp p) = v) (d : Option Tmp) (ats : Array TypeId) (t : TypeId) (ps : String) (af : Array Edge) (gd : Option (Nat × Bool)) (w : World) :
    (execOp a.eval ⟨d, .call { callee := .value (.func 131), args := #[.tmp p], argTypes := ats }, t, ps, af, gd⟩).run Try.prog w = .ok (.enter 131 #[v]) w := by
  have hx' : a.tmps[p]?.getD undef = v := by rw [← hx]; simp [Act.eval]
  clear hx
  unfold execOp
  go_simp

set_option maxHeartbeats 1000000 in
set_option maxRecDepth 100000 in
theorem iValidKernel (c : Nat → Nat) (hb : ∀ i, i < 400 → c i < 4294967296) (q : Bool) (hq : q = true ↔ KOk c) (w : World) :
    Calls Try.prog 52 #[.agg (vls 400 (flw c))] w fun e w' => e = .returned (.bool q) ∧ Below w.heap.size w w' := by
  have A0 := hid (vAt.new w 400 (flw c) 53)
  have b0 := boxed w (.cells (vls 400 (flw c)) 53)
  have HB := hid hb
  have HQ := hid hq
  clear hb hq
  go_enter Try.func52, Try.ntmps52
  go_wp2_with (refine wpList_load_row rfl 53 _ rfl (w.heap.size) rfl 53 (vls 400 (flw c)) (0, 0) _ A0.out Try.underlying53 rfl (by rw [vls_size]; exact info_kern) ?_)
  go_loopw [6] (fun i wr => ∃ k : Nat, k ≤ 20 ∧ i = .int .i64 k ∧ Hid (∀ n, n < k * 20 → amtB (c n) = true) ∧ Hid (vAt wr w.heap.size 400 (flw c) 53) ∧ Hid (Below w.heap.size w wr)) (fun i _ => 20 - (intOf i).toNat)
  case atStart => exact ⟨0, by omega, rfl, hid (fun n hn => by omega), A0, hid b0⟩
  case round =>
    obtain ⟨k, hk, rfl, hA, g0, hb⟩ := hrel
    by_cases hlt : k < 20
    · have HK := hid hlt
      have hk3 : (k : Int) < 20 := by omega
      have hix := ixk c k hlt
      have N0 := hid (arrAt.new wr (fun _ => 0) 28)
      have P0 := hid (N0.out.setRow (rowK c k))
      have n0 := hid ((g0.out.alloc (.cells (fls fun _ => 0) 28)).setRowOther (k := wr.heap.size) (Nat.ne_of_lt g0.out.lt) (fls (rowK c k)))
      have nb := below_row (hb.out.alloc hb.out.size (.cells (fls fun _ => 0) 28)) hb.out.size (g := wr.heap.size) (fls (rowK c k))
      clear A0 b0
      have tok1 : True := trivial
      go_wp2_with (first | (have _t := P1; refine wpList_load_row rfl 28 _ rfl (wr.heap.size) rfl 28 (fls (rowK c k)) (0, 0) _ P1.out Try.underlying28 rfl (by rw [fls_size]; exact info_a20) ?_) | (have _t := tok1; refine store_abs rfl 28 _ _ rfl wr.heap.size (rowK c k) rfl rfl 28 _ N0.out info_a20 ?_; intro w9 hw9; rw [← hw9] at P0 n0 nb; clear hw9 N0 g0 hb tok1; have P1 := hid P0.out))
      by_cases hv : Amts (rowK c k)
      · have HA2 : Hid (∀ n, n < (k + 1) * 20 → amtB (c n) = true) := hid fun n hn => by
          by_cases h : n < k * 20
          · exact hA.out n h
          · have := hv (n - k * 20) (by omega)
            unfold rowK at this
            rwa [show k * 20 + (n - k * 20) = n by omega] at this
        refine (validSizes_t (rowK c k) hv _).mono ?_
        rintro e w3 ⟨rfl, hb3⟩
        have n0 := hid (n0.out.stay hb3)
        have nb := stp nb (Nat.le_refl _) hb3
        clear hv hix P0 P1
        go_wp2
        go_roundw
        case rel => exact ⟨k + 1, by omega, by go_num, HA2, n0, hid nb⟩
        case measure => simp [intOf]; omega
      · have hnq : q = false := by
          rw [← Bool.not_eq_true]
          intro ht
          exact hv fun i hi => (HQ.out.1 ht).1 (k * 20 + i) (by have := HK.out; omega)
        subst hnq
        refine (validSizes_f (rowK c k) (fun i hi => HB.out _ (by have := HK.out; omega)) hv _).mono ?_
        rintro e w3 ⟨rfl, hb3⟩
        have nb := stp nb (Nat.le_refl _) hb3
        clear hv hix P0 P1
        go_wp2
        go_ret
        exact ⟨rfl, nb⟩
    · obtain rfl : k = 20 := by omega
      have hall : AmtK c := hA.out
      have hqe : eqK c (trK c) = q := by
        have h1 := eqK_sym hall
        cases q
        · rw [← Bool.not_eq_true]
          intro ht
          have := HQ.out.2 ⟨hall, h1.1 ht⟩
          cases this
        · exact h1.2 (HQ.out.1 rfl).2
      have HE := hid hqe
      have k0 : Hid (Kept w [(w.heap.size, vls 400 (flw c), 53)] wr) := hid ⟨hb.out, fun x hx => by rw [List.mem_singleton.1 hx]; exact g0.out⟩
      clear hall hqe A0 b0 g0 hb hA
      go_wp2_with fail
      refine region_kept (w0 := w) (l := [(w.heap.size, vls 400 (flw c), 53)]) 5 #[false, false, false, false, false] (by kernel_rfl) rfl rfl ?_
      have kd := k0.out.drew
      clear k0
      generalize wr.drew = wd at kd ⊢
      refine take_load 0 _ _ rfl (by rfl) (by kernel_rfl) (by kernel_rfl) (by kernel_rfl) 53 _ rfl w.heap.size (vls 400 (flw c)) 53 (by rfl) (by simp) _ Try.underlying53 rfl (by rw [vls_size]; exact info_kern) rfl rfl kd ?_
      refine take_load 1 _ _ rfl (by rfl) (by kernel_rfl) (by kernel_rfl) (by kernel_rfl) 53 _ rfl w.heap.size (vls 400 (flw c)) 53 (by rfl) (by simp) _ Try.underlying53 rfl (by rw [vls_size]; exact info_kern) rfl rfl kd ?_
      simp only [Act.put, List.setIfInBounds_toArray, List.set_cons_zero, List.set_cons_succ]
      refine wpAnyH_ready (rs := [2]) (by kernel_rfl) (by simp) ?_
      refine callK 2 _ _ (.agg (vls 400 (flw (trK c)))) kd rfl (by rfl) 131 #[.agg (vls 400 (flw c))] (fun w => run_trans _ 14 _ (by rfl) _ _ _ _ _ _ w) rfl rfl ?hc (fun w1 k1 => ?_) AllReadyH.nil
      case hc => exact iTransposed c _
      refine ⟨k1, ?_⟩
      simp only [Act.put, List.setIfInBounds_toArray, List.set_cons_zero, List.set_cons_succ]
      refine take_val 3 _ _ (.bool (eqK c (trK c))) rfl (by rfl) (by kernel_rfl) (by kernel_rfl) (by kernel_rfl) (fun w => run_binop_val _ _ _ _ (by rfl) (by rfl) (run_eqGuard_agg _ _ _ _ _ _ _ (by kernel_rfl)) (eq_kern _ _ w)) rfl rfl k1 ?_
      refine take_val 4 _ _ (.bool (eqK c (trK c))) rfl (by rfl) (by kernel_rfl) (by kernel_rfl) (by kernel_rfl) (fun w => by rfl) rfl rfl k1 ?_
      refine wpAnyH_done (by kernel_rfl) (NoPanic.normal ?_) _
      simp only [Act.put, List.setIfInBounds_toArray, List.set_cons_zero, List.set_cons_succ]
      rw [HE.out]
      go_wp2
      go_ret
      exact ⟨rfl, k1.1⟩

theorem plain_add : Plain 146 := fun args w => by go_simp

def addN (c d : Nat → Nat) (n : Nat) : Nat := fadd (c n) (d n)

theorem addN_nn {c d : Nat → Nat} (h : AmtK c) (h' : AmtK d) {n : Nat} (hn : n < 400) : nnB (addN c d n) = true := (add_eq (amt_nn (h n hn)) (amt_nn (h' n hn))).2

set_option maxRecDepth 100000 in
theorem iAdd1 (c d : Nat → Nat) (i j : Nat) (hi : i < 20) (hj : j < 20) (ha : amtB (c (i * 20 + j)) = true) (hd : amtB (d (i * 20 + j)) = true) (w : World) (g h : Nat) (q0 : w.cell? ⟨g, i * 20 + j, none⟩ = some (.float .f32 (c (i * 20 + j)))) (q1 : w.cell? ⟨h, i * 20 + j, none⟩ = some (.float .f32 (d (i * 20 + j)))) :
    Calls Try.prog 146 #[.int .i64 (i : Int), .int .i64 (j : Int), .pointer (some ⟨g, 0, none⟩), .pointer (some ⟨h, 0, none⟩)] w fun e w' => e = .returned (.float .f32 (addN c d (i * 20 + j))) ∧ Below w.heap.size w w' := by
  have r2 := fun w => run_add (P := Try.prog) 22 (amt_nn ha) (amt_nn hd) w
  rw [show fadd (c (i * 20 + j)) (d (i * 20 + j)) = addN c d (i * 20 + j) from rfl] at r2
  have hi3 : (i : Int) < 20 := by omega
  have hj3 : (j : Int) < 20 := by omega
  clear ha hd
  go_enter Try.func146, Try.ntmps146
  go_wp2_with fail
  go_quiet (fail)
  go_wp2
  go_ret
  exact ⟨rfl, below_drewN (Below.refl _ _) _⟩

set_option maxRecDepth 100000 in
theorem iAddK_ok (c d : Nat → Nat) (hb : ∀ i, i < 400 → c i < 4294967296) (hd : ∀ i, i < 400 → d i < 4294967296) (h : KOk c) (h' : KOk d) (r : Nat → Nat) (q : Int) (h1 : FinN (addN c d) 400 → r = addN c d ∧ q = 0) (h2 : ¬ FinN (addN c d) 400 → r = (fun _ => 0) ∧ q = 4) (w : World) :
    Calls Try.prog 65 #[.agg (vls 400 (flw c)), .agg (vls 400 (flw d))] w fun e w' => e = .returned (.tuple #[.agg (vls 400 (flw r)), .int .i64 q]) ∧ Below w.heap.size w w' := by
  have A0 := hid (((vAt.new w 400 (flw c) 53).alloc (.cells (vls 400 (flw d)) 53)).alloc (.cells (vls 400 (flw fun _ => 0)) 53))
  have A1 := hid ((vAt.new1 w (.cells (vls 400 (flw c)) 53) 400 (flw d) 53).alloc (.cells (vls 400 (flw fun _ => 0)) 53))
  have A2 := hid (vAt.new2 w (.cells (vls 400 (flw c)) 53) (.cells (vls 400 (flw d)) 53) 400 (flw fun _ => 0) 53)
  have b0 := boxed3 w (.cells (vls 400 (flw c)) 53) (.cells (vls 400 (flw d)) 53) (.cells (vls 400 (flw fun _ => 0)) 53)
  have HV := hid (iValidKernel c hb true ⟨fun _ => h, fun _ => rfl⟩)
  have HV2 := hid (iValidKernel d hd true ⟨fun _ => h', fun _ => rfl⟩)
  have H1 := hid h1
  have H2 := hid h2
  have HA := hid h.1
  have HD := hid h'.1
  clear h1 h2 h h' hb hd
  go_enter Try.func65, Try.ntmps65
  go_wp2_with (refine wpList_load_row rfl 53 _ rfl (w.heap.size) rfl 53 (vls 400 (flw c)) (0, 0) _ A0.out Try.underlying53 rfl (by rw [vls_size]; exact info_kern) ?_)
  refine (HV.out _).mono ?_
  rintro e w1 ⟨rfl, hb1⟩
  have A0 := hid (A0.out.stay hb1)
  have A1 := hid (A1.out.stay hb1)
  have A2 := hid (A2.out.stay hb1)
  have b1 := stp b0 (Nat.le_refl _) hb1
  go_wp2_with (refine wpList_load_g rfl 53 _ rfl (w.heap.size + 1) rfl 53 (vls 400 (flw d)) (0, 0) _ A1.out Try.underlying53 rfl (by rw [vls_size]; exact info_kern) ?_)
  refine (HV2.out _).mono ?_
  rintro e w2 ⟨rfl, hb2⟩
  have A0 := hid (A0.out.stay hb2)
  have A1 := hid (A1.out.stay hb2)
  have A2 := hid (A2.out.stay hb2)
  have b2 := stp b1 (Nat.le_refl _) hb2
  have hcall := iKernelOf (f := 146) plain_add #[.pointer (some ⟨w.heap.size, 0, none⟩), .pointer (some ⟨w.heap.size + 1, 0, none⟩)] (addN c d) (fun n hn => nn_lt (addN_nn HA.out HD.out hn)) r q H1.out H2.out w2 (fun i j hi hj w' hb => by rw [show (#[.int .i64 (i : Int), .int .i64 (j : Int)] ++ #[.pointer (some ⟨w.heap.size, 0, none⟩), .pointer (some ⟨w.heap.size + 1, 0, none⟩)] : Array Value) = #[.int .i64 (i : Int), .int .i64 (j : Int), .pointer (some ⟨w.heap.size, 0, none⟩), .pointer (some ⟨w.heap.size + 1, 0, none⟩)] from rfl]; exact iAdd1 c d i j hi hj (HA.out _ (by omega)) (HD.out _ (by omega)) w' _ _ ((A0.out.stay hb).fcell (by omega)) ((A1.out.stay hb).fcell (by omega)))
  go_wp2_with fail
  refine hcall.mono ?_
  rintro e w3 ⟨rfl, hb3⟩
  have A3 := hid (A2.out.stay hb3)
  have b3 := stp b2 (Nat.le_refl _) hb3
  go_wp2_with (refine wpList_store_row rfl 53 _ _ rfl (w.heap.size + 1 + 1) (vls 400 (flw r)) rfl rfl 53 _ A3.out (by rw [vls_size]; exact info_kern) (by simp) (vls_one (flw_one _)) ?_)
  exact bodyPost_ret (results_row_tmp rfl _ _ (w.heap.size + 1 + 1) 53 (vls 400 (flw r)) (0, 0) _ rfl (A3.out.setRow (flw r)) Try.underlying53 rfl (by rw [vls_size]; exact info_kern)) rfl ⟨rfl, below_row b3 (by omega) _⟩

set_option maxRecDepth 100000 in
theorem iAddK_bad (c d : Nat → Nat) (hb : ∀ i, i < 400 → c i < 4294967296) (h : ¬ KOk c) (w : World) :
    Calls Try.prog 65 #[.agg (vls 400 (flw c)), .agg (vls 400 (flw d))] w fun e w' => e = .returned (.tuple #[.agg (vls 400 (flw fun _ => 0)), .int .i64 1]) ∧ Below w.heap.size w w' := by
  have A0 := hid (((vAt.new w 400 (flw c) 53).alloc (.cells (vls 400 (flw d)) 53)).alloc (.cells (vls 400 (flw fun _ => 0)) 53))
  have A1 := hid ((vAt.new1 w (.cells (vls 400 (flw c)) 53) 400 (flw d) 53).alloc (.cells (vls 400 (flw fun _ => 0)) 53))
  have A2 := hid (vAt.new2 w (.cells (vls 400 (flw c)) 53) (.cells (vls 400 (flw d)) 53) 400 (flw fun _ => 0) 53)
  have b0 := boxed3 w (.cells (vls 400 (flw c)) 53) (.cells (vls 400 (flw d)) 53) (.cells (vls 400 (flw fun _ => 0)) 53)
  have HV := hid (iValidKernel c hb false ⟨fun h' => Bool.noConfusion h', fun h' => absurd h' h⟩)
  clear h hb
  go_enter Try.func65, Try.ntmps65
  go_wp2_with (refine wpList_load_row rfl 53 _ rfl (w.heap.size) rfl 53 (vls 400 (flw c)) (0, 0) _ A0.out Try.underlying53 rfl (by rw [vls_size]; exact info_kern) ?_)
  refine (HV.out _).mono ?_
  rintro e w1 ⟨rfl, hb1⟩
  have A3 := hid (A2.out.stay hb1)
  have b3 := stp b0 (Nat.le_refl _) hb1
  go_wp2_with (refine wpList_store_row rfl 53 _ _ rfl (w.heap.size + 1 + 1) (vls 400 (flw fun _ => 0)) rfl rfl 53 _ A3.out (by rw [vls_size]; exact info_kern) (by simp) (vls_one (flw_one _)) ?_)
  exact bodyPost_ret (results_row_tmp rfl _ _ (w.heap.size + 1 + 1) 53 (vls 400 (flw fun _ => 0)) (0, 0) _ rfl (A3.out.setRow (flw fun _ => 0)) Try.underlying53 rfl (by rw [vls_size]; exact info_kern)) rfl ⟨rfl, below_row b3 (by omega) _⟩

set_option maxRecDepth 100000 in
theorem iAddK_bad2 (c d : Nat → Nat) (hb : ∀ i, i < 400 → c i < 4294967296) (hd : ∀ i, i < 400 → d i < 4294967296) (h : KOk c) (h' : ¬ KOk d) (w : World) :
    Calls Try.prog 65 #[.agg (vls 400 (flw c)), .agg (vls 400 (flw d))] w fun e w' => e = .returned (.tuple #[.agg (vls 400 (flw fun _ => 0)), .int .i64 1]) ∧ Below w.heap.size w w' := by
  have A0 := hid (((vAt.new w 400 (flw c) 53).alloc (.cells (vls 400 (flw d)) 53)).alloc (.cells (vls 400 (flw fun _ => 0)) 53))
  have A1 := hid ((vAt.new1 w (.cells (vls 400 (flw c)) 53) 400 (flw d) 53).alloc (.cells (vls 400 (flw fun _ => 0)) 53))
  have A2 := hid (vAt.new2 w (.cells (vls 400 (flw c)) 53) (.cells (vls 400 (flw d)) 53) 400 (flw fun _ => 0) 53)
  have b0 := boxed3 w (.cells (vls 400 (flw c)) 53) (.cells (vls 400 (flw d)) 53) (.cells (vls 400 (flw fun _ => 0)) 53)
  have HV := hid (iValidKernel c hb true ⟨fun _ => h, fun _ => rfl⟩)
  have HV2 := hid (iValidKernel d hd false ⟨fun h => Bool.noConfusion h, fun h => absurd h h'⟩)
  clear h h' hb hd
  go_enter Try.func65, Try.ntmps65
  go_wp2_with (refine wpList_load_row rfl 53 _ rfl (w.heap.size) rfl 53 (vls 400 (flw c)) (0, 0) _ A0.out Try.underlying53 rfl (by rw [vls_size]; exact info_kern) ?_)
  refine (HV.out _).mono ?_
  rintro e w1 ⟨rfl, hb1⟩
  have A1 := hid (A1.out.stay hb1)
  have A2 := hid (A2.out.stay hb1)
  have b1 := stp b0 (Nat.le_refl _) hb1
  go_wp2_with (refine wpList_load_g rfl 53 _ rfl (w.heap.size + 1) rfl 53 (vls 400 (flw d)) (0, 0) _ A1.out Try.underlying53 rfl (by rw [vls_size]; exact info_kern) ?_)
  refine (HV2.out _).mono ?_
  rintro e w2 ⟨rfl, hb2⟩
  have A3 := hid (A2.out.stay hb2)
  have b3 := stp b1 (Nat.le_refl _) hb2
  go_wp2_with (refine wpList_store_row rfl 53 _ _ rfl (w.heap.size + 1 + 1) (vls 400 (flw fun _ => 0)) rfl rfl 53 _ A3.out (by rw [vls_size]; exact info_kern) (by simp) (vls_one (flw_one _)) ?_)
  exact bodyPost_ret (results_row_tmp rfl _ _ (w.heap.size + 1 + 1) 53 (vls 400 (flw fun _ => 0)) (0, 0) _ rfl (A3.out.setRow (flw fun _ => 0)) Try.underlying53 rfl (by rw [vls_size]; exact info_kern)) rfl ⟨rfl, below_row b3 (by omega) _⟩

set_option maxRecDepth 100000 in
theorem sAddK_bad (c d : Nat → Nat) (hb : ∀ i, i < 400 → c i < 4294967296) (h : ¬ KOk c) (w : World) :
    Calls Try.prog 64 #[.agg (vls 400 (flw c)), .agg (vls 400 (flw d))] w fun e w' => e = .returned (.tuple #[.agg (vls 400 (flw fun _ => 0)), .int .i64 1]) ∧ Below w.heap.size w w' := by
  have A0 := hid (((vAt.new w 400 (flw c) 53).alloc (.cells (vls 400 (flw d)) 53)).alloc (.cells (vls 400 (flw fun _ => 0)) 53))
  have A1 := hid ((vAt.new1 w (.cells (vls 400 (flw c)) 53) 400 (flw d) 53).alloc (.cells (vls 400 (flw fun _ => 0)) 53))
  have A2 := hid (vAt.new2 w (.cells (vls 400 (flw c)) 53) (.cells (vls 400 (flw d)) 53) 400 (flw fun _ => 0) 53)
  have b0 := boxed3 w (.cells (vls 400 (flw c)) 53) (.cells (vls 400 (flw d)) 53) (.cells (vls 400 (flw fun _ => 0)) 53)
  have HV := hid (sKOk c hb false ⟨fun h' => Bool.noConfusion h', fun h' => absurd h' h⟩)
  clear h hb
  go_enter Try.func64, Try.ntmps64
  go_wp2_with fail
  refine (HV.out _ w.heap.size 53 A0.out).mono ?_
  rintro e w1 ⟨rfl, hb1⟩
  have A3 := hid (A2.out.stay hb1)
  have b3 := stp b0 (Nat.le_refl _) hb1
  go_wp2_with (refine wpList_store_row rfl 53 _ _ rfl (w.heap.size + 1 + 1) (vls 400 (flw fun _ => 0)) rfl rfl 53 _ A3.out (by rw [vls_size]; exact info_kern) (by simp) (vls_one (flw_one _)) ?_)
  exact bodyPost_ret (results_row_tmp rfl _ _ (w.heap.size + 1 + 1) 53 (vls 400 (flw fun _ => 0)) (0, 0) _ rfl (A3.out.setRow (flw fun _ => 0)) Try.underlying53 rfl (by rw [vls_size]; exact info_kern)) rfl ⟨rfl, below_row b3 (by omega) _⟩

set_option maxRecDepth 100000 in
theorem sAddK_bad2 (c d : Nat → Nat) (hb : ∀ i, i < 400 → c i < 4294967296) (hd : ∀ i, i < 400 → d i < 4294967296) (h : KOk c) (h' : ¬ KOk d) (w : World) :
    Calls Try.prog 64 #[.agg (vls 400 (flw c)), .agg (vls 400 (flw d))] w fun e w' => e = .returned (.tuple #[.agg (vls 400 (flw fun _ => 0)), .int .i64 1]) ∧ Below w.heap.size w w' := by
  have A0 := hid (((vAt.new w 400 (flw c) 53).alloc (.cells (vls 400 (flw d)) 53)).alloc (.cells (vls 400 (flw fun _ => 0)) 53))
  have A1 := hid ((vAt.new1 w (.cells (vls 400 (flw c)) 53) 400 (flw d) 53).alloc (.cells (vls 400 (flw fun _ => 0)) 53))
  have A2 := hid (vAt.new2 w (.cells (vls 400 (flw c)) 53) (.cells (vls 400 (flw d)) 53) 400 (flw fun _ => 0) 53)
  have b0 := boxed3 w (.cells (vls 400 (flw c)) 53) (.cells (vls 400 (flw d)) 53) (.cells (vls 400 (flw fun _ => 0)) 53)
  have HV := hid (sKOk c hb true ⟨fun _ => h, fun _ => rfl⟩)
  have HV2 := hid (sKOk d hd false ⟨fun h => Bool.noConfusion h, fun h => absurd h h'⟩)
  clear h h' hb hd
  go_enter Try.func64, Try.ntmps64
  go_wp2_with fail
  refine (HV.out _ w.heap.size 53 A0.out).mono ?_
  rintro e w1 ⟨rfl, hb1⟩
  have A1 := hid (A1.out.stay hb1)
  have A2 := hid (A2.out.stay hb1)
  have b1 := stp b0 (Nat.le_refl _) hb1
  go_wp2_with fail
  refine (HV2.out _ (w.heap.size + 1) 53 A1.out).mono ?_
  rintro e w2 ⟨rfl, hb2⟩
  have A3 := hid (A2.out.stay hb2)
  have b3 := stp b1 (Nat.le_refl _) hb2
  go_wp2_with (refine wpList_store_row rfl 53 _ _ rfl (w.heap.size + 1 + 1) (vls 400 (flw fun _ => 0)) rfl rfl 53 _ A3.out (by rw [vls_size]; exact info_kern) (by simp) (vls_one (flw_one _)) ?_)
  exact bodyPost_ret (results_row_tmp rfl _ _ (w.heap.size + 1 + 1) 53 (vls 400 (flw fun _ => 0)) (0, 0) _ rfl (A3.out.setRow (flw fun _ => 0)) Try.underlying53 rfl (by rw [vls_size]; exact info_kern)) rfl ⟨rfl, below_row b3 (by omega) _⟩

set_option maxHeartbeats 1000000 in
set_option maxRecDepth 100000 in
theorem sAddK_ok (c d : Nat → Nat) (hb : ∀ i, i < 400 → c i < 4294967296) (hd : ∀ i, i < 400 → d i < 4294967296) (h : KOk c) (h' : KOk d) (r : Nat → Nat) (q : Int) (h1 : FinN (addN c d) 400 → r = addN c d ∧ q = 0) (h2 : ¬ FinN (addN c d) 400 → r = (fun _ => 0) ∧ q = 4) (w : World) :
    Calls Try.prog 64 #[.agg (vls 400 (flw c)), .agg (vls 400 (flw d))] w fun e w' => e = .returned (.tuple #[.agg (vls 400 (flw r)), .int .i64 q]) ∧ Below w.heap.size w w' := by
  have A0 := hid (((vAt.new w 400 (flw c) 53).alloc (.cells (vls 400 (flw d)) 53)).alloc (.cells (vls 400 (flw fun _ => 0)) 53))
  have A1 := hid ((vAt.new1 w (.cells (vls 400 (flw c)) 53) 400 (flw d) 53).alloc (.cells (vls 400 (flw fun _ => 0)) 53))
  have A2 := hid (vAt.new2 w (.cells (vls 400 (flw c)) 53) (.cells (vls 400 (flw d)) 53) 400 (flw fun _ => 0) 53)
  have b0 := boxed3 w (.cells (vls 400 (flw c)) 53) (.cells (vls 400 (flw d)) 53) (.cells (vls 400 (flw fun _ => 0)) 53)
  have HV := hid (sKOk c hb true ⟨fun _ => h, fun _ => rfl⟩)
  have HV2 := hid (sKOk d hd true ⟨fun _ => h', fun _ => rfl⟩)
  have H1 := hid h1
  have H2 := hid h2
  have HA := hid h.1
  have HD := hid h'.1
  clear h1 h2 h h' hb hd
  go_enter Try.func64, Try.ntmps64
  go_wp2_with fail
  refine (HV.out _ w.heap.size 53 A0.out).mono ?_
  rintro e w1 ⟨rfl, hb1⟩
  have A0 := hid (A0.out.stay hb1)
  have A1 := hid (A1.out.stay hb1)
  have A2 := hid (A2.out.stay hb1)
  have b1 := stp b0 (Nat.le_refl _) hb1
  go_wp2_with fail
  refine (HV2.out _ (w.heap.size + 1) 53 A1.out).mono ?_
  rintro e w2 ⟨rfl, hb2⟩
  have A0 := hid (A0.out.stay hb2)
  have A1 := hid (A1.out.stay hb2)
  have A2 := hid (A2.out.stay hb2)
  have b2 := stp b1 (Nat.le_refl _) hb2
  go_wp2_with fail
  go_loopw [6] (fun i wr => ∃ k : Nat, k ≤ 20 ∧ i = .int .i64 k ∧ Hid (vAt wr w.heap.size 400 (flw (prt (addN c d) c (k * 20))) 53) ∧ Hid (vAt wr (w.heap.size + 1) 400 (flw d) 53) ∧ Hid (vAt wr (w.heap.size + 1 + 1) 400 (flw fun _ => 0) 53) ∧ Hid (Below w.heap.size w wr)) (fun i _ => 20 - (intOf i).toNat)
  case atStart => exact ⟨0, by omega, rfl, hid (A0.out.ext fun i _ => by unfold flw; rw [show (0 : Nat) * 20 = 0 from rfl, part_zero]), A1, A2, hid b2⟩
  case round =>
   obtain ⟨k, hk, rfl, h0, hd, h1, hb⟩ := hrel
   clear A0 A1 A2 b0 b1 b2
   by_cases hlt : k < 20
   · have HK := hid hlt
     have hk3 : (k : Int) < 20 := by omega
     go_wp2_with fail
     go_loopw [7] (fun i wr => ∃ j : Nat, j ≤ 20 ∧ i = .int .i64 j ∧ Hid (vAt wr w.heap.size 400 (flw (prt (addN c d) c (k * 20 + j))) 53) ∧ Hid (vAt wr (w.heap.size + 1) 400 (flw d) 53) ∧ Hid (vAt wr (w.heap.size + 1 + 1) 400 (flw fun _ => 0) 53) ∧ Hid (Below w.heap.size w wr)) (fun i _ => 20 - (intOf i).toNat)
     case atStart => exact ⟨0, by omega, rfl, h0, hd, h1, hb⟩
     case round =>
       clear h0 h1 hb hd
       obtain ⟨j, hj, rfl, h0, hd, h1, hb⟩ := hrel
       by_cases hlj : j < 20
       · have HJ := hid hlj
         have hj3 : (j : Int) < 20 := by omega
         have hn : k * 20 + j < 400 := by have := HK.out; omega
         go_wp2_with fail
         have h0 := hid h0.out.drew
         have hd := hid hd.out.drew
         have h1 := hid h1.out.drew
         have hb := hid hb.out.drew
         refine wp_region_still_tail 15 (by kernel_rfl) (by kernel_rfl) ?_
         change wpStill _ _ wr.drew (fun a' => wpList _ _ _ _ a' wr.drew) _ _
         simp only [List.take_succ_cons, List.take_zero, List.drop_succ_cons, List.drop_zero]
         generalize wr.drew = w3 at h0 hd h1 hb ⊢
         have r2 := fun w => run_add (P := Try.prog) 22 (amt_nn (HA.out _ hn)) (amt_nn (HD.out _ hn)) w
         obtain ⟨v, hv⟩ : ∃ v, fadd (c (k * 20 + j)) (d (k * 20 + j)) = v := ⟨_, rfl⟩
         have EV := hid (show v = addN c d (k * 20 + j) from hv.symm)
         rw [hv] at r2
         clear hv
         have q0 : w3.cell? ⟨w.heap.size, k * 20 + j, none⟩ = some (.float .f32 (c (k * 20 + j))) := (h0.out.fcell hn).trans (by rw [part_here])
         have q1 := hd.out.fcell hn
         have f0 := h0.out.frozen (k * 20 + j)
         have n0 := hid ((h0.out.fset (k * 20 + j) v).ext (d := flw (prt (addN c d) c (k * 20 + (j + 1)))) fun i _ => by unfold flw; rw [EV.out]; rw [part_succ (addN c d) c (k * 20 + j) i]; rfl)
         have nd := hid (hd.out.setOther (a := ⟨w.heap.size, k * 20 + j, none⟩) (by simp) (.float .f32 v))
         have n1 := hid (h1.out.setOther (a := ⟨w.heap.size, k * 20 + j, none⟩) (by simp; omega) (.float .f32 v))
         have nb := hb.out.setCell (p := ⟨w.heap.size, k * 20 + j, none⟩) (Nat.le_refl _) (.float .f32 v)
         iterate 12 still_step
         refine still_val rfl (.float .f32 v) (run_binop_val _ _ _ _ (by rfl) (by rfl) (by simp [eqGuard]) (r2 _)) ?_
         simp only [Act.put, List.setIfInBounds_toArray, List.set_cons_zero, List.set_cons_succ]
         repeat still_step
         refine wpStill_nil ?_
         go_wp2
         go_roundw
         case rel => exact ⟨j + 1, by omega, by go_num, n0, nd, n1, hid nb⟩
         case measure => simp [intOf]; omega
       · obtain rfl : j = 20 := by omega
         go_wp2
         go_roundw
         case rel => exact ⟨k + 1, by omega, by go_num, by rw [show (k + 1) * 20 = k * 20 + 20 by omega]; exact h0, hd, h1, hb⟩
         case measure => simp [intOf]; omega
   · obtain rfl : k = 20 := by omega
     have h0 := hid (h0.out.ext (d := flw (addN c d)) fun i hi => by unfold flw; rw [show prt (addN c d) c (20 * 20) i = addN c d i from if_pos hi])
     go_wp2_with (refine wpList_load_row rfl 53 _ rfl (w.heap.size) rfl 53 (vls 400 (flw (addN c d))) (0, 0) _ h0.out Try.underlying53 rfl (by rw [vls_size]; exact info_kern) ?_)
     refine (sTold3 (addN c d) (fun n hn => nn_lt (addN_nn HA.out HD.out hn)) r q H1.out H2.out _).mono ?_
     rintro e w5 ⟨rfl, hb5⟩
     have A3 := hid (h1.out.stay hb5)
     have b3 := stp hb.out (Nat.le_refl _) hb5
     go_wp2_with (refine wpList_store_row rfl 53 _ _ rfl (w.heap.size + 1 + 1) (vls 400 (flw r)) rfl rfl 53 _ A3.out (by rw [vls_size]; exact info_kern) (by simp) (vls_one (flw_one _)) ?_)
     exact bodyPost_ret (results_row_tmp rfl _ _ (w.heap.size + 1 + 1) 53 (vls 400 (flw r)) (0, 0) _ rfl (A3.out.setRow (flw r)) Try.underlying53 rfl (by rw [vls_size]; exact info_kern)) rfl ⟨rfl, below_row b3 (by omega) _⟩

theorem alloc_kern (a : Operand → Value) (d : Option Tmp) (t : TypeId) (ps : String) (af : Array Edge) (gd : Option (Nat × Bool)) (w : World) :
    (execOp a ⟨d, .alloc 53, t, ps, af, gd⟩).run Try.prog w = .ok (.value (.pointer (some ⟨w.heap.size, 0, none⟩))) (w.alloc (.cells (vls 400 (flw fun _ => 0)) 53)) := by
  unfold execOp
  go_simp

theorem run_toKernel1 (a : Act) (x0 : Operand) (v0 : Value) (h0 : a.eval x0 = v0) (d : Option Tmp) (ats : Array TypeId) (t : TypeId) (ps : String) (af : Array Edge) (gd : Option (Nat × Bool)) (w : World) :
    (execOp a.eval ⟨d, .call { callee := .value (.func 51), args := #[x0], argTypes := ats }, t, ps, af, gd⟩).run Try.prog w = .ok (.enter 51 #[v0]) w := by
  subst h0
  unfold execOp
  go_simp

theorem run_sAddKernels2 (a : Act) (x0 : Operand) (v0 : Value) (h0 : a.eval x0 = v0) (x1 : Operand) (v1 : Value) (h1 : a.eval x1 = v1) (d : Option Tmp) (ats : Array TypeId) (t : TypeId) (ps : String) (af : Array Edge) (gd : Option (Nat × Bool)) (w : World) :
    (execOp a.eval ⟨d, .call { callee := .value (.func 64), args := #[x0, x1], argTypes := ats }, t, ps, af, gd⟩).run Try.prog w = .ok (.enter 64 #[v0, v1]) w := by
  subst h0 h1
  unfold execOp
  go_simp

theorem run_iAddKernels2 (a : Act) (x0 : Operand) (v0 : Value) (h0 : a.eval x0 = v0) (x1 : Operand) (v1 : Value) (h1 : a.eval x1 = v1) (d : Option Tmp) (ats : Array TypeId) (t : TypeId) (ps : String) (af : Array Edge) (gd : Option (Nat × Bool)) (w : World) :
    (execOp a.eval ⟨d, .call { callee := .value (.func 65), args := #[x0, x1], argTypes := ats }, t, ps, af, gd⟩).run Try.prog w = .ok (.enter 65 #[v0, v1]) w := by
  subst h0 h1
  unfold execOp
  go_simp

set_option maxRecDepth 100000 in
set_option maxHeartbeats 2000000 in
theorem coreAddKernels (x0 : Nat → Nat) (x1 : Nat → Nat) (r0 : Nat → Nat) (hl0 : ∀ i, i < 400 → r0 i < 4294967296) (hf0 : ∀ i, i < 400 → finB (r0 i) = true) (r1 : Int)
    (hS : ∀ w, Calls Try.prog 64 #[.agg (vls 400 (flw x0)), .agg (vls 400 (flw x1))] w fun e w' => e = .returned (.tuple #[.agg (vls 400 (flw r0)), .int .i64 r1]) ∧ Below w.heap.size w w')
    (hI : ∀ w, Calls Try.prog 65 #[.agg (vls 400 (flw x0)), .agg (vls 400 (flw x1))] w fun e w' => e = .returned (.tuple #[.agg (vls 400 (flw r0)), .int .i64 r1]) ∧ Below w.heap.size w w') (w : World) :
    Calls Try.prog 15 #[.agg (vls 400 (flw x0)), .agg (vls 400 (flw x1))] w fun e w' => e = .returned (.bool true) ∧ Below w.heap.size w w' := by
  have k0 : Hid (Kept w [(w.heap.size, vls 400 (flw x0), 51), (w.heap.size + 1, vls 400 (flw x1), 51)] ((w.alloc (.cells (vls 400 (flw x0)) 51)).alloc (.cells (vls 400 (flw x1)) 51))) := hid ((((Kept.nil w).push (vls 400 (flw x0)) 51).push (vls 400 (flw x1)) 51).sub (by simp))
  have HS := hid hS
  have HI := hid hI
  clear hS hI
  have Hl0 := hid hl0
  have Hf0 := hid hf0
  clear hl0 hf0
  go_enter Try.func15, Try.ntmps15
  go_wp2_with fail
  rename_i Q1 K1 hK1
  have key1 : ∀ (a0 : Nat) (w1 : World), Hid (Kept w [(a0, vls 400 (flw r0), 53), (w.heap.size, vls 400 (flw x0), 51), (w.heap.size + 1, vls 400 (flw x1), 51)] w1) → K1 { tmps := (.agg (vls 400 (flw x0)) :: .agg (vls 400 (flw x1)) :: .pointer (some ⟨w.heap.size, 0, none⟩) :: .pointer (some ⟨w.heap.size + 1, 0, none⟩) :: .bool false :: .pointer (some ⟨a0, 0, none⟩) :: .int .i64 r1 :: undef :: undef :: .tuple #[.agg (vls 400 (flw r0)), .int .i64 r1] :: .agg (vls 400 (flw x0)) :: .agg (vls 400 (flw x0)) :: .agg (vls 400 (flw x1)) :: .agg (vls 400 (flw x1)) :: .tuple #[.agg (vls 400 (flw r0)), .int .i64 r1] :: .agg (vls 400 (flw r0)) :: .int .i64 r1 :: undef :: undef :: undef :: undef :: undef :: undef :: undef :: undef :: undef :: undef :: undef :: undef :: undef :: undef :: undef :: undef :: undef :: []).toArray, defers := [] } w1 := by
    intro a0 w1 k1
    clear k0
    go_wp2_with fail
    rename_i K2 hK2
    have key2 : ∀ (b0 : Nat) (w2 : World), Hid (Kept w [(b0, vls 400 (flw r0), 53), (a0, vls 400 (flw r0), 53), (w.heap.size, vls 400 (flw x0), 51), (w.heap.size + 1, vls 400 (flw x1), 51)] w2) → K2 { tmps := (.agg (vls 400 (flw x0)) :: .agg (vls 400 (flw x1)) :: .pointer (some ⟨w.heap.size, 0, none⟩) :: .pointer (some ⟨w.heap.size + 1, 0, none⟩) :: .bool false :: .pointer (some ⟨a0, 0, none⟩) :: .int .i64 r1 :: .pointer (some ⟨b0, 0, none⟩) :: .int .i64 r1 :: .tuple #[.agg (vls 400 (flw r0)), .int .i64 r1] :: .agg (vls 400 (flw x0)) :: .agg (vls 400 (flw x0)) :: .agg (vls 400 (flw x1)) :: .agg (vls 400 (flw x1)) :: .tuple #[.agg (vls 400 (flw r0)), .int .i64 r1] :: .agg (vls 400 (flw r0)) :: .int .i64 r1 :: .tuple #[.agg (vls 400 (flw r0)), .int .i64 r1] :: .agg (vls 400 (flw x0)) :: .agg (vls 400 (flw x0)) :: .agg (vls 400 (flw x1)) :: .agg (vls 400 (flw x1)) :: .tuple #[.agg (vls 400 (flw r0)), .int .i64 r1] :: .agg (vls 400 (flw r0)) :: .int .i64 r1 :: undef :: undef :: undef :: undef :: undef :: undef :: undef :: undef :: undef :: []).toArray, defers := [] } w2 := by
      intro b0 w2 k2
      clear k1 HS HI
      go_wp2_with (first | (refine wpList_load_row rfl 53 _ rfl (b0) rfl 53 (vls 400 (flw r0)) (0, 0) _ (k2.out.at (x := (b0, vls 400 (flw r0), 53)) (by simp)) Try.underlying53 rfl (by rw [vls_size]; exact info_kern) ?_) | (refine wpList_load_row rfl 53 _ rfl (a0) rfl 53 (vls 400 (flw r0)) (0, 0) _ (k2.out.at (x := (a0, vls 400 (flw r0), 53)) (by simp)) Try.underlying53 rfl (by rw [vls_size]; exact info_kern) ?_))
      refine (eqKernel r0 Hl0.out Hf0.out _).mono ?_
      rintro e w3 ⟨rfl, hb3⟩
      have k3 := hid (k2.out.stay hb3)
      go_wp2
      all_goals go_ret
      all_goals exact ⟨rfl, k3.out.1⟩
    refine region_kept (w0 := w) (l := [(a0, vls 400 (flw r0), 53), (w.heap.size, vls 400 (flw x0), 51), (w.heap.size + 1, vls 400 (flw x1), 51)]) 11 #[false, false, false, false, false, false, false, false, false, false, false] (by kernel_rfl) rfl rfl ?_
    have kd := k1.out.drew
    clear k1
    generalize w1.drew = wd at kd ⊢
    refine take_load 0 { tmps := (.agg (vls 400 (flw x0)) :: .agg (vls 400 (flw x1)) :: .pointer (some ⟨w.heap.size, 0, none⟩) :: .pointer (some ⟨w.heap.size + 1, 0, none⟩) :: .bool false :: .pointer (some ⟨a0, 0, none⟩) :: .int .i64 r1 :: undef :: undef :: .tuple #[.agg (vls 400 (flw r0)), .int .i64 r1] :: .agg (vls 400 (flw x0)) :: .agg (vls 400 (flw x0)) :: .agg (vls 400 (flw x1)) :: .agg (vls 400 (flw x1)) :: .tuple #[.agg (vls 400 (flw r0)), .int .i64 r1] :: .agg (vls 400 (flw r0)) :: .int .i64 r1 :: undef :: .agg (vls 400 (flw x0)) :: undef :: undef :: undef :: undef :: undef :: undef :: undef :: undef :: undef :: undef :: undef :: undef :: undef :: undef :: undef :: []).toArray, defers := [] } #[true, false, false, false, false, false, false, false, false, false, false] rfl (by rfl) (by kernel_rfl) (by kernel_rfl) (by kernel_rfl) 51 _ rfl (w.heap.size) (vls 400 (flw x0)) 51 (by rfl) (by simp) _ Try.underlying51 rfl (by rw [vls_size]; exact info_k20) (by rfl) (by rfl) (kd) ?_
    refine take_load 2 { tmps := (.agg (vls 400 (flw x0)) :: .agg (vls 400 (flw x1)) :: .pointer (some ⟨w.heap.size, 0, none⟩) :: .pointer (some ⟨w.heap.size + 1, 0, none⟩) :: .bool false :: .pointer (some ⟨a0, 0, none⟩) :: .int .i64 r1 :: undef :: undef :: .tuple #[.agg (vls 400 (flw r0)), .int .i64 r1] :: .agg (vls 400 (flw x0)) :: .agg (vls 400 (flw x0)) :: .agg (vls 400 (flw x1)) :: .agg (vls 400 (flw x1)) :: .tuple #[.agg (vls 400 (flw r0)), .int .i64 r1] :: .agg (vls 400 (flw r0)) :: .int .i64 r1 :: undef :: .agg (vls 400 (flw x0)) :: undef :: .agg (vls 400 (flw x1)) :: undef :: undef :: undef :: undef :: undef :: undef :: undef :: undef :: undef :: undef :: undef :: undef :: undef :: []).toArray, defers := [] } #[true, false, true, false, false, false, false, false, false, false, false] rfl (by rfl) (by kernel_rfl) (by kernel_rfl) (by kernel_rfl) 51 _ rfl (w.heap.size + 1) (vls 400 (flw x1)) 51 (by rfl) (by simp) _ Try.underlying51 rfl (by rw [vls_size]; exact info_k20) (by rfl) (by rfl) (kd) ?_
    refine wpAnyH_ready (rs := [1, 8]) (by kernel_rfl) (by simp) ?_
    refine callK 1 { tmps := (.agg (vls 400 (flw x0)) :: .agg (vls 400 (flw x1)) :: .pointer (some ⟨w.heap.size, 0, none⟩) :: .pointer (some ⟨w.heap.size + 1, 0, none⟩) :: .bool false :: .pointer (some ⟨a0, 0, none⟩) :: .int .i64 r1 :: undef :: undef :: .tuple #[.agg (vls 400 (flw r0)), .int .i64 r1] :: .agg (vls 400 (flw x0)) :: .agg (vls 400 (flw x0)) :: .agg (vls 400 (flw x1)) :: .agg (vls 400 (flw x1)) :: .tuple #[.agg (vls 400 (flw r0)), .int .i64 r1] :: .agg (vls 400 (flw r0)) :: .int .i64 r1 :: undef :: .agg (vls 400 (flw x0)) :: .agg (vls 400 (flw x0)) :: .agg (vls 400 (flw x1)) :: undef :: undef :: undef :: undef :: undef :: undef :: undef :: undef :: undef :: undef :: undef :: undef :: undef :: []).toArray, defers := [] } #[true, true, true, false, false, false, false, false, false, false, false] (.agg (vls 400 (flw x0))) kd rfl (by rfl) 51 #[.agg (vls 400 (flw x0))] (run_toKernel1 _ _ _ rfl _ _ _ _ _ _) (by rfl) (by rfl) (toKernel _ _) (fun w1 k1 => ?_) ?_
    · refine ⟨k1, ?_⟩
      refine wpAnyH_ready (rs := [3, 8]) (by kernel_rfl) (by simp) ?_
      refine callK 3 { tmps := (.agg (vls 400 (flw x0)) :: .agg (vls 400 (flw x1)) :: .pointer (some ⟨w.heap.size, 0, none⟩) :: .pointer (some ⟨w.heap.size + 1, 0, none⟩) :: .bool false :: .pointer (some ⟨a0, 0, none⟩) :: .int .i64 r1 :: undef :: undef :: .tuple #[.agg (vls 400 (flw r0)), .int .i64 r1] :: .agg (vls 400 (flw x0)) :: .agg (vls 400 (flw x0)) :: .agg (vls 400 (flw x1)) :: .agg (vls 400 (flw x1)) :: .tuple #[.agg (vls 400 (flw r0)), .int .i64 r1] :: .agg (vls 400 (flw r0)) :: .int .i64 r1 :: undef :: .agg (vls 400 (flw x0)) :: .agg (vls 400 (flw x0)) :: .agg (vls 400 (flw x1)) :: .agg (vls 400 (flw x1)) :: undef :: undef :: undef :: undef :: undef :: undef :: undef :: undef :: undef :: undef :: undef :: undef :: []).toArray, defers := [] } #[true, true, true, true, false, false, false, false, false, false, false] (.agg (vls 400 (flw x1))) k1 rfl (by rfl) 51 #[.agg (vls 400 (flw x1))] (run_toKernel1 _ _ _ rfl _ _ _ _ _ _) (by rfl) (by rfl) (toKernel _ _) (fun w2 k2 => ?_) ?_
      · refine ⟨k2, ?_⟩
        refine wpAnyH_ready (rs := [4, 8]) (by kernel_rfl) (by simp) ?_
        refine callK 4 { tmps := (.agg (vls 400 (flw x0)) :: .agg (vls 400 (flw x1)) :: .pointer (some ⟨w.heap.size, 0, none⟩) :: .pointer (some ⟨w.heap.size + 1, 0, none⟩) :: .bool false :: .pointer (some ⟨a0, 0, none⟩) :: .int .i64 r1 :: undef :: undef :: .tuple #[.agg (vls 400 (flw r0)), .int .i64 r1] :: .agg (vls 400 (flw x0)) :: .agg (vls 400 (flw x0)) :: .agg (vls 400 (flw x1)) :: .agg (vls 400 (flw x1)) :: .tuple #[.agg (vls 400 (flw r0)), .int .i64 r1] :: .agg (vls 400 (flw r0)) :: .int .i64 r1 :: undef :: .agg (vls 400 (flw x0)) :: .agg (vls 400 (flw x0)) :: .agg (vls 400 (flw x1)) :: .agg (vls 400 (flw x1)) :: .tuple #[.agg (vls 400 (flw r0)), .int .i64 r1] :: undef :: undef :: undef :: undef :: undef :: undef :: undef :: undef :: undef :: undef :: undef :: []).toArray, defers := [] } #[true, true, true, true, true, false, false, false, false, false, false] (.tuple #[.agg (vls 400 (flw r0)), .int .i64 r1]) k2 rfl (by rfl) 65 #[.agg (vls 400 (flw x0)), .agg (vls 400 (flw x1))] (run_iAddKernels2 _ _ _ rfl _ _ rfl _ _ _ _ _ _) (by rfl) (by rfl) (HI.out _) (fun w3 k3 => ?_) ?_
        · refine ⟨k3, ?_⟩
          refine take_val 5 { tmps := (.agg (vls 400 (flw x0)) :: .agg (vls 400 (flw x1)) :: .pointer (some ⟨w.heap.size, 0, none⟩) :: .pointer (some ⟨w.heap.size + 1, 0, none⟩) :: .bool false :: .pointer (some ⟨a0, 0, none⟩) :: .int .i64 r1 :: undef :: undef :: .tuple #[.agg (vls 400 (flw r0)), .int .i64 r1] :: .agg (vls 400 (flw x0)) :: .agg (vls 400 (flw x0)) :: .agg (vls 400 (flw x1)) :: .agg (vls 400 (flw x1)) :: .tuple #[.agg (vls 400 (flw r0)), .int .i64 r1] :: .agg (vls 400 (flw r0)) :: .int .i64 r1 :: .tuple #[.agg (vls 400 (flw r0)), .int .i64 r1] :: .agg (vls 400 (flw x0)) :: .agg (vls 400 (flw x0)) :: .agg (vls 400 (flw x1)) :: .agg (vls 400 (flw x1)) :: .tuple #[.agg (vls 400 (flw r0)), .int .i64 r1] :: undef :: undef :: undef :: undef :: undef :: undef :: undef :: undef :: undef :: undef :: undef :: []).toArray, defers := [] } #[true, true, true, true, true, true, false, false, false, false, false] (.tuple #[.agg (vls 400 (flw r0)), .int .i64 r1]) rfl (by rfl) (by kernel_rfl) (by kernel_rfl) (by kernel_rfl) (fun w => by rfl) (by rfl) (by rfl) (k3) ?_
          refine take_val 6 { tmps := (.agg (vls 400 (flw x0)) :: .agg (vls 400 (flw x1)) :: .pointer (some ⟨w.heap.size, 0, none⟩) :: .pointer (some ⟨w.heap.size + 1, 0, none⟩) :: .bool false :: .pointer (some ⟨a0, 0, none⟩) :: .int .i64 r1 :: undef :: undef :: .tuple #[.agg (vls 400 (flw r0)), .int .i64 r1] :: .agg (vls 400 (flw x0)) :: .agg (vls 400 (flw x0)) :: .agg (vls 400 (flw x1)) :: .agg (vls 400 (flw x1)) :: .tuple #[.agg (vls 400 (flw r0)), .int .i64 r1] :: .agg (vls 400 (flw r0)) :: .int .i64 r1 :: .tuple #[.agg (vls 400 (flw r0)), .int .i64 r1] :: .agg (vls 400 (flw x0)) :: .agg (vls 400 (flw x0)) :: .agg (vls 400 (flw x1)) :: .agg (vls 400 (flw x1)) :: .tuple #[.agg (vls 400 (flw r0)), .int .i64 r1] :: .agg (vls 400 (flw r0)) :: undef :: undef :: undef :: undef :: undef :: undef :: undef :: undef :: undef :: undef :: []).toArray, defers := [] } #[true, true, true, true, true, true, true, false, false, false, false] (.agg (vls 400 (flw r0))) rfl (by rfl) (by kernel_rfl) (by kernel_rfl) (by kernel_rfl) (fun w => by rfl) (by rfl) (by rfl) (k3) ?_
          refine take_val 7 { tmps := (.agg (vls 400 (flw x0)) :: .agg (vls 400 (flw x1)) :: .pointer (some ⟨w.heap.size, 0, none⟩) :: .pointer (some ⟨w.heap.size + 1, 0, none⟩) :: .bool false :: .pointer (some ⟨a0, 0, none⟩) :: .int .i64 r1 :: undef :: undef :: .tuple #[.agg (vls 400 (flw r0)), .int .i64 r1] :: .agg (vls 400 (flw x0)) :: .agg (vls 400 (flw x0)) :: .agg (vls 400 (flw x1)) :: .agg (vls 400 (flw x1)) :: .tuple #[.agg (vls 400 (flw r0)), .int .i64 r1] :: .agg (vls 400 (flw r0)) :: .int .i64 r1 :: .tuple #[.agg (vls 400 (flw r0)), .int .i64 r1] :: .agg (vls 400 (flw x0)) :: .agg (vls 400 (flw x0)) :: .agg (vls 400 (flw x1)) :: .agg (vls 400 (flw x1)) :: .tuple #[.agg (vls 400 (flw r0)), .int .i64 r1] :: .agg (vls 400 (flw r0)) :: .int .i64 r1 :: undef :: undef :: undef :: undef :: undef :: undef :: undef :: undef :: undef :: []).toArray, defers := [] } #[true, true, true, true, true, true, true, true, false, false, false] (.int .i64 r1) rfl (by rfl) (by kernel_rfl) (by kernel_rfl) (by kernel_rfl) (fun w => by rfl) (by rfl) (by rfl) (k3) ?_
          refine wpAnyH_ready (rs := [8]) (by kernel_rfl) (by simp) ?_
          refine allocK 8 (fun g4 => { tmps := (.agg (vls 400 (flw x0)) :: .agg (vls 400 (flw x1)) :: .pointer (some ⟨w.heap.size, 0, none⟩) :: .pointer (some ⟨w.heap.size + 1, 0, none⟩) :: .bool false :: .pointer (some ⟨a0, 0, none⟩) :: .int .i64 r1 :: .pointer (some ⟨g4, 0, none⟩) :: undef :: .tuple #[.agg (vls 400 (flw r0)), .int .i64 r1] :: .agg (vls 400 (flw x0)) :: .agg (vls 400 (flw x0)) :: .agg (vls 400 (flw x1)) :: .agg (vls 400 (flw x1)) :: .tuple #[.agg (vls 400 (flw r0)), .int .i64 r1] :: .agg (vls 400 (flw r0)) :: .int .i64 r1 :: .tuple #[.agg (vls 400 (flw r0)), .int .i64 r1] :: .agg (vls 400 (flw x0)) :: .agg (vls 400 (flw x0)) :: .agg (vls 400 (flw x1)) :: .agg (vls 400 (flw x1)) :: .tuple #[.agg (vls 400 (flw r0)), .int .i64 r1] :: .agg (vls 400 (flw r0)) :: .int .i64 r1 :: undef :: undef :: undef :: undef :: undef :: undef :: undef :: undef :: undef :: []).toArray, defers := [] }) #[true, true, true, true, true, true, true, true, true, false, false] k3 rfl (by rfl) (vls 400 (flw fun _ => 0)) 53 (alloc_kern _ _ _ _ _ _ _) (fun g => by rfl) (by rfl) (fun w4 g4 k4 hB4 hn4 => ?_) AllReadyH.nil
          refine ⟨k4.tail, ?_⟩
          refine wpAnyH_ready (rs := [9]) (by kernel_rfl) (by simp) ?_
          refine storeK 9 { tmps := (.agg (vls 400 (flw x0)) :: .agg (vls 400 (flw x1)) :: .pointer (some ⟨w.heap.size, 0, none⟩) :: .pointer (some ⟨w.heap.size + 1, 0, none⟩) :: .bool false :: .pointer (some ⟨a0, 0, none⟩) :: .int .i64 r1 :: .pointer (some ⟨g4, 0, none⟩) :: undef :: .tuple #[.agg (vls 400 (flw r0)), .int .i64 r1] :: .agg (vls 400 (flw x0)) :: .agg (vls 400 (flw x0)) :: .agg (vls 400 (flw x1)) :: .agg (vls 400 (flw x1)) :: .tuple #[.agg (vls 400 (flw r0)), .int .i64 r1] :: .agg (vls 400 (flw r0)) :: .int .i64 r1 :: .tuple #[.agg (vls 400 (flw r0)), .int .i64 r1] :: .agg (vls 400 (flw x0)) :: .agg (vls 400 (flw x0)) :: .agg (vls 400 (flw x1)) :: .agg (vls 400 (flw x1)) :: .tuple #[.agg (vls 400 (flw r0)), .int .i64 r1] :: .agg (vls 400 (flw r0)) :: .int .i64 r1 :: undef :: undef :: undef :: undef :: undef :: undef :: undef :: undef :: undef :: []).toArray, defers := [] } #[true, true, true, true, true, true, true, true, true, true, false] k4 hB4 hn4 rfl (by rfl) 53 _ _ rfl (vls 400 (flw r0)) (by rfl) (by rfl) (by rw [vls_size]; exact info_kern) (by simp) (vls_one (flw_one _)) (by rfl) (by rfl) (fun w5 k5 => ?_) AllReadyH.nil
          refine ⟨k5.tail, ?_⟩
          refine take_val 10 { tmps := (.agg (vls 400 (flw x0)) :: .agg (vls 400 (flw x1)) :: .pointer (some ⟨w.heap.size, 0, none⟩) :: .pointer (some ⟨w.heap.size + 1, 0, none⟩) :: .bool false :: .pointer (some ⟨a0, 0, none⟩) :: .int .i64 r1 :: .pointer (some ⟨g4, 0, none⟩) :: .int .i64 r1 :: .tuple #[.agg (vls 400 (flw r0)), .int .i64 r1] :: .agg (vls 400 (flw x0)) :: .agg (vls 400 (flw x0)) :: .agg (vls 400 (flw x1)) :: .agg (vls 400 (flw x1)) :: .tuple #[.agg (vls 400 (flw r0)), .int .i64 r1] :: .agg (vls 400 (flw r0)) :: .int .i64 r1 :: .tuple #[.agg (vls 400 (flw r0)), .int .i64 r1] :: .agg (vls 400 (flw x0)) :: .agg (vls 400 (flw x0)) :: .agg (vls 400 (flw x1)) :: .agg (vls 400 (flw x1)) :: .tuple #[.agg (vls 400 (flw r0)), .int .i64 r1] :: .agg (vls 400 (flw r0)) :: .int .i64 r1 :: undef :: undef :: undef :: undef :: undef :: undef :: undef :: undef :: undef :: []).toArray, defers := [] } #[true, true, true, true, true, true, true, true, true, true, true] (.int .i64 r1) rfl (by rfl) (by kernel_rfl) (by kernel_rfl) (by kernel_rfl) (fun w => by rfl) (by rfl) (by rfl) (k5.tail) ?_
          exact wpAnyH_done (by kernel_rfl) (NoPanic.normal (key2 g4 _ (hid k5))) _
        refine allocK 8 (fun g6 => { tmps := (.agg (vls 400 (flw x0)) :: .agg (vls 400 (flw x1)) :: .pointer (some ⟨w.heap.size, 0, none⟩) :: .pointer (some ⟨w.heap.size + 1, 0, none⟩) :: .bool false :: .pointer (some ⟨a0, 0, none⟩) :: .int .i64 r1 :: .pointer (some ⟨g6, 0, none⟩) :: undef :: .tuple #[.agg (vls 400 (flw r0)), .int .i64 r1] :: .agg (vls 400 (flw x0)) :: .agg (vls 400 (flw x0)) :: .agg (vls 400 (flw x1)) :: .agg (vls 400 (flw x1)) :: .tuple #[.agg (vls 400 (flw r0)), .int .i64 r1] :: .agg (vls 400 (flw r0)) :: .int .i64 r1 :: undef :: .agg (vls 400 (flw x0)) :: .agg (vls 400 (flw x0)) :: .agg (vls 400 (flw x1)) :: .agg (vls 400 (flw x1)) :: undef :: undef :: undef :: undef :: undef :: undef :: undef :: undef :: undef :: undef :: undef :: undef :: []).toArray, defers := [] }) #[true, true, true, true, false, false, false, false, true, false, false] k2 rfl (by rfl) (vls 400 (flw fun _ => 0)) 53 (alloc_kern _ _ _ _ _ _ _) (fun g => by rfl) (by rfl) (fun w6 g6 k6 hB6 hn6 => ?_) AllReadyH.nil
        refine ⟨k6.tail, ?_⟩
        refine wpAnyH_ready (rs := [4]) (by kernel_rfl) (by simp) ?_
        refine callK 4 { tmps := (.agg (vls 400 (flw x0)) :: .agg (vls 400 (flw x1)) :: .pointer (some ⟨w.heap.size, 0, none⟩) :: .pointer (some ⟨w.heap.size + 1, 0, none⟩) :: .bool false :: .pointer (some ⟨a0, 0, none⟩) :: .int .i64 r1 :: .pointer (some ⟨g6, 0, none⟩) :: undef :: .tuple #[.agg (vls 400 (flw r0)), .int .i64 r1] :: .agg (vls 400 (flw x0)) :: .agg (vls 400 (flw x0)) :: .agg (vls 400 (flw x1)) :: .agg (vls 400 (flw x1)) :: .tuple #[.agg (vls 400 (flw r0)), .int .i64 r1] :: .agg (vls 400 (flw r0)) :: .int .i64 r1 :: undef :: .agg (vls 400 (flw x0)) :: .agg (vls 400 (flw x0)) :: .agg (vls 400 (flw x1)) :: .agg (vls 400 (flw x1)) :: .tuple #[.agg (vls 400 (flw r0)), .int .i64 r1] :: undef :: undef :: undef :: undef :: undef :: undef :: undef :: undef :: undef :: undef :: undef :: []).toArray, defers := [] } #[true, true, true, true, true, false, false, false, true, false, false] (.tuple #[.agg (vls 400 (flw r0)), .int .i64 r1]) k6 rfl (by rfl) 65 #[.agg (vls 400 (flw x0)), .agg (vls 400 (flw x1))] (run_iAddKernels2 _ _ _ rfl _ _ rfl _ _ _ _ _ _) (by rfl) (by rfl) (HI.out _) (fun w7 k7 => ?_) AllReadyH.nil
        refine ⟨k7.tail, ?_⟩
        refine take_val 5 { tmps := (.agg (vls 400 (flw x0)) :: .agg (vls 400 (flw x1)) :: .pointer (some ⟨w.heap.size, 0, none⟩) :: .pointer (some ⟨w.heap.size + 1, 0, none⟩) :: .bool false :: .pointer (some ⟨a0, 0, none⟩) :: .int .i64 r1 :: .pointer (some ⟨g6, 0, none⟩) :: undef :: .tuple #[.agg (vls 400 (flw r0)), .int .i64 r1] :: .agg (vls 400 (flw x0)) :: .agg (vls 400 (flw x0)) :: .agg (vls 400 (flw x1)) :: .agg (vls 400 (flw x1)) :: .tuple #[.agg (vls 400 (flw r0)), .int .i64 r1] :: .agg (vls 400 (flw r0)) :: .int .i64 r1 :: .tuple #[.agg (vls 400 (flw r0)), .int .i64 r1] :: .agg (vls 400 (flw x0)) :: .agg (vls 400 (flw x0)) :: .agg (vls 400 (flw x1)) :: .agg (vls 400 (flw x1)) :: .tuple #[.agg (vls 400 (flw r0)), .int .i64 r1] :: undef :: undef :: undef :: undef :: undef :: undef :: undef :: undef :: undef :: undef :: undef :: []).toArray, defers := [] } #[true, true, true, true, true, true, false, false, true, false, false] (.tuple #[.agg (vls 400 (flw r0)), .int .i64 r1]) rfl (by rfl) (by kernel_rfl) (by kernel_rfl) (by kernel_rfl) (fun w => by rfl) (by rfl) (by rfl) (k7.tail) ?_
        refine take_val 6 { tmps := (.agg (vls 400 (flw x0)) :: .agg (vls 400 (flw x1)) :: .pointer (some ⟨w.heap.size, 0, none⟩) :: .pointer (some ⟨w.heap.size + 1, 0, none⟩) :: .bool false :: .pointer (some ⟨a0, 0, none⟩) :: .int .i64 r1 :: .pointer (some ⟨g6, 0, none⟩) :: undef :: .tuple #[.agg (vls 400 (flw r0)), .int .i64 r1] :: .agg (vls 400 (flw x0)) :: .agg (vls 400 (flw x0)) :: .agg (vls 400 (flw x1)) :: .agg (vls 400 (flw x1)) :: .tuple #[.agg (vls 400 (flw r0)), .int .i64 r1] :: .agg (vls 400 (flw r0)) :: .int .i64 r1 :: .tuple #[.agg (vls 400 (flw r0)), .int .i64 r1] :: .agg (vls 400 (flw x0)) :: .agg (vls 400 (flw x0)) :: .agg (vls 400 (flw x1)) :: .agg (vls 400 (flw x1)) :: .tuple #[.agg (vls 400 (flw r0)), .int .i64 r1] :: .agg (vls 400 (flw r0)) :: undef :: undef :: undef :: undef :: undef :: undef :: undef :: undef :: undef :: undef :: []).toArray, defers := [] } #[true, true, true, true, true, true, true, false, true, false, false] (.agg (vls 400 (flw r0))) rfl (by rfl) (by kernel_rfl) (by kernel_rfl) (by kernel_rfl) (fun w => by rfl) (by rfl) (by rfl) (k7.tail) ?_
        refine take_val 7 { tmps := (.agg (vls 400 (flw x0)) :: .agg (vls 400 (flw x1)) :: .pointer (some ⟨w.heap.size, 0, none⟩) :: .pointer (some ⟨w.heap.size + 1, 0, none⟩) :: .bool false :: .pointer (some ⟨a0, 0, none⟩) :: .int .i64 r1 :: .pointer (some ⟨g6, 0, none⟩) :: undef :: .tuple #[.agg (vls 400 (flw r0)), .int .i64 r1] :: .agg (vls 400 (flw x0)) :: .agg (vls 400 (flw x0)) :: .agg (vls 400 (flw x1)) :: .agg (vls 400 (flw x1)) :: .tuple #[.agg (vls 400 (flw r0)), .int .i64 r1] :: .agg (vls 400 (flw r0)) :: .int .i64 r1 :: .tuple #[.agg (vls 400 (flw r0)), .int .i64 r1] :: .agg (vls 400 (flw x0)) :: .agg (vls 400 (flw x0)) :: .agg (vls 400 (flw x1)) :: .agg (vls 400 (flw x1)) :: .tuple #[.agg (vls 400 (flw r0)), .int .i64 r1] :: .agg (vls 400 (flw r0)) :: .int .i64 r1 :: undef :: undef :: undef :: undef :: undef :: undef :: undef :: undef :: undef :: []).toArray, defers := [] } #[true, true, true, true, true, true, true, true, true, false, false] (.int .i64 r1) rfl (by rfl) (by kernel_rfl) (by kernel_rfl) (by kernel_rfl) (fun w => by rfl) (by rfl) (by rfl) (k7.tail) ?_
        refine wpAnyH_ready (rs := [9]) (by kernel_rfl) (by simp) ?_
        refine storeK 9 { tmps := (.agg (vls 400 (flw x0)) :: .agg (vls 400 (flw x1)) :: .pointer (some ⟨w.heap.size, 0, none⟩) :: .pointer (some ⟨w.heap.size + 1, 0, none⟩) :: .bool false :: .pointer (some ⟨a0, 0, none⟩) :: .int .i64 r1 :: .pointer (some ⟨g6, 0, none⟩) :: undef :: .tuple #[.agg (vls 400 (flw r0)), .int .i64 r1] :: .agg (vls 400 (flw x0)) :: .agg (vls 400 (flw x0)) :: .agg (vls 400 (flw x1)) :: .agg (vls 400 (flw x1)) :: .tuple #[.agg (vls 400 (flw r0)), .int .i64 r1] :: .agg (vls 400 (flw r0)) :: .int .i64 r1 :: .tuple #[.agg (vls 400 (flw r0)), .int .i64 r1] :: .agg (vls 400 (flw x0)) :: .agg (vls 400 (flw x0)) :: .agg (vls 400 (flw x1)) :: .agg (vls 400 (flw x1)) :: .tuple #[.agg (vls 400 (flw r0)), .int .i64 r1] :: .agg (vls 400 (flw r0)) :: .int .i64 r1 :: undef :: undef :: undef :: undef :: undef :: undef :: undef :: undef :: undef :: []).toArray, defers := [] } #[true, true, true, true, true, true, true, true, true, true, false] k7 hB6 hn6 rfl (by rfl) 53 _ _ rfl (vls 400 (flw r0)) (by rfl) (by rfl) (by rw [vls_size]; exact info_kern) (by simp) (vls_one (flw_one _)) (by rfl) (by rfl) (fun w8 k8 => ?_) AllReadyH.nil
        refine ⟨k8.tail, ?_⟩
        refine take_val 10 { tmps := (.agg (vls 400 (flw x0)) :: .agg (vls 400 (flw x1)) :: .pointer (some ⟨w.heap.size, 0, none⟩) :: .pointer (some ⟨w.heap.size + 1, 0, none⟩) :: .bool false :: .pointer (some ⟨a0, 0, none⟩) :: .int .i64 r1 :: .pointer (some ⟨g6, 0, none⟩) :: .int .i64 r1 :: .tuple #[.agg (vls 400 (flw r0)), .int .i64 r1] :: .agg (vls 400 (flw x0)) :: .agg (vls 400 (flw x0)) :: .agg (vls 400 (flw x1)) :: .agg (vls 400 (flw x1)) :: .tuple #[.agg (vls 400 (flw r0)), .int .i64 r1] :: .agg (vls 400 (flw r0)) :: .int .i64 r1 :: .tuple #[.agg (vls 400 (flw r0)), .int .i64 r1] :: .agg (vls 400 (flw x0)) :: .agg (vls 400 (flw x0)) :: .agg (vls 400 (flw x1)) :: .agg (vls 400 (flw x1)) :: .tuple #[.agg (vls 400 (flw r0)), .int .i64 r1] :: .agg (vls 400 (flw r0)) :: .int .i64 r1 :: undef :: undef :: undef :: undef :: undef :: undef :: undef :: undef :: undef :: []).toArray, defers := [] } #[true, true, true, true, true, true, true, true, true, true, true] (.int .i64 r1) rfl (by rfl) (by kernel_rfl) (by kernel_rfl) (by kernel_rfl) (fun w => by rfl) (by rfl) (by rfl) (k8.tail) ?_
        exact wpAnyH_done (by kernel_rfl) (NoPanic.normal (key2 g6 _ (hid k8))) _
      refine allocK 8 (fun g9 => { tmps := (.agg (vls 400 (flw x0)) :: .agg (vls 400 (flw x1)) :: .pointer (some ⟨w.heap.size, 0, none⟩) :: .pointer (some ⟨w.heap.size + 1, 0, none⟩) :: .bool false :: .pointer (some ⟨a0, 0, none⟩) :: .int .i64 r1 :: .pointer (some ⟨g9, 0, none⟩) :: undef :: .tuple #[.agg (vls 400 (flw r0)), .int .i64 r1] :: .agg (vls 400 (flw x0)) :: .agg (vls 400 (flw x0)) :: .agg (vls 400 (flw x1)) :: .agg (vls 400 (flw x1)) :: .tuple #[.agg (vls 400 (flw r0)), .int .i64 r1] :: .agg (vls 400 (flw r0)) :: .int .i64 r1 :: undef :: .agg (vls 400 (flw x0)) :: .agg (vls 400 (flw x0)) :: .agg (vls 400 (flw x1)) :: undef :: undef :: undef :: undef :: undef :: undef :: undef :: undef :: undef :: undef :: undef :: undef :: undef :: []).toArray, defers := [] }) #[true, true, true, false, false, false, false, false, true, false, false] k1 rfl (by rfl) (vls 400 (flw fun _ => 0)) 53 (alloc_kern _ _ _ _ _ _ _) (fun g => by rfl) (by rfl) (fun w9 g9 k9 hB9 hn9 => ?_) AllReadyH.nil
      refine ⟨k9.tail, ?_⟩
      refine wpAnyH_ready (rs := [3]) (by kernel_rfl) (by simp) ?_
      refine callK 3 { tmps := (.agg (vls 400 (flw x0)) :: .agg (vls 400 (flw x1)) :: .pointer (some ⟨w.heap.size, 0, none⟩) :: .pointer (some ⟨w.heap.size + 1, 0, none⟩) :: .bool false :: .pointer (some ⟨a0, 0, none⟩) :: .int .i64 r1 :: .pointer (some ⟨g9, 0, none⟩) :: undef :: .tuple #[.agg (vls 400 (flw r0)), .int .i64 r1] :: .agg (vls 400 (flw x0)) :: .agg (vls 400 (flw x0)) :: .agg (vls 400 (flw x1)) :: .agg (vls 400 (flw x1)) :: .tuple #[.agg (vls 400 (flw r0)), .int .i64 r1] :: .agg (vls 400 (flw r0)) :: .int .i64 r1 :: undef :: .agg (vls 400 (flw x0)) :: .agg (vls 400 (flw x0)) :: .agg (vls 400 (flw x1)) :: .agg (vls 400 (flw x1)) :: undef :: undef :: undef :: undef :: undef :: undef :: undef :: undef :: undef :: undef :: undef :: undef :: []).toArray, defers := [] } #[true, true, true, true, false, false, false, false, true, false, false] (.agg (vls 400 (flw x1))) k9 rfl (by rfl) 51 #[.agg (vls 400 (flw x1))] (run_toKernel1 _ _ _ rfl _ _ _ _ _ _) (by rfl) (by rfl) (toKernel _ _) (fun w10 k10 => ?_) AllReadyH.nil
      refine ⟨k10.tail, ?_⟩
      refine wpAnyH_ready (rs := [4]) (by kernel_rfl) (by simp) ?_
      refine callK 4 { tmps := (.agg (vls 400 (flw x0)) :: .agg (vls 400 (flw x1)) :: .pointer (some ⟨w.heap.size, 0, none⟩) :: .pointer (some ⟨w.heap.size + 1, 0, none⟩) :: .bool false :: .pointer (some ⟨a0, 0, none⟩) :: .int .i64 r1 :: .pointer (some ⟨g9, 0, none⟩) :: undef :: .tuple #[.agg (vls 400 (flw r0)), .int .i64 r1] :: .agg (vls 400 (flw x0)) :: .agg (vls 400 (flw x0)) :: .agg (vls 400 (flw x1)) :: .agg (vls 400 (flw x1)) :: .tuple #[.agg (vls 400 (flw r0)), .int .i64 r1] :: .agg (vls 400 (flw r0)) :: .int .i64 r1 :: undef :: .agg (vls 400 (flw x0)) :: .agg (vls 400 (flw x0)) :: .agg (vls 400 (flw x1)) :: .agg (vls 400 (flw x1)) :: .tuple #[.agg (vls 400 (flw r0)), .int .i64 r1] :: undef :: undef :: undef :: undef :: undef :: undef :: undef :: undef :: undef :: undef :: undef :: []).toArray, defers := [] } #[true, true, true, true, true, false, false, false, true, false, false] (.tuple #[.agg (vls 400 (flw r0)), .int .i64 r1]) k10 rfl (by rfl) 65 #[.agg (vls 400 (flw x0)), .agg (vls 400 (flw x1))] (run_iAddKernels2 _ _ _ rfl _ _ rfl _ _ _ _ _ _) (by rfl) (by rfl) (HI.out _) (fun w11 k11 => ?_) AllReadyH.nil
      refine ⟨k11.tail, ?_⟩
      refine take_val 5 { tmps := (.agg (vls 400 (flw x0)) :: .agg (vls 400 (flw x1)) :: .pointer (some ⟨w.heap.size, 0, none⟩) :: .pointer (some ⟨w.heap.size + 1, 0, none⟩) :: .bool false :: .pointer (some ⟨a0, 0, none⟩) :: .int .i64 r1 :: .pointer (some ⟨g9, 0, none⟩) :: undef :: .tuple #[.agg (vls 400 (flw r0)), .int .i64 r1] :: .agg (vls 400 (flw x0)) :: .agg (vls 400 (flw x0)) :: .agg (vls 400 (flw x1)) :: .agg (vls 400 (flw x1)) :: .tuple #[.agg (vls 400 (flw r0)), .int .i64 r1] :: .agg (vls 400 (flw r0)) :: .int .i64 r1 :: .tuple #[.agg (vls 400 (flw r0)), .int .i64 r1] :: .agg (vls 400 (flw x0)) :: .agg (vls 400 (flw x0)) :: .agg (vls 400 (flw x1)) :: .agg (vls 400 (flw x1)) :: .tuple #[.agg (vls 400 (flw r0)), .int .i64 r1] :: undef :: undef :: undef :: undef :: undef :: undef :: undef :: undef :: undef :: undef :: undef :: []).toArray, defers := [] } #[true, true, true, true, true, true, false, false, true, false, false] (.tuple #[.agg (vls 400 (flw r0)), .int .i64 r1]) rfl (by rfl) (by kernel_rfl) (by kernel_rfl) (by kernel_rfl) (fun w => by rfl) (by rfl) (by rfl) (k11.tail) ?_
      refine take_val 6 { tmps := (.agg (vls 400 (flw x0)) :: .agg (vls 400 (flw x1)) :: .pointer (some ⟨w.heap.size, 0, none⟩) :: .pointer (some ⟨w.heap.size + 1, 0, none⟩) :: .bool false :: .pointer (some ⟨a0, 0, none⟩) :: .int .i64 r1 :: .pointer (some ⟨g9, 0, none⟩) :: undef :: .tuple #[.agg (vls 400 (flw r0)), .int .i64 r1] :: .agg (vls 400 (flw x0)) :: .agg (vls 400 (flw x0)) :: .agg (vls 400 (flw x1)) :: .agg (vls 400 (flw x1)) :: .tuple #[.agg (vls 400 (flw r0)), .int .i64 r1] :: .agg (vls 400 (flw r0)) :: .int .i64 r1 :: .tuple #[.agg (vls 400 (flw r0)), .int .i64 r1] :: .agg (vls 400 (flw x0)) :: .agg (vls 400 (flw x0)) :: .agg (vls 400 (flw x1)) :: .agg (vls 400 (flw x1)) :: .tuple #[.agg (vls 400 (flw r0)), .int .i64 r1] :: .agg (vls 400 (flw r0)) :: undef :: undef :: undef :: undef :: undef :: undef :: undef :: undef :: undef :: undef :: []).toArray, defers := [] } #[true, true, true, true, true, true, true, false, true, false, false] (.agg (vls 400 (flw r0))) rfl (by rfl) (by kernel_rfl) (by kernel_rfl) (by kernel_rfl) (fun w => by rfl) (by rfl) (by rfl) (k11.tail) ?_
      refine take_val 7 { tmps := (.agg (vls 400 (flw x0)) :: .agg (vls 400 (flw x1)) :: .pointer (some ⟨w.heap.size, 0, none⟩) :: .pointer (some ⟨w.heap.size + 1, 0, none⟩) :: .bool false :: .pointer (some ⟨a0, 0, none⟩) :: .int .i64 r1 :: .pointer (some ⟨g9, 0, none⟩) :: undef :: .tuple #[.agg (vls 400 (flw r0)), .int .i64 r1] :: .agg (vls 400 (flw x0)) :: .agg (vls 400 (flw x0)) :: .agg (vls 400 (flw x1)) :: .agg (vls 400 (flw x1)) :: .tuple #[.agg (vls 400 (flw r0)), .int .i64 r1] :: .agg (vls 400 (flw r0)) :: .int .i64 r1 :: .tuple #[.agg (vls 400 (flw r0)), .int .i64 r1] :: .agg (vls 400 (flw x0)) :: .agg (vls 400 (flw x0)) :: .agg (vls 400 (flw x1)) :: .agg (vls 400 (flw x1)) :: .tuple #[.agg (vls 400 (flw r0)), .int .i64 r1] :: .agg (vls 400 (flw r0)) :: .int .i64 r1 :: undef :: undef :: undef :: undef :: undef :: undef :: undef :: undef :: undef :: []).toArray, defers := [] } #[true, true, true, true, true, true, true, true, true, false, false] (.int .i64 r1) rfl (by rfl) (by kernel_rfl) (by kernel_rfl) (by kernel_rfl) (fun w => by rfl) (by rfl) (by rfl) (k11.tail) ?_
      refine wpAnyH_ready (rs := [9]) (by kernel_rfl) (by simp) ?_
      refine storeK 9 { tmps := (.agg (vls 400 (flw x0)) :: .agg (vls 400 (flw x1)) :: .pointer (some ⟨w.heap.size, 0, none⟩) :: .pointer (some ⟨w.heap.size + 1, 0, none⟩) :: .bool false :: .pointer (some ⟨a0, 0, none⟩) :: .int .i64 r1 :: .pointer (some ⟨g9, 0, none⟩) :: undef :: .tuple #[.agg (vls 400 (flw r0)), .int .i64 r1] :: .agg (vls 400 (flw x0)) :: .agg (vls 400 (flw x0)) :: .agg (vls 400 (flw x1)) :: .agg (vls 400 (flw x1)) :: .tuple #[.agg (vls 400 (flw r0)), .int .i64 r1] :: .agg (vls 400 (flw r0)) :: .int .i64 r1 :: .tuple #[.agg (vls 400 (flw r0)), .int .i64 r1] :: .agg (vls 400 (flw x0)) :: .agg (vls 400 (flw x0)) :: .agg (vls 400 (flw x1)) :: .agg (vls 400 (flw x1)) :: .tuple #[.agg (vls 400 (flw r0)), .int .i64 r1] :: .agg (vls 400 (flw r0)) :: .int .i64 r1 :: undef :: undef :: undef :: undef :: undef :: undef :: undef :: undef :: undef :: []).toArray, defers := [] } #[true, true, true, true, true, true, true, true, true, true, false] k11 hB9 hn9 rfl (by rfl) 53 _ _ rfl (vls 400 (flw r0)) (by rfl) (by rfl) (by rw [vls_size]; exact info_kern) (by simp) (vls_one (flw_one _)) (by rfl) (by rfl) (fun w12 k12 => ?_) AllReadyH.nil
      refine ⟨k12.tail, ?_⟩
      refine take_val 10 { tmps := (.agg (vls 400 (flw x0)) :: .agg (vls 400 (flw x1)) :: .pointer (some ⟨w.heap.size, 0, none⟩) :: .pointer (some ⟨w.heap.size + 1, 0, none⟩) :: .bool false :: .pointer (some ⟨a0, 0, none⟩) :: .int .i64 r1 :: .pointer (some ⟨g9, 0, none⟩) :: .int .i64 r1 :: .tuple #[.agg (vls 400 (flw r0)), .int .i64 r1] :: .agg (vls 400 (flw x0)) :: .agg (vls 400 (flw x0)) :: .agg (vls 400 (flw x1)) :: .agg (vls 400 (flw x1)) :: .tuple #[.agg (vls 400 (flw r0)), .int .i64 r1] :: .agg (vls 400 (flw r0)) :: .int .i64 r1 :: .tuple #[.agg (vls 400 (flw r0)), .int .i64 r1] :: .agg (vls 400 (flw x0)) :: .agg (vls 400 (flw x0)) :: .agg (vls 400 (flw x1)) :: .agg (vls 400 (flw x1)) :: .tuple #[.agg (vls 400 (flw r0)), .int .i64 r1] :: .agg (vls 400 (flw r0)) :: .int .i64 r1 :: undef :: undef :: undef :: undef :: undef :: undef :: undef :: undef :: undef :: []).toArray, defers := [] } #[true, true, true, true, true, true, true, true, true, true, true] (.int .i64 r1) rfl (by rfl) (by kernel_rfl) (by kernel_rfl) (by kernel_rfl) (fun w => by rfl) (by rfl) (by rfl) (k12.tail) ?_
      exact wpAnyH_done (by kernel_rfl) (NoPanic.normal (key2 g9 _ (hid k12))) _
    refine allocK 8 (fun g13 => { tmps := (.agg (vls 400 (flw x0)) :: .agg (vls 400 (flw x1)) :: .pointer (some ⟨w.heap.size, 0, none⟩) :: .pointer (some ⟨w.heap.size + 1, 0, none⟩) :: .bool false :: .pointer (some ⟨a0, 0, none⟩) :: .int .i64 r1 :: .pointer (some ⟨g13, 0, none⟩) :: undef :: .tuple #[.agg (vls 400 (flw r0)), .int .i64 r1] :: .agg (vls 400 (flw x0)) :: .agg (vls 400 (flw x0)) :: .agg (vls 400 (flw x1)) :: .agg (vls 400 (flw x1)) :: .tuple #[.agg (vls 400 (flw r0)), .int .i64 r1] :: .agg (vls 400 (flw r0)) :: .int .i64 r1 :: undef :: .agg (vls 400 (flw x0)) :: undef :: .agg (vls 400 (flw x1)) :: undef :: undef :: undef :: undef :: undef :: undef :: undef :: undef :: undef :: undef :: undef :: undef :: undef :: []).toArray, defers := [] }) #[true, false, true, false, false, false, false, false, true, false, false] kd rfl (by rfl) (vls 400 (flw fun _ => 0)) 53 (alloc_kern _ _ _ _ _ _ _) (fun g => by rfl) (by rfl) (fun w13 g13 k13 hB13 hn13 => ?_) AllReadyH.nil
    refine ⟨k13.tail, ?_⟩
    refine wpAnyH_ready (rs := [1]) (by kernel_rfl) (by simp) ?_
    refine callK 1 { tmps := (.agg (vls 400 (flw x0)) :: .agg (vls 400 (flw x1)) :: .pointer (some ⟨w.heap.size, 0, none⟩) :: .pointer (some ⟨w.heap.size + 1, 0, none⟩) :: .bool false :: .pointer (some ⟨a0, 0, none⟩) :: .int .i64 r1 :: .pointer (some ⟨g13, 0, none⟩) :: undef :: .tuple #[.agg (vls 400 (flw r0)), .int .i64 r1] :: .agg (vls 400 (flw x0)) :: .agg (vls 400 (flw x0)) :: .agg (vls 400 (flw x1)) :: .agg (vls 400 (flw x1)) :: .tuple #[.agg (vls 400 (flw r0)), .int .i64 r1] :: .agg (vls 400 (flw r0)) :: .int .i64 r1 :: undef :: .agg (vls 400 (flw x0)) :: .agg (vls 400 (flw x0)) :: .agg (vls 400 (flw x1)) :: undef :: undef :: undef :: undef :: undef :: undef :: undef :: undef :: undef :: undef :: undef :: undef :: undef :: []).toArray, defers := [] } #[true, true, true, false, false, false, false, false, true, false, false] (.agg (vls 400 (flw x0))) k13 rfl (by rfl) 51 #[.agg (vls 400 (flw x0))] (run_toKernel1 _ _ _ rfl _ _ _ _ _ _) (by rfl) (by rfl) (toKernel _ _) (fun w14 k14 => ?_) AllReadyH.nil
    refine ⟨k14.tail, ?_⟩
    refine wpAnyH_ready (rs := [3]) (by kernel_rfl) (by simp) ?_
    refine callK 3 { tmps := (.agg (vls 400 (flw x0)) :: .agg (vls 400 (flw x1)) :: .pointer (some ⟨w.heap.size, 0, none⟩) :: .pointer (some ⟨w.heap.size + 1, 0, none⟩) :: .bool false :: .pointer (some ⟨a0, 0, none⟩) :: .int .i64 r1 :: .pointer (some ⟨g13, 0, none⟩) :: undef :: .tuple #[.agg (vls 400 (flw r0)), .int .i64 r1] :: .agg (vls 400 (flw x0)) :: .agg (vls 400 (flw x0)) :: .agg (vls 400 (flw x1)) :: .agg (vls 400 (flw x1)) :: .tuple #[.agg (vls 400 (flw r0)), .int .i64 r1] :: .agg (vls 400 (flw r0)) :: .int .i64 r1 :: undef :: .agg (vls 400 (flw x0)) :: .agg (vls 400 (flw x0)) :: .agg (vls 400 (flw x1)) :: .agg (vls 400 (flw x1)) :: undef :: undef :: undef :: undef :: undef :: undef :: undef :: undef :: undef :: undef :: undef :: undef :: []).toArray, defers := [] } #[true, true, true, true, false, false, false, false, true, false, false] (.agg (vls 400 (flw x1))) k14 rfl (by rfl) 51 #[.agg (vls 400 (flw x1))] (run_toKernel1 _ _ _ rfl _ _ _ _ _ _) (by rfl) (by rfl) (toKernel _ _) (fun w15 k15 => ?_) AllReadyH.nil
    refine ⟨k15.tail, ?_⟩
    refine wpAnyH_ready (rs := [4]) (by kernel_rfl) (by simp) ?_
    refine callK 4 { tmps := (.agg (vls 400 (flw x0)) :: .agg (vls 400 (flw x1)) :: .pointer (some ⟨w.heap.size, 0, none⟩) :: .pointer (some ⟨w.heap.size + 1, 0, none⟩) :: .bool false :: .pointer (some ⟨a0, 0, none⟩) :: .int .i64 r1 :: .pointer (some ⟨g13, 0, none⟩) :: undef :: .tuple #[.agg (vls 400 (flw r0)), .int .i64 r1] :: .agg (vls 400 (flw x0)) :: .agg (vls 400 (flw x0)) :: .agg (vls 400 (flw x1)) :: .agg (vls 400 (flw x1)) :: .tuple #[.agg (vls 400 (flw r0)), .int .i64 r1] :: .agg (vls 400 (flw r0)) :: .int .i64 r1 :: undef :: .agg (vls 400 (flw x0)) :: .agg (vls 400 (flw x0)) :: .agg (vls 400 (flw x1)) :: .agg (vls 400 (flw x1)) :: .tuple #[.agg (vls 400 (flw r0)), .int .i64 r1] :: undef :: undef :: undef :: undef :: undef :: undef :: undef :: undef :: undef :: undef :: undef :: []).toArray, defers := [] } #[true, true, true, true, true, false, false, false, true, false, false] (.tuple #[.agg (vls 400 (flw r0)), .int .i64 r1]) k15 rfl (by rfl) 65 #[.agg (vls 400 (flw x0)), .agg (vls 400 (flw x1))] (run_iAddKernels2 _ _ _ rfl _ _ rfl _ _ _ _ _ _) (by rfl) (by rfl) (HI.out _) (fun w16 k16 => ?_) AllReadyH.nil
    refine ⟨k16.tail, ?_⟩
    refine take_val 5 { tmps := (.agg (vls 400 (flw x0)) :: .agg (vls 400 (flw x1)) :: .pointer (some ⟨w.heap.size, 0, none⟩) :: .pointer (some ⟨w.heap.size + 1, 0, none⟩) :: .bool false :: .pointer (some ⟨a0, 0, none⟩) :: .int .i64 r1 :: .pointer (some ⟨g13, 0, none⟩) :: undef :: .tuple #[.agg (vls 400 (flw r0)), .int .i64 r1] :: .agg (vls 400 (flw x0)) :: .agg (vls 400 (flw x0)) :: .agg (vls 400 (flw x1)) :: .agg (vls 400 (flw x1)) :: .tuple #[.agg (vls 400 (flw r0)), .int .i64 r1] :: .agg (vls 400 (flw r0)) :: .int .i64 r1 :: .tuple #[.agg (vls 400 (flw r0)), .int .i64 r1] :: .agg (vls 400 (flw x0)) :: .agg (vls 400 (flw x0)) :: .agg (vls 400 (flw x1)) :: .agg (vls 400 (flw x1)) :: .tuple #[.agg (vls 400 (flw r0)), .int .i64 r1] :: undef :: undef :: undef :: undef :: undef :: undef :: undef :: undef :: undef :: undef :: undef :: []).toArray, defers := [] } #[true, true, true, true, true, true, false, false, true, false, false] (.tuple #[.agg (vls 400 (flw r0)), .int .i64 r1]) rfl (by rfl) (by kernel_rfl) (by kernel_rfl) (by kernel_rfl) (fun w => by rfl) (by rfl) (by rfl) (k16.tail) ?_
    refine take_val 6 { tmps := (.agg (vls 400 (flw x0)) :: .agg (vls 400 (flw x1)) :: .pointer (some ⟨w.heap.size, 0, none⟩) :: .pointer (some ⟨w.heap.size + 1, 0, none⟩) :: .bool false :: .pointer (some ⟨a0, 0, none⟩) :: .int .i64 r1 :: .pointer (some ⟨g13, 0, none⟩) :: undef :: .tuple #[.agg (vls 400 (flw r0)), .int .i64 r1] :: .agg (vls 400 (flw x0)) :: .agg (vls 400 (flw x0)) :: .agg (vls 400 (flw x1)) :: .agg (vls 400 (flw x1)) :: .tuple #[.agg (vls 400 (flw r0)), .int .i64 r1] :: .agg (vls 400 (flw r0)) :: .int .i64 r1 :: .tuple #[.agg (vls 400 (flw r0)), .int .i64 r1] :: .agg (vls 400 (flw x0)) :: .agg (vls 400 (flw x0)) :: .agg (vls 400 (flw x1)) :: .agg (vls 400 (flw x1)) :: .tuple #[.agg (vls 400 (flw r0)), .int .i64 r1] :: .agg (vls 400 (flw r0)) :: undef :: undef :: undef :: undef :: undef :: undef :: undef :: undef :: undef :: undef :: []).toArray, defers := [] } #[true, true, true, true, true, true, true, false, true, false, false] (.agg (vls 400 (flw r0))) rfl (by rfl) (by kernel_rfl) (by kernel_rfl) (by kernel_rfl) (fun w => by rfl) (by rfl) (by rfl) (k16.tail) ?_
    refine take_val 7 { tmps := (.agg (vls 400 (flw x0)) :: .agg (vls 400 (flw x1)) :: .pointer (some ⟨w.heap.size, 0, none⟩) :: .pointer (some ⟨w.heap.size + 1, 0, none⟩) :: .bool false :: .pointer (some ⟨a0, 0, none⟩) :: .int .i64 r1 :: .pointer (some ⟨g13, 0, none⟩) :: undef :: .tuple #[.agg (vls 400 (flw r0)), .int .i64 r1] :: .agg (vls 400 (flw x0)) :: .agg (vls 400 (flw x0)) :: .agg (vls 400 (flw x1)) :: .agg (vls 400 (flw x1)) :: .tuple #[.agg (vls 400 (flw r0)), .int .i64 r1] :: .agg (vls 400 (flw r0)) :: .int .i64 r1 :: .tuple #[.agg (vls 400 (flw r0)), .int .i64 r1] :: .agg (vls 400 (flw x0)) :: .agg (vls 400 (flw x0)) :: .agg (vls 400 (flw x1)) :: .agg (vls 400 (flw x1)) :: .tuple #[.agg (vls 400 (flw r0)), .int .i64 r1] :: .agg (vls 400 (flw r0)) :: .int .i64 r1 :: undef :: undef :: undef :: undef :: undef :: undef :: undef :: undef :: undef :: []).toArray, defers := [] } #[true, true, true, true, true, true, true, true, true, false, false] (.int .i64 r1) rfl (by rfl) (by kernel_rfl) (by kernel_rfl) (by kernel_rfl) (fun w => by rfl) (by rfl) (by rfl) (k16.tail) ?_
    refine wpAnyH_ready (rs := [9]) (by kernel_rfl) (by simp) ?_
    refine storeK 9 { tmps := (.agg (vls 400 (flw x0)) :: .agg (vls 400 (flw x1)) :: .pointer (some ⟨w.heap.size, 0, none⟩) :: .pointer (some ⟨w.heap.size + 1, 0, none⟩) :: .bool false :: .pointer (some ⟨a0, 0, none⟩) :: .int .i64 r1 :: .pointer (some ⟨g13, 0, none⟩) :: undef :: .tuple #[.agg (vls 400 (flw r0)), .int .i64 r1] :: .agg (vls 400 (flw x0)) :: .agg (vls 400 (flw x0)) :: .agg (vls 400 (flw x1)) :: .agg (vls 400 (flw x1)) :: .tuple #[.agg (vls 400 (flw r0)), .int .i64 r1] :: .agg (vls 400 (flw r0)) :: .int .i64 r1 :: .tuple #[.agg (vls 400 (flw r0)), .int .i64 r1] :: .agg (vls 400 (flw x0)) :: .agg (vls 400 (flw x0)) :: .agg (vls 400 (flw x1)) :: .agg (vls 400 (flw x1)) :: .tuple #[.agg (vls 400 (flw r0)), .int .i64 r1] :: .agg (vls 400 (flw r0)) :: .int .i64 r1 :: undef :: undef :: undef :: undef :: undef :: undef :: undef :: undef :: undef :: []).toArray, defers := [] } #[true, true, true, true, true, true, true, true, true, true, false] k16 hB13 hn13 rfl (by rfl) 53 _ _ rfl (vls 400 (flw r0)) (by rfl) (by rfl) (by rw [vls_size]; exact info_kern) (by simp) (vls_one (flw_one _)) (by rfl) (by rfl) (fun w17 k17 => ?_) AllReadyH.nil
    refine ⟨k17.tail, ?_⟩
    refine take_val 10 { tmps := (.agg (vls 400 (flw x0)) :: .agg (vls 400 (flw x1)) :: .pointer (some ⟨w.heap.size, 0, none⟩) :: .pointer (some ⟨w.heap.size + 1, 0, none⟩) :: .bool false :: .pointer (some ⟨a0, 0, none⟩) :: .int .i64 r1 :: .pointer (some ⟨g13, 0, none⟩) :: .int .i64 r1 :: .tuple #[.agg (vls 400 (flw r0)), .int .i64 r1] :: .agg (vls 400 (flw x0)) :: .agg (vls 400 (flw x0)) :: .agg (vls 400 (flw x1)) :: .agg (vls 400 (flw x1)) :: .tuple #[.agg (vls 400 (flw r0)), .int .i64 r1] :: .agg (vls 400 (flw r0)) :: .int .i64 r1 :: .tuple #[.agg (vls 400 (flw r0)), .int .i64 r1] :: .agg (vls 400 (flw x0)) :: .agg (vls 400 (flw x0)) :: .agg (vls 400 (flw x1)) :: .agg (vls 400 (flw x1)) :: .tuple #[.agg (vls 400 (flw r0)), .int .i64 r1] :: .agg (vls 400 (flw r0)) :: .int .i64 r1 :: undef :: undef :: undef :: undef :: undef :: undef :: undef :: undef :: undef :: []).toArray, defers := [] } #[true, true, true, true, true, true, true, true, true, true, true] (.int .i64 r1) rfl (by rfl) (by kernel_rfl) (by kernel_rfl) (by kernel_rfl) (fun w => by rfl) (by rfl) (by rfl) (k17.tail) ?_
    exact wpAnyH_done (by kernel_rfl) (NoPanic.normal (key2 g13 _ (hid k17))) _
  refine region_kept (w0 := w) (l := [(w.heap.size, vls 400 (flw x0), 51), (w.heap.size + 1, vls 400 (flw x1), 51)]) 11 #[false, false, false, false, false, false, false, false, false, false, false] (by kernel_rfl) rfl rfl ?_
  have kd := k0.out.drew
  clear k0
  generalize ((w.alloc (.cells (vls 400 (flw x0)) 51)).alloc (.cells (vls 400 (flw x1)) 51)).drew = wd at kd ⊢
  refine take_load 0 { tmps := (.agg (vls 400 (flw x0)) :: .agg (vls 400 (flw x1)) :: .pointer (some ⟨w.heap.size, 0, none⟩) :: .pointer (some ⟨w.heap.size + 1, 0, none⟩) :: .bool false :: undef :: undef :: undef :: undef :: undef :: .agg (vls 400 (flw x0)) :: undef :: undef :: undef :: undef :: undef :: undef :: undef :: undef :: undef :: undef :: undef :: undef :: undef :: undef :: undef :: undef :: undef :: undef :: undef :: undef :: undef :: undef :: undef :: []).toArray, defers := [] } #[true, false, false, false, false, false, false, false, false, false, false] rfl (by rfl) (by kernel_rfl) (by kernel_rfl) (by kernel_rfl) 51 _ rfl (w.heap.size) (vls 400 (flw x0)) 51 (by rfl) (by simp) _ Try.underlying51 rfl (by rw [vls_size]; exact info_k20) (by rfl) (by rfl) (kd) ?_
  refine take_load 2 { tmps := (.agg (vls 400 (flw x0)) :: .agg (vls 400 (flw x1)) :: .pointer (some ⟨w.heap.size, 0, none⟩) :: .pointer (some ⟨w.heap.size + 1, 0, none⟩) :: .bool false :: undef :: undef :: undef :: undef :: undef :: .agg (vls 400 (flw x0)) :: undef :: .agg (vls 400 (flw x1)) :: undef :: undef :: undef :: undef :: undef :: undef :: undef :: undef :: undef :: undef :: undef :: undef :: undef :: undef :: undef :: undef :: undef :: undef :: undef :: undef :: undef :: []).toArray, defers := [] } #[true, false, true, false, false, false, false, false, false, false, false] rfl (by rfl) (by kernel_rfl) (by kernel_rfl) (by kernel_rfl) 51 _ rfl (w.heap.size + 1) (vls 400 (flw x1)) 51 (by rfl) (by simp) _ Try.underlying51 rfl (by rw [vls_size]; exact info_k20) (by rfl) (by rfl) (kd) ?_
  refine wpAnyH_ready (rs := [1, 8]) (by kernel_rfl) (by simp) ?_
  refine callK 1 { tmps := (.agg (vls 400 (flw x0)) :: .agg (vls 400 (flw x1)) :: .pointer (some ⟨w.heap.size, 0, none⟩) :: .pointer (some ⟨w.heap.size + 1, 0, none⟩) :: .bool false :: undef :: undef :: undef :: undef :: undef :: .agg (vls 400 (flw x0)) :: .agg (vls 400 (flw x0)) :: .agg (vls 400 (flw x1)) :: undef :: undef :: undef :: undef :: undef :: undef :: undef :: undef :: undef :: undef :: undef :: undef :: undef :: undef :: undef :: undef :: undef :: undef :: undef :: undef :: undef :: []).toArray, defers := [] } #[true, true, true, false, false, false, false, false, false, false, false] (.agg (vls 400 (flw x0))) kd rfl (by rfl) 51 #[.agg (vls 400 (flw x0))] (run_toKernel1 _ _ _ rfl _ _ _ _ _ _) (by rfl) (by rfl) (toKernel _ _) (fun w1 k1 => ?_) ?_
  · refine ⟨k1, ?_⟩
    refine wpAnyH_ready (rs := [3, 8]) (by kernel_rfl) (by simp) ?_
    refine callK 3 { tmps := (.agg (vls 400 (flw x0)) :: .agg (vls 400 (flw x1)) :: .pointer (some ⟨w.heap.size, 0, none⟩) :: .pointer (some ⟨w.heap.size + 1, 0, none⟩) :: .bool false :: undef :: undef :: undef :: undef :: undef :: .agg (vls 400 (flw x0)) :: .agg (vls 400 (flw x0)) :: .agg (vls 400 (flw x1)) :: .agg (vls 400 (flw x1)) :: undef :: undef :: undef :: undef :: undef :: undef :: undef :: undef :: undef :: undef :: undef :: undef :: undef :: undef :: undef :: undef :: undef :: undef :: undef :: undef :: []).toArray, defers := [] } #[true, true, true, true, false, false, false, false, false, false, false] (.agg (vls 400 (flw x1))) k1 rfl (by rfl) 51 #[.agg (vls 400 (flw x1))] (run_toKernel1 _ _ _ rfl _ _ _ _ _ _) (by rfl) (by rfl) (toKernel _ _) (fun w2 k2 => ?_) ?_
    · refine ⟨k2, ?_⟩
      refine wpAnyH_ready (rs := [4, 8]) (by kernel_rfl) (by simp) ?_
      refine callK 4 { tmps := (.agg (vls 400 (flw x0)) :: .agg (vls 400 (flw x1)) :: .pointer (some ⟨w.heap.size, 0, none⟩) :: .pointer (some ⟨w.heap.size + 1, 0, none⟩) :: .bool false :: undef :: undef :: undef :: undef :: undef :: .agg (vls 400 (flw x0)) :: .agg (vls 400 (flw x0)) :: .agg (vls 400 (flw x1)) :: .agg (vls 400 (flw x1)) :: .tuple #[.agg (vls 400 (flw r0)), .int .i64 r1] :: undef :: undef :: undef :: undef :: undef :: undef :: undef :: undef :: undef :: undef :: undef :: undef :: undef :: undef :: undef :: undef :: undef :: undef :: undef :: []).toArray, defers := [] } #[true, true, true, true, true, false, false, false, false, false, false] (.tuple #[.agg (vls 400 (flw r0)), .int .i64 r1]) k2 rfl (by rfl) 64 #[.agg (vls 400 (flw x0)), .agg (vls 400 (flw x1))] (run_sAddKernels2 _ _ _ rfl _ _ rfl _ _ _ _ _ _) (by rfl) (by rfl) (HS.out _) (fun w3 k3 => ?_) ?_
      · refine ⟨k3, ?_⟩
        refine take_val 5 { tmps := (.agg (vls 400 (flw x0)) :: .agg (vls 400 (flw x1)) :: .pointer (some ⟨w.heap.size, 0, none⟩) :: .pointer (some ⟨w.heap.size + 1, 0, none⟩) :: .bool false :: undef :: undef :: undef :: undef :: .tuple #[.agg (vls 400 (flw r0)), .int .i64 r1] :: .agg (vls 400 (flw x0)) :: .agg (vls 400 (flw x0)) :: .agg (vls 400 (flw x1)) :: .agg (vls 400 (flw x1)) :: .tuple #[.agg (vls 400 (flw r0)), .int .i64 r1] :: undef :: undef :: undef :: undef :: undef :: undef :: undef :: undef :: undef :: undef :: undef :: undef :: undef :: undef :: undef :: undef :: undef :: undef :: undef :: []).toArray, defers := [] } #[true, true, true, true, true, true, false, false, false, false, false] (.tuple #[.agg (vls 400 (flw r0)), .int .i64 r1]) rfl (by rfl) (by kernel_rfl) (by kernel_rfl) (by kernel_rfl) (fun w => by rfl) (by rfl) (by rfl) (k3) ?_
        refine take_val 6 { tmps := (.agg (vls 400 (flw x0)) :: .agg (vls 400 (flw x1)) :: .pointer (some ⟨w.heap.size, 0, none⟩) :: .pointer (some ⟨w.heap.size + 1, 0, none⟩) :: .bool false :: undef :: undef :: undef :: undef :: .tuple #[.agg (vls 400 (flw r0)), .int .i64 r1] :: .agg (vls 400 (flw x0)) :: .agg (vls 400 (flw x0)) :: .agg (vls 400 (flw x1)) :: .agg (vls 400 (flw x1)) :: .tuple #[.agg (vls 400 (flw r0)), .int .i64 r1] :: .agg (vls 400 (flw r0)) :: undef :: undef :: undef :: undef :: undef :: undef :: undef :: undef :: undef :: undef :: undef :: undef :: undef :: undef :: undef :: undef :: undef :: undef :: []).toArray, defers := [] } #[true, true, true, true, true, true, true, false, false, false, false] (.agg (vls 400 (flw r0))) rfl (by rfl) (by kernel_rfl) (by kernel_rfl) (by kernel_rfl) (fun w => by rfl) (by rfl) (by rfl) (k3) ?_
        refine take_val 7 { tmps := (.agg (vls 400 (flw x0)) :: .agg (vls 400 (flw x1)) :: .pointer (some ⟨w.heap.size, 0, none⟩) :: .pointer (some ⟨w.heap.size + 1, 0, none⟩) :: .bool false :: undef :: undef :: undef :: undef :: .tuple #[.agg (vls 400 (flw r0)), .int .i64 r1] :: .agg (vls 400 (flw x0)) :: .agg (vls 400 (flw x0)) :: .agg (vls 400 (flw x1)) :: .agg (vls 400 (flw x1)) :: .tuple #[.agg (vls 400 (flw r0)), .int .i64 r1] :: .agg (vls 400 (flw r0)) :: .int .i64 r1 :: undef :: undef :: undef :: undef :: undef :: undef :: undef :: undef :: undef :: undef :: undef :: undef :: undef :: undef :: undef :: undef :: undef :: []).toArray, defers := [] } #[true, true, true, true, true, true, true, true, false, false, false] (.int .i64 r1) rfl (by rfl) (by kernel_rfl) (by kernel_rfl) (by kernel_rfl) (fun w => by rfl) (by rfl) (by rfl) (k3) ?_
        refine wpAnyH_ready (rs := [8]) (by kernel_rfl) (by simp) ?_
        refine allocK 8 (fun g4 => { tmps := (.agg (vls 400 (flw x0)) :: .agg (vls 400 (flw x1)) :: .pointer (some ⟨w.heap.size, 0, none⟩) :: .pointer (some ⟨w.heap.size + 1, 0, none⟩) :: .bool false :: .pointer (some ⟨g4, 0, none⟩) :: undef :: undef :: undef :: .tuple #[.agg (vls 400 (flw r0)), .int .i64 r1] :: .agg (vls 400 (flw x0)) :: .agg (vls 400 (flw x0)) :: .agg (vls 400 (flw x1)) :: .agg (vls 400 (flw x1)) :: .tuple #[.agg (vls 400 (flw r0)), .int .i64 r1] :: .agg (vls 400 (flw r0)) :: .int .i64 r1 :: undef :: undef :: undef :: undef :: undef :: undef :: undef :: undef :: undef :: undef :: undef :: undef :: undef :: undef :: undef :: undef :: undef :: []).toArray, defers := [] }) #[true, true, true, true, true, true, true, true, true, false, false] k3 rfl (by rfl) (vls 400 (flw fun _ => 0)) 53 (alloc_kern _ _ _ _ _ _ _) (fun g => by rfl) (by rfl) (fun w4 g4 k4 hB4 hn4 => ?_) AllReadyH.nil
        refine ⟨k4.tail, ?_⟩
        refine wpAnyH_ready (rs := [9]) (by kernel_rfl) (by simp) ?_
        refine storeK 9 { tmps := (.agg (vls 400 (flw x0)) :: .agg (vls 400 (flw x1)) :: .pointer (some ⟨w.heap.size, 0, none⟩) :: .pointer (some ⟨w.heap.size + 1, 0, none⟩) :: .bool false :: .pointer (some ⟨g4, 0, none⟩) :: undef :: undef :: undef :: .tuple #[.agg (vls 400 (flw r0)), .int .i64 r1] :: .agg (vls 400 (flw x0)) :: .agg (vls 400 (flw x0)) :: .agg (vls 400 (flw x1)) :: .agg (vls 400 (flw x1)) :: .tuple #[.agg (vls 400 (flw r0)), .int .i64 r1] :: .agg (vls 400 (flw r0)) :: .int .i64 r1 :: undef :: undef :: undef :: undef :: undef :: undef :: undef :: undef :: undef :: undef :: undef :: undef :: undef :: undef :: undef :: undef :: undef :: []).toArray, defers := [] } #[true, true, true, true, true, true, true, true, true, true, false] k4 hB4 hn4 rfl (by rfl) 53 _ _ rfl (vls 400 (flw r0)) (by rfl) (by rfl) (by rw [vls_size]; exact info_kern) (by simp) (vls_one (flw_one _)) (by rfl) (by rfl) (fun w5 k5 => ?_) AllReadyH.nil
        refine ⟨k5.tail, ?_⟩
        refine take_val 10 { tmps := (.agg (vls 400 (flw x0)) :: .agg (vls 400 (flw x1)) :: .pointer (some ⟨w.heap.size, 0, none⟩) :: .pointer (some ⟨w.heap.size + 1, 0, none⟩) :: .bool false :: .pointer (some ⟨g4, 0, none⟩) :: .int .i64 r1 :: undef :: undef :: .tuple #[.agg (vls 400 (flw r0)), .int .i64 r1] :: .agg (vls 400 (flw x0)) :: .agg (vls 400 (flw x0)) :: .agg (vls 400 (flw x1)) :: .agg (vls 400 (flw x1)) :: .tuple #[.agg (vls 400 (flw r0)), .int .i64 r1] :: .agg (vls 400 (flw r0)) :: .int .i64 r1 :: undef :: undef :: undef :: undef :: undef :: undef :: undef :: undef :: undef :: undef :: undef :: undef :: undef :: undef :: undef :: undef :: undef :: []).toArray, defers := [] } #[true, true, true, true, true, true, true, true, true, true, true] (.int .i64 r1) rfl (by rfl) (by kernel_rfl) (by kernel_rfl) (by kernel_rfl) (fun w => by rfl) (by rfl) (by rfl) (k5.tail) ?_
        exact wpAnyH_done (by kernel_rfl) (NoPanic.normal (key1 g4 _ (hid k5))) _
      refine allocK 8 (fun g6 => { tmps := (.agg (vls 400 (flw x0)) :: .agg (vls 400 (flw x1)) :: .pointer (some ⟨w.heap.size, 0, none⟩) :: .pointer (some ⟨w.heap.size + 1, 0, none⟩) :: .bool false :: .pointer (some ⟨g6, 0, none⟩) :: undef :: undef :: undef :: undef :: .agg (vls 400 (flw x0)) :: .agg (vls 400 (flw x0)) :: .agg (vls 400 (flw x1)) :: .agg (vls 400 (flw x1)) :: undef :: undef :: undef :: undef :: undef :: undef :: undef :: undef :: undef :: undef :: undef :: undef :: undef :: undef :: undef :: undef :: undef :: undef :: undef :: undef :: []).toArray, defers := [] }) #[true, true, true, true, false, false, false, false, true, false, false] k2 rfl (by rfl) (vls 400 (flw fun _ => 0)) 53 (alloc_kern _ _ _ _ _ _ _) (fun g => by rfl) (by rfl) (fun w6 g6 k6 hB6 hn6 => ?_) AllReadyH.nil
      refine ⟨k6.tail, ?_⟩
      refine wpAnyH_ready (rs := [4]) (by kernel_rfl) (by simp) ?_
      refine callK 4 { tmps := (.agg (vls 400 (flw x0)) :: .agg (vls 400 (flw x1)) :: .pointer (some ⟨w.heap.size, 0, none⟩) :: .pointer (some ⟨w.heap.size + 1, 0, none⟩) :: .bool false :: .pointer (some ⟨g6, 0, none⟩) :: undef :: undef :: undef :: undef :: .agg (vls 400 (flw x0)) :: .agg (vls 400 (flw x0)) :: .agg (vls 400 (flw x1)) :: .agg (vls 400 (flw x1)) :: .tuple #[.agg (vls 400 (flw r0)), .int .i64 r1] :: undef :: undef :: undef :: undef :: undef :: undef :: undef :: undef :: undef :: undef :: undef :: undef :: undef :: undef :: undef :: undef :: undef :: undef :: undef :: []).toArray, defers := [] } #[true, true, true, true, true, false, false, false, true, false, false] (.tuple #[.agg (vls 400 (flw r0)), .int .i64 r1]) k6 rfl (by rfl) 64 #[.agg (vls 400 (flw x0)), .agg (vls 400 (flw x1))] (run_sAddKernels2 _ _ _ rfl _ _ rfl _ _ _ _ _ _) (by rfl) (by rfl) (HS.out _) (fun w7 k7 => ?_) AllReadyH.nil
      refine ⟨k7.tail, ?_⟩
      refine take_val 5 { tmps := (.agg (vls 400 (flw x0)) :: .agg (vls 400 (flw x1)) :: .pointer (some ⟨w.heap.size, 0, none⟩) :: .pointer (some ⟨w.heap.size + 1, 0, none⟩) :: .bool false :: .pointer (some ⟨g6, 0, none⟩) :: undef :: undef :: undef :: .tuple #[.agg (vls 400 (flw r0)), .int .i64 r1] :: .agg (vls 400 (flw x0)) :: .agg (vls 400 (flw x0)) :: .agg (vls 400 (flw x1)) :: .agg (vls 400 (flw x1)) :: .tuple #[.agg (vls 400 (flw r0)), .int .i64 r1] :: undef :: undef :: undef :: undef :: undef :: undef :: undef :: undef :: undef :: undef :: undef :: undef :: undef :: undef :: undef :: undef :: undef :: undef :: undef :: []).toArray, defers := [] } #[true, true, true, true, true, true, false, false, true, false, false] (.tuple #[.agg (vls 400 (flw r0)), .int .i64 r1]) rfl (by rfl) (by kernel_rfl) (by kernel_rfl) (by kernel_rfl) (fun w => by rfl) (by rfl) (by rfl) (k7.tail) ?_
      refine take_val 6 { tmps := (.agg (vls 400 (flw x0)) :: .agg (vls 400 (flw x1)) :: .pointer (some ⟨w.heap.size, 0, none⟩) :: .pointer (some ⟨w.heap.size + 1, 0, none⟩) :: .bool false :: .pointer (some ⟨g6, 0, none⟩) :: undef :: undef :: undef :: .tuple #[.agg (vls 400 (flw r0)), .int .i64 r1] :: .agg (vls 400 (flw x0)) :: .agg (vls 400 (flw x0)) :: .agg (vls 400 (flw x1)) :: .agg (vls 400 (flw x1)) :: .tuple #[.agg (vls 400 (flw r0)), .int .i64 r1] :: .agg (vls 400 (flw r0)) :: undef :: undef :: undef :: undef :: undef :: undef :: undef :: undef :: undef :: undef :: undef :: undef :: undef :: undef :: undef :: undef :: undef :: undef :: []).toArray, defers := [] } #[true, true, true, true, true, true, true, false, true, false, false] (.agg (vls 400 (flw r0))) rfl (by rfl) (by kernel_rfl) (by kernel_rfl) (by kernel_rfl) (fun w => by rfl) (by rfl) (by rfl) (k7.tail) ?_
      refine take_val 7 { tmps := (.agg (vls 400 (flw x0)) :: .agg (vls 400 (flw x1)) :: .pointer (some ⟨w.heap.size, 0, none⟩) :: .pointer (some ⟨w.heap.size + 1, 0, none⟩) :: .bool false :: .pointer (some ⟨g6, 0, none⟩) :: undef :: undef :: undef :: .tuple #[.agg (vls 400 (flw r0)), .int .i64 r1] :: .agg (vls 400 (flw x0)) :: .agg (vls 400 (flw x0)) :: .agg (vls 400 (flw x1)) :: .agg (vls 400 (flw x1)) :: .tuple #[.agg (vls 400 (flw r0)), .int .i64 r1] :: .agg (vls 400 (flw r0)) :: .int .i64 r1 :: undef :: undef :: undef :: undef :: undef :: undef :: undef :: undef :: undef :: undef :: undef :: undef :: undef :: undef :: undef :: undef :: undef :: []).toArray, defers := [] } #[true, true, true, true, true, true, true, true, true, false, false] (.int .i64 r1) rfl (by rfl) (by kernel_rfl) (by kernel_rfl) (by kernel_rfl) (fun w => by rfl) (by rfl) (by rfl) (k7.tail) ?_
      refine wpAnyH_ready (rs := [9]) (by kernel_rfl) (by simp) ?_
      refine storeK 9 { tmps := (.agg (vls 400 (flw x0)) :: .agg (vls 400 (flw x1)) :: .pointer (some ⟨w.heap.size, 0, none⟩) :: .pointer (some ⟨w.heap.size + 1, 0, none⟩) :: .bool false :: .pointer (some ⟨g6, 0, none⟩) :: undef :: undef :: undef :: .tuple #[.agg (vls 400 (flw r0)), .int .i64 r1] :: .agg (vls 400 (flw x0)) :: .agg (vls 400 (flw x0)) :: .agg (vls 400 (flw x1)) :: .agg (vls 400 (flw x1)) :: .tuple #[.agg (vls 400 (flw r0)), .int .i64 r1] :: .agg (vls 400 (flw r0)) :: .int .i64 r1 :: undef :: undef :: undef :: undef :: undef :: undef :: undef :: undef :: undef :: undef :: undef :: undef :: undef :: undef :: undef :: undef :: undef :: []).toArray, defers := [] } #[true, true, true, true, true, true, true, true, true, true, false] k7 hB6 hn6 rfl (by rfl) 53 _ _ rfl (vls 400 (flw r0)) (by rfl) (by rfl) (by rw [vls_size]; exact info_kern) (by simp) (vls_one (flw_one _)) (by rfl) (by rfl) (fun w8 k8 => ?_) AllReadyH.nil
      refine ⟨k8.tail, ?_⟩
      refine take_val 10 { tmps := (.agg (vls 400 (flw x0)) :: .agg (vls 400 (flw x1)) :: .pointer (some ⟨w.heap.size, 0, none⟩) :: .pointer (some ⟨w.heap.size + 1, 0, none⟩) :: .bool false :: .pointer (some ⟨g6, 0, none⟩) :: .int .i64 r1 :: undef :: undef :: .tuple #[.agg (vls 400 (flw r0)), .int .i64 r1] :: .agg (vls 400 (flw x0)) :: .agg (vls 400 (flw x0)) :: .agg (vls 400 (flw x1)) :: .agg (vls 400 (flw x1)) :: .tuple #[.agg (vls 400 (flw r0)), .int .i64 r1] :: .agg (vls 400 (flw r0)) :: .int .i64 r1 :: undef :: undef :: undef :: undef :: undef :: undef :: undef :: undef :: undef :: undef :: undef :: undef :: undef :: undef :: undef :: undef :: undef :: []).toArray, defers := [] } #[true, true, true, true, true, true, true, true, true, true, true] (.int .i64 r1) rfl (by rfl) (by kernel_rfl) (by kernel_rfl) (by kernel_rfl) (fun w => by rfl) (by rfl) (by rfl) (k8.tail) ?_
      exact wpAnyH_done (by kernel_rfl) (NoPanic.normal (key1 g6 _ (hid k8))) _
    refine allocK 8 (fun g9 => { tmps := (.agg (vls 400 (flw x0)) :: .agg (vls 400 (flw x1)) :: .pointer (some ⟨w.heap.size, 0, none⟩) :: .pointer (some ⟨w.heap.size + 1, 0, none⟩) :: .bool false :: .pointer (some ⟨g9, 0, none⟩) :: undef :: undef :: undef :: undef :: .agg (vls 400 (flw x0)) :: .agg (vls 400 (flw x0)) :: .agg (vls 400 (flw x1)) :: undef :: undef :: undef :: undef :: undef :: undef :: undef :: undef :: undef :: undef :: undef :: undef :: undef :: undef :: undef :: undef :: undef :: undef :: undef :: undef :: undef :: []).toArray, defers := [] }) #[true, true, true, false, false, false, false, false, true, false, false] k1 rfl (by rfl) (vls 400 (flw fun _ => 0)) 53 (alloc_kern _ _ _ _ _ _ _) (fun g => by rfl) (by rfl) (fun w9 g9 k9 hB9 hn9 => ?_) AllReadyH.nil
    refine ⟨k9.tail, ?_⟩
    refine wpAnyH_ready (rs := [3]) (by kernel_rfl) (by simp) ?_
    refine callK 3 { tmps := (.agg (vls 400 (flw x0)) :: .agg (vls 400 (flw x1)) :: .pointer (some ⟨w.heap.size, 0, none⟩) :: .pointer (some ⟨w.heap.size + 1, 0, none⟩) :: .bool false :: .pointer (some ⟨g9, 0, none⟩) :: undef :: undef :: undef :: undef :: .agg (vls 400 (flw x0)) :: .agg (vls 400 (flw x0)) :: .agg (vls 400 (flw x1)) :: .agg (vls 400 (flw x1)) :: undef :: undef :: undef :: undef :: undef :: undef :: undef :: undef :: undef :: undef :: undef :: undef :: undef :: undef :: undef :: undef :: undef :: undef :: undef :: undef :: []).toArray, defers := [] } #[true, true, true, true, false, false, false, false, true, false, false] (.agg (vls 400 (flw x1))) k9 rfl (by rfl) 51 #[.agg (vls 400 (flw x1))] (run_toKernel1 _ _ _ rfl _ _ _ _ _ _) (by rfl) (by rfl) (toKernel _ _) (fun w10 k10 => ?_) AllReadyH.nil
    refine ⟨k10.tail, ?_⟩
    refine wpAnyH_ready (rs := [4]) (by kernel_rfl) (by simp) ?_
    refine callK 4 { tmps := (.agg (vls 400 (flw x0)) :: .agg (vls 400 (flw x1)) :: .pointer (some ⟨w.heap.size, 0, none⟩) :: .pointer (some ⟨w.heap.size + 1, 0, none⟩) :: .bool false :: .pointer (some ⟨g9, 0, none⟩) :: undef :: undef :: undef :: undef :: .agg (vls 400 (flw x0)) :: .agg (vls 400 (flw x0)) :: .agg (vls 400 (flw x1)) :: .agg (vls 400 (flw x1)) :: .tuple #[.agg (vls 400 (flw r0)), .int .i64 r1] :: undef :: undef :: undef :: undef :: undef :: undef :: undef :: undef :: undef :: undef :: undef :: undef :: undef :: undef :: undef :: undef :: undef :: undef :: undef :: []).toArray, defers := [] } #[true, true, true, true, true, false, false, false, true, false, false] (.tuple #[.agg (vls 400 (flw r0)), .int .i64 r1]) k10 rfl (by rfl) 64 #[.agg (vls 400 (flw x0)), .agg (vls 400 (flw x1))] (run_sAddKernels2 _ _ _ rfl _ _ rfl _ _ _ _ _ _) (by rfl) (by rfl) (HS.out _) (fun w11 k11 => ?_) AllReadyH.nil
    refine ⟨k11.tail, ?_⟩
    refine take_val 5 { tmps := (.agg (vls 400 (flw x0)) :: .agg (vls 400 (flw x1)) :: .pointer (some ⟨w.heap.size, 0, none⟩) :: .pointer (some ⟨w.heap.size + 1, 0, none⟩) :: .bool false :: .pointer (some ⟨g9, 0, none⟩) :: undef :: undef :: undef :: .tuple #[.agg (vls 400 (flw r0)), .int .i64 r1] :: .agg (vls 400 (flw x0)) :: .agg (vls 400 (flw x0)) :: .agg (vls 400 (flw x1)) :: .agg (vls 400 (flw x1)) :: .tuple #[.agg (vls 400 (flw r0)), .int .i64 r1] :: undef :: undef :: undef :: undef :: undef :: undef :: undef :: undef :: undef :: undef :: undef :: undef :: undef :: undef :: undef :: undef :: undef :: undef :: undef :: []).toArray, defers := [] } #[true, true, true, true, true, true, false, false, true, false, false] (.tuple #[.agg (vls 400 (flw r0)), .int .i64 r1]) rfl (by rfl) (by kernel_rfl) (by kernel_rfl) (by kernel_rfl) (fun w => by rfl) (by rfl) (by rfl) (k11.tail) ?_
    refine take_val 6 { tmps := (.agg (vls 400 (flw x0)) :: .agg (vls 400 (flw x1)) :: .pointer (some ⟨w.heap.size, 0, none⟩) :: .pointer (some ⟨w.heap.size + 1, 0, none⟩) :: .bool false :: .pointer (some ⟨g9, 0, none⟩) :: undef :: undef :: undef :: .tuple #[.agg (vls 400 (flw r0)), .int .i64 r1] :: .agg (vls 400 (flw x0)) :: .agg (vls 400 (flw x0)) :: .agg (vls 400 (flw x1)) :: .agg (vls 400 (flw x1)) :: .tuple #[.agg (vls 400 (flw r0)), .int .i64 r1] :: .agg (vls 400 (flw r0)) :: undef :: undef :: undef :: undef :: undef :: undef :: undef :: undef :: undef :: undef :: undef :: undef :: undef :: undef :: undef :: undef :: undef :: undef :: []).toArray, defers := [] } #[true, true, true, true, true, true, true, false, true, false, false] (.agg (vls 400 (flw r0))) rfl (by rfl) (by kernel_rfl) (by kernel_rfl) (by kernel_rfl) (fun w => by rfl) (by rfl) (by rfl) (k11.tail) ?_
    refine take_val 7 { tmps := (.agg (vls 400 (flw x0)) :: .agg (vls 400 (flw x1)) :: .pointer (some ⟨w.heap.size, 0, none⟩) :: .pointer (some ⟨w.heap.size + 1, 0, none⟩) :: .bool false :: .pointer (some ⟨g9, 0, none⟩) :: undef :: undef :: undef :: .tuple #[.agg (vls 400 (flw r0)), .int .i64 r1] :: .agg (vls 400 (flw x0)) :: .agg (vls 400 (flw x0)) :: .agg (vls 400 (flw x1)) :: .agg (vls 400 (flw x1)) :: .tuple #[.agg (vls 400 (flw r0)), .int .i64 r1] :: .agg (vls 400 (flw r0)) :: .int .i64 r1 :: undef :: undef :: undef :: undef :: undef :: undef :: undef :: undef :: undef :: undef :: undef :: undef :: undef :: undef :: undef :: undef :: undef :: []).toArray, defers := [] } #[true, true, true, true, true, true, true, true, true, false, false] (.int .i64 r1) rfl (by rfl) (by kernel_rfl) (by kernel_rfl) (by kernel_rfl) (fun w => by rfl) (by rfl) (by rfl) (k11.tail) ?_
    refine wpAnyH_ready (rs := [9]) (by kernel_rfl) (by simp) ?_
    refine storeK 9 { tmps := (.agg (vls 400 (flw x0)) :: .agg (vls 400 (flw x1)) :: .pointer (some ⟨w.heap.size, 0, none⟩) :: .pointer (some ⟨w.heap.size + 1, 0, none⟩) :: .bool false :: .pointer (some ⟨g9, 0, none⟩) :: undef :: undef :: undef :: .tuple #[.agg (vls 400 (flw r0)), .int .i64 r1] :: .agg (vls 400 (flw x0)) :: .agg (vls 400 (flw x0)) :: .agg (vls 400 (flw x1)) :: .agg (vls 400 (flw x1)) :: .tuple #[.agg (vls 400 (flw r0)), .int .i64 r1] :: .agg (vls 400 (flw r0)) :: .int .i64 r1 :: undef :: undef :: undef :: undef :: undef :: undef :: undef :: undef :: undef :: undef :: undef :: undef :: undef :: undef :: undef :: undef :: undef :: []).toArray, defers := [] } #[true, true, true, true, true, true, true, true, true, true, false] k11 hB9 hn9 rfl (by rfl) 53 _ _ rfl (vls 400 (flw r0)) (by rfl) (by rfl) (by rw [vls_size]; exact info_kern) (by simp) (vls_one (flw_one _)) (by rfl) (by rfl) (fun w12 k12 => ?_) AllReadyH.nil
    refine ⟨k12.tail, ?_⟩
    refine take_val 10 { tmps := (.agg (vls 400 (flw x0)) :: .agg (vls 400 (flw x1)) :: .pointer (some ⟨w.heap.size, 0, none⟩) :: .pointer (some ⟨w.heap.size + 1, 0, none⟩) :: .bool false :: .pointer (some ⟨g9, 0, none⟩) :: .int .i64 r1 :: undef :: undef :: .tuple #[.agg (vls 400 (flw r0)), .int .i64 r1] :: .agg (vls 400 (flw x0)) :: .agg (vls 400 (flw x0)) :: .agg (vls 400 (flw x1)) :: .agg (vls 400 (flw x1)) :: .tuple #[.agg (vls 400 (flw r0)), .int .i64 r1] :: .agg (vls 400 (flw r0)) :: .int .i64 r1 :: undef :: undef :: undef :: undef :: undef :: undef :: undef :: undef :: undef :: undef :: undef :: undef :: undef :: undef :: undef :: undef :: undef :: []).toArray, defers := [] } #[true, true, true, true, true, true, true, true, true, true, true] (.int .i64 r1) rfl (by rfl) (by kernel_rfl) (by kernel_rfl) (by kernel_rfl) (fun w => by rfl) (by rfl) (by rfl) (k12.tail) ?_
    exact wpAnyH_done (by kernel_rfl) (NoPanic.normal (key1 g9 _ (hid k12))) _
  refine allocK 8 (fun g13 => { tmps := (.agg (vls 400 (flw x0)) :: .agg (vls 400 (flw x1)) :: .pointer (some ⟨w.heap.size, 0, none⟩) :: .pointer (some ⟨w.heap.size + 1, 0, none⟩) :: .bool false :: .pointer (some ⟨g13, 0, none⟩) :: undef :: undef :: undef :: undef :: .agg (vls 400 (flw x0)) :: undef :: .agg (vls 400 (flw x1)) :: undef :: undef :: undef :: undef :: undef :: undef :: undef :: undef :: undef :: undef :: undef :: undef :: undef :: undef :: undef :: undef :: undef :: undef :: undef :: undef :: undef :: []).toArray, defers := [] }) #[true, false, true, false, false, false, false, false, true, false, false] kd rfl (by rfl) (vls 400 (flw fun _ => 0)) 53 (alloc_kern _ _ _ _ _ _ _) (fun g => by rfl) (by rfl) (fun w13 g13 k13 hB13 hn13 => ?_) AllReadyH.nil
  refine ⟨k13.tail, ?_⟩
  refine wpAnyH_ready (rs := [1]) (by kernel_rfl) (by simp) ?_
  refine callK 1 { tmps := (.agg (vls 400 (flw x0)) :: .agg (vls 400 (flw x1)) :: .pointer (some ⟨w.heap.size, 0, none⟩) :: .pointer (some ⟨w.heap.size + 1, 0, none⟩) :: .bool false :: .pointer (some ⟨g13, 0, none⟩) :: undef :: undef :: undef :: undef :: .agg (vls 400 (flw x0)) :: .agg (vls 400 (flw x0)) :: .agg (vls 400 (flw x1)) :: undef :: undef :: undef :: undef :: undef :: undef :: undef :: undef :: undef :: undef :: undef :: undef :: undef :: undef :: undef :: undef :: undef :: undef :: undef :: undef :: undef :: []).toArray, defers := [] } #[true, true, true, false, false, false, false, false, true, false, false] (.agg (vls 400 (flw x0))) k13 rfl (by rfl) 51 #[.agg (vls 400 (flw x0))] (run_toKernel1 _ _ _ rfl _ _ _ _ _ _) (by rfl) (by rfl) (toKernel _ _) (fun w14 k14 => ?_) AllReadyH.nil
  refine ⟨k14.tail, ?_⟩
  refine wpAnyH_ready (rs := [3]) (by kernel_rfl) (by simp) ?_
  refine callK 3 { tmps := (.agg (vls 400 (flw x0)) :: .agg (vls 400 (flw x1)) :: .pointer (some ⟨w.heap.size, 0, none⟩) :: .pointer (some ⟨w.heap.size + 1, 0, none⟩) :: .bool false :: .pointer (some ⟨g13, 0, none⟩) :: undef :: undef :: undef :: undef :: .agg (vls 400 (flw x0)) :: .agg (vls 400 (flw x0)) :: .agg (vls 400 (flw x1)) :: .agg (vls 400 (flw x1)) :: undef :: undef :: undef :: undef :: undef :: undef :: undef :: undef :: undef :: undef :: undef :: undef :: undef :: undef :: undef :: undef :: undef :: undef :: undef :: undef :: []).toArray, defers := [] } #[true, true, true, true, false, false, false, false, true, false, false] (.agg (vls 400 (flw x1))) k14 rfl (by rfl) 51 #[.agg (vls 400 (flw x1))] (run_toKernel1 _ _ _ rfl _ _ _ _ _ _) (by rfl) (by rfl) (toKernel _ _) (fun w15 k15 => ?_) AllReadyH.nil
  refine ⟨k15.tail, ?_⟩
  refine wpAnyH_ready (rs := [4]) (by kernel_rfl) (by simp) ?_
  refine callK 4 { tmps := (.agg (vls 400 (flw x0)) :: .agg (vls 400 (flw x1)) :: .pointer (some ⟨w.heap.size, 0, none⟩) :: .pointer (some ⟨w.heap.size + 1, 0, none⟩) :: .bool false :: .pointer (some ⟨g13, 0, none⟩) :: undef :: undef :: undef :: undef :: .agg (vls 400 (flw x0)) :: .agg (vls 400 (flw x0)) :: .agg (vls 400 (flw x1)) :: .agg (vls 400 (flw x1)) :: .tuple #[.agg (vls 400 (flw r0)), .int .i64 r1] :: undef :: undef :: undef :: undef :: undef :: undef :: undef :: undef :: undef :: undef :: undef :: undef :: undef :: undef :: undef :: undef :: undef :: undef :: undef :: []).toArray, defers := [] } #[true, true, true, true, true, false, false, false, true, false, false] (.tuple #[.agg (vls 400 (flw r0)), .int .i64 r1]) k15 rfl (by rfl) 64 #[.agg (vls 400 (flw x0)), .agg (vls 400 (flw x1))] (run_sAddKernels2 _ _ _ rfl _ _ rfl _ _ _ _ _ _) (by rfl) (by rfl) (HS.out _) (fun w16 k16 => ?_) AllReadyH.nil
  refine ⟨k16.tail, ?_⟩
  refine take_val 5 { tmps := (.agg (vls 400 (flw x0)) :: .agg (vls 400 (flw x1)) :: .pointer (some ⟨w.heap.size, 0, none⟩) :: .pointer (some ⟨w.heap.size + 1, 0, none⟩) :: .bool false :: .pointer (some ⟨g13, 0, none⟩) :: undef :: undef :: undef :: .tuple #[.agg (vls 400 (flw r0)), .int .i64 r1] :: .agg (vls 400 (flw x0)) :: .agg (vls 400 (flw x0)) :: .agg (vls 400 (flw x1)) :: .agg (vls 400 (flw x1)) :: .tuple #[.agg (vls 400 (flw r0)), .int .i64 r1] :: undef :: undef :: undef :: undef :: undef :: undef :: undef :: undef :: undef :: undef :: undef :: undef :: undef :: undef :: undef :: undef :: undef :: undef :: undef :: []).toArray, defers := [] } #[true, true, true, true, true, true, false, false, true, false, false] (.tuple #[.agg (vls 400 (flw r0)), .int .i64 r1]) rfl (by rfl) (by kernel_rfl) (by kernel_rfl) (by kernel_rfl) (fun w => by rfl) (by rfl) (by rfl) (k16.tail) ?_
  refine take_val 6 { tmps := (.agg (vls 400 (flw x0)) :: .agg (vls 400 (flw x1)) :: .pointer (some ⟨w.heap.size, 0, none⟩) :: .pointer (some ⟨w.heap.size + 1, 0, none⟩) :: .bool false :: .pointer (some ⟨g13, 0, none⟩) :: undef :: undef :: undef :: .tuple #[.agg (vls 400 (flw r0)), .int .i64 r1] :: .agg (vls 400 (flw x0)) :: .agg (vls 400 (flw x0)) :: .agg (vls 400 (flw x1)) :: .agg (vls 400 (flw x1)) :: .tuple #[.agg (vls 400 (flw r0)), .int .i64 r1] :: .agg (vls 400 (flw r0)) :: undef :: undef :: undef :: undef :: undef :: undef :: undef :: undef :: undef :: undef :: undef :: undef :: undef :: undef :: undef :: undef :: undef :: undef :: []).toArray, defers := [] } #[true, true, true, true, true, true, true, false, true, false, false] (.agg (vls 400 (flw r0))) rfl (by rfl) (by kernel_rfl) (by kernel_rfl) (by kernel_rfl) (fun w => by rfl) (by rfl) (by rfl) (k16.tail) ?_
  refine take_val 7 { tmps := (.agg (vls 400 (flw x0)) :: .agg (vls 400 (flw x1)) :: .pointer (some ⟨w.heap.size, 0, none⟩) :: .pointer (some ⟨w.heap.size + 1, 0, none⟩) :: .bool false :: .pointer (some ⟨g13, 0, none⟩) :: undef :: undef :: undef :: .tuple #[.agg (vls 400 (flw r0)), .int .i64 r1] :: .agg (vls 400 (flw x0)) :: .agg (vls 400 (flw x0)) :: .agg (vls 400 (flw x1)) :: .agg (vls 400 (flw x1)) :: .tuple #[.agg (vls 400 (flw r0)), .int .i64 r1] :: .agg (vls 400 (flw r0)) :: .int .i64 r1 :: undef :: undef :: undef :: undef :: undef :: undef :: undef :: undef :: undef :: undef :: undef :: undef :: undef :: undef :: undef :: undef :: undef :: []).toArray, defers := [] } #[true, true, true, true, true, true, true, true, true, false, false] (.int .i64 r1) rfl (by rfl) (by kernel_rfl) (by kernel_rfl) (by kernel_rfl) (fun w => by rfl) (by rfl) (by rfl) (k16.tail) ?_
  refine wpAnyH_ready (rs := [9]) (by kernel_rfl) (by simp) ?_
  refine storeK 9 { tmps := (.agg (vls 400 (flw x0)) :: .agg (vls 400 (flw x1)) :: .pointer (some ⟨w.heap.size, 0, none⟩) :: .pointer (some ⟨w.heap.size + 1, 0, none⟩) :: .bool false :: .pointer (some ⟨g13, 0, none⟩) :: undef :: undef :: undef :: .tuple #[.agg (vls 400 (flw r0)), .int .i64 r1] :: .agg (vls 400 (flw x0)) :: .agg (vls 400 (flw x0)) :: .agg (vls 400 (flw x1)) :: .agg (vls 400 (flw x1)) :: .tuple #[.agg (vls 400 (flw r0)), .int .i64 r1] :: .agg (vls 400 (flw r0)) :: .int .i64 r1 :: undef :: undef :: undef :: undef :: undef :: undef :: undef :: undef :: undef :: undef :: undef :: undef :: undef :: undef :: undef :: undef :: undef :: []).toArray, defers := [] } #[true, true, true, true, true, true, true, true, true, true, false] k16 hB13 hn13 rfl (by rfl) 53 _ _ rfl (vls 400 (flw r0)) (by rfl) (by rfl) (by rw [vls_size]; exact info_kern) (by simp) (vls_one (flw_one _)) (by rfl) (by rfl) (fun w17 k17 => ?_) AllReadyH.nil
  refine ⟨k17.tail, ?_⟩
  refine take_val 10 { tmps := (.agg (vls 400 (flw x0)) :: .agg (vls 400 (flw x1)) :: .pointer (some ⟨w.heap.size, 0, none⟩) :: .pointer (some ⟨w.heap.size + 1, 0, none⟩) :: .bool false :: .pointer (some ⟨g13, 0, none⟩) :: .int .i64 r1 :: undef :: undef :: .tuple #[.agg (vls 400 (flw r0)), .int .i64 r1] :: .agg (vls 400 (flw x0)) :: .agg (vls 400 (flw x0)) :: .agg (vls 400 (flw x1)) :: .agg (vls 400 (flw x1)) :: .tuple #[.agg (vls 400 (flw r0)), .int .i64 r1] :: .agg (vls 400 (flw r0)) :: .int .i64 r1 :: undef :: undef :: undef :: undef :: undef :: undef :: undef :: undef :: undef :: undef :: undef :: undef :: undef :: undef :: undef :: undef :: undef :: []).toArray, defers := [] } #[true, true, true, true, true, true, true, true, true, true, true] (.int .i64 r1) rfl (by rfl) (by kernel_rfl) (by kernel_rfl) (by kernel_rfl) (fun w => by rfl) (by rfl) (by rfl) (k17.tail) ?_
  exact wpAnyH_done (by kernel_rfl) (NoPanic.normal (key1 g13 _ (hid k17))) _

theorem lawAddKernels (c : Nat → Nat) (hb : ∀ i, i < 400 → c i < 4294967296) (d : Nat → Nat) (hd : ∀ i, i < 400 → d i < 4294967296) (w : World) :
    Calls Try.prog 15 #[.agg (vls 400 (flw c)), .agg (vls 400 (flw d))] w fun e w' => e = .returned (.bool true) ∧ Below w.heap.size w w' := by
  rcases Classical.em (KOk c) with h | h
  · rcases Classical.em (KOk d) with h' | h'
    · obtain ⟨r, q, h1, h2, h3, h4⟩ := told_lit3 (addN c d) (fun n hn => nn_lt (addN_nn h.1 h'.1 hn))
      exact coreAddKernels c d r h3 h4 q (sAddK_ok c d hb hd h h' r q h1 h2) (iAddK_ok c d hb hd h h' r q h1 h2) w
    · exact coreAddKernels c d (fun _ => 0) (fun _ _ => (by decide : (0 : Nat) < 4294967296)) (fun _ _ => (by decide : finB 0 = true)) 1 (sAddK_bad2 c d hb hd h h') (iAddK_bad2 c d hb hd h h') w
  · exact coreAddKernels c d (fun _ => 0) (fun _ _ => (by decide : (0 : Nat) < 4294967296)) (fun _ _ => (by decide : finB 0 = true)) 1 (sAddK_bad c d hb h) (iAddK_bad c d hb h) w

theorem words_cons : ∀ (v : List Char) (r : List Char), (∀ c ∈ v, c ≠ Char.ofNat 32) → wordsSigns (v ++ Char.ofNat 32 :: r) = v :: wordsSigns r
  | [], r, _ => rfl
  | c :: v, r, h => by
    have ih := words_cons v r (fun x hx => h x (by simp [hx]))
    have hc : c ≠ Char.ofNat 32 := h c (by simp)
    show wordsSigns (c :: (v ++ Char.ofNat 32 :: r)) = _
    rw [wordsSigns.eq_3 _ _ (fun e => hc e), ih]

def w0 : List Nat := [104, 97, 114, 110, 101, 115, 115]

def w1 : List Nat := [97, 97, 48, 52, 102, 49, 99, 51, 50, 54, 56, 53, 56, 53, 102, 57, 99, 56, 55, 101, 50, 56, 99, 101, 57, 99, 99, 99, 52, 98, 56, 57, 52, 51, 53, 102, 101, 102, 99, 51, 54, 98, 102, 57, 51, 50, 53, 51, 57, 101, 54, 98, 50, 101, 98, 55, 50, 53, 53, 97, 54, 51, 54, 55]

def w2 : List Nat := [99, 117, 116]

def w3 : List Nat := [97, 116, 32, 108, 111, 111, 112, 46, 101, 120, 97, 109, 112, 108, 101, 47, 103, 48, 49, 50, 50, 52, 47, 108, 97, 119, 115, 46, 70, 110, 69, 120, 97, 99, 116, 84, 104, 105, 114, 100, 82, 111, 111, 116, 32, 108, 111, 111, 112, 46, 101, 120, 97, 109, 112, 108, 101, 47, 103, 48, 49, 50, 50, 52, 47, 108, 97, 119, 115, 46, 70, 110, 69, 120, 97, 99, 116, 83, 104, 105, 102, 116, 77, 97, 115, 115, 101, 115, 32, 108, 111, 111, 112, 46, 101, 120, 97, 109, 112, 108, 101, 47, 103, 48, 49, 50, 50, 52, 47, 108, 97, 119, 115, 46, 70, 110, 69, 120, 97, 99, 116, 71, 97, 105, 110, 115, 65, 116, 32, 108, 111, 111, 112, 46, 101, 120, 97, 109, 112, 108, 101, 47, 103, 48, 49, 50, 50, 52, 47, 108, 97, 119, 115, 46, 70, 110, 69, 120, 97, 99, 116, 71, 114, 111, 119, 79, 110, 99, 101, 32, 108, 111, 111, 112, 46, 101, 120, 97, 109, 112, 108, 101, 47, 103, 48, 49, 50, 50, 52, 47, 108, 97, 119, 115, 46, 70, 110, 69, 120, 97, 99, 116, 71, 114, 111, 119, 83, 116, 101, 112, 115, 32, 108, 111, 111, 112, 46, 101, 120, 97, 109, 112, 108, 101, 47, 103, 48, 49, 50, 50, 52, 47, 108, 97, 119, 115, 46, 70, 110, 69, 120, 97, 99, 116, 83, 116, 101, 112, 115, 84, 111, 68, 114, 121, 32, 108, 111, 111, 112, 46, 101, 120, 97, 109, 112, 108, 101, 47, 103, 48, 49, 50, 50, 52, 47, 108, 97, 119, 115, 46, 70, 110, 69, 120, 97, 99, 116, 86, 97, 108, 105, 100, 75, 101, 114, 110, 101, 108, 32, 108, 111, 111, 112, 46, 101, 120, 97, 109, 112, 108, 101, 47, 103, 48, 49, 50, 50, 52, 47, 108, 97, 119, 115, 46, 70, 110, 69, 120, 97, 99, 116, 83, 97, 109, 101, 75, 101, 114, 110, 101, 108, 32, 108, 111, 111, 112, 46, 101, 120, 97, 109, 112, 108, 101, 47, 103, 48, 49, 50, 50, 52, 47, 108, 97, 119, 115, 46, 70, 110, 69, 120, 97, 99, 116, 70, 97, 108, 108, 79, 102, 32, 108, 111, 111, 112, 46, 101, 120, 97, 109, 112, 108, 101, 47, 103, 48, 49, 50, 50, 52, 47, 108, 97, 119, 115, 46, 70, 110, 69, 120, 97, 99, 116, 70, 108, 97, 116, 75, 101, 114, 110, 101, 108, 32, 108, 111, 111, 112, 46, 101, 120, 97, 109, 112, 108, 101, 47, 103, 48, 49, 50, 50, 52, 47, 108, 97, 119, 115, 46, 70, 110, 69, 120, 97, 99, 116, 83, 117, 109, 75, 101, 114, 110, 101, 108, 32, 108, 111, 111, 112, 46, 101, 120, 97, 109, 112, 108, 101, 47, 103, 48, 49, 50, 50, 52, 47, 108, 97, 119, 115, 46, 70, 110, 69, 120, 97, 99, 116, 70, 97, 108, 108, 75, 101, 114, 110, 101, 108, 32, 108, 111, 111, 112, 46, 101, 120, 97, 109, 112, 108, 101, 47, 103, 48, 49, 50, 50, 52, 47, 108, 97, 119, 115, 46, 70, 110, 69, 120, 97, 99, 116, 65, 100, 100, 75, 101, 114, 110, 101, 108, 115, 32, 108, 111, 111, 112, 46, 101, 120, 97, 109, 112, 108, 101, 47, 103, 48, 49, 50, 50, 52, 47, 108, 97, 119, 115, 46, 70, 110, 69, 120, 97, 99, 116, 83, 99, 97, 108, 101, 75, 101, 114, 110, 101, 108, 32, 108, 111, 111, 112, 46, 101, 120, 97, 109, 112, 108, 101, 47, 103, 48, 49, 50, 50, 52, 47, 108, 97, 119, 115, 46, 70, 110, 69, 120, 97, 99, 116, 69, 118, 101, 110, 116, 115, 79, 102, 32, 108, 111, 111, 112, 46, 101, 120, 97, 109, 112, 108, 101, 47, 103, 48, 49, 50, 50, 52, 47, 108, 97, 119, 115, 46, 70, 110, 69, 120, 97, 99, 116, 76, 111, 115, 115, 101, 115, 79, 102, 32, 108, 111, 111, 112, 46, 101, 120, 97, 109, 112, 108, 101, 47, 103, 48, 49, 50, 50, 52, 47, 108, 97, 119, 115, 46, 70, 110, 69, 120, 97, 99, 116, 67, 111, 108, 108, 105, 100, 101, 32, 108, 111, 111, 112, 46, 101, 120, 97, 109, 112, 108, 101, 47, 103, 48, 49, 50, 50, 52, 47, 108, 97, 119, 115, 46, 70, 110, 69, 120, 97, 99, 116, 67, 111, 108, 108, 105, 100, 101, 83, 116, 101, 112, 115, 32, 108, 111, 111, 112, 46, 101, 120, 97, 109, 112, 108, 101, 47, 103, 48, 49, 50, 50, 52, 47, 108, 97, 119, 115, 46, 70, 110, 69, 120, 97, 99, 116, 82, 97, 105, 110, 77, 97, 100, 101, 32, 108, 111, 111, 112, 46, 101, 120, 97, 109, 112, 108, 101, 47, 103, 48, 49, 50, 50, 52, 47, 108, 97, 119, 115, 46, 70, 110, 69, 120, 97, 99, 116, 66, 114, 101, 97, 107, 67, 108, 97, 115, 115, 32, 108, 111, 111, 112, 46, 101, 120, 97, 109, 112, 108, 101, 47, 103, 48, 49, 50, 50, 52, 47, 108, 97, 119, 115, 46, 70, 110, 69, 120, 97, 99, 116, 66, 114, 101, 97, 107, 76, 97, 114, 103, 101, 32, 108, 111, 111, 112, 46, 101, 120, 97, 109, 112, 108, 101, 47, 103, 48, 49, 50, 50, 52, 47, 108, 97, 119, 115, 46, 70, 110, 69, 120, 97, 99, 116, 86, 97, 108, 105, 100, 66, 111, 120, 32, 108, 111, 111, 112, 46, 101, 120, 97, 109, 112, 108, 101, 47, 103, 48, 49, 50, 50, 52, 47, 108, 97, 119, 115, 46, 70, 110, 69, 120, 97, 99, 116, 77, 97, 115, 115, 79, 102, 66, 111, 120, 32, 108, 111, 111, 112, 46, 101, 120, 97, 109, 112, 108, 101, 47, 103, 48, 49, 50, 50, 52, 47, 108, 97, 119, 115, 46, 70, 110, 69, 120, 97, 99, 116, 83, 105, 122, 101, 115, 79, 102, 66, 111, 120, 32, 108, 111, 111, 112, 46, 101, 120, 97, 109, 112, 108, 101, 47, 103, 48, 49, 50, 50, 52, 47, 108, 97, 119, 115, 46, 70, 110, 69, 120, 97, 99, 116, 67, 111, 108, 108, 105, 100, 101, 80, 97, 105, 114, 32, 108, 111, 111, 112, 46, 101, 120, 97, 109, 112, 108, 101, 47, 103, 48, 49, 50, 50, 52, 47, 108, 97, 119, 115, 46, 70, 110, 69, 120, 97, 99, 116, 67, 111, 108, 108, 105, 100, 101, 80, 97, 105, 114, 115, 32, 108, 111, 111, 112, 46, 101, 120, 97, 109, 112, 108, 101, 47, 103, 48, 49, 50, 50, 52, 47, 108, 97, 119, 115, 46, 70, 110, 69, 120, 97, 99, 116, 68, 114, 97, 119, 80, 97, 105, 114, 115, 32, 108, 111, 111, 112, 46, 101, 120, 97, 109, 112, 108, 101, 47, 103, 48, 49, 50, 50, 52, 47, 108, 97, 119, 115, 46, 70, 110, 69, 120, 97, 99, 116, 71, 97, 116, 104, 101, 114, 68, 117, 115, 116]

def letters (l : List Nat) : List Char := l.map Char.ofNat

theorem head_reads : Try.prog.initOrder = String.ofList (letters w0 ++ Char.ofNat 32 :: (letters w1 ++ Char.ofNat 32 :: (letters w2 ++ Char.ofNat 32 :: letters w3))) := by kernel_rfl

theorem no_blank {l : List Nat} (h : l.all (fun n => Char.ofNat n != Char.ofNat 32) = true) : ∀ c ∈ letters l, c ≠ Char.ofNat 32 := by
  intro c hc
  obtain ⟨n, hn, rfl⟩ := List.mem_map.1 hc
  have := List.all_eq_true.1 h n hn
  simpa using this

theorem h0 : letters w0 = "harness".toList := by kernel_rfl

theorem h2 : letters w2 = "cut".toList := by kernel_rfl

theorem sums : isSumSigns (letters w1) = true := by kernel_rfl

theorem words : wordsSigns Try.prog.initOrder.toList = "harness".toList :: letters w1 :: "cut".toList :: wordsSigns (letters w3) := by
  rw [head_reads, String.toList_ofList, words_cons _ _ (no_blank (by decide +kernel)), words_cons _ _ (no_blank (by decide +kernel)), words_cons _ _ (no_blank (by decide +kernel)), h0, h2]

theorem behind : ∃ r, behindMainWord (wordsSigns Try.prog.initOrder.toList) = "cut".toList :: r := by
  refine ⟨wordsSigns (letters w3), ?_⟩
  rw [words]
  generalize wordsSigns (letters w3) = r
  have hs := sums
  generalize letters w1 = v at hs
  unfold behindMainWord
  simp [hs]

theorem not_later : Try.prog.laysLater = false := by kernel_rfl

theorem no_reflect : Try.prog.bearsReflect = false := by kernel_rfl

theorem no_doors : Try.prog.doorFits [] = true := by kernel_rfl

theorem strips (r : List (List Char)) : stripLifts liftWords ("cut".toList :: r) = ([], "cut".toList :: r) := by kernel_rfl

theorem may_enter_of (P : Program) (r : List (List Char)) (h : behindMainWord (wordsSigns P.initOrder.toList) = "cut".toList :: r) (h1 : P.laysLater = false) (h2 : P.bearsReflect = false) (h3 : P.doorFits [] = true) : P.mayEnter = true := by
  unfold Program.mayEnter
  rw [h]
  dsimp only
  rw [strips, h1, h2, h3]
  kernel_rfl

theorem lifts_final_of (P : Program) (r : List (List Char)) (h : behindMainWord (wordsSigns P.initOrder.toList) = "cut".toList :: r) : P.liftsFinal = false := by
  unfold Program.liftsFinal Program.headLifts
  rw [h]
  dsimp only
  rw [strips]
  kernel_rfl

theorem made_of (P : Program) (r : List (List Char)) (h : behindMainWord (wordsSigns P.initOrder.toList) = "cut".toList :: r) : P.make = some .cut := by
  unfold Program.make
  rw [h]
  kernel_rfl

theorem may_enter : Try.prog.mayEnter = true := let ⟨r, h⟩ := behind; may_enter_of _ r h not_later no_reflect no_doors

theorem lifts_final : Try.prog.liftsFinal = false := let ⟨r, h⟩ := behind; lifts_final_of _ r h

theorem made : Try.prog.make = some .cut := let ⟨r, h⟩ := behind; made_of _ r h

theorem laid : laidOutB Try.prog = true := by kernel_rfl

theorem rowed : mapsRowed Try.prog = true := by kernel_rfl

theorem no_stops : Try.prog.stops = [] := by kernel_rfl

theorem no_knobs : Try.prog.stopKnobs = [] := by kernel_rfl

theorem plain_keys : Try.prog.plainKeys = false := by kernel_rfl

theorem stops_heard : Try.prog.stopsHeard = true := by kernel_rfl

theorem arr2 {α : Type} {cs : Array α} (h : cs.size = 2) : ∃ c0 c1, cs = #[c0, c1] := by
  obtain ⟨l⟩ := cs
  match l, h with
  | [a, b], _ => exact ⟨a, b, rfl⟩

theorem own : ownKnob Try.prog.godebug = none := by kernel_rfl

theorem rda : Try.prog.readableRec 28 = true ∧ 28 < Try.prog.types.size := ⟨by kernel_rfl, of_decide_eq_true (by kernel_rfl)⟩

theorem rdf : Try.prog.readableRec 22 = true ∧ 22 < Try.prog.types.size := ⟨by kernel_rfl, of_decide_eq_true (by kernel_rfl)⟩

theorem rdA : Try.prog.readableRec 40 = true ∧ 40 < Try.prog.types.size := ⟨by kernel_rfl, of_decide_eq_true (by kernel_rfl)⟩

theorem rdi : Try.prog.readableRec 2 = true ∧ 2 < Try.prog.types.size := ⟨by kernel_rfl, of_decide_eq_true (by kernel_rfl)⟩

theorem rdb : Try.prog.readableRec 76 = true ∧ 76 < Try.prog.types.size := ⟨by kernel_rfl, of_decide_eq_true (by kernel_rfl)⟩

theorem rdp : Try.prog.readableRec 86 = true ∧ 86 < Try.prog.types.size := ⟨by kernel_rfl, of_decide_eq_true (by kernel_rfl)⟩

theorem cells400 : Try.prog.cellsOf 51 = 400 := by kernel_rfl

theorem types400 : Try.prog.cellTypes Try.prog.depth 51 = some (List.replicate 400 22) := by kernel_rfl

theorem rdk : Try.prog.readableRec 51 = true ∧ 51 < Try.prog.types.size := ⟨by kernel_rfl, of_decide_eq_true (by kernel_rfl)⟩
end Go.Proofs.Ytnnhoololemaaaa

namespace Go.Proofs.Ytnnhoololemaaaa.fnExactAddKernels
open Go.RowKit Go.Fl Go.ChangeShapes Go.WideShapes Go.ChangeAt

theorem closed : joinedFacts Try.prog 15 Try.f15 Rows.fnExactAddKernelsSpec Rows.fnExactAddKernelsRow = true := by
  unfold joinedFacts
  simp only [Bool.and_eq_true]
  exact ⟨⟨⟨⟨⟨⟨⟨⟨⟨⟨⟨⟨⟨⟨⟨⟨⟨⟨⟨⟨⟨⟨⟨⟨⟨⟨⟨⟨⟨⟨⟨(by as_aux_lemma => kernel_rfl),
    laid⟩,
    rowed⟩,
    (by as_aux_lemma => kernel_rfl)⟩,
    (by as_aux_lemma => kernel_rfl)⟩,
    (by as_aux_lemma => kernel_rfl)⟩,
    (by rw [no_stops]; rfl)⟩,
    (by as_aux_lemma => kernel_rfl)⟩,
    (by rw [no_knobs]; rfl)⟩,
    (by as_aux_lemma => kernel_rfl)⟩,
    (by as_aux_lemma => kernel_rfl)⟩,
    (by as_aux_lemma => kernel_rfl)⟩,
    (by as_aux_lemma => kernel_rfl)⟩,
    (by as_aux_lemma => kernel_rfl)⟩,
    (by as_aux_lemma => kernel_rfl)⟩,
    (by as_aux_lemma => kernel_rfl)⟩,
    (by as_aux_lemma => kernel_rfl)⟩,
    (by as_aux_lemma => kernel_rfl)⟩,
    (by as_aux_lemma => kernel_rfl)⟩,
    (by as_aux_lemma => kernel_rfl)⟩,
    (by as_aux_lemma => kernel_rfl)⟩,
    (by as_aux_lemma => kernel_rfl)⟩,
    (show (Rows.fnExactAddKernelsRow.plainKeys == Try.prog.plainKeys) = true by rw [plain_keys]; rfl)⟩,
    (by as_aux_lemma => kernel_rfl)⟩,
    stops_heard⟩,
    may_enter⟩,
    (show (Rows.fnExactAddKernelsRow.lifted == Try.prog.liftsFinal) = true by rw [lifts_final]; rfl)⟩,
    (show (Try.prog.make == some Rows.fnExactAddKernelsRow.make) = true by rw [made]; rfl)⟩,
    (by as_aux_lemma => kernel_rfl)⟩,
    (by as_aux_lemma => kernel_rfl)⟩,
    (by as_aux_lemma => kernel_rfl)⟩,
    (by as_aux_lemma => kernel_rfl)⟩

set_option maxRecDepth 100000 in
theorem lifted (os : Os) (started : os.Started) (H : Type) (enc : TypeId × Value → H) :
    ReturnsInHanded {} Try.checked os 15 .any (Rows.fnExactAddKernelsSpec.pre6 enc Try.prog Try.f15 Rows.fnExactAddKernelsRow.domain false) (Rows.fnExactAddKernelsSpec.post enc Try.prog Try.f15 false true false false) := by
  refine LawFrame.lifted (C := Try.checked) (fn := Try.f15) (n := 2) (tb := 4) started own (by kernel_rfl) Try.func15 laid ?_ rfl rfl ?_ rfl Try.underlying4
    (ChangeSpec.witness6 (enc := enc) (C := Try.checked) false ⟨#[], #[.agg (Array.replicate 400 (.float .f32 0)), .agg (Array.replicate 400 (.float .f32 0))], []⟩ 8 (by kernel_rfl) (by kernel_rfl) (by kernel_rfl) (by kernel_rfl)) ?_
  · intro t ht
    simp only [Try.params15, List.mem_cons, List.not_mem_nil, or_false] at ht
    rcases ht with rfl | rfl <;> first | exact rda | exact rdf | exact rdi | exact rdA | exact rdb | exact rdp | exact rdk
  · intro ds hd
    match ds, hd with
    | [_, _], _ => rfl
  · intro W base args ds ps hval hn _
    obtain ⟨v0, v1, rfl⟩ : ∃ v0 v1, args = #[v0, v1] := arr2 hn
    obtain ⟨c0, rfl, hb0⟩ := open_floats Try.underlying51 rfl Try.underlying22 cells400 types400 (hval 0 51 v0 rfl rfl)
    obtain ⟨c1, rfl, hb1⟩ := open_floats Try.underlying51 rfl Try.underlying22 cells400 types400 (hval 1 51 v1 rfl rfl)
    exact lawAddKernels c0 hb0 c1 hb1 W

theorem over : Rows.fnExactAddKernelsRow.holds Try.pinned (OpenSpec.ofChange Rows.fnExactAddKernelsSpec) :=
  OpenClaim.holds_of_wide 15 Try.f15 rfl rfl rfl rfl rfl rfl rfl ⟨rfl, rfl, rfl, rfl, rfl⟩ rfl rfl rfl rfl rfl (by kernel_rfl) Try.func15 closed
    (of_decide_eq_true (by kernel_rfl)) (by unfold Func.isWrapper; rw [if_neg (by decide +kernel)]; exact ⟨rfl, rfl⟩)
    (fun os started H enc _ => lifted os started H enc)

theorem proved : Rows.FnExactAddKernelsSaid := over
#print axioms proved
end Go.Proofs.Ytnnhoololemaaaa.fnExactAddKernels
