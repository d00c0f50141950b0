import Derived.Test.YtjcdfgcnnnaooaaEFalls
import Derived.Test.YtjcdfgcnnnaooaaChecked
import Derived.Test.YtjcdfgcnnnaooaaRows
import Derived.Laws.FloatArith
import Derived.ProofKit
import Derived.WalkKit
import Derived.Deep.RegionHeld3
import Derived.ChangeKeysEq
import Derived.Laws.BitsAllLaws
import Derived.Deep.MidRow
import Derived.Deep.WholeRow
import Derived.StillTailTactics
import Derived.Deep.Slices
import Derived.ChangeSame
import Derived.OrdersIn
import Derived.ControlIn
import Derived.RangeFuncSeq
import Derived.RangeFuncNested
import Derived.ArgAppend
import Derived.OwnWalkIn
import Derived.TacticsInMore
import Derived.Below
import Derived.Laws.AppendOwn
import Derived.Laws.ComplexArith
import Derived.Deep.Strs
import Derived.WalkLawsBesides
import Derived.WalkSpells
import Derived.Deep.QuietTactic
import Derived.BigQuiet
import Derived.StillTail
import Derived.OpenShut
import Derived.Stop.LaidErr
import Derived.LaidMore
import Derived.Handed
import Derived.LaidHandle
import Derived.Stop.Joined
/- The law FnFalls of chapter 1: at every argument the call returns true, and what was there before it is as it was. -/
namespace Go.Proofs.Ytjcdfgcnnnaooaa
open Go.RowKit Go.Fl

@[go_sem] theorem ext_f64bits (y : Nat) (w : World) : (callFunc 114 #[.float .f64 y]).run Try.prog w = .ok (.value (.int .u64 y)) w := by
  rw [run_callFunc_extern Try.func114 (by kernel_rfl) (by kernel_rfl) (by kernel_rfl) (e := Extern.MathFloatBits.float64bits) (by kernel_rfl)]
  rfl

@[go_sem] theorem ext_f64from (n : Int) (w : World) : (callFunc 126 #[.int .u64 n]).run Try.prog w = .ok (.value (.float .f64 n.toNat)) w := by
  rw [run_callFunc_extern Try.func126 (by kernel_rfl) (by kernel_rfl) (by kernel_rfl) (e := Extern.MathFloatBits.float64frombits) (by kernel_rfl)]
  rfl

theorem hid {p : Prop} (h : p) : Hid p := h

theorem clear_sign (y : Nat) (h : y < 18446744073709551616) : (bits BinOp.andNot IntKind.u64 (y : Int) 9223372036854775808).toNat = y % 9223372036854775808 := by
  rw [u64_andNot _ _ (by omega) (by omega) (by omega) (by omega)]
  rw [Int.toNat_natCast, Int.toNat_natCast]
  exact Nat.and_two_pow_sub_one_eq_mod y 63

theorem abs_f64 (y : Nat) (h : y < 18446744073709551616) (w : World) :
    Calls Try.prog 117 #[.float .f64 y] w fun e w' => e = .returned (.float .f64 (y % 9223372036854775808)) ∧ w = w' := by
  have hc := hid (clear_sign y h)
  clear h
  go_enter Try.func117, Try.ntmps117
  go_wp2
  go_ret
  exact ⟨by simp [hc.out], rfl⟩

theorem isNaN_f64 (y : Nat) (w : World) :
    Calls Try.prog 103 #[.float .f64 y] w fun e w' => e = .returned (.bool (FloatKind.f64.format.order y y != some .eq)) ∧ w = w' := by
  go_enter Try.func103, Try.ntmps103
  go_wp2
  go_ret
  exact ⟨rfl, rfl⟩

theorem isInf_f64 (y : Nat) (h : y < 18446744073709551616) (w : World) :
    Calls Try.prog 104 #[.float .f64 y, .int .i64 0] w fun e w' => e = .returned (.bool (FloatKind.f64.format.order (y % 9223372036854775808) 9218868437227405311 == some .gt)) ∧ w = w' := by
  have hc := hid h
  clear h
  go_enter Try.func104, Try.ntmps104
  go_wp2_with (go_at_call 117; refine (abs_f64 y hc.out _).mono ?_; rintro e w' ⟨rfl, rfl⟩)
  go_ret
  exact ⟨rfl, rfl⟩

theorem isFinite_t (x : Nat) (hx : x < 4294967296) (h : finB x = true) (w : World) :
    Calls Try.prog 65 #[.float .f32 x] w fun e w' => e = .returned (.bool true) ∧ w = w' := by
  rw [finB_iff] at h
  have hc := fun w => run_conv_wid (P := Try.prog) w 40 133 x hx Try.underlying40 Try.underlying133 h
  obtain ⟨a, b, m, e, hr⟩ := read_wid_fin hx h
  have hn : (FloatKind.f64.format.order (wid x) (wid x) != some .eq) = false := by
    show (D.order (wid x) (wid x) != some .eq) = false
    rw [order_self hr]; rfl
  have hi : (FloatKind.f64.format.order (wid x % 9223372036854775808) 9218868437227405311 == some .gt) = false := by
    show (D.order (wid x % 9223372036854775808) 9218868437227405311 == some .gt) = false
    rw [b, order_ltD a (by decide)]
    rw [DINF_val] at a
    have hle : wid (mg x) ≤ 9218868437227405311 := by omega
    rcases Nat.lt_or_eq_of_le hle with h' | h'
    · rw [Nat.compare_eq_lt.2 h']; rfl
    · rw [Nat.compare_eq_eq.2 h']; rfl
  have hw : wid x < 18446744073709551616 := D.write_lt _
  have Hn := hid hn
  have Hi := hid hi
  have Hw := hid hw
  clear hn hi hw hr a b h hx
  go_enter Try.func65, Try.ntmps65
  go_wp2_with (first | (go_at_call 103; refine (isNaN_f64 (wid x) _).mono ?_; rintro e w' ⟨rfl, rfl⟩; rw [Hn.out]) | (go_at_call 104; refine (isInf_f64 (wid x) Hw.out _).mono ?_; rintro e w' ⟨rfl, rfl⟩; rw [Hi.out]))
  go_ret
  exact ⟨rfl, rfl⟩

theorem isFinite_f (x : Nat) (hx : x < 4294967296) (h : finB x = false) (w : World) :
    Calls Try.prog 65 #[.float .f32 x] w fun e w' => e = .returned (.bool false) ∧ Below w.heap.size w w' := by
  rw [finB_iff'] at h
  rcases Nat.lt_or_eq_of_le h with h | h
  · obtain ⟨z, hc, h1, _⟩ := run_conv_nan (P := Try.prog) w 40 133 x Try.underlying40 Try.underlying133 h
    obtain ⟨s, t, hr⟩ := read_nanD h1
    have Hn := hid (show (FloatKind.f64.format.order z z != some .eq) = true by
      show (D.order z z != some .eq) = true
      rw [order_nan hr]; rfl)
    clear h h1 hr hx
    go_enter Try.func65, Try.ntmps65
    go_wp2_with (go_at_call 103; refine (isNaN_f64 z _).mono ?_; rintro e w' ⟨rfl, rfl⟩; rw [Hn.out])
    go_ret
    exact ⟨rfl, (Below.refl _ _).drew⟩
  · obtain ⟨z, hc, h1, h2⟩ := run_conv_inf (P := Try.prog) w 40 133 x hx Try.underlying40 Try.underlying133 h.symm
    have hr : D.read z = .infinity (decide (9223372036854775808 ≤ z)) := by rw [read_signD h2, h1, read_DINF]
    have Hn := hid (show (FloatKind.f64.format.order z z != some .eq) = false by
      show (D.order z z != some .eq) = false
      rw [order_inf hr]; rfl)
    have Hi := hid (show (FloatKind.f64.format.order (z % 9223372036854775808) 9218868437227405311 == some .gt) = true by
      rw [h1]; decide)
    have H2 := hid h2
    clear h h1 hr hx h2
    go_enter Try.func65, Try.ntmps65
    go_wp2_with (first | (go_at_call 103; refine (isNaN_f64 z _).mono ?_; rintro e w' ⟨rfl, rfl⟩; rw [Hn.out]) | (go_at_call 104; refine (isInf_f64 z H2.out _).mono ?_; rintro e w' ⟨rfl, rfl⟩; rw [Hi.out]))
    go_ret
    exact ⟨rfl, Below.refl _ _⟩

theorem signbit_f64 (y : Nat) (w : World) :
    Calls Try.prog 95 #[.float .f64 y] w fun e w' => e = .returned (.bool (decide (wrap64 (y : Int) < 0))) ∧ w = w' := by
  go_enter Try.func95, Try.ntmps95
  go_wp2
  go_ret
  exact ⟨rfl, rfl⟩

theorem and_sign (y : Nat) (h : y < 18446744073709551616) : (decide (wrap64 (y : Int) < 0)) = decide (9223372036854775808 ≤ y) := by
  unfold wrap64
  by_cases h' : 9223372036854775808 ≤ y
  · rw [decide_eq_true h']; simp; omega
  · rw [decide_eq_false h']; simp; omega

theorem isAmount_t (x : Nat) (h : amtB x = true) (w : World) :
    Calls Try.prog 56 #[.float .f32 x] w fun e w' => e = .returned (.bool true) ∧ w = w' := by
  have hf := amt_fin h
  rw [amtB_iff, INF_val] at h
  have hx : x < 4294967296 := by omega
  have hc := fun w => run_conv_wid (P := Try.prog) w 40 133 x hx Try.underlying40 Try.underlying133 (finB_iff.1 hf)
  have hw : wid x < 18446744073709551616 := D.write_lt _
  have Hs := hid (show (decide (wrap64 (wid x : Int) < 0)) = false by
    rw [and_sign _ hw]
    have := (wid_val (x := x) (by rw [INF_val]; omega)).1
    rw [DINF_val] at this
    simp; omega)
  have Hx := hid hx
  have Hf := hid hf
  clear h hf hx hw
  go_enter Try.func56, Try.ntmps56
  go_wp2_with (first | (go_at_call 65; refine (isFinite_t x Hx.out Hf.out _).mono ?_; rintro e w' ⟨rfl, rfl⟩) | (go_at_call 95; refine (signbit_f64 (wid x) _).mono ?_; rintro e w' ⟨rfl, rfl⟩; rw [Hs.out]))
  go_ret
  exact ⟨rfl, rfl⟩

theorem isAmount_f (x : Nat) (hx : x < 4294967296) (h : amtB x = false) (w : World) :
    Calls Try.prog 56 #[.float .f32 x] w fun e w' => e = .returned (.bool false) ∧ Below w.heap.size w w' := by
  rcases hf : finB x with _ | _
  · have Hx := hid hx
    have Hf := hid hf
    clear h hf hx
    go_enter Try.func56, Try.ntmps56
    go_wp2_with (go_at_call 65; refine (isFinite_f x Hx.out Hf.out _).mono ?_; rintro e w' ⟨rfl, hb⟩)
    go_ret
    exact ⟨rfl, hb⟩
  · have hc := fun w => run_conv_wid (P := Try.prog) w 40 133 x hx Try.underlying40 Try.underlying133 (finB_iff.1 hf)
    have hw : wid x < 18446744073709551616 := D.write_lt _
    have Hs := hid (show (decide (wrap64 (wid x : Int) < 0)) = true by
      rw [and_sign _ hw, wid_fin hx (finB_iff.1 hf)]
      rw [amtB_iff', INF_val] at h
      rw [finB_iff, INF_val] at hf
      unfold mg at hf ⊢
      rw [if_pos (by omega)]
      simp)
    have Hx := hid hx
    have Hf := hid hf
    clear h hf hx hw
    go_enter Try.func56, Try.ntmps56
    go_wp2_with (first | (go_at_call 65; refine (isFinite_t x Hx.out Hf.out _).mono ?_; rintro e w' ⟨rfl, rfl⟩) | (go_at_call 95; refine (signbit_f64 (wid x) _).mono ?_; rintro e w' ⟨rfl, rfl⟩; rw [Hs.out]))
    go_ret
    exact ⟨rfl, Below.refl _ _⟩

theorem info_f32 : ∃ i, Try.prog.info? 40 = some i ∧ i.size = 1 := by
  have h : (Try.prog.info? 40).map (·.size) = some 1 := by kernel_rfl
  cases hi : Try.prog.info? 40 with
  | none => rw [hi] at h; cases h
  | some i => rw [hi] at h; exact ⟨i, rfl, Option.some.inj h⟩

theorem ix (T : TypeId) (hT : Try.prog.underlying T = some (.array 20 40)) (c : Nat → Nat) (k : Nat) (hk : k < 20) (w : World) :
    (Instr.index T (.agg (fls c)) (.int .i64 (k : Int))).run Try.prog w = .ok (.float .f32 (c k)) w := by
  obtain ⟨i, h1, h2⟩ := info_f32
  exact run_index_arr hT Try.underlying40 rfl h1 h2 _ _ hk _ (fls_get c hk) w

theorem info_arr : (Try.prog.info? 42).map (·.size) = some 20 := by kernel_rfl

set_option maxRecDepth 100000 in
theorem validSizes_t (c : Nat → Nat) (h : ∀ i, i < 20 → amtB (c i) = true) (w : World) :
    Calls Try.prog 54 #[.agg (fls c)] w fun e w' => e = .returned (.bool true) ∧ Below w.heap.size w w' := by
  have H := hid h
  clear h
  go_enter Try.func54, Try.ntmps54
  go_wp2_with (refine wpList_load_row rfl 42 _ rfl w.heap.size rfl 42 (fls c) (0, 0) _ (heap_alloc_new _ _) Try.underlying42 rfl (by rw [fls_size]; exact info_arr) ?_)
  go_loop [6] (fun i => ∃ k : Nat, k ≤ 20 ∧ i = .int .i64 k) (fun i => 20 - (intOf i).toNat)
  case atStart => exact ⟨0, by omega, rfl⟩
  case round =>
    obtain ⟨k, hk, rfl⟩ := hrel
    by_cases hlt : k < 20
    · have hix := ix 42 Try.underlying42 c k hlt
      go_wp2_with (go_at_call 56; refine (isAmount_t (c k) (H.out k hlt) _).mono ?_; rintro e w' ⟨rfl, rfl⟩)
      go_round
      case rel => exact ⟨k + 1, by omega, by go_num⟩
      case measure => simp [intOf]; omega
    · go_wp2
      go_ret
      exact ⟨rfl, (Below.refl _ _).alloc (Nat.le_refl _) _⟩

@[go_sem] theorem ext_f32bits (y : Nat) (w : World) : (callFunc 98 #[.float .f32 y]).run Try.prog w = .ok (.value (.int .u32 y)) w := by
  rw [run_callFunc_extern Try.func98 (by kernel_rfl) (by kernel_rfl) (by kernel_rfl) (e := Extern.MathFloatBits.float32bits) (by kernel_rfl)]
  rfl

set_option maxRecDepth 100000 in
theorem validSizes_f (c : Nat → Nat) (hb : ∀ i, i < 20 → c i < 4294967296) (h : ¬ ∀ i, i < 20 → amtB (c i) = true) (w : World) :
    Calls Try.prog 54 #[.agg (fls c)] w fun e w' => e = .returned (.bool false) ∧ Below w.heap.size w w' := by
  have H := hid h
  have HB := hid hb
  clear h hb
  go_enter Try.func54, Try.ntmps54
  go_wp2_with (refine wpList_load_row rfl 42 _ rfl w.heap.size rfl 42 (fls c) (0, 0) _ (heap_alloc_new _ _) Try.underlying42 rfl (by rw [fls_size]; exact info_arr) ?_)
  go_loop [6] (fun i => ∃ k : Nat, k ≤ 20 ∧ Hid (∀ i, i < k → amtB (c i) = true) ∧ i = .int .i64 k) (fun i => 20 - (intOf i).toNat)
  case atStart => exact ⟨0, by omega, hid (fun i hi => by omega), rfl⟩
  case round =>
    obtain ⟨k, hk, HK, rfl⟩ := hrel
    by_cases hlt : k < 20
    · have hix := ix 42 Try.underlying42 c k hlt
      rcases hac : amtB (c k) with _ | _
      · have HA := hid hac
        clear hac
        go_wp2_with (go_at_call 56; refine (isAmount_f (c k) (HB.out k hlt) HA.out _).mono ?_; rintro e w' ⟨rfl, hb⟩)
        go_ret
        exact ⟨rfl, (((Below.refl _ _).alloc (Nat.le_refl _) _).trans (hb.mono (by simp)))⟩
      · have HA := hid hac
        clear hac
        go_wp2_with (go_at_call 56; refine (isAmount_t (c k) HA.out _).mono ?_; rintro e w' ⟨rfl, rfl⟩)
        go_round
        case rel =>
          refine ⟨k + 1, by omega, hid (fun i hi => ?_), by go_num⟩
          by_cases e : i = k
          · subst e; exact HA.out
          · exact HK.out i (by omega)
        case measure => simp [intOf]; omega
    · have hk20 : k = 20 := by omega
      exact (H.out (fun i hi => HK.out i (by omega))).elim

set_option maxRecDepth 100000 in
theorem iSum (c : Nat → Nat) (h : ∀ i, i < 20 → nnB (c i) = true) (w : World) :
    Calls Try.prog 76 #[.agg (fls c)] w fun e w' => e = .returned (.float .f32 (sumF c 19)) ∧ Below w.heap.size w w' := by
  have H := hid h
  clear h
  have hcell : ∀ k, k < 20 → (w.alloc (.cells (fls c) 41)).cell? ⟨w.heap.size, k, none⟩ = some (.float .f32 (c k)) := fun k hk => by
    rw [cell_of_row _ _ k _ _ _ (heap_alloc_new _ _), fls_get c hk]
  have h0 := hcell 0 (by omega)
  have HC := hid hcell
  clear hcell
  go_enter Try.func76, Try.ntmps76
  go_wp2
  go_loop [3, 4] (fun s i => ∃ k : Nat, k ≤ 19 ∧ i = .int .i64 (k + 1 : Nat) ∧ s = .float .f32 (sumF c k)) (fun _ i => 20 - (intOf i).toNat)
  case atStart => exact ⟨0, by omega, rfl, rfl⟩
  case round =>
    obtain ⟨k, hk, rfl, rfl⟩ := hrel
    by_cases hlt : k < 19
    · have hcell := HC.out (k + 1) (by omega)
      have hadd := fun w => run_add (P := Try.prog) 40 (sumF_nn k (fun i hi => H.out i (by omega))) (H.out (k + 1) (by omega)) w
      go_wp2
      go_round
      case rel => exact ⟨k + 1, by omega, by go_num, rfl⟩
      case measure => simp [intOf]; omega
    · obtain rfl : k = 19 := by omega
      go_wp2
      go_ret
      exact ⟨rfl, (Below.refl _ _).alloc (Nat.le_refl _) _⟩

theorem info_a20 : (Try.prog.info? 41).map (·.size) = some 20 := by kernel_rfl

theorem back {P : Program} {f : FuncId} {args : Array Value} {w : World} {v : Value} (h : Calls P f args w fun e w' => e = .returned v ∧ w = w') : Calls P f args w fun e w' => e = .returned v ∧ w' = w :=
  h.mono fun _ _ ⟨a, b⟩ => ⟨a, b.symm⟩

theorem iTold_t (x : Nat) (hx : x < 4294967296) (h : finB x = true) (w : World) :
    Calls Try.prog 75 #[.float .f32 x] w fun e w' => e = .returned (.tuple #[.float .f32 x, .int .i64 0]) ∧ w = w' := by
  have H := hid h
  have Hx := hid hx
  clear h hx
  go_enter Try.func75, Try.ntmps75
  go_wp2_with (go_at_call 65; refine (isFinite_t x Hx.out H.out _).mono ?_; rintro e w' ⟨rfl, rfl⟩)
  go_ret2
  exact ⟨rfl, rfl⟩

theorem iTold_f (x : Nat) (hx : x < 4294967296) (h : finB x = false) (w : World) :
    Calls Try.prog 75 #[.float .f32 x] w fun e w' => e = .returned (.tuple #[.float .f32 0, .int .i64 4]) ∧ Below w.heap.size w w' := by
  have H := hid h
  have Hx := hid hx
  clear h hx
  go_enter Try.func75, Try.ntmps75
  go_wp2_with (go_at_call 65; refine (isFinite_f x Hx.out H.out _).mono ?_; rintro e w' ⟨rfl, hb⟩)
  go_ret2
  exact ⟨rfl, hb⟩

theorem iTold (x : Nat) (hx : x < 4294967296) (w : World) :
    Calls Try.prog 75 #[.float .f32 x] w fun e w' => e = .returned (told x) ∧ Below w.heap.size w w' := by
  rcases h : finB x with _ | _
  · rw [told_f h]; exact iTold_f x hx h w
  · rw [told_t h]; exact (iTold_t x hx h w).mono fun e w' ⟨a, b⟩ => ⟨a, b ▸ Below.refl _ _⟩

/-- The mass of a class, as a word. -/
theorem iMass (k : Nat) (hk : k < 20) (w : World) :
    Calls Try.prog 67 #[.int .i64 (k : Int)] w fun e w' => e = .returned (.float .f32 (mass k)) ∧ w = w' := by
  have H : k = 0 ∨ k = 1 ∨ k = 2 ∨ k = 3 ∨ k = 4 ∨ k = 5 ∨ k = 6 ∨ k = 7 ∨ k = 8 ∨ k = 9 ∨ k = 10 ∨ k = 11 ∨ k = 12 ∨ k = 13 ∨ k = 14 ∨ k = 15 ∨ k = 16 ∨ k = 17 ∨ k = 18 ∨ k = 19 := by omega
  rcases H with rfl | rfl | rfl | rfl | rfl | rfl | rfl | rfl | rfl | rfl | rfl | rfl | rfl | rfl | rfl | rfl | rfl | rfl | rfl | rfl
  all_goals
    go_enter Try.func67, Try.ntmps67
    go_wp2
    go_ret
    exact ⟨rfl, rfl⟩

def Amts (c : Nat → Nat) : Prop := ∀ i, i < 20 → amtB (c i) = true

theorem told_lit (x : Nat) : ∃ r n, told x = .tuple #[.float .f32 r, .int .i64 n] ∧ finB r = true ∧ (x < 4294967296 → r < 4294967296) := by
  rcases h : finB x with _ | _
  · exact ⟨0, 4, told_f h, by decide, fun _ => by decide⟩
  · exact ⟨x, 0, told_t h, h, fun hx => hx⟩

theorem sMass (k : Nat) (hk : k < 20) (w : World) :
    Calls Try.prog 121 #[.int .i64 (k : Int)] w fun e w' => e = .returned (.float .f32 (mass k)) ∧ w = w' := by
  have H : k = 0 ∨ k = 1 ∨ k = 2 ∨ k = 3 ∨ k = 4 ∨ k = 5 ∨ k = 6 ∨ k = 7 ∨ k = 8 ∨ k = 9 ∨ k = 10 ∨ k = 11 ∨ k = 12 ∨ k = 13 ∨ k = 14 ∨ k = 15 ∨ k = 16 ∨ k = 17 ∨ k = 18 ∨ k = 19 := by omega
  rcases H with rfl | rfl | rfl | rfl | rfl | rfl | rfl | rfl | rfl | rfl | rfl | rfl | rfl | rfl | rfl | rfl | rfl | rfl | rfl | rfl
  all_goals
    go_enter Try.func121, Try.ntmps121
    go_wp2
    go_ret
    exact ⟨rfl, rfl⟩

theorem isClass_t (k : Nat) (hk : k < 20) (w : World) :
    Calls Try.prog 82 #[.int .i64 (k : Int)] w fun e w' => e = .returned (.bool true) ∧ w = w' := by
  have h1 : decide ((0 : Int) ≤ (k : Int)) = true := by simp
  go_enter Try.func82, Try.ntmps82
  go_wp2
  go_ret
  exact ⟨by first | rfl | (simp; done) | (simp; omega), rfl⟩

theorem iMassOf_ok (k : Nat) (hk : k < 20) (w : World) :
    Calls Try.prog 38 #[.int .i64 (k : Int)] w fun e w' => e = .returned (.tuple #[.float .f32 (mass k), .int .i64 0]) ∧ Below w.heap.size w w' := by
  go_enter Try.func38, Try.ntmps38
  go_wp2_with fail
  refine (isClass_t k hk _).mono ?_
  rintro e w1 ⟨rfl, rfl⟩
  go_wp2_with fail
  refine (iMass k hk _).mono ?_
  rintro e w1 ⟨rfl, rfl⟩
  go_wp2
  go_ret2
  exact ⟨rfl, Below.refl _ _⟩

theorem info_u8 : (Try.prog.info? 5).map (·.size) = some 1 := by kernel_rfl

set_option maxRecDepth 100000 in
set_option maxHeartbeats 1000000 in
theorem lA2Long (s t : Value) (n m : Nat) (x y : Nat → Int) (w : World) (hs : RdV w s n (byV x)) (ht : RdV w t m (byV y)) (b : Bool) (hb : b = true ↔ (3000 < n ∨ 3000 < m)) :
    Calls Try.prog 14 #[s, t] w fun e w' => e = .returned (.bool b) ∧ Below w.heap.size w w' := by
  obtain ⟨p, cap, rfl, _⟩ := hs
  obtain ⟨p2, cap2, rfl, _⟩ := ht
  by_cases h1 : 3000 < n
  · have h1' : (3000 : Int) < (n : Int) := by omega
    obtain rfl : b = true := hb.2 (.inl h1)
    clear hb
    go_enter Try.func14, Try.ntmps14
    go_wp2
    go_ret
    exact ⟨rfl, Below.refl _ _⟩
  · have h1' : ¬ (3000 : Int) < (n : Int) := by omega
    by_cases h2 : 3000 < m
    · have h2' : (3000 : Int) < (m : Int) := by omega
      obtain rfl : b = true := hb.2 (.inr h2)
      clear hb
      go_enter Try.func14, Try.ntmps14
      go_wp2
      go_ret
      exact ⟨rfl, Below.refl _ _⟩
    · have h2' : ¬ (3000 : Int) < (m : Int) := by omega
      obtain rfl : b = false := by rw [← Bool.not_eq_true]; intro h; rcases hb.1 h with h | h <;> omega
      clear hb
      go_enter Try.func14, Try.ntmps14
      go_wp2
      go_ret
      exact ⟨rfl, Below.refl _ _⟩

set_option maxRecDepth 100000 in
set_option maxHeartbeats 1000000 in
theorem lA2At (s : Value) (n : Nat) (x : Nat → Int) (w : World) (hs : RdV w s n (byV x)) (hx : Bytes8 n x) (k : Nat) (m : Nat) (h1 : 1 ≤ m) (hm : m ≤ 1000) :
    Calls Try.prog 17 #[s, .int .i64 (k : Int), .int .i64 (m : Int)] w fun e w' => (∃ r : Nat, r < m ∧ e = .returned (.int .i64 (r : Int))) ∧ Below w.heap.size w w' := by
  obtain ⟨p, cap, rfl, hc⟩ := hs
  have HM := hid h1
  have HM2 := hid hm
  by_cases hk : k < n
  · obtain ⟨b, o, rfl, hcell⟩ := hc (by omega)
    have c0 : w.cell? ⟨b, o + k, none⟩ = some (.int .u8 (x k)) := hcell k hk
    have i1 := fun w => run_indexAt (P := Try.prog) (t := 38) (e := 5) Try.underlying38 info_u8 (b := b) (o := o) (n := n) (cap := cap) (k := k) hk w
    simp only [Nat.mul_one] at i1
    have hk' : ¬ ((n : Int) ≤ (k : Int)) := by omega
    have hm' : ¬ ((m : Int) < 1) := by omega
    have hm0 : ¬ ((m : Int) = 0) := by omega
    obtain ⟨hx0, hx1⟩ := hx k hk
    obtain ⟨z, hz⟩ : ∃ z : Nat, x k = (z : Int) := ⟨(x k).toNat, by omega⟩
    rw [hz] at c0 hx1
    have HZ := hid hx1
    clear hx hc hcell hz hx0 hx1
    have hr : wrap64 (Int.tmod (z : Int) (m : Int)) = ((z % m : Nat) : Int) := by
      have : Int.tmod (z : Int) (m : Int) = ((z % m : Nat) : Int) := by rw [Int.tmod_eq_emod_of_nonneg (by omega)]; rfl
      rw [this]
      have := Nat.mod_lt z (show m > 0 by omega)
      unfold wrap64; omega
    have hw : wrap64 (z : Int) = (z : Int) := by have := HZ.out; unfold wrap64; omega
    clear h1 hm hk
    go_enter Try.func17, Try.ntmps17
    go_wp2
    go_ret
    exact ⟨⟨z % m, Nat.mod_lt z HM.out, rfl⟩, Below.refl _ _⟩
  · have hk' : (n : Int) ≤ (k : Int) := by omega
    clear hc hx h1 hm hk
    go_enter Try.func17, Try.ntmps17
    go_wp2
    go_ret
    exact ⟨⟨0, HM.out, rfl⟩, Below.refl _ _⟩

theorem fsub_self' {x : Nat} (hx : x < INF) : fsub x x = 0 := by
  rw [(fsub_val hx (Nat.le_refl x)).2, Nat.sub_self]; decide

set_option maxRecDepth 100000 in
set_option maxHeartbeats 1000000 in
theorem lNearEq (x s b : Nat) (hx : amtB x = true) (hs : amtB s = true) (hb : fadd (fmul s 953267991) 953267991 = b) (h0 : 0 < b) (h1 : b < INF) (w : World) :
    Calls Try.prog 39 #[.float .f32 x, .float .f32 x, .float .f32 s] w fun e w' => e = .returned (.bool true) ∧ Below w.heap.size w w' := by
  have c1 : amtB 953267991 = true := by decide
  have r1 := fun w => run_mul (P := Try.prog) 40 hs c1 w
  have r2 := fun w => run_add (P := Try.prog) 40 (mul_eq hs c1).2 (amt_nn c1) w
  rw [hb] at r2
  have r3 := fun w => run_sub (P := Try.prog) 40 (amtB_iff.1 hx) (Nat.le_refl x) w
  rw [fsub_self' (amtB_iff.1 hx)] at r3
  have o1 : FloatKind.f32.format.order 0 b = some .lt := by
    have := order_lt (x := 0) (y := b) (by decide) h1
    rw [show compare 0 b = .lt from Nat.compare_eq_lt.2 h0] at this
    exact this
  have ol : (FloatKind.f32.format.order 0 b == some .lt) = true := by rw [o1]; rfl
  have oe : (FloatKind.f32.format.order 0 b == some .eq) = false := by rw [o1]; rfl
  clear hb h0 h1 o1 hx hs
  go_enter Try.func39, Try.ntmps39
  go_wp2
  go_ret
  exact ⟨rfl, Below.refl _ _⟩

set_option maxRecDepth 100000 in
theorem iWaters (c : Nat → Nat) (h : Amts c) (w : World) :
    Calls Try.prog 77 #[.agg (fls c)] w fun e w' => e = .returned (.agg (fls (wat c))) ∧ Below w.heap.size w w' := by
  have A0 := hid (((arrAt.new w c 42).alloc (.cells (fls fun _ => 0) 41)).alloc (.cells (fls fun _ => 0) 41))
  have A1 := hid ((new1 w (.cells (fls c) 42) (fun _ => 0) 41).alloc (.cells (fls fun _ => 0) 41))
  have A2 := hid (new2 w (.cells (fls c) 42) (.cells (fls fun _ => 0) 41) (fun _ => 0) 41)
  have b0 := boxed3 w (.cells (fls c) 42) (.cells (fls fun _ => 0) 41) (.cells (fls fun _ => 0) 41)
  have H := hid h
  clear h
  go_enter Try.func77, Try.ntmps77
  go_wp2_with (refine wpList_load_row rfl 42 _ rfl (w.heap.size) rfl 42 (fls c) (0, 0) _ A0.out Try.underlying42 rfl (by rw [fls_size]; exact info_arr) ?_)
  go_loopw [7] (fun i wr => ∃ k : Nat, k ≤ 20 ∧ i = .int .i64 k ∧ Hid (arrAt wr (w.heap.size + 1) (fun _ => 0) 41) ∧ Hid (arrAt wr (w.heap.size + 1 + 1) (cut (wat c) k) 41) ∧ Hid (Below w.heap.size w wr)) (fun i _ => 20 - (intOf i).toNat)
  case atStart => exact ⟨0, by omega, rfl, A1, hid (A2.out.ext (fun i _ => (cut_zero' (wat c) i).symm)), hid b0⟩
  case round =>
    obtain ⟨k, hk, rfl, h1, h2, hb⟩ := hrel
    by_cases hlt : k < 20
    · have hix := ix 42 Try.underlying42 c k hlt
      have hm := fun w => run_mul (P := Try.prog) 40 (H.out k hlt) (mass_amt hlt) w
      have q2 := h2.out.cell hlt
      have f2 := h2.out.frozen k
      go_wp2_with (go_at_call 67; refine (iMass k hlt _).mono ?_; rintro e w' ⟨rfl, rfl⟩)
      go_roundw
      case rel => exact ⟨k + 1, by omega, by go_num, hid (h1.out.setOther (by simp) _), hid ((h2.out.set k (wat c k)).ext (fun i _ => cut_succ (wat c) k i)), hid (hb.out.setCell (by simp; omega) _)⟩
      case measure => simp [intOf]; omega
    · obtain rfl : k = 20 := by omega
      have h2' := hid (h2.out.ext (cut_all (wat c)))
      clear h2
      go_wp2_with (first | (refine wpList_load_row rfl 41 _ rfl (w.heap.size + 1 + 1) rfl 41 (fls (wat c)) (0, 0) _ h2'.out Try.underlying41 rfl (by rw [fls_size]; exact info_a20) ?_) | (refine wpList_store_row rfl 41 _ _ rfl (w.heap.size + 1) (fls (wat c)) rfl rfl 41 _ h1.out (by rw [fls_size]; exact info_a20) (by simp) (fls_one (wat c)) ?_))
      exact bodyPost_ret (results_cell_row rfl _ _ (w.heap.size + 1) 41 (fls (wat c)) (0, 0) _ rfl (h1.out.setRow (wat c)) Try.underlying41 rfl (by rw [fls_size]; exact info_a20)) rfl ⟨rfl, below_row hb.out (by omega) _⟩

set_option maxRecDepth 100000 in
theorem iWaterOf_ok (c : Nat → Nat) (h : Amts c) (w : World) :
    Calls Try.prog 31 #[.agg (fls c)] w fun e w' => e = .returned (told (sumF (wat c) 19)) ∧ Below w.heap.size w w' := by
  have hn : ∀ i, i < 20 → nnB (wat c i) = true := fun i hi => wat_nn hi (h i hi)
  have hx := hid (nn_lt (sumF_nn 19 (fun i hi => hn i (by omega))))
  have Hn := hid hn
  have H := hid h
  clear h hn
  obtain ⟨r, n, ht, hr, _⟩ := told_lit (sumF (wat c) 19)
  have hC := fun w => (iTold (sumF (wat c) 19) hx.out w)
  rw [ht] at hC ⊢
  have HC := hid hC
  clear hC ht hr
  have A0 := hid (arrAt.new w c 42)
  have b0 := boxed w (.cells (fls c) 42)
  go_enter Try.func31, Try.ntmps31
  go_wp2_with (first | (refine wpList_load_row rfl 42 _ rfl (w.heap.size) rfl 42 (fls c) (0, 0) _ A0.out Try.underlying42 rfl (by rw [fls_size]; exact info_arr) ?_))
  refine (validSizes_t c H.out _).mono ?_
  rintro e w0 ⟨rfl, hb0⟩
  have A0 := hid (A0.out.stay hb0)
  have c0 := stp b0 (Nat.le_refl _) hb0
  go_wp2_with (first | (refine wpList_load_row rfl 42 _ rfl (w.heap.size) rfl 42 (fls c) (0, 0) _ A0.out Try.underlying42 rfl (by rw [fls_size]; exact info_arr) ?_))
  refine (iWaters c H.out _).mono ?_
  rintro e w1 ⟨rfl, hb1⟩
  have A0 := hid (A0.out.stay hb1)
  have c1 := stp c0 (Nat.le_refl _) hb1
  go_wp2_with fail
  refine (iSum (wat c) Hn.out _).mono ?_
  rintro e w2 ⟨rfl, hb2⟩
  have A0 := hid (A0.out.stay hb2)
  have c2 := stp c1 (Nat.le_refl _) hb2
  go_wp2_with fail
  refine (HC.out _).mono ?_
  rintro e w3 ⟨rfl, hb3⟩
  have A0 := hid (A0.out.stay hb3)
  have c3 := stp c2 (Nat.le_refl _) hb3
  go_wp2
  go_ret2
  exact ⟨rfl, c3⟩

theorem sSame (a b : Nat) (ha : a < 4294967296) (hb : b < 4294967296) (w : World) :
    Calls Try.prog 102 #[.float .f32 a, .float .f32 b] w fun e w' => e = .returned (.bool (sameB a b)) ∧ w = w' := by
  have n1 := neq_self a ha
  have n2 := neq_self b hb
  have hq : ((a : Int) == (b : Int)) = decide (a = b) := by
    by_cases e : a = b
    · subst e; simp
    · simp [e]; omega
  have hs : sameB a b = if (nanB a || nanB b) = true then nanB a && nanB b else decide (a = b) := rfl
  have Hs := hid hs
  have Hq := hid hq
  clear ha hb hs hq
  rcases h1 : nanB a with _ | _ <;> rcases h2 : nanB b with _ | _ <;> rw [h1] at n1 <;> rw [h2] at n2 <;> rw [Hs.out, h1, h2] <;> clear Hs h1 h2
  · go_enter Try.func102, Try.ntmps102
    go_wp2
    go_ret
    exact ⟨by simp [← Hq.out], rfl⟩
  · go_enter Try.func102, Try.ntmps102
    go_wp2
    go_ret
    exact ⟨by simp, rfl⟩
  · go_enter Try.func102, Try.ntmps102
    go_wp2
    go_ret
    exact ⟨by simp, rfl⟩
  · go_enter Try.func102, Try.ntmps102
    go_wp2
    go_ret
    exact ⟨by simp, rfl⟩

theorem info_air : (Try.prog.info? 45).map (·.size) = some 2 := by kernel_rfl

theorem sSame_is (a b : Nat) (ha : a < 4294967296) (hb : b < 4294967296) (q : Bool) (hq : sameB a b = q) (w : World) :
    Calls Try.prog 102 #[.float .f32 a, .float .f32 b] w fun e w' => e = .returned (.bool q) ∧ w = w' := hq ▸ sSame a b ha hb w

def fltOf : Value → Nat
  | .float _ b => b
  | _ => 0

theorem nearer (b r : Nat) (h : okR b r) (w : World) :
    Calls Try.prog 118 #[.float .f64 r, .float .f64 b] w fun e w' => e = .returned (.float .f64 (rNext b r)) ∧ w = w' := by
  obtain ⟨h1, h2, h3, h4, h5, h6, h7⟩ := h
  have q1 := fun w => run_float_arith (P := Try.prog) w .mul 133 .f64 _ _ _ h1
  have q2 := fun w => run_float_arith (P := Try.prog) w .mul 133 .f64 _ _ _ h2
  have q3 := fun w => run_float_arith (P := Try.prog) w .sub 133 .f64 _ _ _ h3
  have q4 := fun w => run_float_arith (P := Try.prog) w .mul 133 .f64 _ _ _ h4
  have q5 := fun w => run_float_arith (P := Try.prog) w .mul 133 .f64 _ _ _ h5
  have q6 := fun w => run_float_arith (P := Try.prog) w .quo 133 .f64 _ _ _ h6
  have q7 := fun w => run_float_arith (P := Try.prog) w .sub 133 .f64 _ _ _ h7
  clear h1 h2 h3 h4 h5 h6 h7
  go_enter Try.func118, Try.ntmps118
  go_wp2
  go_ret
  exact ⟨rfl, rfl⟩

set_option maxRecDepth 100000 in
theorem iThird (a n m z root : Nat) (ha : amtB a = true) (h0 : a ≠ 0) (T : RootTr a n m z root) (w : World) :
    Calls Try.prog 105 #[.float .f32 a] w fun e w' => e = .returned (.tuple #[.float .f32 root, .int .i64 0]) ∧ w = w' := by
  have hc := fun w => run_conv_wid (P := Try.prog) w 40 133 a (amt_lt ha) Try.underlying40 Try.underlying133 (finB_iff.1 (amt_fin ha))
  have he : (FloatKind.f32.format.order a 0 == some .eq) = false := by
    show (S.order a 0 == some .eq) = false
    rw [order_zero_pos (amtB_iff.1 ha), Nat.compare_eq_gt.2 (by omega)]; rfl
  have hz := fun w => run_float_arith (P := Try.prog) w .mul 133 .f64 _ _ _ T.hz
  have ho := fun w => run_convert_float_float (P := Try.prog) w 133 40 .f64 .f32 z root (by rw [Try.underlying133]; rfl) Try.underlying40 T.out
  have HA := hid ha
  have HT := hid T
  clear ha h0 T
  go_enter Try.func105, Try.ntmps105
  go_wp2_with (go_at_call 56; refine (isAmount_t a HA.out _).mono ?_; rintro e w' ⟨rfl, rfl⟩)
  go_loop [4, 5] (fun b x => ∃ j : Nat, j ≤ n ∧ b = .float .f64 (bS (wid a) j) ∧ x = .float .f64 (xS 4607182418800017408 j)) (fun b _ => fltOf b)
  case atStart => exact ⟨0, Nat.zero_le _, rfl, rfl⟩
  case round =>
    obtain ⟨j, hj, rfl, rfl⟩ := hrel
    by_cases hlt : j < n
    · obtain ⟨g1, g2, g3, g4⟩ := HT.out.l1 j hlt
      have q0 : (FloatKind.f64.format.order (bS (wid a) j) 4620693217682128896 == some .gt || FloatKind.f64.format.order (bS (wid a) j) 4620693217682128896 == some .eq) = true := g1
      have q1 := fun w => run_float_arith (P := Try.prog) w .quo 133 .f64 _ _ _ g2
      have q2 := fun w => run_float_arith (P := Try.prog) w .mul 133 .f64 _ _ _ g3
      have G4 := hid g4
      clear g1 g2 g3 g4
      go_wp2
      go_round
      case rel => exact ⟨j + 1, by omega, rfl, rfl⟩
      case measure => exact G4.out
    · obtain rfl : j = n := by omega
      have q0 : (FloatKind.f64.format.order (bS (wid a) j) 4620693217682128896 == some .gt || FloatKind.f64.format.order (bS (wid a) j) 4620693217682128896 == some .eq) = false := HT.out.e1
      go_wp2
      clear q0
      go_loop [4, 5] (fun b x => ∃ i : Nat, i ≤ m ∧ b = .float .f64 (cS (bS (wid a) j) i) ∧ x = .float .f64 (yS (xS 4607182418800017408 j) i)) (fun b _ => 9218868437227405312 - fltOf b)
      case atStart => exact ⟨0, Nat.zero_le _, rfl, rfl⟩
      case round =>
        obtain ⟨i, hi, rfl, rfl⟩ := hrel
        by_cases hlt : i < m
        · obtain ⟨g1, g2, g3, g4, g5⟩ := HT.out.l2 i hlt
          have q0 : (FloatKind.f64.format.order (cS (bS (wid a) j) i) 4607182418800017408 == some .lt) = true := g1
          have q1 := fun w => run_float_arith (P := Try.prog) w .mul 133 .f64 _ _ _ g2
          have q2 := fun w => run_float_arith (P := Try.prog) w .quo 133 .f64 _ _ _ g3
          have G4 := hid g4
          have G5 := hid g5
          clear g1 g2 g3 g4 g5
          go_wp2
          go_round
          case rel => exact ⟨i + 1, by omega, rfl, rfl⟩
          case measure => have := G4.out; have := G5.out; simp only [fltOf]; omega
        · obtain rfl : i = m := by omega
          have q0 : (FloatKind.f64.format.order (cS (bS (wid a) j) i) 4607182418800017408 == some .lt) = false := HT.out.e2
          go_wp2
          clear q0
          go_loop [6, 26] (fun r k => ∃ q : Nat, q ≤ 6 ∧ k = .int .i64 q ∧ r = .float .f64 (rS (cS (bS (wid a) j) i) q)) (fun _ k => 6 - (intOf k).toNat)
          case atStart => exact ⟨0, by omega, rfl, rfl⟩
          case round =>
            obtain ⟨q, hq, rfl, rfl⟩ := hrel
            by_cases hlt : q < 6
            · have HN := hid (HT.out.l3 q hlt)
              go_wp2_with fail
              refine (nearer (cS (bS (wid a) j) i) (rS (cS (bS (wid a) j) i) q) HN.out _).mono ?_
              rintro e w' ⟨rfl, rfl⟩
              go_wp2
              go_round
              case rel => exact ⟨q + 1, by omega, by go_num, rfl⟩
              case measure => simp [intOf]; omega
            · obtain rfl : q = 6 := by omega
              go_wp2
              go_ret2
              exact ⟨rfl, rfl⟩

set_option maxRecDepth 100000 in
theorem sThird (a n m z root : Nat) (ha : amtB a = true) (h0 : a ≠ 0) (T : RootTr a n m z root) (w : World) :
    Calls Try.prog 120 #[.float .f32 a] w fun e w' => e = .returned (.float .f32 root) ∧ w = w' := by
  have hc := fun w => run_conv_wid (P := Try.prog) w 40 133 a (amt_lt ha) Try.underlying40 Try.underlying133 (finB_iff.1 (amt_fin ha))
  have he : (FloatKind.f32.format.order a 0 == some .eq) = false := by
    show (S.order a 0 == some .eq) = false
    rw [order_zero_pos (amtB_iff.1 ha), Nat.compare_eq_gt.2 (by omega)]; rfl
  have hz := fun w => run_float_arith (P := Try.prog) w .mul 133 .f64 _ _ _ T.hz
  have ho := fun w => run_convert_float_float (P := Try.prog) w 133 40 .f64 .f32 z root (by rw [Try.underlying133]; rfl) Try.underlying40 T.out
  have HT := hid T
  clear ha h0 T
  go_enter Try.func120, Try.ntmps120
  go_wp2
  go_loop [3, 4] (fun b x => ∃ j : Nat, j ≤ n ∧ b = .float .f64 (bS (wid a) j) ∧ x = .float .f64 (xS 4607182418800017408 j)) (fun b _ => fltOf b)
  case atStart => exact ⟨0, Nat.zero_le _, rfl, rfl⟩
  case round =>
    obtain ⟨j, hj, rfl, rfl⟩ := hrel
    by_cases hlt : j < n
    · obtain ⟨g1, g2, g3, g4⟩ := HT.out.l1 j hlt
      have q0 : (FloatKind.f64.format.order (bS (wid a) j) 4620693217682128896 == some .gt || FloatKind.f64.format.order (bS (wid a) j) 4620693217682128896 == some .eq) = true := g1
      have q1 := fun w => run_float_arith (P := Try.prog) w .quo 133 .f64 _ _ _ g2
      have q2 := fun w => run_float_arith (P := Try.prog) w .mul 133 .f64 _ _ _ g3
      have G4 := hid g4
      clear g1 g2 g3 g4
      go_wp2
      go_round
      case rel => exact ⟨j + 1, by omega, rfl, rfl⟩
      case measure => exact G4.out
    · obtain rfl : j = n := by omega
      have q0 : (FloatKind.f64.format.order (bS (wid a) j) 4620693217682128896 == some .gt || FloatKind.f64.format.order (bS (wid a) j) 4620693217682128896 == some .eq) = false := HT.out.e1
      go_wp2
      clear q0
      go_loop [3, 4] (fun b x => ∃ i : Nat, i ≤ m ∧ b = .float .f64 (cS (bS (wid a) j) i) ∧ x = .float .f64 (yS (xS 4607182418800017408 j) i)) (fun b _ => 9218868437227405312 - fltOf b)
      case atStart => exact ⟨0, Nat.zero_le _, rfl, rfl⟩
      case round =>
        obtain ⟨i, hi, rfl, rfl⟩ := hrel
        by_cases hlt : i < m
        · obtain ⟨g1, g2, g3, g4, g5⟩ := HT.out.l2 i hlt
          have q0 : (FloatKind.f64.format.order (cS (bS (wid a) j) i) 4607182418800017408 == some .lt) = true := g1
          have q1 := fun w => run_float_arith (P := Try.prog) w .mul 133 .f64 _ _ _ g2
          have q2 := fun w => run_float_arith (P := Try.prog) w .quo 133 .f64 _ _ _ g3
          have G4 := hid g4
          have G5 := hid g5
          clear g1 g2 g3 g4 g5
          go_wp2
          go_round
          case rel => exact ⟨i + 1, by omega, rfl, rfl⟩
          case measure => have := G4.out; have := G5.out; simp only [fltOf]; omega
        · obtain rfl : i = m := by omega
          have q0 : (FloatKind.f64.format.order (cS (bS (wid a) j) i) 4607182418800017408 == some .lt) = false := HT.out.e2
          go_wp2
          clear q0
          go_loop [5, 6] (fun r k => ∃ q : Nat, q ≤ 6 ∧ k = .int .i64 q ∧ r = .float .f64 (rS (cS (bS (wid a) j) i) q)) (fun _ k => 6 - (intOf k).toNat)
          case atStart => exact ⟨0, by omega, rfl, rfl⟩
          case round =>
            obtain ⟨q, hq, rfl, rfl⟩ := hrel
            by_cases hlt : q < 6
            · obtain ⟨h1, h2, h3, h4, h5, h6, h7⟩ := HT.out.l3 q hlt
              have q1 := fun w => run_float_arith (P := Try.prog) w .mul 133 .f64 _ _ _ h1
              have q2 := fun w => run_float_arith (P := Try.prog) w .mul 133 .f64 _ _ _ h2
              have q3 := fun w => run_float_arith (P := Try.prog) w .sub 133 .f64 _ _ _ h3
              have q4 := fun w => run_float_arith (P := Try.prog) w .mul 133 .f64 _ _ _ h4
              have q5 := fun w => run_float_arith (P := Try.prog) w .mul 133 .f64 _ _ _ h5
              have q6 := fun w => run_float_arith (P := Try.prog) w .quo 133 .f64 _ _ _ h6
              have q7 := fun w => run_float_arith (P := Try.prog) w .sub 133 .f64 _ _ _ h7
              clear h1 h2 h3 h4 h5 h6 h7
              go_wp2
              go_round
              case rel => exact ⟨q + 1, by omega, by go_num, rfl⟩
              case measure => simp [intOf]; omega
            · obtain rfl : q = 6 := by omega
              go_wp2
              go_ret
              exact ⟨rfl, rfl⟩

theorem mass_ne33 {k : Nat} : mass k ≠ 0 := by unfold mass; omega

theorem iThirdMass (k : Nat) (hk : k < 20) (w : World) :
    Calls Try.prog 105 #[.float .f32 (mass k)] w fun e w' => e = .returned (.tuple #[.float .f32 (rad k), .int .i64 0]) ∧ w = w' :=
  iThird (mass k) (k / 3) 0 (rz k) (rad k) (mass_amt hk) mass_ne33 (tr_one hk).1 w

theorem sThirdMass (k : Nat) (hk : k < 20) (w : World) :
    Calls Try.prog 120 #[.float .f32 (mass k)] w fun e w' => e = .returned (.float .f32 (rad k)) ∧ w = w' :=
  sThird (mass k) (k / 3) 0 (rz k) (rad k) (mass_amt hk) mass_ne33 (tr_one hk).1 w

theorem iRadius (k : Nat) (hk : k < 20) (w : World) :
    Calls Try.prog 66 #[.int .i64 (k : Int)] w fun e w' => e = .returned (.tuple #[.float .f32 (rad k), .int .i64 0]) ∧ w = w' := by
  have HK := hid hk
  clear hk
  go_enter Try.func66, Try.ntmps66
  go_wp2_with (first | (go_at_call 82; refine (isClass_t k HK.out _).mono ?_; rintro e w' ⟨rfl, rfl⟩) | (go_at_call 67; refine (iMass k HK.out _).mono ?_; rintro e w' ⟨rfl, rfl⟩) | (go_at_call 105; refine (iThirdMass k HK.out _).mono ?_; rintro e w' ⟨rfl, rfl⟩))
  go_ret2
  exact ⟨rfl, rfl⟩

theorem sRad (k : Nat) (hk : k < 20) (w : World) :
    Calls Try.prog 110 #[.int .i64 (k : Int)] w fun e w' => e = .returned (.float .f32 (rad k)) ∧ w = w' := by
  have HK := hid hk
  clear hk
  go_enter Try.func110, Try.ntmps110
  go_wp2_with (first | (go_at_call 121; refine (sMass k HK.out _).mono ?_; rintro e w' ⟨rfl, rfl⟩) | (go_at_call 120; refine (sThirdMass k HK.out _).mono ?_; rintro e w' ⟨rfl, rfl⟩))
  go_ret
  exact ⟨rfl, rfl⟩

theorem iHeat (x : Nat) (q : Bool) (hq : heatB x = q) (w : World) :
    Calls Try.prog 94 #[.float .f32 x] w fun e w' => e = .returned (.bool q) ∧ w = w' := by
  have h1 : heatB x = ((FloatKind.f32.format.order x 3262119936 == some .gt || FloatKind.f32.format.order x 3262119936 == some .eq) && (FloatKind.f32.format.order x 1114636288 == some .lt || FloatKind.f32.format.order x 1114636288 == some .eq)) := rfl
  rw [h1] at hq
  clear h1
  rcases a : (FloatKind.f32.format.order x 3262119936 == some .gt || FloatKind.f32.format.order x 3262119936 == some .eq) with _ | _
  · rw [a] at hq
    simp only [Bool.false_and] at hq
    subst hq
    go_enter Try.func94, Try.ntmps94
    go_wp2
    go_ret
    exact ⟨rfl, rfl⟩
  · rw [a] at hq
    simp only [Bool.true_and] at hq
    cases q
    all_goals
      go_enter Try.func94, Try.ntmps94
      go_wp2
      go_ret
      exact ⟨rfl, rfl⟩

set_option maxRecDepth 100000 in
theorem iValidAir (h v : Nat) (hv : v < 4294967296) (q : Bool) (hq : airB h v = q) (w : World) :
    Calls Try.prog 55 #[.agg #[.float .f32 h, .float .f32 v]] w fun e w' => e = .returned (.bool q) ∧ Below w.heap.size w w' := by
  have b0 := boxed w (.cells #[.float .f32 h, .float .f32 v] 45)
  have Hv := hid hv
  have e1 : airB h v = (heatB h && amtB v && vapB v) := rfl
  rw [e1] at hq
  clear hv e1
  rcases a : heatB h with _ | _
  · have Ha := hid a
    rw [a] at hq
    simp only [Bool.false_and] at hq
    subst hq
    clear a
    go_enter Try.func55, Try.ntmps55
    go_wp2_with fail
    refine (iHeat h false Ha.out _).mono ?_
    rintro e w1 ⟨rfl, rfl⟩
    go_wp2
    go_ret
    exact ⟨rfl, b0⟩
  · have Ha := hid a
    rw [a] at hq
    clear a
    rcases b : amtB v with _ | _
    · have Hb := hid b
      rw [b] at hq
      simp only [Bool.and_false, Bool.false_and] at hq
      subst hq
      clear b
      go_enter Try.func55, Try.ntmps55
      go_wp2_with fail
      refine (iHeat h true Ha.out _).mono ?_
      rintro e w1 ⟨rfl, rfl⟩
      go_wp2_with fail
      refine (isAmount_f v Hv.out Hb.out _).mono ?_
      rintro e w1 ⟨rfl, hb1⟩
      go_wp2
      go_ret
      exact ⟨rfl, stp b0 (Nat.le_refl _) hb1⟩
    · have Hb := hid b
      rw [b] at hq
      simp only [Bool.true_and] at hq
      have hc : (FloatKind.f32.format.order v 1148846080 == some .lt || FloatKind.f32.format.order v 1148846080 == some .eq) = q := hq
      clear b hq
      cases q
      all_goals
        go_enter Try.func55, Try.ntmps55
        go_wp2_with fail
        refine (iHeat h true Ha.out _).mono ?_
        rintro e w1 ⟨rfl, rfl⟩
        go_wp2_with fail
        refine (isAmount_t v Hb.out _).mono ?_
        rintro e w1 ⟨rfl, rfl⟩
        go_wp2
        go_ret
        exact ⟨rfl, b0⟩

def sameA (ah av bh bv : Nat) : Bool := sameB ah bh && sameB av bv

set_option maxRecDepth 100000 in
theorem sSameAir2 (ah av bh bv : Nat) (h1 : ah < 4294967296) (h2 : av < 4294967296) (h3 : bh < 4294967296) (h4 : bv < 4294967296) (w : World) (g k : Nat) (T T' : TypeId) (hg : airAt w g ah av T) (hk : airAt w k bh bv T') :
    Calls Try.prog 64 #[.pointer (some ⟨g, 0, none⟩), .pointer (some ⟨k, 0, none⟩)] w fun e w' => e = .returned (.bool (sameA ah av bh bv)) ∧ Below w.heap.size w w' := by
  have c0 := hg.c0
  have c1 := hg.c1
  have c2 := hk.c0
  have c3 := hk.c1
  have H1 := hid h1
  have H2 := hid h2
  have H3 := hid h3
  have H4 := hid h4
  have e1 : sameA ah av bh bv = (sameB ah bh && sameB av bv) := rfl
  rw [e1]
  clear h1 h2 h3 h4 hg hk e1
  rcases a : sameB ah bh with _ | _
  · have Ha := hid a
    clear a
    go_enter Try.func64, Try.ntmps64
    go_wp2
    go_quiet ((go_at_call 102; exact Calls.quiet_of_same (back (sSame_is ah bh H1.out H3.out false Ha.out _))))
    go_wp2
    go_ret
    exact ⟨rfl, below_drewN (Below.refl _ _) _⟩
  · rcases b : sameB av bv with _ | _
    all_goals
      go_enter Try.func64, Try.ntmps64
      go_wp2
      go_quiet ((go_at_call 102; exact Calls.quiet_of_same (back (sSame _ _ (by first | exact H1.out | exact H2.out) (by first | exact H3.out | exact H4.out) _))))
      go_wp2
      go_ret
      exact ⟨rfl, below_drewN (Below.refl _ _) _⟩

set_option maxRecDepth 100000 in
theorem sSameAir (ah av bh bv : Nat) (h1 : ah < 4294967296) (h2 : av < 4294967296) (h3 : bh < 4294967296) (h4 : bv < 4294967296) (w : World) :
    Calls Try.prog 22 #[.agg #[.float .f32 ah, .float .f32 av], .agg #[.float .f32 bh, .float .f32 bv]] w fun e w' => e = .returned (.bool (sameA ah av bh bv)) ∧ Below w.heap.size w w' := by
  have k0 := hid (((Kept.nil w).push (#[.float .f32 ah, .float .f32 av] : Array Value) 45).push (#[.float .f32 bh, .float .f32 bv] : Array Value) 45)
  have A0 : Hid (airAt ((w.alloc (.cells #[.float .f32 ah, .float .f32 av] 45)).alloc (.cells #[.float .f32 bh, .float .f32 bv] 45)) w.heap.size ah av 45) := hid (k0.out.at (x := (w.heap.size, _, _)) (by simp))
  have A1 : Hid (airAt ((w.alloc (.cells #[.float .f32 ah, .float .f32 av] 45)).alloc (.cells #[.float .f32 bh, .float .f32 bv] 45)) (w.heap.size + 1) bh bv 45) := hid (k0.out.at (x := (w.heap.size + 1, _, _)) (by simp))
  have H1 := hid h1
  have H2 := hid h2
  have H3 := hid h3
  have H4 := hid h4
  clear h1 h2 h3 h4
  go_enter Try.func22, Try.ntmps22
  go_wp2_with fail
  refine (sSameAir2 ah av bh bv H1.out H2.out H3.out H4.out _ w.heap.size (w.heap.size + 1) 45 45 A0.out A1.out).mono ?_
  rintro e w1 ⟨rfl, hb1⟩
  go_wp2
  go_ret
  exact ⟨rfl, (k0.out.stay hb1).1⟩

theorem info_col : (Try.prog.info? 66).map (·.size) = some 178 := by kernel_rfl

set_option maxHeartbeats 1000000 in
set_option maxRecDepth 100000 in
theorem iValidColumn (c : Nat → Nat) (t : Int) (hb : ∀ i, i < 177 → c i < 4294967296) (q : Bool) (hq : q = true ↔ ColOk c t) (w : World) :
    Calls Try.prog 81 #[.agg (vls 178 (clw c t))] w fun e w' => e = .returned (.bool q) ∧ Below w.heap.size w w' := by
  have HB := hid hb
  have HQ := hid hq
  have A0 := hid (vAt.new w 178 (clw c t) 66)
  have b0 := boxed w (.cells (vls 178 (clw c t)) 66)
  clear hb hq
  go_enter Try.func81, Try.ntmps81
  go_wp2_with fail
  go_loopw [4] (fun i wr => ∃ k : Nat, k ≤ 8 ∧ i = .int .i64 k ∧ Hid (UpOk c k) ∧ Hid (vAt wr w.heap.size 178 (clw c t) 66) ∧ Hid (Below w.heap.size w wr)) (fun i _ => 8 - (intOf i).toNat)
  case atStart => exact ⟨0, by omega, rfl, hid (.zero c), A0, hid b0⟩
  case round =>
    clear A0 b0
    obtain ⟨k, hk, rfl, HK, h0, hb⟩ := hrel
    by_cases hlt : k < 8
    · have HL := hid hlt
      have hk3 : (k : Int) < 8 := by omega
      by_cases hv : Amts (rowK c k)
      · have HV := hid hv
        clear hv
        go_wp2_with (refine wpList_load_as (by rfl) 42 _ (by rfl) (w.heap.size) (k * 20) (by rfl) 178 (clw c t) 66 h0.out 20 (by omega) (fls (rowK c k)) (dr_is c t k HL.out) _ Try.underlying42 (by rfl) info_arr ?_)
        refine (validSizes_t (rowK c k) HV.out _).mono ?_
        rintro e w1 ⟨rfl, hb1⟩
        have h0 := hid (h0.out.stay hb1)
        have hb := hid (stp hb.out (Nat.le_refl _) hb1)
        rcases ha : airB (heC c k) (vaC c k) with _ | _
        · have hn := no_air hlt ha HQ.out
          subst hn
          have HA := hid ha
          clear ha
          go_wp2_with (refine wpList_load_as (by rfl) 45 _ (by rfl) (w.heap.size) (160 + k * 2) (by rfl) 178 (clw c t) 66 h0.out 2 (by omega) #[.float .f32 (heC c k), .float .f32 (vaC c k)] (part_air c t HL.out) _ Try.underlying45 (by rfl) info_air ?_)
          refine (iValidAir (heC c k) (vaC c k) (HB.out _ (by have := HL.out; omega)) false HA.out _).mono ?_
          rintro e w2 ⟨rfl, hb2⟩
          go_wp2
          go_ret
          exact ⟨rfl, stp hb.out (Nat.le_refl _) hb2⟩
        · have HA := hid ha
          clear ha
          go_wp2_with (refine wpList_load_as (by rfl) 45 _ (by rfl) (w.heap.size) (160 + k * 2) (by rfl) 178 (clw c t) 66 h0.out 2 (by omega) #[.float .f32 (heC c k), .float .f32 (vaC c k)] (part_air c t HL.out) _ Try.underlying45 (by rfl) info_air ?_)
          refine (iValidAir (heC c k) (vaC c k) (HB.out _ (by have := HL.out; omega)) true HA.out _).mono ?_
          rintro e w2 ⟨rfl, hb2⟩
          have h0 := hid (h0.out.stay hb2)
          have hb := hid (stp hb.out (Nat.le_refl _) hb2)
          go_wp2
          go_roundw
          case rel => exact ⟨k + 1, by omega, by go_num, hid (HK.out.step HV.out HA.out), h0, hb⟩
          case measure => simp [intOf]; omega
      · have hn := no_sz hlt hv HQ.out
        subst hn
        have HV := hid hv
        clear hv
        go_wp2_with (refine wpList_load_as (by rfl) 42 _ (by rfl) (w.heap.size) (k * 20) (by rfl) 178 (clw c t) 66 h0.out 20 (by omega) (fls (rowK c k)) (dr_is c t k HL.out) _ Try.underlying42 (by rfl) info_arr ?_)
        refine (validSizes_f (rowK c k) (fun i hi => HB.out _ (by have := HL.out; omega)) HV.out _).mono ?_
        rintro e w1 ⟨rfl, hb1⟩
        go_wp2
        go_ret
        exact ⟨rfl, stp hb.out (Nat.le_refl _) hb1⟩
    · obtain rfl : k = 8 := by omega
      have q0 := h0.out.cf (i := 176) (by omega)
      have q1 := h0.out.ct
      rcases ha : amtB (c 176) with _ | _
      · have hn := no_gauge ha HQ.out
        subst hn
        have HA := hid ha
        clear ha
        go_wp2_with fail
        refine (isAmount_f (c 176) (HB.out _ (by omega)) HA.out _).mono ?_
        rintro e w1 ⟨rfl, hb1⟩
        go_wp2
        go_ret
        exact ⟨rfl, stp hb.out (Nat.le_refl _) hb1⟩
      · have hi := is_col HK.out ha HQ.out
        have HI := hid hi
        have HA := hid ha
        clear ha hi
        go_wp2_with fail
        refine (isAmount_t (c 176) HA.out _).mono ?_
        rintro e w1 ⟨rfl, rfl⟩
        by_cases h1 : 0 ≤ t
        · by_cases h2 : t ≤ 1000000000
          · have hqt : q = true := HI.out.1 ⟨h1, h2⟩
            subst hqt
            go_wp2_with fail
            go_ret
            exact ⟨by simp, hb.out⟩
          · have hqt : q = false := by rw [← Bool.not_eq_true]; exact fun x => h2 (HI.out.2 x).2
            subst hqt
            go_wp2_with fail
            go_ret
            exact ⟨by simp [h2], hb.out⟩
        · have hqt : q = false := by rw [← Bool.not_eq_true]; exact fun x => h1 (HI.out.2 x).1
          subst hqt
          go_wp2_with fail
          go_ret
          exact ⟨by simp, hb.out⟩

theorem info_sz8 : (Try.prog.info? 63).map (·.size) = some 160 := by kernel_rfl

@[go_sem] theorem zero_sz8 : Try.zeroCells63 = vls 160 (flw fun _ => 0) := by kernel_rfl

@[go_sem] theorem zeros16 : (#[.float .f32 0, .float .f32 0, .float .f32 0, .float .f32 0, .float .f32 0, .float .f32 0, .float .f32 0, .float .f32 0, .float .f32 0, .float .f32 0, .float .f32 0, .float .f32 0, .float .f32 0, .float .f32 0, .float .f32 0, .float .f32 0] : Array Value) = vls 16 (flw fun _ => 0) := rfl

@[go_sem] theorem zero_col : Try.zeroCells66 = vls 178 (clw (fun _ => 0) 0) := by kernel_rfl

theorem info_f32c : (Try.prog.info? 40).map (·.size) = some 1 := by kernel_rfl

theorem col_ok {c : Nat → Nat} {t : Int} (h : ColOk c t) : true = true ↔ ColOk c t := ⟨fun _ => h, fun _ => rfl⟩

theorem col_no {c : Nat → Nat} {t : Int} (h : ¬ ColOk c t) : false = true ↔ ColOk c t := ⟨fun x => (by cases x), fun x => absurd x h⟩

set_option maxRecDepth 100000 in
theorem iRainOf (c : Nat → Nat) (t : Int) (hb : ∀ i, i < 177 → c i < 4294967296) (q : Bool) (hq : q = true ↔ ColOk c t) (r : Nat) (n : Int) (h1 : q = true → r = c 176 ∧ n = 0) (h0 : q = false → r = 0 ∧ n = 1) (w : World) :
    Calls Try.prog 37 #[.agg (vls 178 (clw c t))] w fun e w' => e = .returned (.tuple #[.float .f32 r, .int .i64 n]) ∧ Below w.heap.size w w' := by
  have k0 : Hid (Kept w [(w.heap.size, vls 178 (clw c t), 66)] (w.alloc (.cells (vls 178 (clw c t)) 66))) := hid (((Kept.nil w).push _ _).sub (by simp))
  have HB := hid hb
  have HQ := hid hq
  clear hb hq
  go_enter Try.func37, Try.ntmps37
  go_wp2_with (refine wpList_load_row rfl 66 _ rfl (w.heap.size) rfl 66 (vls 178 (clw c t)) (0, 0) _ (k0.out.v in0) Try.underlying66 rfl (by rw [vls_size]; exact info_col) ?_)
  refine (iValidColumn c t HB.out q HQ.out _).mono ?_
  rintro e w1 ⟨rfl, hb1⟩
  have k1 := hid (k0.out.stay hb1)
  clear k0 hb1
  cases q
  · obtain ⟨rfl, rfl⟩ := h0 rfl
    clear h1 h0
    go_wp2
    go_ret2
    exact ⟨rfl, k1.out.1⟩
  · obtain ⟨rfl, rfl⟩ := h1 rfl
    clear h1 h0
    go_wp2_with (refine load_one (by rfl) 40 _ (by rfl) (w.heap.size) 176 (by rfl) (k1.out.v in0) (by omega) (.float .f32 (c 176)) (clw_f (by omega)) _ Try.underlying40 (by rfl) ?_)
    go_ret2
    exact ⟨rfl, k1.out.1⟩

theorem new1c (w : World) (o : Obj) (c : Nat → Nat) (T : TypeId) : arrAt ((w.alloc o).alloc (.cells (fls c) T)) (w.heap.size + 1) c T := by
  have := arrAt.new (w.alloc o) c T
  have e : (w.alloc o).heap.size = w.heap.size + 1 := by simp
  rwa [e] at this

set_option maxRecDepth 100000 in
theorem iFallShares (w : World) :
    Calls Try.prog 33 #[] w fun e w' => e = .returned (.agg (fls shr)) ∧ Below w.heap.size w w' := by
  have b0 := boxed2 w (.cells (fls fun _ => 0) 41) (.cells (fls fun _ => 0) 41)
  have A0 := hid ((arrAt.new w (fun _ => 0) 41).alloc (.cells (fls fun _ => 0) 41))
  have A1 := hid (new1c w (.cells (fls fun _ => 0) 41) (fun _ => 0) 41)
  go_enter Try.func33, Try.ntmps33
  go_wp2_with fail
  go_loopw [5] (fun i wr => ∃ k : Nat, k ≤ 20 ∧ i = .int .i64 k ∧ Hid (arrAt wr w.heap.size (fun _ => 0) 41) ∧ Hid (arrAt wr (w.heap.size + 1) (cut shr k) 41) ∧ Hid (Below w.heap.size w wr)) (fun i _ => 20 - (intOf i).toNat)
  case atStart => exact ⟨0, by omega, rfl, A0, hid (A1.out.ext (fun i _ => (cut_zero' shr i).symm)), hid b0⟩
  case round =>
    clear A0 A1 b0
    obtain ⟨k, hk, rfl, h0, h1, hb⟩ := hrel
    by_cases hlt : k < 20
    · have HL := hid hlt
      have hk3 : (k : Int) < 20 := by omega
      obtain ⟨sa, sl, sg⟩ := sh_facts hlt
      obtain ⟨_, mr, _⟩ := tr_one hlt
      have r1 := fun w => run_mul (P := Try.prog) 40 (x := 1015021568) (y := rad k) (by decide) mr w
      have r2 := fun w ts t => run_min (P := Try.prog) (x := fmul 1015021568 (rad k)) (y := 1065353216) ts t sa (by decide) w
      have q1 := h1.out.cell hlt
      have f1 := h1.out.frozen k
      clear sa sl sg mr
      go_wp2_with fail
      refine (iRadius k HL.out _).mono ?_
      rintro e w1 ⟨rfl, rfl⟩
      have hsw : min (fmul 1015021568 (rad k)) 1065353216 = shr k := shr_is k
      go_wp2_with fail
      go_roundw
      case rel => exact ⟨k + 1, by omega, by go_num, hid (h0.out.setOther (by simp) _), hid ((h1.out.set k (shr k)).ext (fun i hi => cut_succ shr k i)), hid (hb.out.setCell (by simp) _)⟩
      case measure => simp [intOf]; omega
    · obtain rfl : k = 20 := by omega
      have h2' := hid (h1.out.ext (cut_all shr))
      clear h1
      go_wp2_with (first | (refine wpList_load_row rfl 41 _ rfl (w.heap.size + 1) rfl 41 (fls shr) (0, 0) _ h2'.out Try.underlying41 rfl (by rw [fls_size]; exact info_a20) ?_) | (refine wpList_store_row rfl 41 _ _ rfl (w.heap.size) (fls shr) rfl rfl 41 _ h0.out (by rw [fls_size]; exact info_a20) (by simp) (fls_one shr) ?_))
      exact bodyPost_ret (results_cell_row rfl _ _ (w.heap.size) 41 (fls shr) (0, 0) _ rfl (h0.out.setRow shr) Try.underlying41 rfl (by rw [fls_size]; exact info_a20)) rfl ⟨rfl, below_row hb.out (by omega) _⟩

set_option maxRecDepth 100000 in
theorem sShares (w : World) :
    Calls Try.prog 79 #[] w fun e w' => e = .returned (.agg (fls shr)) ∧ Below w.heap.size w w' := by
  have k0 : Hid (Kept w [(w.heap.size + 1, fls fun _ => 0, 41), (w.heap.size, fls fun _ => 0, 41)] ((w.alloc (.cells (fls fun _ => 0) 41)).alloc (.cells (fls fun _ => 0) 41))) := hid ((((Kept.nil w).push _ _).push _ _).sub (by simp))
  have tok1 : True := trivial
  go_enter Try.func79, Try.ntmps79
  go_wp2_with (have _t := tok1; refine store_row (by rfl) 41 _ _ (by rfl) (w.heap.size + 1) (fls fun _ => 0) (fls fun _ => 0) (by rfl) (by rfl) k0.out (by rw [fls_size]; exact info_a20) rfl (fls_one _) (by omega) (neC (by omega) ne0) ?_; intro w2 k2; replace k2 := hid k2; clear k0 tok1)
  have b0 := k2.out.1
  have A0 : Hid (arrAt w2 w.heap.size (fun _ => 0) 41) := hid (k2.out.at in1)
  have A1 : Hid (arrAt w2 (w.heap.size + 1) (fun _ => 0) 41) := hid (k2.out.at in0)
  clear k2
  go_loopw [2] (fun i wr => ∃ k : Nat, k ≤ 20 ∧ i = .int .i64 k ∧ Hid (arrAt wr w.heap.size (fun _ => 0) 41) ∧ Hid (arrAt wr (w.heap.size + 1) (cut shr k) 41) ∧ Hid (Below w.heap.size w wr)) (fun i _ => 20 - (intOf i).toNat)
  case atStart => exact ⟨0, by omega, rfl, A0, hid (A1.out.ext (fun i _ => (cut_zero' shr i).symm)), hid b0⟩
  case round =>
    clear A0 A1 b0
    obtain ⟨k, hk, rfl, h0, h1, hb⟩ := hrel
    by_cases hlt : k < 20
    · have HL := hid hlt
      have hk3 : (k : Int) < 20 := by omega
      obtain ⟨sa, sl, sg⟩ := sh_facts hlt
      obtain ⟨_, mr, _⟩ := tr_one hlt
      have r1 := fun w => run_mul (P := Try.prog) 40 (x := rad k) (y := 1015021568) mr (by decide) w
      have q1 := h1.out.cell hlt
      have f1 := h1.out.frozen k
      have e1 : fmul (rad k) 1015021568 = share0 k := fmul_comm (amtB_iff.1 mr) (by decide)
      rw [e1] at r1
      by_cases hg : 1065353216 < share0 k
      · have hr : shr k = 1065353216 := by rw [← shr_is]; exact Nat.min_eq_right (Nat.le_of_lt hg)
        have hG : (FloatKind.f32.format.order (share0 k) 1065353216 == some .gt) = true := by rw [show (FloatKind.f32.format.order (share0 k) 1065353216 == some .gt) = decide (1065353216 < share0 k) from sg]; exact decide_eq_true hg
        have HR := hid hr
        clear sa sl sg mr hg hr
        go_wp2_with fail
        refine (sRad k HL.out _).mono ?_
        rintro e w1 ⟨rfl, rfl⟩
        go_wp2_with fail
        go_roundw
        case rel => exact ⟨k + 1, by omega, by go_num, hid (h0.out.setOther (by simp) _), hid ((h1.out.set k 1065353216).ext (fun i hi => by rw [← HR.out]; exact cut_succ shr k i)), hid (hb.out.setCell (by simp) _)⟩
        case measure => simp [intOf]; omega
      · have hr : share0 k = shr k := by rw [← shr_is]; exact (Nat.min_eq_left (by omega)).symm
        have hG : (FloatKind.f32.format.order (share0 k) 1065353216 == some .gt) = false := by rw [show (FloatKind.f32.format.order (share0 k) 1065353216 == some .gt) = decide (1065353216 < share0 k) from sg]; exact decide_eq_false hg
        have HR := hid hr
        clear sa sl sg mr hg hr
        go_wp2_with fail
        refine (sRad k HL.out _).mono ?_
        rintro e w1 ⟨rfl, rfl⟩
        go_wp2_with fail
        go_roundw
        case rel => exact ⟨k + 1, by omega, by go_num, hid (h0.out.setOther (by simp) _), hid ((h1.out.set k (share0 k)).ext (fun i hi => by rw [HR.out]; exact cut_succ shr k i)), hid (hb.out.setCell (by simp) _)⟩
        case measure => simp [intOf]; omega
    · obtain rfl : k = 20 := by omega
      have h2' := hid (h1.out.ext (cut_all shr))
      clear h1
      go_wp2_with (first | (refine wpList_load_row rfl 41 _ rfl (w.heap.size + 1) rfl 41 (fls shr) (0, 0) _ h2'.out Try.underlying41 rfl (by rw [fls_size]; exact info_a20) ?_) | (refine wpList_store_row rfl 41 _ _ rfl (w.heap.size) (fls shr) rfl rfl 41 _ h0.out (by rw [fls_size]; exact info_a20) (by simp) (fls_one shr) ?_))
      exact bodyPost_ret (results_cell_row rfl _ _ (w.heap.size) 41 (fls shr) (0, 0) _ rfl (h0.out.setRow shr) Try.underlying41 rfl (by rw [fls_size]; exact info_a20)) rfl ⟨rfl, below_row hb.out (by omega) _⟩

theorem sFallShares (w : World) :
    Calls Try.prog 34 #[] w fun e w' => e = .returned (.agg (fls shr)) ∧ Below w.heap.size w w' := by
  have k0 := hid ((Kept.nil w).push (fls fun _ => 0) 41)
  have tok1 : True := trivial
  go_enter Try.func34, Try.ntmps34
  go_wp2_with fail
  refine (sShares _).mono ?_
  rintro e w1 ⟨rfl, hb1⟩
  have k1 := hid (k0.out.stay hb1)
  clear k0 hb1
  go_wp2_with (have _t := tok1; refine store_row (by rfl) 41 _ _ (by rfl) (w.heap.size) (fls shr) (fls fun _ => 0) (by rfl) (by rfl) k1.out (by rw [fls_size]; exact info_a20) (by simp) (fls_one shr) (by omega) ne0 ?_; intro w2 k2; replace k2 := hid k2; clear k1 tok1)
  exact bodyPost_ret (results_cell_row rfl _ _ (w.heap.size) 41 (fls shr) (0, 0) _ rfl (k2.out.at (x := (w.heap.size, fls shr, 41)) in0) Try.underlying41 rfl (by rw [fls_size]; exact info_a20)) rfl ⟨rfl, k2.out.1⟩

set_option maxRecDepth 100000 in
theorem iFitC_t (c : Nat → Nat) (t : Int) (hb : ∀ i, i < 177 → c i < 4294967296) (h : ColOk c t) (n : Int) (w : World) :
    Calls Try.prog 80 #[.agg (vls 178 (clw c t)), .int .i64 n] w fun e w' => e = .returned (.tuple #[.agg (vls 178 (clw c t)), .int .i64 0]) ∧ Below w.heap.size w w' := by
  have k0 : Hid (Kept w [(w.heap.size + 1, vls 178 (clw (fun _ => 0) 0), 66), (w.heap.size, vls 178 (clw c t), 66)] ((w.alloc (.cells (vls 178 (clw c t)) 66)).alloc (.cells (vls 178 (clw (fun _ => 0) 0)) 66))) := hid ((((Kept.nil w).push _ _).push _ _).sub (by simp))
  have HB := hid hb
  have HQ := hid h
  clear hb h
  have tok1 : True := trivial
  go_enter Try.func80, Try.ntmps80
  go_wp2_with (refine wpList_load_row rfl 66 _ rfl (w.heap.size) rfl 66 (vls 178 (clw c t)) (0, 0) _ (k0.out.v in1) Try.underlying66 rfl (by rw [vls_size]; exact info_col) ?_)
  refine (iValidColumn c t HB.out true (col_ok HQ.out) _).mono ?_
  rintro e w1 ⟨rfl, hb1⟩
  have k1 := hid (k0.out.stay hb1)
  clear k0 hb1
  go_wp2_with (first | (have _t := tok1; refine store_row (by rfl) 66 _ _ (by rfl) (w.heap.size + 1) (vls 178 (clw c t)) (vls 178 (clw (fun _ => 0) 0)) (by rfl) (by rfl) k1.out (by rw [vls_size]; exact info_col) (by simp) (vls_one (clw_one _ _)) (by omega) (neC (by omega) ne0) ?_; intro xk2 k2; replace k2 := hid k2; clear k1 tok1) | (refine wpList_load_row rfl 66 _ rfl (w.heap.size) rfl 66 (vls 178 (clw c t)) (0, 0) _ (k1.out.v in1) Try.underlying66 rfl (by rw [vls_size]; exact info_col) ?_))
  exact bodyPost_ret (results_row_tmp rfl _ _ (w.heap.size + 1) 66 (vls 178 (clw c t)) (0, 0) _ rfl (k2.out.at (x := (w.heap.size + 1, vls 178 (clw c t), 66)) in0) Try.underlying66 rfl (by rw [vls_size]; exact info_col)) rfl ⟨rfl, k2.out.1⟩

set_option maxRecDepth 100000 in
theorem iFitC_f (c : Nat → Nat) (t : Int) (hb : ∀ i, i < 177 → c i < 4294967296) (h : ¬ ColOk c t) (n : Int) (w : World) :
    Calls Try.prog 80 #[.agg (vls 178 (clw c t)), .int .i64 n] w fun e w' => e = .returned (.tuple #[.agg (vls 178 (clw (fun _ => 0) 0)), .int .i64 n]) ∧ Below w.heap.size w w' := by
  have k0 : Hid (Kept w [(w.heap.size + 1, vls 178 (clw (fun _ => 0) 0), 66), (w.heap.size, vls 178 (clw c t), 66)] ((w.alloc (.cells (vls 178 (clw c t)) 66)).alloc (.cells (vls 178 (clw (fun _ => 0) 0)) 66))) := hid ((((Kept.nil w).push _ _).push _ _).sub (by simp))
  have HB := hid hb
  have HQ := hid h
  clear hb h
  have tok1 : True := trivial
  go_enter Try.func80, Try.ntmps80
  go_wp2_with (refine wpList_load_row rfl 66 _ rfl (w.heap.size) rfl 66 (vls 178 (clw c t)) (0, 0) _ (k0.out.v in1) Try.underlying66 rfl (by rw [vls_size]; exact info_col) ?_)
  refine (iValidColumn c t HB.out false (col_no HQ.out) _).mono ?_
  rintro e w1 ⟨rfl, hb1⟩
  have k1 := hid (k0.out.stay hb1)
  clear k0 hb1
  go_wp2_with (have _t := tok1; refine store_row (by rfl) 66 _ _ (by rfl) (w.heap.size + 1) (vls 178 (clw (fun _ => 0) 0)) (vls 178 (clw (fun _ => 0) 0)) (by rfl) (by rfl) k1.out (by rw [vls_size]; exact info_col) (by simp) (vls_one (clw_one _ _)) (by omega) (neC (by omega) ne0) ?_; intro xk2 k2; replace k2 := hid k2; clear k1 tok1)
  exact bodyPost_ret (results_row_tmp rfl _ _ (w.heap.size + 1) 66 (vls 178 (clw (fun _ => 0) 0)) (0, 0) _ rfl (k2.out.at (x := (w.heap.size + 1, vls 178 (clw (fun _ => 0) 0), 66)) in0) Try.underlying66 rfl (by rw [vls_size]; exact info_col)) rfl ⟨rfl, k2.out.1⟩

/-- What a still column is: the words behind eight airs. -/
def StP (h v : Nat) (c : Nat → Nat) (n : Int) : Prop := (finB h = true ∧ ColOk (stW h v) 0 → c = stW h v ∧ n = 0) ∧ (¬ (finB h = true ∧ ColOk (stW h v) 0) → c = (fun _ => 0) ∧ n = 2)

theorem colok_ext {c d : Nat → Nat} {t : Int} (h : ∀ i, i < 177 → c i = d i) (k : ColOk c t) : ColOk d t := by
  refine ⟨fun i hi j hj => ?_, fun i hi => ?_, ?_, k.t0, k.t1⟩
  · have := k.sz i hi j hj
    unfold rowK at this ⊢
    rwa [h _ (by omega)] at this
  · have := k.air i hi
    unfold heC vaC at this ⊢
    rwa [h _ (by omega), h _ (by omega)] at this
  · rw [← h 176 (by omega)]; exact k.gauge

theorem clw_ext {c d : Nat → Nat} (h : ∀ i, i < 177 → c i = d i) (t : Int) : vls 178 (clw c t) = vls 178 (clw d t) := vls_ext fun i hi => by
  unfold clw
  by_cases e : i = 177
  · rw [if_pos e, if_pos e]
  · rw [if_neg e, if_neg e, h i (by omega)]

theorem stW_lt {h v : Nat} (h1 : finB h = true) (hh : h < 4294967296) (hv : v < 4294967296) (i : Nat) : stW h v i < 4294967296 := by
  unfold stW
  by_cases a : i < 160 ∨ 176 ≤ i
  · rw [if_pos a]; decide
  · rw [if_neg a]
    by_cases b : i % 2 = 0
    · rw [if_pos b]
      exact (sub_nw (fw_of hh h1) (fw_amt (amtB_iff.2 (tw_one (k := (i - 160) / 2) (by omega)).2.1))).2.1
    · rw [if_neg b]; exact hv

set_option maxHeartbeats 1000000 in
set_option maxRecDepth 100000 in
theorem iStill (h v : Nat) (h1 : h < 4294967296) (h2 : v < 4294967296) (c : Nat → Nat) (n : Int) (hp : StP h v c n) (w : World) :
    Calls Try.prog 35 #[.float .f32 h, .float .f32 v] w fun e w' => e = .returned (.tuple #[.agg (vls 178 (clw c 0)), .int .i64 n]) ∧ Below w.heap.size w w' := by
  have H1 := hid h1
  have H2 := hid h2
  have HP := hid hp
  have k0 : Hid (Kept w [(w.heap.size + 1, vls 178 (clw (fun _ => 0) 0), 66), (w.heap.size, vls 178 (clw (fun _ => 0) 0), 66)] ((w.alloc (.cells (vls 178 (clw (fun _ => 0) 0)) 66)).alloc (.cells (vls 178 (clw (fun _ => 0) 0)) 66))) := hid ((((Kept.nil w).push _ _).push _ _).sub (by simp))
  clear h1 h2 hp
  go_enter Try.func35, Try.ntmps35
  go_wp2_with fail
  go_loopw [8] (fun i wr => ∃ (k : Nat) (x : Nat → Nat), k ≤ 8 ∧ i = .int .i64 k ∧ Hid (StJ h v k x) ∧ Hid (Kept w [(w.heap.size + 1, vls 178 (clw x 0), 66), (w.heap.size, vls 178 (clw (fun _ => 0) 0), 66)] wr)) (fun i _ => 8 - (intOf i).toNat)
  case atStart => exact ⟨0, fun _ => 0, by omega, rfl, hid (.zero h v), k0⟩
  case round =>
    obtain ⟨k, x, hk, rfl, J, h0⟩ := hrel
    clear k0
    by_cases hlt : k < 8
    · have HL := hid hlt
      have hk3 : (k : Int) < 8 := by omega
      obtain ⟨z, u, e1, l1, d1, hfin, hbad⟩ := st_step (P := Try.prog) (t := 40) hlt H1.out wr
      have r1 := fun w => run_float_arith (P := Try.prog) w .mul 40 .f32 _ _ _ (tw_one hlt).1
      have cv1 : ∀ w, (convert 3 40 (.int .i64 (k : Int))).run Try.prog w = .ok (.float .f32 (fiW (k : Int))) w := fun w => rfl
      have J1 := hid (J.out.step hlt H2.out l1 hfin hbad)
      have K1 := hid (kept_wf h0.out d1)
      have tok1 : True := trivial
      clear hfin hbad l1 h0 J
      go_wp2_with (have _t := tok1; refine store_cut (by rfl) 45 _ _ (by rfl) (w.heap.size + 1) (160 + k * 2) 2 (twoF z v) #[.float .f32 z, .float .f32 v] (by rfl) (by rfl) (two_vls z v) info_air (two_cell z v) K1.out (by omega) (by omega) (neC (by omega) ne0) ?_; intro w2 K2; replace K2 := hid (K2.ext (putA_is x 0 z v HL.out)); clear K1 tok1)
      go_roundw
      case rel => exact ⟨k + 1, _, by omega, by go_num, J1, K2⟩
      case measure => simp [intOf]; omega
    · obtain rfl : k = 8 := by omega
      have tok1 : True := trivial
      have hx := hid (fun i (_ : i < 177) => J.out.lt i)
      go_wp2_with (refine wpList_load_row rfl 66 _ rfl (w.heap.size + 1) rfl 66 (vls 178 (clw x 0)) (0, 0) _ (h0.out.at (x := (w.heap.size + 1, vls 178 (clw x 0), 66)) in0) Try.underlying66 rfl (by rw [vls_size]; exact info_col) ?_)
      rcases Classical.em (ColOk x 0) with hok | hok
      · have hf : finB h = true := by
          rcases hf : finB h with _ | _
          · exact absurd hok (J.out.no hf)
          · rfl
        obtain ⟨rfl, rfl⟩ := HP.out.1 ⟨hf, colok_ext (J.out.done hf) hok⟩
        have he := clw_ext (J.out.done hf) 0
        refine (iFitC_t x 0 hx.out hok 2 _).mono ?_
        rintro e w1 ⟨rfl, hb1⟩
        have k1 := hid (Kept.swap (h0.out.stay hb1))
        rw [he]
        clear h0 hb1 hok HP J
        go_wp2_with (have _t := tok1; refine store_row (by rfl) 66 _ _ (by rfl) (w.heap.size) (vls 178 (clw (stW h v) 0)) (vls 178 (clw (fun _ => 0) 0)) (by rfl) (by rfl) k1.out (by rw [vls_size]; exact info_col) (by simp) (vls_one (clw_one _ _)) (by omega) (neC (by omega) ne0) ?_; intro xk2 k2; replace k2 := hid k2; clear k1 tok1)
        exact bodyPost_ret (results_row_tmp rfl _ _ (w.heap.size) 66 (vls 178 (clw (stW h v) 0)) (0, 0) _ rfl (k2.out.at (x := (w.heap.size, vls 178 (clw (stW h v) 0), 66)) in0) Try.underlying66 rfl (by rw [vls_size]; exact info_col)) rfl ⟨rfl, k2.out.1⟩
      · have hq : ¬ (finB h = true ∧ ColOk (stW h v) 0) := fun y => hok (colok_ext (fun i hi => (J.out.done y.1 i hi).symm) y.2)
        obtain ⟨rfl, rfl⟩ := HP.out.2 hq
        refine (iFitC_f x 0 hx.out hok 2 _).mono ?_
        rintro e w1 ⟨rfl, hb1⟩
        have k1 := hid (Kept.swap (h0.out.stay hb1))
        clear h0 hb1 hok HP J hq
        go_wp2_with (have _t := tok1; refine store_row (by rfl) 66 _ _ (by rfl) (w.heap.size) (vls 178 (clw (fun _ => 0) 0)) (vls 178 (clw (fun _ => 0) 0)) (by rfl) (by rfl) k1.out (by rw [vls_size]; exact info_col) (by simp) (vls_one (clw_one _ _)) (by omega) (neC (by omega) ne0) ?_; intro xk2 k2; replace k2 := hid k2; clear k1 tok1)
        exact bodyPost_ret (results_row_tmp rfl _ _ (w.heap.size) 66 (vls 178 (clw (fun _ => 0) 0)) (0, 0) _ rfl (k2.out.at (x := (w.heap.size, vls 178 (clw (fun _ => 0) 0), 66)) in0) Try.underlying66 rfl (by rw [vls_size]; exact info_col)) rfl ⟨rfl, k2.out.1⟩

theorem ix8 (c : Nat → Nat) (k : Nat) (hk : k < 8) (w : World) : (Instr.index 63 (.agg (vls 160 (flw c))) (.int .i64 (k : Int))).run Try.prog w = .ok (.agg (fls (rowK c k))) w :=
  run_index_row Try.underlying63 Try.underlying42 rfl info_arr 160 (flw c) k hk (by omega) w

set_option maxHeartbeats 1000000 in
set_option maxRecDepth 100000 in
theorem iBase_ok (c : Nat → Nat) (t : Int) (hb : ∀ i, i < 177 → c i < 4294967296) (h : ColOk c t) (r n : Int) (hr : baseF c 8 0 = (r, n)) (w : World) :
    Calls Try.prog 40 #[.agg (vls 178 (clw c t))] w fun e w' => e = .returned (.tuple #[.int .i64 r, .int .i64 n]) ∧ Below w.heap.size w w' := by
  have k0 : Hid (Kept w [(w.heap.size, vls 178 (clw c t), 66)] (w.alloc (.cells (vls 178 (clw c t)) 66))) := hid (((Kept.nil w).push _ _).sub (by simp))
  have HB := hid hb
  have HQ := hid h
  have HR := hid hr
  clear hb h hr
  go_enter Try.func40, Try.ntmps40
  go_wp2_with (refine wpList_load_row rfl 66 _ rfl (w.heap.size) rfl 66 (vls 178 (clw c t)) (0, 0) _ (k0.out.v in0) Try.underlying66 rfl (by rw [vls_size]; exact info_col) ?_)
  refine (iValidColumn c t HB.out true (col_ok HQ.out) _).mono ?_
  rintro e w1 ⟨rfl, hb1⟩
  have k1 := hid (k0.out.stay hb1)
  clear k0 hb1
  go_wp2_with (refine load_cut (by rfl) 63 _ (by rfl) (w.heap.size) 0 160 (by rfl) (k1.out.v in0) (by omega) (vls 160 (flw c)) (drops_is c t) _ Try.underlying63 (by rfl) info_sz8 ?_)
  go_loopw [13] (fun i wr => ∃ k : Nat, k ≤ 8 ∧ i = .int .i64 k ∧ Hid (baseF c (8 - k) k = (r, n)) ∧ Hid (Kept w [] wr)) (fun i _ => 8 - (intOf i).toNat)
  case atStart => exact ⟨0, by omega, rfl, HR, hid k1.out.tail⟩
  case round =>
    clear k1
    obtain ⟨k, hk, rfl, J, h0⟩ := hrel
    by_cases hlt : k < 8
    · have HL := hid hlt
      have hk3 : (k : Int) < 8 := by omega
      have hix := ix8 c k hlt
      have hW : nnB (wtC c k) = true := sumF_nn 19 fun i hi => wat_nn (by omega) (HQ.out.sz k hlt i (by omega))
      have hW4 := nn_lt hW
      have bs : w.heap.size ≤ wr.heap.size := h0.out.size
      have kN := hid (h0.out.push (fls fun _ => 0) 42)
      have tok1 : True := trivial
      clear h0
      go_wp2_with (first | (have _t := tok1; refine store_row (by rfl) 42 _ _ (by rfl) (wr.heap.size) (fls (rowK c k)) (fls fun _ => 0) (by rfl) (by rfl) kN.out (by rw [fls_size]; exact info_arr) (by simp) (fls_one _) (by omega) ne0 ?_; intro w2 k2; replace k2 := hid k2; clear kN tok1) | (refine wpList_load_row rfl 42 _ rfl (wr.heap.size) rfl 42 (fls (rowK c k)) (0, 0) _ (k2.out.at (x := (wr.heap.size, fls (rowK c k), 42)) in0) Try.underlying42 rfl (by rw [fls_size]; exact info_arr) ?_))
      clear hix
      rcases hf : finB (wtC c k) with _ | _
      · have e1 := baseF_inf HL.out hf
        rw [J.out] at e1
        injection e1 with e1 e2
        subst e1 e2
        have Hf := hid hf
        clear hf hW hW4
        refine (iWaterOf_ok (rowK c k) (HQ.out.sz k HL.out) _).mono ?_
        rintro e w3 ⟨rfl, hb3⟩
        have k3 := hid (k2.out.stay hb3)
        rw [show told (sumF (wat (rowK c k)) 19) = .tuple #[.float .f32 0, .int .i64 4] from told_f Hf.out]
        go_wp2
        go_ret2
        exact ⟨rfl, k3.out.1⟩
      · have Hf := hid hf
        rcases hg : geC (wtC c k) with _ | _
        · have e1 := baseF_next HL.out hf hg
          have hg' : (FloatKind.f32.format.order (wtC c k) 1149239296 == some .gt || FloatKind.f32.format.order (wtC c k) 1149239296 == some .eq) = false := hg
          have J2 := hid (e1.symm.trans J.out)
          clear hf hW hW4 hg e1
          refine (iWaterOf_ok (rowK c k) (HQ.out.sz k HL.out) _).mono ?_
          rintro e w3 ⟨rfl, hb3⟩
          have k3 := hid (k2.out.stay hb3)
          rw [show told (sumF (wat (rowK c k)) 19) = .tuple #[.float .f32 (wtC c k), .int .i64 0] from told_t Hf.out]
          go_wp2_with fail
          go_roundw
          case rel => exact ⟨k + 1, by omega, by go_num, J2, hid k3.out.tail⟩
          case measure => simp [intOf]; omega
        · have e1 := baseF_here HL.out hf hg
          rw [J.out] at e1
          injection e1 with e1 e2
          subst e1 e2
          have hg' : (FloatKind.f32.format.order (wtC c k) 1149239296 == some .gt || FloatKind.f32.format.order (wtC c k) 1149239296 == some .eq) = true := hg
          clear hf hW hW4 hg
          refine (iWaterOf_ok (rowK c k) (HQ.out.sz k HL.out) _).mono ?_
          rintro e w3 ⟨rfl, hb3⟩
          have k3 := hid (k2.out.stay hb3)
          rw [show told (sumF (wat (rowK c k)) 19) = .tuple #[.float .f32 (wtC c k), .int .i64 0] from told_t Hf.out]
          go_wp2_with fail
          go_ret2
          exact ⟨rfl, k3.out.1⟩
    · obtain rfl : k = 8 := by omega
      have e1 := J.out
      rw [baseF_end] at e1
      injection e1 with e1 e2
      subst e1 e2
      go_wp2
      go_ret2
      exact ⟨rfl, h0.out.1⟩

set_option maxHeartbeats 4000000 in
set_option maxRecDepth 100000 in
theorem iSettleC_ok (c : Nat → Nat) (t : Int) (hb : ∀ i, i < 177 → c i < 4294967296) (h : ColOk c t) (r : Nat → Nat) (s n : Int) (h1 : ColOk (setW c) t → r = setW c ∧ s = t ∧ n = 0) (h0 : ¬ ColOk (setW c) t → r = (fun _ => 0) ∧ s = 0 ∧ n = 4) (w : World) :
    Calls Try.prog 36 #[.agg (vls 178 (clw c t))] w fun e w' => e = .returned (.tuple #[.agg (vls 178 (clw r s)), .int .i64 n]) ∧ Below w.heap.size w w' := by
  have k0 : Hid (Kept w [(w.heap.size + 1, vls 178 (clw (fun _ => 0) 0), 66), (w.heap.size, vls 178 (clw c t), 66)] ((w.alloc (.cells (vls 178 (clw c t)) 66)).alloc (.cells (vls 178 (clw (fun _ => 0) 0)) 66))) := hid ((((Kept.nil w).push _ _).push _ _).sub (by simp))
  have HB := hid hb
  have HQ := hid h
  have H1 := hid h1
  have H0 := hid h0
  clear hb h h1 h0
  go_enter Try.func36, Try.ntmps36
  go_wp2_with (refine wpList_load_row rfl 66 _ rfl (w.heap.size) rfl 66 (vls 178 (clw c t)) (0, 0) _ (k0.out.v in1) Try.underlying66 rfl (by rw [vls_size]; exact info_col) ?_)
  refine (iValidColumn c t HB.out true (col_ok HQ.out) _).mono ?_
  rintro e u ⟨rfl, hu⟩
  have k1 := hid (k0.out.stay hu)
  clear k0 hu
  go_wp2_with fail
  refine (iFallShares _).mono ?_
  rintro e v ⟨rfl, hv⟩
  have k2 := hid (k1.out.stay hv)
  have bv : w.heap.size + 2 ≤ v.heap.size := by have := k2.out.lt (x := (w.heap.size + 1, vls 178 (clw (fun _ => 0) 0), 66)) in0; simp only at this; omega
  have fv := k2.out.fresh
  have kA := hid (k2.out.push (fls fun _ => 0) 41)
  have tokA : True := trivial
  clear k1 hv k2
  go_wp2_with (first
    | (have _t := k4; refine load_cut (by rfl) 63 _ (by rfl) (w.heap.size) 0 160 (by rfl) (k4.out.v in3) (by omega) (vls 160 (flw c)) (drops_is c t) _ Try.underlying63 (by rfl) info_sz8 ?_)
    | (have _t := kB; refine store_row (by rfl) 66 _ _ (by rfl) (w3.heap.size) (vls 178 (clw c t)) (vls 178 (clw (fun _ => 0) 0)) (by rfl) (by rfl) kB.out (by rw [vls_size]; exact info_col) (by simp) (vls_one (clw_one _ _)) (by omega) f3 ?_; intro w4 k4; replace k4 := hid k4; clear kB)
    | (have _t := k3; refine wpList_load_row rfl 66 _ rfl (w.heap.size) rfl 66 (vls 178 (clw c t)) (0, 0) _ (k3.out.v in2) Try.underlying66 rfl (by rw [vls_size]; exact info_col) ?_)
    | (have _t := tokA; refine store_row (by rfl) 41 _ _ (by rfl) (v.heap.size) (fls shr) (fls fun _ => 0) (by rfl) (by rfl) kA.out (by rw [fls_size]; exact info_a20) (by simp) (fls_one _) (by omega) fv ?_; intro w3 k3; replace k3 := hid k3; have kB := hid (k3.out.push (vls 178 (clw (fun _ => 0) 0)) 66); have b3 : v.heap.size + 1 ≤ w3.heap.size := (by have := k3.out.lt (x := (v.heap.size, fls shr, 41)) in0; simp only at this; omega); have f3 := k3.out.fresh; clear kA tokA))
  have k5 : Hid (Kept w [(w3.heap.size, vls 178 (clw (stS c (0) (0)) t), 66), (v.heap.size, fls shr, 41), (w.heap.size + 1, vls 178 (clw (fun _ => 0) 0), 66)] w4) := hid (Kept.ext (k4.out.sub (fun x hx => by rcases List.mem_cons.1 hx with rfl | hx; exact in0; rcases List.mem_cons.1 hx with rfl | hx; exact in1; rw [List.mem_singleton.1 hx]; exact in2)) (fun i _ => (clw_same (fun i => stS_zero c i) t i).symm))
  clear k3 k4 f3 fv
  go_loopw [19] (fun i wr => ∃ k : Nat, k ≤ 8 ∧ i = .int .i64 k ∧ Hid (Kept w [(w3.heap.size, vls 178 (clw (stS c (k) (0)) t), 66), (v.heap.size, fls shr, 41), (w.heap.size + 1, vls 178 (clw (fun _ => 0) 0), 66)] wr)) (fun i _ => 8 - (intOf i).toNat)
  case atStart => exact ⟨0, by omega, rfl, k5⟩
  case round =>
    clear k5
    obtain ⟨k, hk, rfl, h0⟩ := hrel
    by_cases hlt : k < 8
    · have HL := hid hlt
      have hk3 : (k : Int) < 8 := by omega
      have hix := ix8 c k hlt
      have bs : w.heap.size ≤ wr.heap.size := h0.out.size
      have fr := h0.out.fresh
      have kN := hid (h0.out.push (fls fun _ => 0) 42)
      have tok1 : True := trivial
      clear h0
      go_wp2_with (first | (have _t := tok1; refine store_row (by rfl) 42 _ _ (by rfl) (wr.heap.size) (fls (rowK c k)) (fls fun _ => 0) (by rfl) (by rfl) kN.out (by rw [fls_size]; exact info_arr) (by simp) (fls_one _) (by omega) fr ?_; intro w5 k6; replace k6 := hid k6; clear kN tok1) | (refine wpList_load_row rfl 42 _ rfl (wr.heap.size) rfl 42 (fls (rowK c k)) (0, 0) _ (k6.out.at (x := (wr.heap.size, fls (rowK c k), 42)) in0) Try.underlying42 rfl (by rw [fls_size]; exact info_arr) ?_))
      have k7 := hid k6.out.tail
      clear hix k6 fr bs
      go_loopw [24] (fun i wq => ∃ j : Nat, j ≤ 20 ∧ i = .int .i64 j ∧ Hid (Kept w [(w3.heap.size, vls 178 (clw (stS c (k) (j)) t), 66), (v.heap.size, fls shr, 41), (w.heap.size + 1, vls 178 (clw (fun _ => 0) 0), 66)] wq)) (fun i _ => 20 - (intOf i).toNat)
      case atStart => exact ⟨0, by omega, rfl, k7⟩
      case round =>
        clear k7
        obtain ⟨j, hj, rfl, h0⟩ := hrel
        by_cases hlj : j < 20
        · have HJ := hid hlj
          have hj3 : (j : Int) < 20 := by omega
          have hix : ∀ w, (Instr.index 42 (.agg (fls (rowK c k))) (.int .i64 (j : Int))).run Try.prog w = .ok (.float .f32 (c (k * 20 + j))) w := ix 42 Try.underlying42 (rowK c k) j hlj
          have F := fall_f HQ.out hlt hlj
          have r1 := fun w => run_mul (P := Try.prog) 40 F.sh F.am w
          rw [faC_at c k hlj] at r1
          have r2 := fun w => run_sub (P := Try.prog) 40 (amtB_iff.1 F.am) F.le w
          rw [show fsub (c (k * 20 + j)) (faC c (k * 20 + j)) = leC c (k * 20 + j) from rfl] at r2
          have e0 := stS_own c hlt hlj
          have tok1 : True := trivial
          have LA := hid F.la
          have FA := hid F.fa
          clear F
          rcases Nat.eq_zero_or_pos k with hz | hz
          · have hk4 : ¬ (0 : Int) < (k : Int) := by omega
            have hk5 : ¬ 0 < k := by omega
            have HM := hid hz
            have R4 := hid (fun w => run_mul (P := Try.prog) 40 (x := faC c j) (by have := FA.out; rwa [hz, show 0 * 20 + j = j by omega] at this) (mass_amt hlj) w)
            obtain ⟨g1, g2, g3⟩ := grC_f HQ.out hlj
            have R5 := hid (fun w => run_float_arith (P := Try.prog) w .quo 40 .f32 _ _ _ g2)
            have R6 := hid (fun w => run_add (P := Try.prog) 40 (gaS_nn HQ.out j (by omega)) g3 w)
            have EF := hid (show faC c (k * 20 + j) = faC c j by rw [hz, show 0 * 20 + j = j by omega])
            clear g1 g2 g3 hz
            go_wp2_with (first
              | (have _t := tok1; refine load_one (by rfl) 40 _ (by rfl) (v.heap.size) j (by rfl) (show vAt wr v.heap.size 20 (flw shr) 41 from h0.out.at (x := (v.heap.size, fls shr, 41)) in1) (by omega) (.float .f32 (shr j)) rfl _ Try.underlying40 (by rfl) ?_)
              | (have _t := tok1; refine store_one (by rfl) 40 _ _ (by rfl) info_f32c (w3.heap.size) (k * 20 + j) (.float .f32 (leC c (k * 20 + j))) (by rfl) (by rfl) rfl rfl h0.out (by omega) (by omega) (neC (by omega) (neC (by omega) ne0)) ?_; intro wy h1; replace h1 := hid (h1.ext (stM_is c t HL.out HJ.out)); clear h0 tok1))
            clear r1 r2 hix e0
            rw [EF.out]
            have h1 := hid h1.out.drew
            refine wp_region_still_tail 9 (by kernel_rfl) (by kernel_rfl) ?_
            change wpStill _ _ wy.drew (fun a' => wpList _ _ _ _ a' wy.drew) _ _
            simp only [List.take_succ_cons, List.take_zero, List.drop_succ_cons, List.drop_zero]
            generalize wy.drew = wz at h1 ⊢
            still_step
            refine still_load rfl 40 _ rfl _ rfl _ ((h1.out.v in0).oneAt 176 (by omega) (.float .f32 (gaS c j)) (stM_gauge' c t HM.out HJ.out) Try.underlying40 (by rfl)) ?_
            simp only [Act.put, List.setIfInBounds_toArray, List.set_cons_zero, List.set_cons_succ]
            still_step
            still_step
            still_call (back (iMass j HJ.out _))
            refine still_val rfl (.float .f32 (fmul (faC c j) (mass j))) (run_binop_val _ _ _ _ (by rfl) (by rfl) (by simp [eqGuard]) (R4.out _)) ?_
            simp only [Act.put, List.setIfInBounds_toArray, List.set_cons_zero, List.set_cons_succ]
            refine still_val rfl (.float .f32 (grC c j)) (run_binop_val _ _ _ _ (by rfl) (by rfl) (by simp [eqGuard]) (R5.out _)) ?_
            simp only [Act.put, List.setIfInBounds_toArray, List.set_cons_zero, List.set_cons_succ]
            refine still_val rfl (.float .f32 (gaS c (j + 1))) (run_binop_val _ _ _ _ (by rfl) (by rfl) (by simp [eqGuard]) (R6.out _)) ?_
            simp only [Act.put, List.setIfInBounds_toArray, List.set_cons_zero, List.set_cons_succ]
            still_step
            refine wpStill_nil ?_
            have tok1 : True := trivial
            go_wp2_with (have _t := tok1; refine store_one (by rfl) 40 _ _ (by rfl) info_f32c (w3.heap.size) 176 (.float .f32 (gaS c (j + 1))) (by rfl) (by rfl) rfl rfl h1.out (by omega) (by omega) (neC (by omega) (neC (by omega) ne0)) ?_; intro wx h2; replace h2 := hid (h2.ext (stS_gauge' c t HM.out HJ.out)); clear h1 tok1)
            go_roundw
            case rel => exact ⟨j + 1, by omega, by go_num, h2⟩
            case measure => simp [intOf]; omega
          · obtain ⟨m, hm⟩ : ∃ m, k = m + 1 := ⟨k - 1, by omega⟩
            have hk4 : (0 : Int) < (k : Int) := by omega
            have HM := hid hm
            have hkm : (k : Int) - 1 = (m : Int) := by omega
            have hm3 : (m : Int) < 8 := by omega
            have hwm : IntKind.i64.wrap (m : Int) = (m : Int) := by rw [IntKind.wrap_i64]; omega
            have G := fall_f HQ.out (k := m) (by omega) hlj
            have R3 := hid (fun w => run_add (P := Try.prog) 40 (amt_nn G.la) (amt_nn (show amtB (faC c (m * 20 + j + 20)) = true by rw [show m * 20 + j + 20 = k * 20 + j by omega]; exact FA.out)) w)
            have EF := hid (show faC c (k * 20 + j) = faC c (m * 20 + j + 20) by rw [show m * 20 + j + 20 = k * 20 + j by omega])
            clear G hm
            go_wp2_with (first
              | (have _t := tok1; refine load_one (by rfl) 40 _ (by rfl) (v.heap.size) j (by rfl) (show vAt wr v.heap.size 20 (flw shr) 41 from h0.out.at (x := (v.heap.size, fls shr, 41)) in1) (by omega) (.float .f32 (shr j)) rfl _ Try.underlying40 (by rfl) ?_)
              | (have _t := tok1; refine store_one (by rfl) 40 _ _ (by rfl) info_f32c (w3.heap.size) (k * 20 + j) (.float .f32 (leC c (k * 20 + j))) (by rfl) (by rfl) rfl rfl h0.out (by omega) (by omega) (neC (by omega) (neC (by omega) ne0)) ?_; intro wy h1; replace h1 := hid (h1.ext (stM_is c t HL.out HJ.out)); clear h0 tok1))
            clear r1 r2 hix e0
            rw [EF.out]
            have h1 := hid h1.out.drew
            refine wp_region_still_tail 15 (by kernel_rfl) (by kernel_rfl) ?_
            change wpStill _ _ wy.drew (fun a' => wpList _ _ _ _ a' wy.drew) _ _
            simp only [List.take_succ_cons, List.take_zero, List.drop_succ_cons, List.drop_zero]
            generalize wy.drew = wz at h1 ⊢
            still_step
            still_step
            still_step
            still_step
            still_step
            still_step
            still_step
            still_step
            still_step
            refine still_load rfl 40 _ rfl _ rfl _ ((h1.out.v in0).oneAt (m * 20 + j) (by have := HL.out; have := HM.out; have := HJ.out; omega) (.float .f32 (leC c (m * 20 + j))) (stM_low' c t HL.out HM.out HJ.out) Try.underlying40 (by rfl)) ?_
            simp only [Act.put, List.setIfInBounds_toArray, List.set_cons_zero, List.set_cons_succ]
            still_step
            refine still_val rfl (.float .f32 (dwC c (m * 20 + j))) (run_binop_val _ _ _ _ (by rfl) (by rfl) (by simp [eqGuard]) (R3.out _)) ?_
            simp only [Act.put, List.setIfInBounds_toArray, List.set_cons_zero, List.set_cons_succ]
            still_step
            still_step
            still_step
            refine wpStill_nil ?_
            have tok1 : True := trivial
            go_wp2_with (have _t := tok1; refine store_one (by rfl) 40 _ _ (by rfl) info_f32c (w3.heap.size) (m * 20 + j) (.float .f32 (dwC c (m * 20 + j))) (by rfl) (by rfl) rfl rfl h1.out (by have := HM.out; omega) (by omega) (neC (by omega) (neC (by omega) ne0)) ?_; intro wx h2; replace h2 := hid (h2.ext (stS_low' c t HL.out HM.out HJ.out)); clear h1 tok1)
            go_roundw
            case rel => exact ⟨j + 1, by omega, by go_num, h2⟩
            case measure => simp [intOf]; omega
        · obtain rfl : j = 20 := by omega
          have h3 := hid (h0.out.ext (fun i _ => clw_same (fun i => stS_next c k i) t i))
          clear h0
          go_wp2
          go_roundw
          case rel => exact ⟨k + 1, by omega, by go_num, h3⟩
          case measure => simp [intOf]; omega
    · obtain rfl : k = 8 := by omega
      have h3 := hid (h0.out.ext (fun i _ => clw_same (fun i => stS_end c i) t i))
      have tok1 : True := trivial
      have hx := hid (setW_lt HQ.out HB.out)
      clear h0
      go_wp2_with (refine wpList_load_row rfl 66 _ rfl (w3.heap.size) rfl 66 (vls 178 (clw (setW c) t)) (0, 0) _ (h3.out.at (x := (w3.heap.size, vls 178 (clw (setW c) t), 66)) in0) Try.underlying66 rfl (by rw [vls_size]; exact info_col) ?_)
      rcases Classical.em (ColOk (setW c) t) with hok | hok
      · obtain ⟨rfl, rfl, rfl⟩ := H1.out hok
        refine (iFitC_t (setW c) s hx.out hok 4 _).mono ?_
        rintro e y ⟨rfl, hy⟩
        have k9 : Hid (Kept w [(w.heap.size + 1, vls 178 (clw (fun _ => 0) 0), 66)] y) := hid (Kept.sub (h3.out.stay hy) (fun x hx => by rw [List.mem_singleton.1 hx]; exact in2))
        clear h3 hy hok H1 H0
        go_wp2_with (have _t := tok1; refine store_row (by rfl) 66 _ _ (by rfl) (w.heap.size + 1) (vls 178 (clw (setW c) s)) (vls 178 (clw (fun _ => 0) 0)) (by rfl) (by rfl) k9.out (by rw [vls_size]; exact info_col) (by simp) (vls_one (clw_one _ _)) (by omega) ne0 ?_; intro xk k8; replace k8 := hid k8; clear k9 tok1)
        exact bodyPost_ret (results_row_tmp rfl _ _ (w.heap.size + 1) 66 (vls 178 (clw (setW c) s)) (0, 0) _ rfl (k8.out.at (x := (w.heap.size + 1, vls 178 (clw (setW c) s), 66)) in0) Try.underlying66 rfl (by rw [vls_size]; exact info_col)) rfl ⟨rfl, k8.out.1⟩
      · obtain ⟨rfl, rfl, rfl⟩ := H0.out hok
        refine (iFitC_f (setW c) t hx.out hok 4 _).mono ?_
        rintro e y ⟨rfl, hy⟩
        have k9 : Hid (Kept w [(w.heap.size + 1, vls 178 (clw (fun _ => 0) 0), 66)] y) := hid (Kept.sub (h3.out.stay hy) (fun x hx => by rw [List.mem_singleton.1 hx]; exact in2))
        clear h3 hy hok H1 H0
        go_wp2_with (have _t := tok1; refine store_row (by rfl) 66 _ _ (by rfl) (w.heap.size + 1) (vls 178 (clw (fun _ => 0) 0)) (vls 178 (clw (fun _ => 0) 0)) (by rfl) (by rfl) k9.out (by rw [vls_size]; exact info_col) (by simp) (vls_one (clw_one _ _)) (by omega) ne0 ?_; intro xk k8; replace k8 := hid k8; clear k9 tok1)
        exact bodyPost_ret (results_row_tmp rfl _ _ (w.heap.size + 1) 66 (vls 178 (clw (fun _ => 0) 0)) (0, 0) _ rfl (k8.out.at (x := (w.heap.size + 1, vls 178 (clw (fun _ => 0) 0), 66)) in0) Try.underlying66 rfl (by rw [vls_size]; exact info_col)) rfl ⟨rfl, k8.out.1⟩

theorem sameA_self (h v : Nat) : sameA h v h v = true := by
  unfold sameA sameB
  cases nanB h <;> cases nanB v <;> simp

theorem ne_a20 (w : World) : (binOp .neq 41 (.agg (fls shr)) (.agg (fls shr))).run Try.prog w = .ok (.bool false) w := by
  obtain ⟨i, hi, _⟩ := Option.map_eq_some_iff.1 info_f32c
  exact run_neq_a20 Try.underlying41 Try.underlying40 hi (by kernel_rfl) shr (fun j hj => shr_amt' hj) w

set_option maxRecDepth 100000 in
set_option maxHeartbeats 40000000 in
theorem coreFalls (s0 s1 : Value) (n0 n1 : Nat) (x0 x1 : Nat → Int) (w : World) (h0 : RdV w s0 n0 (byV x0)) (h1 : RdV w s1 n1 (byV x1)) (b0 : Bytes8 n0 x0) (b1 : Bytes8 n1 x1) :
    Calls Try.prog 6 #[s0, s1] w fun e w' => e = .returned (.bool true) ∧ Below w.heap.size w w' := by
  obtain ⟨lg, hlg⟩ : ∃ b : Bool, b = true ↔ (3000 < n0 ∨ 3000 < n1) := ⟨decide (3000 < n0 ∨ 3000 < n1), decide_eq_true_iff⟩
  have R0 := hid h0
  have R1 := hid h1
  have B0 := hid b0
  have B1 := hid b1
  have HL := hid hlg
  clear h0 h1 b0 b1 hlg
  have k0 := hid (Kept.nil w)
  go_enter Try.func6, Try.ntmps6
  go_wp2_with fail
  refine (lA2Long s0 s1 n0 n1 x0 x1 _ R0.out R1.out lg HL.out).mono ?_
  rintro e w1 ⟨rfl, hb1⟩
  have k1 := hid (k0.out.stay hb1)
  clear k0 hb1
  cases lg
  case true =>
    go_wp2
    go_ret
    exact ⟨rfl, k1.out.1⟩
  clear HL
  go_wp2_with fail
  refine (iFallShares _).mono ?_
  rintro e w2 ⟨rfl, hb2⟩
  have k2 := hid (k1.out.stay hb2)
  clear k1 hb2
  have bs2 : w.heap.size ≤ w2.heap.size := k2.out.size
  have fr2 := k2.out.fresh
  have kA := hid (k2.out.push (fls fun _ => 0) 41)
  clear k2
  have tok1 : True := trivial
  go_wp2_with (have _t := tok1; refine store_row (by rfl) 41 _ _ (by rfl) (w2.heap.size) (fls shr) (fls fun _ => 0) (by rfl) (by rfl) kA.out (by rw [fls_size]; exact info_a20) (by simp) (fls_one _) (by omega) fr2 ?_; intro w3 k3; replace k3 := hid k3; clear kA tok1)
  refine region_act (w0 := w) (lk := [(w2.heap.size, fls shr, 41)]) (fun a0 a1 wq => a1 = ((a0.put (some 26) (.agg (fls shr))).put (some 27) (.agg (fls shr))).put (some 28) (.bool false) ∧ Kept w [(w2.heap.size, fls shr, 41)] wq) 3 #[false, false, false] (by kernel_rfl) rfl rfl ?_ ?_
  · have kd := k3.out.drew
    clear k3
    generalize World.drew _ = wd at kd ⊢
    refine take_load 0 _ _ rfl (by rfl) (by kernel_rfl) (by kernel_rfl) (by kernel_rfl) 41 _ rfl (w2.heap.size) (fls shr) 41 rfl in0 _ Try.underlying41 rfl (by rw [fls_size]; exact info_a20) rfl rfl kd ?_
    simp only [Act.put, List.setIfInBounds_toArray, List.set_cons_zero, List.set_cons_succ]
    refine wpAnyH_ready (rs := [1]) (by kernel_rfl) (by simp) ?_
    refine callK 1 _ _ (.agg (fls shr)) kd rfl (by rfl) 34 #[] (fun w => by unfold execOp; go_simp) rfl rfl ?hc1 (fun w9 k9 => ?_) AllReadyH.nil
    case hc1 => exact sFallShares _
    refine ⟨k9, ?_⟩
    simp only [Act.put, List.setIfInBounds_toArray, List.set_cons_zero, List.set_cons_succ]
    refine take_val 2 _ _ (.bool false) rfl (by rfl) (by kernel_rfl) (by kernel_rfl) (by kernel_rfl) (fun w => run_binop_val _ _ _ _ (by rfl) (by rfl) (run_eqGuard_agg _ _ _ _ _ _ _ (by kernel_rfl)) (ne_a20 w)) rfl rfl k9 ?_
    simp only [Act.put, List.setIfInBounds_toArray, List.set_cons_zero, List.set_cons_succ]
    refine wpAnyH_done (by kernel_rfl) ?_ _
    exact ⟨rfl, rfl, k9⟩
  rintro a1 w4 ⟨rfl, k4⟩
  clear k3
  replace k4 := hid k4
  simp only [Act.put, List.setIfInBounds_toArray, List.set_cons_zero, List.set_cons_succ]
  go_wp2_with fail
  refine (lA2At s0 n0 x0 _ (R0.out.stay k4.out.1) B0.out 0 40 (by omega) (by omega)).mono ?_
  rintro e w5 ⟨⟨a, ha, rfl⟩, hb5⟩
  have k5 := hid (k4.out.stay hb5)
  have HA := hid ha
  clear k4 hb5 ha
  go_wp2_with fail
  refine (lA2At s0 n0 x0 _ (R0.out.stay k5.out.1) B0.out 1 20 (by omega) (by omega)).mono ?_
  rintro e w6 ⟨⟨b, hb, rfl⟩, hb6⟩
  have k6 := hid (k5.out.stay hb6)
  have HB := hid hb
  clear k5 hb6 hb
  have Q0 := hid (still_ok HA.out HB.out)
  have LT := hid (stW_lt (st_facts HA.out).1 (st_facts HA.out).2.1 (amt_lt (vp_facts HB.out).1))
  go_wp2_with fail
  refine (iStill (fiW (a : Int)) (fiW (b : Int)) (st_facts HA.out).2.1 (amt_lt (vp_facts HB.out).1) (stW (fiW (a : Int)) (fiW (b : Int))) 0 ⟨fun _ => ⟨rfl, rfl⟩, fun h => absurd ⟨(st_facts HA.out).1, Q0.out⟩ h⟩ _).mono ?_
  rintro e w7 ⟨rfl, hb7⟩
  have k7 := hid (k6.out.stay hb7)
  clear k6 hb7
  have bs7 : w.heap.size ≤ w7.heap.size := k7.out.size
  have fr7 := k7.out.fresh
  have b72 : w2.heap.size < w7.heap.size := k7.out.lt (x := (w2.heap.size, fls shr, 41)) in0
  have kB := hid (k7.out.push (vls 178 (clw (fun _ => 0) 0)) 66)
  clear k7
  have tok2 : True := trivial
  go_wp2_with (have _t := tok2; refine store_row (by rfl) 66 _ _ (by rfl) (w7.heap.size) (vls 178 (clw (stW (fiW (a : Int)) (fiW (b : Int))) 0)) (vls 178 (clw (fun _ => 0) 0)) (by rfl) (by rfl) kB.out (by rw [vls_size]; exact info_col) (by simp) (vls_one (clw_one _ _)) (by omega) fr7 ?_; intro w8 k8; replace k8 := hid k8; clear kB tok2)
  refine (lA2At s1 n1 x1 _ (R1.out.stay k8.out.1) B1.out 0 8 (by omega) (by omega)).mono ?_
  rintro e w9 ⟨⟨r, hr, rfl⟩, hb9⟩
  have k9 := hid (k8.out.stay hb9)
  clear k8 hb9
  go_wp2_with fail
  refine (lA2At s1 n1 x1 _ (R1.out.stay k9.out.1) B1.out 1 20 (by omega) (by omega)).mono ?_
  rintro e wa ⟨⟨j, hj, rfl⟩, hba⟩
  have ka := hid (k9.out.stay hba)
  clear k9 hba
  go_wp2_with fail
  refine (lA2At s1 n1 x1 _ (R1.out.stay ka.out.1) B1.out 2 64 (by omega) (by omega)).mono ?_
  rintro e wb ⟨⟨m, hm, rfl⟩, hbb⟩
  have kb := hid (ka.out.stay hbb)
  clear ka hbb
  clear R0 R1 B0 B1
  have hw1 : wrap64 (1 + (m : Int)) = 1 + (m : Int) := by unfold wrap64; omega
  obtain ⟨q, hq⟩ : ∃ q, q = cnW m := ⟨_, rfl⟩
  have hq' : floatOfInt .f32 (1 + (m : Int)) = q := hq.symm
  have F : FallK j q := by rw [hq]; exact fall_k hj hm
  obtain ⟨p, hp⟩ : ∃ p, p = r * 20 + j := ⟨_, rfl⟩
  have HR := hid hr
  have HJ := hid hj
  have HP := hid hp
  have hr3 : (r : Int) < 8 := by omega
  have hj3 : (j : Int) < 20 := by omega
  have hp160 : p < 160 := by omega
  have hp20 : p % 20 = j := by omega
  have HF := hid F
  have OK1 := hid (one_ok (p := p) Q0.out hp160 F.q1)
  have OKS := hid (set1_ok (p := p) Q0.out hp160 (by rw [hp20]; exact F.l1) (by rw [hp20]; exact F.f1) (fun l => by rw [show p = j by omega]; exact F.g1))
  have L1 := hid (one_lt (p := p) LT.out (amt_lt F.q1))
  have HQ20 := hid hp20
  have HP160 := hid hp160
  clear hq hm hr hj hp20 F hp160 Q0 hp
  have tok3 : True := trivial
  go_wp2_with (first
    | (have _t := tok3; refine store_one (by rfl) 40 _ _ (by rfl) info_f32c (w7.heap.size) (r * 20 + j) (.float .f32 q) (by rfl) (by rfl) rfl rfl kb.out (by have := HR.out; have := HJ.out; omega) (by omega) (neC (by omega) ne0) ?_; intro wc kc; replace kc : Hid (Kept w [(w7.heap.size, vls 178 (clw (oneC (fiW (a : Int)) (fiW (b : Int)) p q) 0), 66), (w2.heap.size, fls shr, 41)] wc) := hid (kc.ext (fun i hi => by rw [← HP.out]; exact upV_one _ _ q (by have := HP160.out; omega) i hi)); clear kb tok3)
    | (refine wpList_load_row rfl 66 _ rfl (w7.heap.size) rfl 66 (vls 178 (clw (oneC (fiW (a : Int)) (fiW (b : Int)) p q) 0)) (0, 0) _ (kc.out.v in0) Try.underlying66 rfl (by rw [vls_size]; exact info_col) ?_))
  refine (iSettleC_ok (oneC (fiW (a : Int)) (fiW (b : Int)) p q) 0 (fun i _ => L1.out i) OK1.out (setW (oneC (fiW (a : Int)) (fiW (b : Int)) p q)) 0 0 (fun _ => ⟨rfl, rfl, rfl⟩) (fun h => absurd OKS.out h) _).mono ?_
  rintro e wd ⟨rfl, hbd⟩
  have ke := hid (kc.out.stay hbd)
  clear kc hbd
  have bsd : w.heap.size ≤ wd.heap.size := ke.out.size
  have frd := ke.out.fresh
  have bd2 : w2.heap.size < wd.heap.size := ke.out.lt (x := (w2.heap.size, fls shr, 41)) in1
  have bd7 : w7.heap.size < wd.heap.size := ke.out.lt (x := (w7.heap.size, vls 178 (clw (oneC (fiW (a : Int)) (fiW (b : Int)) p q) 0), 66)) in0
  have kC := hid (ke.out.push (vls 178 (clw (fun _ => 0) 0)) 66)
  clear ke
  have tok4 : True := trivial
  go_wp2_with (have _t := tok4; refine store_row (by rfl) 66 _ _ (by rfl) (wd.heap.size) (vls 178 (clw (setW (oneC (fiW (a : Int)) (fiW (b : Int)) p q)) 0)) (vls 178 (clw (fun _ => 0) 0)) (by rfl) (by rfl) kC.out (by rw [vls_size]; exact info_col) (by simp) (vls_one (clw_one _ _)) (by omega) frd ?_; intro we kf; replace kf := hid kf; clear kC tok4)
  go_loopw [13] (fun i wr => ∃ k : Nat, k ≤ 8 ∧ i = .int .i64 k ∧ Hid (Kept w [(wd.heap.size, vls 178 (clw (setW (oneC (fiW (a : Int)) (fiW (b : Int)) p q)) 0), 66), (w7.heap.size, vls 178 (clw (oneC (fiW (a : Int)) (fiW (b : Int)) p q) 0), 66), (w2.heap.size, fls shr, 41)] wr)) (fun i _ => 8 - (intOf i).toNat)
  case atStart => exact ⟨0, by omega, rfl, kf⟩
  case round =>
    clear kf
    obtain ⟨i, hi, rfl, g0⟩ := hrel
    by_cases hlt : i < 8
    · have HI := hid hlt
      have hi3 : (i : Int) < 8 := by omega
      go_wp2_with fail
      go_loopw [14] (fun i' wr => ∃ k : Nat, k ≤ 20 ∧ i' = .int .i64 k ∧ Hid (Kept w [(wd.heap.size, vls 178 (clw (setW (oneC (fiW (a : Int)) (fiW (b : Int)) p q)) 0), 66), (w7.heap.size, vls 178 (clw (oneC (fiW (a : Int)) (fiW (b : Int)) p q) 0), 66), (w2.heap.size, fls shr, 41)] wr)) (fun i' _ => 20 - (intOf i').toNat)
      case atStart => exact ⟨0, by omega, rfl, g0⟩
      case round =>
        clear g0
        obtain ⟨k, hk, rfl, g1⟩ := hrel
        by_cases hlk : k < 20
        · have hk3 : (k : Int) < 20 := by omega
          have HK := hid hlk
          have E0 : setW (oneC (fiW (a : Int)) (fiW (b : Int)) p q) (i * 20 + k) = if k = j ∧ i = r then fsub q (fmul (shr j) q) else if k = j ∧ i + 1 = r then fmul (shr j) q else 0 := by
            rw [set1_row HP160.out (by rw [HQ20.out]; exact HF.out.l1) (by rw [HQ20.out]; exact HF.out.f1) (Nat.lt_of_lt_of_le (pos160 HI.out hlk) (Nat.le_refl _))]
            exact fallR_at HP.out hlk HJ.out
          have tokS : True := trivial
          have rm := fun w => run_mul (P := Try.prog) 40 (shr_amt' HJ.out) HF.out.q1 w
          have rs := fun w => run_sub (P := Try.prog) 40 (amtB_iff.1 HF.out.q1) HF.out.le w
          by_cases e1 : k = j
          · subst e1
            by_cases e2 : i = r
            · have EV := E0
              rw [if_pos ⟨rfl, e2⟩] at EV
              have AV := HF.out.l1
              subst e2
              have hwr := wrP64 (lt1000 HI.out (by decide))
              have d3 := noP (i := i)
              clear E0
              have fe : (FloatKind.f32.format.order (fsub q (fmul (shr k) q)) (fsub q (fmul (shr k) q)) == some .eq) = true := same_eq AV
              go_wp2_with (first | (have _t := tokS; refine load_one (by rfl) 40 _ (by rfl) (w2.heap.size) k (by rfl) (show vAt wr w2.heap.size 20 (flw shr) 41 from g1.out.at (x := (w2.heap.size, fls shr, 41)) in2) (by have := HJ.out; omega) (.float .f32 (shr k)) rfl _ Try.underlying40 (by rfl) ?_))
              rcases Nat.eq_zero_or_pos k with hz | hz
              · have hk4 := k_zero hz
                clear hz
                refine region_act (w0 := w) (lk := [(wd.heap.size, vls 178 (clw (setW (oneC (fiW (a : Int)) (fiW (b : Int)) p q)) 0), 66), (w7.heap.size, vls 178 (clw (oneC (fiW (a : Int)) (fiW (b : Int)) p q) 0), 66), (w2.heap.size, fls shr, 41)]) (fun a0 a1 wq => a1 = ((((((((((((((((((((((a0.put (some 101) (.int .i64 (i : Int))).put (some 102) (.int .i64 (k : Int))).put (some 103) (.pointer (some ⟨wd.heap.size, 0, none⟩))).put (some 104) (.pointer (some ⟨wd.heap.size, i * 20, none⟩))).put (some 105) (.pointer (some ⟨wd.heap.size, i * 20 + k, none⟩))).put (some 106) (.float .f32 (fsub q (fmul (shr k) q)))).put (some 107) (.float .f32 (fsub q (fmul (shr k) q)))).put (some 108) (.bool false)).put (some 109) (.bool false)).put (some 110) (.int .i64 (k : Int))).put (some 111) (.bool false)).put (some 112) (.bool false)).put (some 113) (undef)).put (some 114) (undef)).put (some 115) (undef)).put (some 116) (undef)).put (some 117) (undef)).put (some 118) (undef)).put (some 119) (undef)).put (some 120) (undef)).put (some 121) (.bool false)).put (some 122) (.bool false)) ∧ Kept w [(wd.heap.size, vls 178 (clw (setW (oneC (fiW (a : Int)) (fiW (b : Int)) p q)) 0), 66), (w7.heap.size, vls 178 (clw (oneC (fiW (a : Int)) (fiW (b : Int)) p q) 0), 66), (w2.heap.size, fls shr, 41)] wq) 22 #[false, false, false, false, false, false, false, false, false, false, false, false, false, false, false, false, false, false, false, false, false, false] (by kernel_rfl) rfl rfl ?_ ?_
                · have kd := g1.out.drew
                  clear g1
                  generalize World.drew _ = wz at kd ⊢
                  refine take_val 0 _ _ (.int .i64 (i : Int)) rfl (by rfl) (by kernel_rfl) (by kernel_rfl) (by kernel_rfl) (fun w => by rfl) rfl rfl kd ?_
                  simp only [Act.put, List.setIfInBounds_toArray, List.set_cons_zero, List.set_cons_succ]
                  refine take_val 1 _ _ (.int .i64 (k : Int)) rfl (by rfl) (by kernel_rfl) (by kernel_rfl) (by kernel_rfl) (fun w => by rfl) rfl rfl kd ?_
                  simp only [Act.put, List.setIfInBounds_toArray, List.set_cons_zero, List.set_cons_succ]
                  refine take_val 2 _ _ (.pointer (some ⟨wd.heap.size, 0, none⟩)) rfl (by rfl) (by kernel_rfl) (by kernel_rfl) (by kernel_rfl) (fun w => by unfold execOp; go_simp) rfl rfl kd ?_
                  simp only [Act.put, List.setIfInBounds_toArray, List.set_cons_zero, List.set_cons_succ]
                  refine take_val 3 _ _ (.pointer (some ⟨wd.heap.size, i * 20, none⟩)) rfl (by rfl) (by kernel_rfl) (by kernel_rfl) (by kernel_rfl) (fun w => by unfold execOp; go_simp) rfl rfl kd ?_
                  simp only [Act.put, List.setIfInBounds_toArray, List.set_cons_zero, List.set_cons_succ]
                  refine take_val 4 _ _ (.pointer (some ⟨wd.heap.size, i * 20 + k, none⟩)) rfl (by rfl) (by kernel_rfl) (by kernel_rfl) (by kernel_rfl) (fun w => by unfold execOp; go_simp) rfl rfl kd ?_
                  simp only [Act.put, List.setIfInBounds_toArray, List.set_cons_zero, List.set_cons_succ]
                  refine take_cell 5 _ _ (.float .f32 (fsub q (fmul (shr k) q))) rfl (by rfl) (by kernel_rfl) (by kernel_rfl) (by kernel_rfl) (fun wq hS => by have hcell : wq.cell? ⟨wd.heap.size, i * 20 + k, none⟩ = some (.float .f32 (fsub q (fmul (shr k) q))) := (by rw [← EV]; exact (hS.v in0).cf (pos177 HI.out HK.out)); clear hS; unfold execOp; go_simp) rfl rfl kd ?_
                  simp only [Act.put, List.setIfInBounds_toArray, List.set_cons_zero, List.set_cons_succ]
                  refine take_val 6 _ _ (.float .f32 (fsub q (fmul (shr k) q))) rfl (by rfl) (by kernel_rfl) (by kernel_rfl) (by kernel_rfl) (fun w => by rfl) rfl rfl kd ?_
                  simp only [Act.put, List.setIfInBounds_toArray, List.set_cons_zero, List.set_cons_succ]
                  refine take_val 7 _ _ (.bool false) rfl (by rfl) (by kernel_rfl) (by kernel_rfl) (by kernel_rfl) (fun w => run_binop_val _ _ _ _ (by rfl) (by rfl) (by simp [eqGuard]) (run_neq_w _ fe w)) rfl rfl kd ?_
                  simp only [Act.put, List.setIfInBounds_toArray, List.set_cons_zero, List.set_cons_succ]
                  refine take_val 8 _ _ (.bool false) rfl (by rfl) (by kernel_rfl) (by kernel_rfl) (by kernel_rfl) (fun w => by rfl) rfl rfl kd ?_
                  simp only [Act.put, List.setIfInBounds_toArray, List.set_cons_zero, List.set_cons_succ]
                  refine take_val 9 _ _ (.int .i64 (k : Int)) rfl (by rfl) (by kernel_rfl) (by kernel_rfl) (by kernel_rfl) (fun w => by rfl) rfl rfl kd ?_
                  simp only [Act.put, List.setIfInBounds_toArray, List.set_cons_zero, List.set_cons_succ]
                  refine take_val 10 _ _ (.bool false) rfl (by rfl) (by kernel_rfl) (by kernel_rfl) (by kernel_rfl) (fun w => run_binop_val _ _ _ _ (by rfl) (by rfl) (by simp [eqGuard]) (run_gtr_i _ false hk4 w)) rfl rfl kd ?_
                  simp only [Act.put, List.setIfInBounds_toArray, List.set_cons_zero, List.set_cons_succ]
                  refine take_val 11 _ _ (.bool false) rfl (by rfl) (by kernel_rfl) (by kernel_rfl) (by kernel_rfl) (fun w => by rfl) rfl rfl kd ?_
                  simp only [Act.put, List.setIfInBounds_toArray, List.set_cons_zero, List.set_cons_succ]
                  refine take_skip 12 _ _ rfl (by kernel_rfl) (by kernel_rfl) (by kernel_rfl) (by kernel_rfl) rfl rfl kd ?_
                  simp only [Act.put, List.setIfInBounds_toArray, List.set_cons_zero, List.set_cons_succ]
                  refine take_skip 13 _ _ rfl (by kernel_rfl) (by kernel_rfl) (by kernel_rfl) (by kernel_rfl) rfl rfl kd ?_
                  simp only [Act.put, List.setIfInBounds_toArray, List.set_cons_zero, List.set_cons_succ]
                  refine take_skip 14 _ _ rfl (by kernel_rfl) (by kernel_rfl) (by kernel_rfl) (by kernel_rfl) rfl rfl kd ?_
                  simp only [Act.put, List.setIfInBounds_toArray, List.set_cons_zero, List.set_cons_succ]
                  refine take_skip 15 _ _ rfl (by kernel_rfl) (by kernel_rfl) (by kernel_rfl) (by kernel_rfl) rfl rfl kd ?_
                  simp only [Act.put, List.setIfInBounds_toArray, List.set_cons_zero, List.set_cons_succ]
                  refine take_skip 16 _ _ rfl (by kernel_rfl) (by kernel_rfl) (by kernel_rfl) (by kernel_rfl) rfl rfl kd ?_
                  simp only [Act.put, List.setIfInBounds_toArray, List.set_cons_zero, List.set_cons_succ]
                  refine take_skip 17 _ _ rfl (by kernel_rfl) (by kernel_rfl) (by kernel_rfl) (by kernel_rfl) rfl rfl kd ?_
                  simp only [Act.put, List.setIfInBounds_toArray, List.set_cons_zero, List.set_cons_succ]
                  refine take_skip 18 _ _ rfl (by kernel_rfl) (by kernel_rfl) (by kernel_rfl) (by kernel_rfl) rfl rfl kd ?_
                  simp only [Act.put, List.setIfInBounds_toArray, List.set_cons_zero, List.set_cons_succ]
                  refine take_skip 19 _ _ rfl (by kernel_rfl) (by kernel_rfl) (by kernel_rfl) (by kernel_rfl) rfl rfl kd ?_
                  simp only [Act.put, List.setIfInBounds_toArray, List.set_cons_zero, List.set_cons_succ]
                  refine take_val 20 _ _ (.bool false) rfl (by rfl) (by kernel_rfl) (by kernel_rfl) (by kernel_rfl) (fun w => by rfl) rfl rfl kd ?_
                  simp only [Act.put, List.setIfInBounds_toArray, List.set_cons_zero, List.set_cons_succ]
                  refine take_val 21 _ _ (.bool false) rfl (by rfl) (by kernel_rfl) (by kernel_rfl) (by kernel_rfl) (fun w => by rfl) rfl rfl kd ?_
                  simp only [Act.put, List.setIfInBounds_toArray, List.set_cons_zero, List.set_cons_succ]
                  refine wpAnyH_done (by kernel_rfl) ?_ _
                  exact ⟨rfl, rfl, kd⟩
                rintro a1 wz ⟨rfl, g2⟩
                clear g1
                replace g2 := hid g2
                simp only [Act.put, List.setIfInBounds_toArray, List.set_cons_zero, List.set_cons_succ]
                clear EV AV fe
                go_wp2_with fail
                go_roundw
                case rel => exact ⟨k + 1, HK.out, by go_num, g2⟩
                case measure => have := HK.out; simp [intOf]; omega
              · obtain ⟨m', hm'⟩ : ∃ m', k = m' + 1 := ⟨k - 1, (Nat.succ_pred_eq_of_pos hz).symm⟩
                obtain ⟨hk4, hkm, hm3, hm20, fl⟩ := k_up hm' HK.out
                have HM20 := hid hm20
                clear hm' hz hm20
                refine region_act (w0 := w) (lk := [(wd.heap.size, vls 178 (clw (setW (oneC (fiW (a : Int)) (fiW (b : Int)) p q)) 0), 66), (w7.heap.size, vls 178 (clw (oneC (fiW (a : Int)) (fiW (b : Int)) p q) 0), 66), (w2.heap.size, fls shr, 41)]) (fun a0 a1 wq => a1 = ((((((((((((((((((((((a0.put (some 101) (.int .i64 (i : Int))).put (some 102) (.int .i64 (k : Int))).put (some 103) (.pointer (some ⟨wd.heap.size, 0, none⟩))).put (some 104) (.pointer (some ⟨wd.heap.size, i * 20, none⟩))).put (some 105) (.pointer (some ⟨wd.heap.size, i * 20 + k, none⟩))).put (some 106) (.float .f32 (fsub q (fmul (shr k) q)))).put (some 107) (.float .f32 (fsub q (fmul (shr k) q)))).put (some 108) (.bool false)).put (some 109) (.bool false)).put (some 110) (.int .i64 (k : Int))).put (some 111) (.bool true)).put (some 112) (.bool true)).put (some 113) (.int .i64 (k : Int))).put (some 114) (.pointer (some ⟨w2.heap.size, k, none⟩))).put (some 115) (.float .f32 (shr k))).put (some 116) (.int .i64 (k : Int))).put (some 117) ((.int .i64 (m' : Int)))).put (some 118) ((.pointer (some ⟨w2.heap.size, m', none⟩)))).put (some 119) ((.float .f32 (shr m')))).put (some 120) (.bool false)).put (some 121) (.bool false)).put (some 122) (.bool false)) ∧ Kept w [(wd.heap.size, vls 178 (clw (setW (oneC (fiW (a : Int)) (fiW (b : Int)) p q)) 0), 66), (w7.heap.size, vls 178 (clw (oneC (fiW (a : Int)) (fiW (b : Int)) p q) 0), 66), (w2.heap.size, fls shr, 41)] wq) 22 #[false, false, false, false, false, false, false, false, false, false, false, false, false, false, false, false, false, false, false, false, false, false] (by kernel_rfl) rfl rfl ?_ ?_
                · have kd := g1.out.drew
                  clear g1
                  generalize World.drew _ = wz at kd ⊢
                  refine take_val 0 _ _ (.int .i64 (i : Int)) rfl (by rfl) (by kernel_rfl) (by kernel_rfl) (by kernel_rfl) (fun w => by rfl) rfl rfl kd ?_
                  simp only [Act.put, List.setIfInBounds_toArray, List.set_cons_zero, List.set_cons_succ]
                  refine take_val 1 _ _ (.int .i64 (k : Int)) rfl (by rfl) (by kernel_rfl) (by kernel_rfl) (by kernel_rfl) (fun w => by rfl) rfl rfl kd ?_
                  simp only [Act.put, List.setIfInBounds_toArray, List.set_cons_zero, List.set_cons_succ]
                  refine take_val 2 _ _ (.pointer (some ⟨wd.heap.size, 0, none⟩)) rfl (by rfl) (by kernel_rfl) (by kernel_rfl) (by kernel_rfl) (fun w => by unfold execOp; go_simp) rfl rfl kd ?_
                  simp only [Act.put, List.setIfInBounds_toArray, List.set_cons_zero, List.set_cons_succ]
                  refine take_val 3 _ _ (.pointer (some ⟨wd.heap.size, i * 20, none⟩)) rfl (by rfl) (by kernel_rfl) (by kernel_rfl) (by kernel_rfl) (fun w => by unfold execOp; go_simp) rfl rfl kd ?_
                  simp only [Act.put, List.setIfInBounds_toArray, List.set_cons_zero, List.set_cons_succ]
                  refine take_val 4 _ _ (.pointer (some ⟨wd.heap.size, i * 20 + k, none⟩)) rfl (by rfl) (by kernel_rfl) (by kernel_rfl) (by kernel_rfl) (fun w => by unfold execOp; go_simp) rfl rfl kd ?_
                  simp only [Act.put, List.setIfInBounds_toArray, List.set_cons_zero, List.set_cons_succ]
                  refine take_cell 5 _ _ (.float .f32 (fsub q (fmul (shr k) q))) rfl (by rfl) (by kernel_rfl) (by kernel_rfl) (by kernel_rfl) (fun wq hS => by have hcell : wq.cell? ⟨wd.heap.size, i * 20 + k, none⟩ = some (.float .f32 (fsub q (fmul (shr k) q))) := (by rw [← EV]; exact (hS.v in0).cf (pos177 HI.out HK.out)); clear hS; unfold execOp; go_simp) rfl rfl kd ?_
                  simp only [Act.put, List.setIfInBounds_toArray, List.set_cons_zero, List.set_cons_succ]
                  refine take_val 6 _ _ (.float .f32 (fsub q (fmul (shr k) q))) rfl (by rfl) (by kernel_rfl) (by kernel_rfl) (by kernel_rfl) (fun w => by rfl) rfl rfl kd ?_
                  simp only [Act.put, List.setIfInBounds_toArray, List.set_cons_zero, List.set_cons_succ]
                  refine take_val 7 _ _ (.bool false) rfl (by rfl) (by kernel_rfl) (by kernel_rfl) (by kernel_rfl) (fun w => run_binop_val _ _ _ _ (by rfl) (by rfl) (by simp [eqGuard]) (run_neq_w _ fe w)) rfl rfl kd ?_
                  simp only [Act.put, List.setIfInBounds_toArray, List.set_cons_zero, List.set_cons_succ]
                  refine take_val 8 _ _ (.bool false) rfl (by rfl) (by kernel_rfl) (by kernel_rfl) (by kernel_rfl) (fun w => by rfl) rfl rfl kd ?_
                  simp only [Act.put, List.setIfInBounds_toArray, List.set_cons_zero, List.set_cons_succ]
                  refine take_val 9 _ _ (.int .i64 (k : Int)) rfl (by rfl) (by kernel_rfl) (by kernel_rfl) (by kernel_rfl) (fun w => by rfl) rfl rfl kd ?_
                  simp only [Act.put, List.setIfInBounds_toArray, List.set_cons_zero, List.set_cons_succ]
                  refine take_val 10 _ _ (.bool true) rfl (by rfl) (by kernel_rfl) (by kernel_rfl) (by kernel_rfl) (fun w => run_binop_val _ _ _ _ (by rfl) (by rfl) (by simp [eqGuard]) (run_gtr_i _ true hk4 w)) rfl rfl kd ?_
                  simp only [Act.put, List.setIfInBounds_toArray, List.set_cons_zero, List.set_cons_succ]
                  refine take_val 11 _ _ (.bool true) rfl (by rfl) (by kernel_rfl) (by kernel_rfl) (by kernel_rfl) (fun w => by rfl) rfl rfl kd ?_
                  simp only [Act.put, List.setIfInBounds_toArray, List.set_cons_zero, List.set_cons_succ]
                  refine take_val 12 _ _ (.int .i64 (k : Int)) rfl (by rfl) (by kernel_rfl) (by kernel_rfl) (by kernel_rfl) (fun w => by rfl) rfl rfl kd ?_
                  simp only [Act.put, List.setIfInBounds_toArray, List.set_cons_zero, List.set_cons_succ]
                  refine take_val 13 _ _ (.pointer (some ⟨w2.heap.size, k, none⟩)) rfl (by rfl) (by kernel_rfl) (by kernel_rfl) (by kernel_rfl) (fun w => by unfold execOp; go_simp) rfl rfl kd ?_
                  simp only [Act.put, List.setIfInBounds_toArray, List.set_cons_zero, List.set_cons_succ]
                  refine take_cell 14 _ _ (.float .f32 (shr k)) rfl (by rfl) (by kernel_rfl) (by kernel_rfl) (by kernel_rfl) (fun wq hS => by have hcell : wq.cell? ⟨w2.heap.size, k, none⟩ = some (.float .f32 (shr k)) := (show vAt wq w2.heap.size 20 (flw shr) 41 from hS.at (x := (w2.heap.size, fls shr, 41)) in2).cell HK.out; clear hS; unfold execOp; go_simp) rfl rfl kd ?_
                  simp only [Act.put, List.setIfInBounds_toArray, List.set_cons_zero, List.set_cons_succ]
                  refine take_val 15 _ _ (.int .i64 (k : Int)) rfl (by rfl) (by kernel_rfl) (by kernel_rfl) (by kernel_rfl) (fun w => by rfl) rfl rfl kd ?_
                  simp only [Act.put, List.setIfInBounds_toArray, List.set_cons_zero, List.set_cons_succ]
                  refine take_val 16 _ _ ((.int .i64 (m' : Int))) rfl (by rfl) (by kernel_rfl) (by kernel_rfl) (by kernel_rfl) (fun w => run_binop_val _ _ _ _ (by rfl) (by rfl) (by simp [eqGuard]) (run_sub1_i _ hkm w)) rfl rfl kd ?_
                  simp only [Act.put, List.setIfInBounds_toArray, List.set_cons_zero, List.set_cons_succ]
                  refine take_val 17 _ _ ((.pointer (some ⟨w2.heap.size, m', none⟩))) rfl (by rfl) (by kernel_rfl) (by kernel_rfl) (by kernel_rfl) (fun w => by unfold execOp; go_simp) rfl rfl kd ?_
                  simp only [Act.put, List.setIfInBounds_toArray, List.set_cons_zero, List.set_cons_succ]
                  refine take_cell 18 _ _ ((.float .f32 (shr m'))) rfl (by rfl) (by kernel_rfl) (by kernel_rfl) (by kernel_rfl) (fun wq hS => by have hcell : wq.cell? ⟨w2.heap.size, m', none⟩ = some (.float .f32 (shr m')) := (show vAt wq w2.heap.size 20 (flw shr) 41 from hS.at (x := (w2.heap.size, fls shr, 41)) in2).cell HM20.out; clear hS; unfold execOp; go_simp) rfl rfl kd ?_
                  simp only [Act.put, List.setIfInBounds_toArray, List.set_cons_zero, List.set_cons_succ]
                  refine take_val 19 _ _ (.bool false) rfl (by rfl) (by kernel_rfl) (by kernel_rfl) (by kernel_rfl) (fun w => run_binop_val _ _ _ _ (by rfl) (by rfl) (by simp [eqGuard]) (run_lss_w _ fl w)) rfl rfl kd ?_
                  simp only [Act.put, List.setIfInBounds_toArray, List.set_cons_zero, List.set_cons_succ]
                  refine take_val 20 _ _ (.bool false) rfl (by rfl) (by kernel_rfl) (by kernel_rfl) (by kernel_rfl) (fun w => by rfl) rfl rfl kd ?_
                  simp only [Act.put, List.setIfInBounds_toArray, List.set_cons_zero, List.set_cons_succ]
                  refine take_val 21 _ _ (.bool false) rfl (by rfl) (by kernel_rfl) (by kernel_rfl) (by kernel_rfl) (fun w => by rfl) rfl rfl kd ?_
                  simp only [Act.put, List.setIfInBounds_toArray, List.set_cons_zero, List.set_cons_succ]
                  refine wpAnyH_done (by kernel_rfl) ?_ _
                  exact ⟨rfl, rfl, kd⟩
                rintro a1 wz ⟨rfl, g2⟩
                clear g1
                replace g2 := hid g2
                simp only [Act.put, List.setIfInBounds_toArray, List.set_cons_zero, List.set_cons_succ]
                clear EV AV fe
                go_wp2_with fail
                go_roundw
                case rel => exact ⟨k + 1, HK.out, by go_num, g2⟩
                case measure => have := HK.out; simp [intOf]; omega
            · have d2 := r_ne e2
              by_cases e3 : i + 1 = r
              · have EV := E0
                rw [if_neg (not_and2 e2), if_pos ⟨rfl, e3⟩] at EV
                have AV := HF.out.f1
                have hwr := r_prev2 e3
                have hwi := wr64 (lt1000 HI.out (by decide))
                have hwj := wrK64 (lt1000 HI.out (by decide))
                clear E0 e2 e3
                have fe : (FloatKind.f32.format.order (fmul (shr k) q) (fmul (shr k) q) == some .eq) = true := same_eq AV
                go_wp2_with (first | (have _t := tokS; refine load_one (by rfl) 40 _ (by rfl) (w2.heap.size) k (by rfl) (show vAt wr w2.heap.size 20 (flw shr) 41 from g1.out.at (x := (w2.heap.size, fls shr, 41)) in2) (by have := HJ.out; omega) (.float .f32 (shr k)) rfl _ Try.underlying40 (by rfl) ?_))
                rcases Nat.eq_zero_or_pos k with hz | hz
                · have hk4 := k_zero hz
                  clear hz
                  refine region_act (w0 := w) (lk := [(wd.heap.size, vls 178 (clw (setW (oneC (fiW (a : Int)) (fiW (b : Int)) p q)) 0), 66), (w7.heap.size, vls 178 (clw (oneC (fiW (a : Int)) (fiW (b : Int)) p q) 0), 66), (w2.heap.size, fls shr, 41)]) (fun a0 a1 wq => a1 = ((((((((((((((((((((((a0.put (some 101) (.int .i64 (i : Int))).put (some 102) (.int .i64 (k : Int))).put (some 103) (.pointer (some ⟨wd.heap.size, 0, none⟩))).put (some 104) (.pointer (some ⟨wd.heap.size, i * 20, none⟩))).put (some 105) (.pointer (some ⟨wd.heap.size, i * 20 + k, none⟩))).put (some 106) (.float .f32 (fmul (shr k) q))).put (some 107) (.float .f32 (fmul (shr k) q))).put (some 108) (.bool false)).put (some 109) (.bool false)).put (some 110) (.int .i64 (k : Int))).put (some 111) (.bool false)).put (some 112) (.bool false)).put (some 113) (undef)).put (some 114) (undef)).put (some 115) (undef)).put (some 116) (undef)).put (some 117) (undef)).put (some 118) (undef)).put (some 119) (undef)).put (some 120) (undef)).put (some 121) (.bool false)).put (some 122) (.bool false)) ∧ Kept w [(wd.heap.size, vls 178 (clw (setW (oneC (fiW (a : Int)) (fiW (b : Int)) p q)) 0), 66), (w7.heap.size, vls 178 (clw (oneC (fiW (a : Int)) (fiW (b : Int)) p q) 0), 66), (w2.heap.size, fls shr, 41)] wq) 22 #[false, false, false, false, false, false, false, false, false, false, false, false, false, false, false, false, false, false, false, false, false, false] (by kernel_rfl) rfl rfl ?_ ?_
                  · have kd := g1.out.drew
                    clear g1
                    generalize World.drew _ = wz at kd ⊢
                    refine take_val 0 _ _ (.int .i64 (i : Int)) rfl (by rfl) (by kernel_rfl) (by kernel_rfl) (by kernel_rfl) (fun w => by rfl) rfl rfl kd ?_
                    simp only [Act.put, List.setIfInBounds_toArray, List.set_cons_zero, List.set_cons_succ]
                    refine take_val 1 _ _ (.int .i64 (k : Int)) rfl (by rfl) (by kernel_rfl) (by kernel_rfl) (by kernel_rfl) (fun w => by rfl) rfl rfl kd ?_
                    simp only [Act.put, List.setIfInBounds_toArray, List.set_cons_zero, List.set_cons_succ]
                    refine take_val 2 _ _ (.pointer (some ⟨wd.heap.size, 0, none⟩)) rfl (by rfl) (by kernel_rfl) (by kernel_rfl) (by kernel_rfl) (fun w => by unfold execOp; go_simp) rfl rfl kd ?_
                    simp only [Act.put, List.setIfInBounds_toArray, List.set_cons_zero, List.set_cons_succ]
                    refine take_val 3 _ _ (.pointer (some ⟨wd.heap.size, i * 20, none⟩)) rfl (by rfl) (by kernel_rfl) (by kernel_rfl) (by kernel_rfl) (fun w => by unfold execOp; go_simp) rfl rfl kd ?_
                    simp only [Act.put, List.setIfInBounds_toArray, List.set_cons_zero, List.set_cons_succ]
                    refine take_val 4 _ _ (.pointer (some ⟨wd.heap.size, i * 20 + k, none⟩)) rfl (by rfl) (by kernel_rfl) (by kernel_rfl) (by kernel_rfl) (fun w => by unfold execOp; go_simp) rfl rfl kd ?_
                    simp only [Act.put, List.setIfInBounds_toArray, List.set_cons_zero, List.set_cons_succ]
                    refine take_cell 5 _ _ (.float .f32 (fmul (shr k) q)) rfl (by rfl) (by kernel_rfl) (by kernel_rfl) (by kernel_rfl) (fun wq hS => by have hcell : wq.cell? ⟨wd.heap.size, i * 20 + k, none⟩ = some (.float .f32 (fmul (shr k) q)) := (by rw [← EV]; exact (hS.v in0).cf (pos177 HI.out HK.out)); clear hS; unfold execOp; go_simp) rfl rfl kd ?_
                    simp only [Act.put, List.setIfInBounds_toArray, List.set_cons_zero, List.set_cons_succ]
                    refine take_val 6 _ _ (.float .f32 (fmul (shr k) q)) rfl (by rfl) (by kernel_rfl) (by kernel_rfl) (by kernel_rfl) (fun w => by rfl) rfl rfl kd ?_
                    simp only [Act.put, List.setIfInBounds_toArray, List.set_cons_zero, List.set_cons_succ]
                    refine take_val 7 _ _ (.bool false) rfl (by rfl) (by kernel_rfl) (by kernel_rfl) (by kernel_rfl) (fun w => run_binop_val _ _ _ _ (by rfl) (by rfl) (by simp [eqGuard]) (run_neq_w _ fe w)) rfl rfl kd ?_
                    simp only [Act.put, List.setIfInBounds_toArray, List.set_cons_zero, List.set_cons_succ]
                    refine take_val 8 _ _ (.bool false) rfl (by rfl) (by kernel_rfl) (by kernel_rfl) (by kernel_rfl) (fun w => by rfl) rfl rfl kd ?_
                    simp only [Act.put, List.setIfInBounds_toArray, List.set_cons_zero, List.set_cons_succ]
                    refine take_val 9 _ _ (.int .i64 (k : Int)) rfl (by rfl) (by kernel_rfl) (by kernel_rfl) (by kernel_rfl) (fun w => by rfl) rfl rfl kd ?_
                    simp only [Act.put, List.setIfInBounds_toArray, List.set_cons_zero, List.set_cons_succ]
                    refine take_val 10 _ _ (.bool false) rfl (by rfl) (by kernel_rfl) (by kernel_rfl) (by kernel_rfl) (fun w => run_binop_val _ _ _ _ (by rfl) (by rfl) (by simp [eqGuard]) (run_gtr_i _ false hk4 w)) rfl rfl kd ?_
                    simp only [Act.put, List.setIfInBounds_toArray, List.set_cons_zero, List.set_cons_succ]
                    refine take_val 11 _ _ (.bool false) rfl (by rfl) (by kernel_rfl) (by kernel_rfl) (by kernel_rfl) (fun w => by rfl) rfl rfl kd ?_
                    simp only [Act.put, List.setIfInBounds_toArray, List.set_cons_zero, List.set_cons_succ]
                    refine take_skip 12 _ _ rfl (by kernel_rfl) (by kernel_rfl) (by kernel_rfl) (by kernel_rfl) rfl rfl kd ?_
                    simp only [Act.put, List.setIfInBounds_toArray, List.set_cons_zero, List.set_cons_succ]
                    refine take_skip 13 _ _ rfl (by kernel_rfl) (by kernel_rfl) (by kernel_rfl) (by kernel_rfl) rfl rfl kd ?_
                    simp only [Act.put, List.setIfInBounds_toArray, List.set_cons_zero, List.set_cons_succ]
                    refine take_skip 14 _ _ rfl (by kernel_rfl) (by kernel_rfl) (by kernel_rfl) (by kernel_rfl) rfl rfl kd ?_
                    simp only [Act.put, List.setIfInBounds_toArray, List.set_cons_zero, List.set_cons_succ]
                    refine take_skip 15 _ _ rfl (by kernel_rfl) (by kernel_rfl) (by kernel_rfl) (by kernel_rfl) rfl rfl kd ?_
                    simp only [Act.put, List.setIfInBounds_toArray, List.set_cons_zero, List.set_cons_succ]
                    refine take_skip 16 _ _ rfl (by kernel_rfl) (by kernel_rfl) (by kernel_rfl) (by kernel_rfl) rfl rfl kd ?_
                    simp only [Act.put, List.setIfInBounds_toArray, List.set_cons_zero, List.set_cons_succ]
                    refine take_skip 17 _ _ rfl (by kernel_rfl) (by kernel_rfl) (by kernel_rfl) (by kernel_rfl) rfl rfl kd ?_
                    simp only [Act.put, List.setIfInBounds_toArray, List.set_cons_zero, List.set_cons_succ]
                    refine take_skip 18 _ _ rfl (by kernel_rfl) (by kernel_rfl) (by kernel_rfl) (by kernel_rfl) rfl rfl kd ?_
                    simp only [Act.put, List.setIfInBounds_toArray, List.set_cons_zero, List.set_cons_succ]
                    refine take_skip 19 _ _ rfl (by kernel_rfl) (by kernel_rfl) (by kernel_rfl) (by kernel_rfl) rfl rfl kd ?_
                    simp only [Act.put, List.setIfInBounds_toArray, List.set_cons_zero, List.set_cons_succ]
                    refine take_val 20 _ _ (.bool false) rfl (by rfl) (by kernel_rfl) (by kernel_rfl) (by kernel_rfl) (fun w => by rfl) rfl rfl kd ?_
                    simp only [Act.put, List.setIfInBounds_toArray, List.set_cons_zero, List.set_cons_succ]
                    refine take_val 21 _ _ (.bool false) rfl (by rfl) (by kernel_rfl) (by kernel_rfl) (by kernel_rfl) (fun w => by rfl) rfl rfl kd ?_
                    simp only [Act.put, List.setIfInBounds_toArray, List.set_cons_zero, List.set_cons_succ]
                    refine wpAnyH_done (by kernel_rfl) ?_ _
                    exact ⟨rfl, rfl, kd⟩
                  rintro a1 wz ⟨rfl, g2⟩
                  clear g1
                  replace g2 := hid g2
                  simp only [Act.put, List.setIfInBounds_toArray, List.set_cons_zero, List.set_cons_succ]
                  clear EV AV fe
                  go_wp2_with fail
                  go_roundw
                  case rel => exact ⟨k + 1, HK.out, by go_num, g2⟩
                  case measure => have := HK.out; simp [intOf]; omega
                · obtain ⟨m', hm'⟩ : ∃ m', k = m' + 1 := ⟨k - 1, (Nat.succ_pred_eq_of_pos hz).symm⟩
                  obtain ⟨hk4, hkm, hm3, hm20, fl⟩ := k_up hm' HK.out
                  have HM20 := hid hm20
                  clear hm' hz hm20
                  refine region_act (w0 := w) (lk := [(wd.heap.size, vls 178 (clw (setW (oneC (fiW (a : Int)) (fiW (b : Int)) p q)) 0), 66), (w7.heap.size, vls 178 (clw (oneC (fiW (a : Int)) (fiW (b : Int)) p q) 0), 66), (w2.heap.size, fls shr, 41)]) (fun a0 a1 wq => a1 = ((((((((((((((((((((((a0.put (some 101) (.int .i64 (i : Int))).put (some 102) (.int .i64 (k : Int))).put (some 103) (.pointer (some ⟨wd.heap.size, 0, none⟩))).put (some 104) (.pointer (some ⟨wd.heap.size, i * 20, none⟩))).put (some 105) (.pointer (some ⟨wd.heap.size, i * 20 + k, none⟩))).put (some 106) (.float .f32 (fmul (shr k) q))).put (some 107) (.float .f32 (fmul (shr k) q))).put (some 108) (.bool false)).put (some 109) (.bool false)).put (some 110) (.int .i64 (k : Int))).put (some 111) (.bool true)).put (some 112) (.bool true)).put (some 113) (.int .i64 (k : Int))).put (some 114) (.pointer (some ⟨w2.heap.size, k, none⟩))).put (some 115) (.float .f32 (shr k))).put (some 116) (.int .i64 (k : Int))).put (some 117) ((.int .i64 (m' : Int)))).put (some 118) ((.pointer (some ⟨w2.heap.size, m', none⟩)))).put (some 119) ((.float .f32 (shr m')))).put (some 120) (.bool false)).put (some 121) (.bool false)).put (some 122) (.bool false)) ∧ Kept w [(wd.heap.size, vls 178 (clw (setW (oneC (fiW (a : Int)) (fiW (b : Int)) p q)) 0), 66), (w7.heap.size, vls 178 (clw (oneC (fiW (a : Int)) (fiW (b : Int)) p q) 0), 66), (w2.heap.size, fls shr, 41)] wq) 22 #[false, false, false, false, false, false, false, false, false, false, false, false, false, false, false, false, false, false, false, false, false, false] (by kernel_rfl) rfl rfl ?_ ?_
                  · have kd := g1.out.drew
                    clear g1
                    generalize World.drew _ = wz at kd ⊢
                    refine take_val 0 _ _ (.int .i64 (i : Int)) rfl (by rfl) (by kernel_rfl) (by kernel_rfl) (by kernel_rfl) (fun w => by rfl) rfl rfl kd ?_
                    simp only [Act.put, List.setIfInBounds_toArray, List.set_cons_zero, List.set_cons_succ]
                    refine take_val 1 _ _ (.int .i64 (k : Int)) rfl (by rfl) (by kernel_rfl) (by kernel_rfl) (by kernel_rfl) (fun w => by rfl) rfl rfl kd ?_
                    simp only [Act.put, List.setIfInBounds_toArray, List.set_cons_zero, List.set_cons_succ]
                    refine take_val 2 _ _ (.pointer (some ⟨wd.heap.size, 0, none⟩)) rfl (by rfl) (by kernel_rfl) (by kernel_rfl) (by kernel_rfl) (fun w => by unfold execOp; go_simp) rfl rfl kd ?_
                    simp only [Act.put, List.setIfInBounds_toArray, List.set_cons_zero, List.set_cons_succ]
                    refine take_val 3 _ _ (.pointer (some ⟨wd.heap.size, i * 20, none⟩)) rfl (by rfl) (by kernel_rfl) (by kernel_rfl) (by kernel_rfl) (fun w => by unfold execOp; go_simp) rfl rfl kd ?_
                    simp only [Act.put, List.setIfInBounds_toArray, List.set_cons_zero, List.set_cons_succ]
                    refine take_val 4 _ _ (.pointer (some ⟨wd.heap.size, i * 20 + k, none⟩)) rfl (by rfl) (by kernel_rfl) (by kernel_rfl) (by kernel_rfl) (fun w => by unfold execOp; go_simp) rfl rfl kd ?_
                    simp only [Act.put, List.setIfInBounds_toArray, List.set_cons_zero, List.set_cons_succ]
                    refine take_cell 5 _ _ (.float .f32 (fmul (shr k) q)) rfl (by rfl) (by kernel_rfl) (by kernel_rfl) (by kernel_rfl) (fun wq hS => by have hcell : wq.cell? ⟨wd.heap.size, i * 20 + k, none⟩ = some (.float .f32 (fmul (shr k) q)) := (by rw [← EV]; exact (hS.v in0).cf (pos177 HI.out HK.out)); clear hS; unfold execOp; go_simp) rfl rfl kd ?_
                    simp only [Act.put, List.setIfInBounds_toArray, List.set_cons_zero, List.set_cons_succ]
                    refine take_val 6 _ _ (.float .f32 (fmul (shr k) q)) rfl (by rfl) (by kernel_rfl) (by kernel_rfl) (by kernel_rfl) (fun w => by rfl) rfl rfl kd ?_
                    simp only [Act.put, List.setIfInBounds_toArray, List.set_cons_zero, List.set_cons_succ]
                    refine take_val 7 _ _ (.bool false) rfl (by rfl) (by kernel_rfl) (by kernel_rfl) (by kernel_rfl) (fun w => run_binop_val _ _ _ _ (by rfl) (by rfl) (by simp [eqGuard]) (run_neq_w _ fe w)) rfl rfl kd ?_
                    simp only [Act.put, List.setIfInBounds_toArray, List.set_cons_zero, List.set_cons_succ]
                    refine take_val 8 _ _ (.bool false) rfl (by rfl) (by kernel_rfl) (by kernel_rfl) (by kernel_rfl) (fun w => by rfl) rfl rfl kd ?_
                    simp only [Act.put, List.setIfInBounds_toArray, List.set_cons_zero, List.set_cons_succ]
                    refine take_val 9 _ _ (.int .i64 (k : Int)) rfl (by rfl) (by kernel_rfl) (by kernel_rfl) (by kernel_rfl) (fun w => by rfl) rfl rfl kd ?_
                    simp only [Act.put, List.setIfInBounds_toArray, List.set_cons_zero, List.set_cons_succ]
                    refine take_val 10 _ _ (.bool true) rfl (by rfl) (by kernel_rfl) (by kernel_rfl) (by kernel_rfl) (fun w => run_binop_val _ _ _ _ (by rfl) (by rfl) (by simp [eqGuard]) (run_gtr_i _ true hk4 w)) rfl rfl kd ?_
                    simp only [Act.put, List.setIfInBounds_toArray, List.set_cons_zero, List.set_cons_succ]
                    refine take_val 11 _ _ (.bool true) rfl (by rfl) (by kernel_rfl) (by kernel_rfl) (by kernel_rfl) (fun w => by rfl) rfl rfl kd ?_
                    simp only [Act.put, List.setIfInBounds_toArray, List.set_cons_zero, List.set_cons_succ]
                    refine take_val 12 _ _ (.int .i64 (k : Int)) rfl (by rfl) (by kernel_rfl) (by kernel_rfl) (by kernel_rfl) (fun w => by rfl) rfl rfl kd ?_
                    simp only [Act.put, List.setIfInBounds_toArray, List.set_cons_zero, List.set_cons_succ]
                    refine take_val 13 _ _ (.pointer (some ⟨w2.heap.size, k, none⟩)) rfl (by rfl) (by kernel_rfl) (by kernel_rfl) (by kernel_rfl) (fun w => by unfold execOp; go_simp) rfl rfl kd ?_
                    simp only [Act.put, List.setIfInBounds_toArray, List.set_cons_zero, List.set_cons_succ]
                    refine take_cell 14 _ _ (.float .f32 (shr k)) rfl (by rfl) (by kernel_rfl) (by kernel_rfl) (by kernel_rfl) (fun wq hS => by have hcell : wq.cell? ⟨w2.heap.size, k, none⟩ = some (.float .f32 (shr k)) := (show vAt wq w2.heap.size 20 (flw shr) 41 from hS.at (x := (w2.heap.size, fls shr, 41)) in2).cell HK.out; clear hS; unfold execOp; go_simp) rfl rfl kd ?_
                    simp only [Act.put, List.setIfInBounds_toArray, List.set_cons_zero, List.set_cons_succ]
                    refine take_val 15 _ _ (.int .i64 (k : Int)) rfl (by rfl) (by kernel_rfl) (by kernel_rfl) (by kernel_rfl) (fun w => by rfl) rfl rfl kd ?_
                    simp only [Act.put, List.setIfInBounds_toArray, List.set_cons_zero, List.set_cons_succ]
                    refine take_val 16 _ _ ((.int .i64 (m' : Int))) rfl (by rfl) (by kernel_rfl) (by kernel_rfl) (by kernel_rfl) (fun w => run_binop_val _ _ _ _ (by rfl) (by rfl) (by simp [eqGuard]) (run_sub1_i _ hkm w)) rfl rfl kd ?_
                    simp only [Act.put, List.setIfInBounds_toArray, List.set_cons_zero, List.set_cons_succ]
                    refine take_val 17 _ _ ((.pointer (some ⟨w2.heap.size, m', none⟩))) rfl (by rfl) (by kernel_rfl) (by kernel_rfl) (by kernel_rfl) (fun w => by unfold execOp; go_simp) rfl rfl kd ?_
                    simp only [Act.put, List.setIfInBounds_toArray, List.set_cons_zero, List.set_cons_succ]
                    refine take_cell 18 _ _ ((.float .f32 (shr m'))) rfl (by rfl) (by kernel_rfl) (by kernel_rfl) (by kernel_rfl) (fun wq hS => by have hcell : wq.cell? ⟨w2.heap.size, m', none⟩ = some (.float .f32 (shr m')) := (show vAt wq w2.heap.size 20 (flw shr) 41 from hS.at (x := (w2.heap.size, fls shr, 41)) in2).cell HM20.out; clear hS; unfold execOp; go_simp) rfl rfl kd ?_
                    simp only [Act.put, List.setIfInBounds_toArray, List.set_cons_zero, List.set_cons_succ]
                    refine take_val 19 _ _ (.bool false) rfl (by rfl) (by kernel_rfl) (by kernel_rfl) (by kernel_rfl) (fun w => run_binop_val _ _ _ _ (by rfl) (by rfl) (by simp [eqGuard]) (run_lss_w _ fl w)) rfl rfl kd ?_
                    simp only [Act.put, List.setIfInBounds_toArray, List.set_cons_zero, List.set_cons_succ]
                    refine take_val 20 _ _ (.bool false) rfl (by rfl) (by kernel_rfl) (by kernel_rfl) (by kernel_rfl) (fun w => by rfl) rfl rfl kd ?_
                    simp only [Act.put, List.setIfInBounds_toArray, List.set_cons_zero, List.set_cons_succ]
                    refine take_val 21 _ _ (.bool false) rfl (by rfl) (by kernel_rfl) (by kernel_rfl) (by kernel_rfl) (fun w => by rfl) rfl rfl kd ?_
                    simp only [Act.put, List.setIfInBounds_toArray, List.set_cons_zero, List.set_cons_succ]
                    refine wpAnyH_done (by kernel_rfl) ?_ _
                    exact ⟨rfl, rfl, kd⟩
                  rintro a1 wz ⟨rfl, g2⟩
                  clear g1
                  replace g2 := hid g2
                  simp only [Act.put, List.setIfInBounds_toArray, List.set_cons_zero, List.set_cons_succ]
                  clear EV AV fe
                  go_wp2_with fail
                  go_roundw
                  case rel => exact ⟨k + 1, HK.out, by go_num, g2⟩
                  case measure => have := HK.out; simp [intOf]; omega
              · have EV := E0
                rw [if_neg (not_and2 e2), if_neg (not_and2 e3)] at EV
                have AV := zero_amt
                have hwr := wrP64 (lt1000 HR.out (by decide))
                have d3 := r_not e3
                clear E0 e2 e3
                have fe : (FloatKind.f32.format.order (0) (0) == some .eq) = true := same_eq AV
                go_wp2_with (first | (have _t := tokS; refine load_one (by rfl) 40 _ (by rfl) (w2.heap.size) k (by rfl) (show vAt wr w2.heap.size 20 (flw shr) 41 from g1.out.at (x := (w2.heap.size, fls shr, 41)) in2) (by have := HJ.out; omega) (.float .f32 (shr k)) rfl _ Try.underlying40 (by rfl) ?_))
                rcases Nat.eq_zero_or_pos k with hz | hz
                · have hk4 := k_zero hz
                  clear hz
                  refine region_act (w0 := w) (lk := [(wd.heap.size, vls 178 (clw (setW (oneC (fiW (a : Int)) (fiW (b : Int)) p q)) 0), 66), (w7.heap.size, vls 178 (clw (oneC (fiW (a : Int)) (fiW (b : Int)) p q) 0), 66), (w2.heap.size, fls shr, 41)]) (fun a0 a1 wq => a1 = ((((((((((((((((((((((a0.put (some 101) (.int .i64 (i : Int))).put (some 102) (.int .i64 (k : Int))).put (some 103) (.pointer (some ⟨wd.heap.size, 0, none⟩))).put (some 104) (.pointer (some ⟨wd.heap.size, i * 20, none⟩))).put (some 105) (.pointer (some ⟨wd.heap.size, i * 20 + k, none⟩))).put (some 106) (.float .f32 (0))).put (some 107) (.float .f32 (0))).put (some 108) (.bool false)).put (some 109) (.bool false)).put (some 110) (.int .i64 (k : Int))).put (some 111) (.bool false)).put (some 112) (.bool false)).put (some 113) (undef)).put (some 114) (undef)).put (some 115) (undef)).put (some 116) (undef)).put (some 117) (undef)).put (some 118) (undef)).put (some 119) (undef)).put (some 120) (undef)).put (some 121) (.bool false)).put (some 122) (.bool false)) ∧ Kept w [(wd.heap.size, vls 178 (clw (setW (oneC (fiW (a : Int)) (fiW (b : Int)) p q)) 0), 66), (w7.heap.size, vls 178 (clw (oneC (fiW (a : Int)) (fiW (b : Int)) p q) 0), 66), (w2.heap.size, fls shr, 41)] wq) 22 #[false, false, false, false, false, false, false, false, false, false, false, false, false, false, false, false, false, false, false, false, false, false] (by kernel_rfl) rfl rfl ?_ ?_
                  · have kd := g1.out.drew
                    clear g1
                    generalize World.drew _ = wz at kd ⊢
                    refine take_val 0 _ _ (.int .i64 (i : Int)) rfl (by rfl) (by kernel_rfl) (by kernel_rfl) (by kernel_rfl) (fun w => by rfl) rfl rfl kd ?_
                    simp only [Act.put, List.setIfInBounds_toArray, List.set_cons_zero, List.set_cons_succ]
                    refine take_val 1 _ _ (.int .i64 (k : Int)) rfl (by rfl) (by kernel_rfl) (by kernel_rfl) (by kernel_rfl) (fun w => by rfl) rfl rfl kd ?_
                    simp only [Act.put, List.setIfInBounds_toArray, List.set_cons_zero, List.set_cons_succ]
                    refine take_val 2 _ _ (.pointer (some ⟨wd.heap.size, 0, none⟩)) rfl (by rfl) (by kernel_rfl) (by kernel_rfl) (by kernel_rfl) (fun w => by unfold execOp; go_simp) rfl rfl kd ?_
                    simp only [Act.put, List.setIfInBounds_toArray, List.set_cons_zero, List.set_cons_succ]
                    refine take_val 3 _ _ (.pointer (some ⟨wd.heap.size, i * 20, none⟩)) rfl (by rfl) (by kernel_rfl) (by kernel_rfl) (by kernel_rfl) (fun w => by unfold execOp; go_simp) rfl rfl kd ?_
                    simp only [Act.put, List.setIfInBounds_toArray, List.set_cons_zero, List.set_cons_succ]
                    refine take_val 4 _ _ (.pointer (some ⟨wd.heap.size, i * 20 + k, none⟩)) rfl (by rfl) (by kernel_rfl) (by kernel_rfl) (by kernel_rfl) (fun w => by unfold execOp; go_simp) rfl rfl kd ?_
                    simp only [Act.put, List.setIfInBounds_toArray, List.set_cons_zero, List.set_cons_succ]
                    refine take_cell 5 _ _ (.float .f32 (0)) rfl (by rfl) (by kernel_rfl) (by kernel_rfl) (by kernel_rfl) (fun wq hS => by have hcell : wq.cell? ⟨wd.heap.size, i * 20 + k, none⟩ = some (.float .f32 (0)) := (by rw [← EV]; exact (hS.v in0).cf (pos177 HI.out HK.out)); clear hS; unfold execOp; go_simp) rfl rfl kd ?_
                    simp only [Act.put, List.setIfInBounds_toArray, List.set_cons_zero, List.set_cons_succ]
                    refine take_val 6 _ _ (.float .f32 (0)) rfl (by rfl) (by kernel_rfl) (by kernel_rfl) (by kernel_rfl) (fun w => by rfl) rfl rfl kd ?_
                    simp only [Act.put, List.setIfInBounds_toArray, List.set_cons_zero, List.set_cons_succ]
                    refine take_val 7 _ _ (.bool false) rfl (by rfl) (by kernel_rfl) (by kernel_rfl) (by kernel_rfl) (fun w => run_binop_val _ _ _ _ (by rfl) (by rfl) (by simp [eqGuard]) (run_neq_w _ fe w)) rfl rfl kd ?_
                    simp only [Act.put, List.setIfInBounds_toArray, List.set_cons_zero, List.set_cons_succ]
                    refine take_val 8 _ _ (.bool false) rfl (by rfl) (by kernel_rfl) (by kernel_rfl) (by kernel_rfl) (fun w => by rfl) rfl rfl kd ?_
                    simp only [Act.put, List.setIfInBounds_toArray, List.set_cons_zero, List.set_cons_succ]
                    refine take_val 9 _ _ (.int .i64 (k : Int)) rfl (by rfl) (by kernel_rfl) (by kernel_rfl) (by kernel_rfl) (fun w => by rfl) rfl rfl kd ?_
                    simp only [Act.put, List.setIfInBounds_toArray, List.set_cons_zero, List.set_cons_succ]
                    refine take_val 10 _ _ (.bool false) rfl (by rfl) (by kernel_rfl) (by kernel_rfl) (by kernel_rfl) (fun w => run_binop_val _ _ _ _ (by rfl) (by rfl) (by simp [eqGuard]) (run_gtr_i _ false hk4 w)) rfl rfl kd ?_
                    simp only [Act.put, List.setIfInBounds_toArray, List.set_cons_zero, List.set_cons_succ]
                    refine take_val 11 _ _ (.bool false) rfl (by rfl) (by kernel_rfl) (by kernel_rfl) (by kernel_rfl) (fun w => by rfl) rfl rfl kd ?_
                    simp only [Act.put, List.setIfInBounds_toArray, List.set_cons_zero, List.set_cons_succ]
                    refine take_skip 12 _ _ rfl (by kernel_rfl) (by kernel_rfl) (by kernel_rfl) (by kernel_rfl) rfl rfl kd ?_
                    simp only [Act.put, List.setIfInBounds_toArray, List.set_cons_zero, List.set_cons_succ]
                    refine take_skip 13 _ _ rfl (by kernel_rfl) (by kernel_rfl) (by kernel_rfl) (by kernel_rfl) rfl rfl kd ?_
                    simp only [Act.put, List.setIfInBounds_toArray, List.set_cons_zero, List.set_cons_succ]
                    refine take_skip 14 _ _ rfl (by kernel_rfl) (by kernel_rfl) (by kernel_rfl) (by kernel_rfl) rfl rfl kd ?_
                    simp only [Act.put, List.setIfInBounds_toArray, List.set_cons_zero, List.set_cons_succ]
                    refine take_skip 15 _ _ rfl (by kernel_rfl) (by kernel_rfl) (by kernel_rfl) (by kernel_rfl) rfl rfl kd ?_
                    simp only [Act.put, List.setIfInBounds_toArray, List.set_cons_zero, List.set_cons_succ]
                    refine take_skip 16 _ _ rfl (by kernel_rfl) (by kernel_rfl) (by kernel_rfl) (by kernel_rfl) rfl rfl kd ?_
                    simp only [Act.put, List.setIfInBounds_toArray, List.set_cons_zero, List.set_cons_succ]
                    refine take_skip 17 _ _ rfl (by kernel_rfl) (by kernel_rfl) (by kernel_rfl) (by kernel_rfl) rfl rfl kd ?_
                    simp only [Act.put, List.setIfInBounds_toArray, List.set_cons_zero, List.set_cons_succ]
                    refine take_skip 18 _ _ rfl (by kernel_rfl) (by kernel_rfl) (by kernel_rfl) (by kernel_rfl) rfl rfl kd ?_
                    simp only [Act.put, List.setIfInBounds_toArray, List.set_cons_zero, List.set_cons_succ]
                    refine take_skip 19 _ _ rfl (by kernel_rfl) (by kernel_rfl) (by kernel_rfl) (by kernel_rfl) rfl rfl kd ?_
                    simp only [Act.put, List.setIfInBounds_toArray, List.set_cons_zero, List.set_cons_succ]
                    refine take_val 20 _ _ (.bool false) rfl (by rfl) (by kernel_rfl) (by kernel_rfl) (by kernel_rfl) (fun w => by rfl) rfl rfl kd ?_
                    simp only [Act.put, List.setIfInBounds_toArray, List.set_cons_zero, List.set_cons_succ]
                    refine take_val 21 _ _ (.bool false) rfl (by rfl) (by kernel_rfl) (by kernel_rfl) (by kernel_rfl) (fun w => by rfl) rfl rfl kd ?_
                    simp only [Act.put, List.setIfInBounds_toArray, List.set_cons_zero, List.set_cons_succ]
                    refine wpAnyH_done (by kernel_rfl) ?_ _
                    exact ⟨rfl, rfl, kd⟩
                  rintro a1 wz ⟨rfl, g2⟩
                  clear g1
                  replace g2 := hid g2
                  simp only [Act.put, List.setIfInBounds_toArray, List.set_cons_zero, List.set_cons_succ]
                  clear EV AV fe
                  go_wp2_with fail
                  go_roundw
                  case rel => exact ⟨k + 1, HK.out, by go_num, g2⟩
                  case measure => have := HK.out; simp [intOf]; omega
                · obtain ⟨m', hm'⟩ : ∃ m', k = m' + 1 := ⟨k - 1, (Nat.succ_pred_eq_of_pos hz).symm⟩
                  obtain ⟨hk4, hkm, hm3, hm20, fl⟩ := k_up hm' HK.out
                  have HM20 := hid hm20
                  clear hm' hz hm20
                  refine region_act (w0 := w) (lk := [(wd.heap.size, vls 178 (clw (setW (oneC (fiW (a : Int)) (fiW (b : Int)) p q)) 0), 66), (w7.heap.size, vls 178 (clw (oneC (fiW (a : Int)) (fiW (b : Int)) p q) 0), 66), (w2.heap.size, fls shr, 41)]) (fun a0 a1 wq => a1 = ((((((((((((((((((((((a0.put (some 101) (.int .i64 (i : Int))).put (some 102) (.int .i64 (k : Int))).put (some 103) (.pointer (some ⟨wd.heap.size, 0, none⟩))).put (some 104) (.pointer (some ⟨wd.heap.size, i * 20, none⟩))).put (some 105) (.pointer (some ⟨wd.heap.size, i * 20 + k, none⟩))).put (some 106) (.float .f32 (0))).put (some 107) (.float .f32 (0))).put (some 108) (.bool false)).put (some 109) (.bool false)).put (some 110) (.int .i64 (k : Int))).put (some 111) (.bool true)).put (some 112) (.bool true)).put (some 113) (.int .i64 (k : Int))).put (some 114) (.pointer (some ⟨w2.heap.size, k, none⟩))).put (some 115) (.float .f32 (shr k))).put (some 116) (.int .i64 (k : Int))).put (some 117) ((.int .i64 (m' : Int)))).put (some 118) ((.pointer (some ⟨w2.heap.size, m', none⟩)))).put (some 119) ((.float .f32 (shr m')))).put (some 120) (.bool false)).put (some 121) (.bool false)).put (some 122) (.bool false)) ∧ Kept w [(wd.heap.size, vls 178 (clw (setW (oneC (fiW (a : Int)) (fiW (b : Int)) p q)) 0), 66), (w7.heap.size, vls 178 (clw (oneC (fiW (a : Int)) (fiW (b : Int)) p q) 0), 66), (w2.heap.size, fls shr, 41)] wq) 22 #[false, false, false, false, false, false, false, false, false, false, false, false, false, false, false, false, false, false, false, false, false, false] (by kernel_rfl) rfl rfl ?_ ?_
                  · have kd := g1.out.drew
                    clear g1
                    generalize World.drew _ = wz at kd ⊢
                    refine take_val 0 _ _ (.int .i64 (i : Int)) rfl (by rfl) (by kernel_rfl) (by kernel_rfl) (by kernel_rfl) (fun w => by rfl) rfl rfl kd ?_
                    simp only [Act.put, List.setIfInBounds_toArray, List.set_cons_zero, List.set_cons_succ]
                    refine take_val 1 _ _ (.int .i64 (k : Int)) rfl (by rfl) (by kernel_rfl) (by kernel_rfl) (by kernel_rfl) (fun w => by rfl) rfl rfl kd ?_
                    simp only [Act.put, List.setIfInBounds_toArray, List.set_cons_zero, List.set_cons_succ]
                    refine take_val 2 _ _ (.pointer (some ⟨wd.heap.size, 0, none⟩)) rfl (by rfl) (by kernel_rfl) (by kernel_rfl) (by kernel_rfl) (fun w => by unfold execOp; go_simp) rfl rfl kd ?_
                    simp only [Act.put, List.setIfInBounds_toArray, List.set_cons_zero, List.set_cons_succ]
                    refine take_val 3 _ _ (.pointer (some ⟨wd.heap.size, i * 20, none⟩)) rfl (by rfl) (by kernel_rfl) (by kernel_rfl) (by kernel_rfl) (fun w => by unfold execOp; go_simp) rfl rfl kd ?_
                    simp only [Act.put, List.setIfInBounds_toArray, List.set_cons_zero, List.set_cons_succ]
                    refine take_val 4 _ _ (.pointer (some ⟨wd.heap.size, i * 20 + k, none⟩)) rfl (by rfl) (by kernel_rfl) (by kernel_rfl) (by kernel_rfl) (fun w => by unfold execOp; go_simp) rfl rfl kd ?_
                    simp only [Act.put, List.setIfInBounds_toArray, List.set_cons_zero, List.set_cons_succ]
                    refine take_cell 5 _ _ (.float .f32 (0)) rfl (by rfl) (by kernel_rfl) (by kernel_rfl) (by kernel_rfl) (fun wq hS => by have hcell : wq.cell? ⟨wd.heap.size, i * 20 + k, none⟩ = some (.float .f32 (0)) := (by rw [← EV]; exact (hS.v in0).cf (pos177 HI.out HK.out)); clear hS; unfold execOp; go_simp) rfl rfl kd ?_
                    simp only [Act.put, List.setIfInBounds_toArray, List.set_cons_zero, List.set_cons_succ]
                    refine take_val 6 _ _ (.float .f32 (0)) rfl (by rfl) (by kernel_rfl) (by kernel_rfl) (by kernel_rfl) (fun w => by rfl) rfl rfl kd ?_
                    simp only [Act.put, List.setIfInBounds_toArray, List.set_cons_zero, List.set_cons_succ]
                    refine take_val 7 _ _ (.bool false) rfl (by rfl) (by kernel_rfl) (by kernel_rfl) (by kernel_rfl) (fun w => run_binop_val _ _ _ _ (by rfl) (by rfl) (by simp [eqGuard]) (run_neq_w _ fe w)) rfl rfl kd ?_
                    simp only [Act.put, List.setIfInBounds_toArray, List.set_cons_zero, List.set_cons_succ]
                    refine take_val 8 _ _ (.bool false) rfl (by rfl) (by kernel_rfl) (by kernel_rfl) (by kernel_rfl) (fun w => by rfl) rfl rfl kd ?_
                    simp only [Act.put, List.setIfInBounds_toArray, List.set_cons_zero, List.set_cons_succ]
                    refine take_val 9 _ _ (.int .i64 (k : Int)) rfl (by rfl) (by kernel_rfl) (by kernel_rfl) (by kernel_rfl) (fun w => by rfl) rfl rfl kd ?_
                    simp only [Act.put, List.setIfInBounds_toArray, List.set_cons_zero, List.set_cons_succ]
                    refine take_val 10 _ _ (.bool true) rfl (by rfl) (by kernel_rfl) (by kernel_rfl) (by kernel_rfl) (fun w => run_binop_val _ _ _ _ (by rfl) (by rfl) (by simp [eqGuard]) (run_gtr_i _ true hk4 w)) rfl rfl kd ?_
                    simp only [Act.put, List.setIfInBounds_toArray, List.set_cons_zero, List.set_cons_succ]
                    refine take_val 11 _ _ (.bool true) rfl (by rfl) (by kernel_rfl) (by kernel_rfl) (by kernel_rfl) (fun w => by rfl) rfl rfl kd ?_
                    simp only [Act.put, List.setIfInBounds_toArray, List.set_cons_zero, List.set_cons_succ]
                    refine take_val 12 _ _ (.int .i64 (k : Int)) rfl (by rfl) (by kernel_rfl) (by kernel_rfl) (by kernel_rfl) (fun w => by rfl) rfl rfl kd ?_
                    simp only [Act.put, List.setIfInBounds_toArray, List.set_cons_zero, List.set_cons_succ]
                    refine take_val 13 _ _ (.pointer (some ⟨w2.heap.size, k, none⟩)) rfl (by rfl) (by kernel_rfl) (by kernel_rfl) (by kernel_rfl) (fun w => by unfold execOp; go_simp) rfl rfl kd ?_
                    simp only [Act.put, List.setIfInBounds_toArray, List.set_cons_zero, List.set_cons_succ]
                    refine take_cell 14 _ _ (.float .f32 (shr k)) rfl (by rfl) (by kernel_rfl) (by kernel_rfl) (by kernel_rfl) (fun wq hS => by have hcell : wq.cell? ⟨w2.heap.size, k, none⟩ = some (.float .f32 (shr k)) := (show vAt wq w2.heap.size 20 (flw shr) 41 from hS.at (x := (w2.heap.size, fls shr, 41)) in2).cell HK.out; clear hS; unfold execOp; go_simp) rfl rfl kd ?_
                    simp only [Act.put, List.setIfInBounds_toArray, List.set_cons_zero, List.set_cons_succ]
                    refine take_val 15 _ _ (.int .i64 (k : Int)) rfl (by rfl) (by kernel_rfl) (by kernel_rfl) (by kernel_rfl) (fun w => by rfl) rfl rfl kd ?_
                    simp only [Act.put, List.setIfInBounds_toArray, List.set_cons_zero, List.set_cons_succ]
                    refine take_val 16 _ _ ((.int .i64 (m' : Int))) rfl (by rfl) (by kernel_rfl) (by kernel_rfl) (by kernel_rfl) (fun w => run_binop_val _ _ _ _ (by rfl) (by rfl) (by simp [eqGuard]) (run_sub1_i _ hkm w)) rfl rfl kd ?_
                    simp only [Act.put, List.setIfInBounds_toArray, List.set_cons_zero, List.set_cons_succ]
                    refine take_val 17 _ _ ((.pointer (some ⟨w2.heap.size, m', none⟩))) rfl (by rfl) (by kernel_rfl) (by kernel_rfl) (by kernel_rfl) (fun w => by unfold execOp; go_simp) rfl rfl kd ?_
                    simp only [Act.put, List.setIfInBounds_toArray, List.set_cons_zero, List.set_cons_succ]
                    refine take_cell 18 _ _ ((.float .f32 (shr m'))) rfl (by rfl) (by kernel_rfl) (by kernel_rfl) (by kernel_rfl) (fun wq hS => by have hcell : wq.cell? ⟨w2.heap.size, m', none⟩ = some (.float .f32 (shr m')) := (show vAt wq w2.heap.size 20 (flw shr) 41 from hS.at (x := (w2.heap.size, fls shr, 41)) in2).cell HM20.out; clear hS; unfold execOp; go_simp) rfl rfl kd ?_
                    simp only [Act.put, List.setIfInBounds_toArray, List.set_cons_zero, List.set_cons_succ]
                    refine take_val 19 _ _ (.bool false) rfl (by rfl) (by kernel_rfl) (by kernel_rfl) (by kernel_rfl) (fun w => run_binop_val _ _ _ _ (by rfl) (by rfl) (by simp [eqGuard]) (run_lss_w _ fl w)) rfl rfl kd ?_
                    simp only [Act.put, List.setIfInBounds_toArray, List.set_cons_zero, List.set_cons_succ]
                    refine take_val 20 _ _ (.bool false) rfl (by rfl) (by kernel_rfl) (by kernel_rfl) (by kernel_rfl) (fun w => by rfl) rfl rfl kd ?_
                    simp only [Act.put, List.setIfInBounds_toArray, List.set_cons_zero, List.set_cons_succ]
                    refine take_val 21 _ _ (.bool false) rfl (by rfl) (by kernel_rfl) (by kernel_rfl) (by kernel_rfl) (fun w => by rfl) rfl rfl kd ?_
                    simp only [Act.put, List.setIfInBounds_toArray, List.set_cons_zero, List.set_cons_succ]
                    refine wpAnyH_done (by kernel_rfl) ?_ _
                    exact ⟨rfl, rfl, kd⟩
                  rintro a1 wz ⟨rfl, g2⟩
                  clear g1
                  replace g2 := hid g2
                  simp only [Act.put, List.setIfInBounds_toArray, List.set_cons_zero, List.set_cons_succ]
                  clear EV AV fe
                  go_wp2_with fail
                  go_roundw
                  case rel => exact ⟨k + 1, HK.out, by go_num, g2⟩
                  case measure => have := HK.out; simp [intOf]; omega
          · have d1 := r_ne e1
            have EV := E0
            rw [if_neg (not_and1 e1), if_neg (not_and1 e1)] at EV
            have AV := zero_amt
            clear E0 e1
            have fe : (FloatKind.f32.format.order (0) (0) == some .eq) = true := same_eq AV
            go_wp2_with (first | (have _t := tokS; refine load_one (by rfl) 40 _ (by rfl) (w2.heap.size) j (by rfl) (show vAt wr w2.heap.size 20 (flw shr) 41 from g1.out.at (x := (w2.heap.size, fls shr, 41)) in2) (by have := HJ.out; omega) (.float .f32 (shr j)) rfl _ Try.underlying40 (by rfl) ?_))
            rcases Nat.eq_zero_or_pos k with hz | hz
            · have hk4 := k_zero hz
              clear hz
              refine region_act (w0 := w) (lk := [(wd.heap.size, vls 178 (clw (setW (oneC (fiW (a : Int)) (fiW (b : Int)) p q)) 0), 66), (w7.heap.size, vls 178 (clw (oneC (fiW (a : Int)) (fiW (b : Int)) p q) 0), 66), (w2.heap.size, fls shr, 41)]) (fun a0 a1 wq => a1 = ((((((((((((((((((((((a0.put (some 101) (.int .i64 (i : Int))).put (some 102) (.int .i64 (k : Int))).put (some 103) (.pointer (some ⟨wd.heap.size, 0, none⟩))).put (some 104) (.pointer (some ⟨wd.heap.size, i * 20, none⟩))).put (some 105) (.pointer (some ⟨wd.heap.size, i * 20 + k, none⟩))).put (some 106) (.float .f32 (0))).put (some 107) (.float .f32 (0))).put (some 108) (.bool false)).put (some 109) (.bool false)).put (some 110) (.int .i64 (k : Int))).put (some 111) (.bool false)).put (some 112) (.bool false)).put (some 113) (undef)).put (some 114) (undef)).put (some 115) (undef)).put (some 116) (undef)).put (some 117) (undef)).put (some 118) (undef)).put (some 119) (undef)).put (some 120) (undef)).put (some 121) (.bool false)).put (some 122) (.bool false)) ∧ Kept w [(wd.heap.size, vls 178 (clw (setW (oneC (fiW (a : Int)) (fiW (b : Int)) p q)) 0), 66), (w7.heap.size, vls 178 (clw (oneC (fiW (a : Int)) (fiW (b : Int)) p q) 0), 66), (w2.heap.size, fls shr, 41)] wq) 22 #[false, false, false, false, false, false, false, false, false, false, false, false, false, false, false, false, false, false, false, false, false, false] (by kernel_rfl) rfl rfl ?_ ?_
              · have kd := g1.out.drew
                clear g1
                generalize World.drew _ = wz at kd ⊢
                refine take_val 0 _ _ (.int .i64 (i : Int)) rfl (by rfl) (by kernel_rfl) (by kernel_rfl) (by kernel_rfl) (fun w => by rfl) rfl rfl kd ?_
                simp only [Act.put, List.setIfInBounds_toArray, List.set_cons_zero, List.set_cons_succ]
                refine take_val 1 _ _ (.int .i64 (k : Int)) rfl (by rfl) (by kernel_rfl) (by kernel_rfl) (by kernel_rfl) (fun w => by rfl) rfl rfl kd ?_
                simp only [Act.put, List.setIfInBounds_toArray, List.set_cons_zero, List.set_cons_succ]
                refine take_val 2 _ _ (.pointer (some ⟨wd.heap.size, 0, none⟩)) rfl (by rfl) (by kernel_rfl) (by kernel_rfl) (by kernel_rfl) (fun w => by unfold execOp; go_simp) rfl rfl kd ?_
                simp only [Act.put, List.setIfInBounds_toArray, List.set_cons_zero, List.set_cons_succ]
                refine take_val 3 _ _ (.pointer (some ⟨wd.heap.size, i * 20, none⟩)) rfl (by rfl) (by kernel_rfl) (by kernel_rfl) (by kernel_rfl) (fun w => by unfold execOp; go_simp) rfl rfl kd ?_
                simp only [Act.put, List.setIfInBounds_toArray, List.set_cons_zero, List.set_cons_succ]
                refine take_val 4 _ _ (.pointer (some ⟨wd.heap.size, i * 20 + k, none⟩)) rfl (by rfl) (by kernel_rfl) (by kernel_rfl) (by kernel_rfl) (fun w => by unfold execOp; go_simp) rfl rfl kd ?_
                simp only [Act.put, List.setIfInBounds_toArray, List.set_cons_zero, List.set_cons_succ]
                refine take_cell 5 _ _ (.float .f32 (0)) rfl (by rfl) (by kernel_rfl) (by kernel_rfl) (by kernel_rfl) (fun wq hS => by have hcell : wq.cell? ⟨wd.heap.size, i * 20 + k, none⟩ = some (.float .f32 (0)) := (by rw [← EV]; exact (hS.v in0).cf (pos177 HI.out HK.out)); clear hS; unfold execOp; go_simp) rfl rfl kd ?_
                simp only [Act.put, List.setIfInBounds_toArray, List.set_cons_zero, List.set_cons_succ]
                refine take_val 6 _ _ (.float .f32 (0)) rfl (by rfl) (by kernel_rfl) (by kernel_rfl) (by kernel_rfl) (fun w => by rfl) rfl rfl kd ?_
                simp only [Act.put, List.setIfInBounds_toArray, List.set_cons_zero, List.set_cons_succ]
                refine take_val 7 _ _ (.bool false) rfl (by rfl) (by kernel_rfl) (by kernel_rfl) (by kernel_rfl) (fun w => run_binop_val _ _ _ _ (by rfl) (by rfl) (by simp [eqGuard]) (run_neq_w _ fe w)) rfl rfl kd ?_
                simp only [Act.put, List.setIfInBounds_toArray, List.set_cons_zero, List.set_cons_succ]
                refine take_val 8 _ _ (.bool false) rfl (by rfl) (by kernel_rfl) (by kernel_rfl) (by kernel_rfl) (fun w => by rfl) rfl rfl kd ?_
                simp only [Act.put, List.setIfInBounds_toArray, List.set_cons_zero, List.set_cons_succ]
                refine take_val 9 _ _ (.int .i64 (k : Int)) rfl (by rfl) (by kernel_rfl) (by kernel_rfl) (by kernel_rfl) (fun w => by rfl) rfl rfl kd ?_
                simp only [Act.put, List.setIfInBounds_toArray, List.set_cons_zero, List.set_cons_succ]
                refine take_val 10 _ _ (.bool false) rfl (by rfl) (by kernel_rfl) (by kernel_rfl) (by kernel_rfl) (fun w => run_binop_val _ _ _ _ (by rfl) (by rfl) (by simp [eqGuard]) (run_gtr_i _ false hk4 w)) rfl rfl kd ?_
                simp only [Act.put, List.setIfInBounds_toArray, List.set_cons_zero, List.set_cons_succ]
                refine take_val 11 _ _ (.bool false) rfl (by rfl) (by kernel_rfl) (by kernel_rfl) (by kernel_rfl) (fun w => by rfl) rfl rfl kd ?_
                simp only [Act.put, List.setIfInBounds_toArray, List.set_cons_zero, List.set_cons_succ]
                refine take_skip 12 _ _ rfl (by kernel_rfl) (by kernel_rfl) (by kernel_rfl) (by kernel_rfl) rfl rfl kd ?_
                simp only [Act.put, List.setIfInBounds_toArray, List.set_cons_zero, List.set_cons_succ]
                refine take_skip 13 _ _ rfl (by kernel_rfl) (by kernel_rfl) (by kernel_rfl) (by kernel_rfl) rfl rfl kd ?_
                simp only [Act.put, List.setIfInBounds_toArray, List.set_cons_zero, List.set_cons_succ]
                refine take_skip 14 _ _ rfl (by kernel_rfl) (by kernel_rfl) (by kernel_rfl) (by kernel_rfl) rfl rfl kd ?_
                simp only [Act.put, List.setIfInBounds_toArray, List.set_cons_zero, List.set_cons_succ]
                refine take_skip 15 _ _ rfl (by kernel_rfl) (by kernel_rfl) (by kernel_rfl) (by kernel_rfl) rfl rfl kd ?_
                simp only [Act.put, List.setIfInBounds_toArray, List.set_cons_zero, List.set_cons_succ]
                refine take_skip 16 _ _ rfl (by kernel_rfl) (by kernel_rfl) (by kernel_rfl) (by kernel_rfl) rfl rfl kd ?_
                simp only [Act.put, List.setIfInBounds_toArray, List.set_cons_zero, List.set_cons_succ]
                refine take_skip 17 _ _ rfl (by kernel_rfl) (by kernel_rfl) (by kernel_rfl) (by kernel_rfl) rfl rfl kd ?_
                simp only [Act.put, List.setIfInBounds_toArray, List.set_cons_zero, List.set_cons_succ]
                refine take_skip 18 _ _ rfl (by kernel_rfl) (by kernel_rfl) (by kernel_rfl) (by kernel_rfl) rfl rfl kd ?_
                simp only [Act.put, List.setIfInBounds_toArray, List.set_cons_zero, List.set_cons_succ]
                refine take_skip 19 _ _ rfl (by kernel_rfl) (by kernel_rfl) (by kernel_rfl) (by kernel_rfl) rfl rfl kd ?_
                simp only [Act.put, List.setIfInBounds_toArray, List.set_cons_zero, List.set_cons_succ]
                refine take_val 20 _ _ (.bool false) rfl (by rfl) (by kernel_rfl) (by kernel_rfl) (by kernel_rfl) (fun w => by rfl) rfl rfl kd ?_
                simp only [Act.put, List.setIfInBounds_toArray, List.set_cons_zero, List.set_cons_succ]
                refine take_val 21 _ _ (.bool false) rfl (by rfl) (by kernel_rfl) (by kernel_rfl) (by kernel_rfl) (fun w => by rfl) rfl rfl kd ?_
                simp only [Act.put, List.setIfInBounds_toArray, List.set_cons_zero, List.set_cons_succ]
                refine wpAnyH_done (by kernel_rfl) ?_ _
                exact ⟨rfl, rfl, kd⟩
              rintro a1 wz ⟨rfl, g2⟩
              clear g1
              replace g2 := hid g2
              simp only [Act.put, List.setIfInBounds_toArray, List.set_cons_zero, List.set_cons_succ]
              clear EV AV fe
              go_wp2_with fail
              go_roundw
              case rel => exact ⟨k + 1, HK.out, by go_num, g2⟩
              case measure => have := HK.out; simp [intOf]; omega
            · obtain ⟨m', hm'⟩ : ∃ m', k = m' + 1 := ⟨k - 1, (Nat.succ_pred_eq_of_pos hz).symm⟩
              obtain ⟨hk4, hkm, hm3, hm20, fl⟩ := k_up hm' HK.out
              have HM20 := hid hm20
              clear hm' hz hm20
              refine region_act (w0 := w) (lk := [(wd.heap.size, vls 178 (clw (setW (oneC (fiW (a : Int)) (fiW (b : Int)) p q)) 0), 66), (w7.heap.size, vls 178 (clw (oneC (fiW (a : Int)) (fiW (b : Int)) p q) 0), 66), (w2.heap.size, fls shr, 41)]) (fun a0 a1 wq => a1 = ((((((((((((((((((((((a0.put (some 101) (.int .i64 (i : Int))).put (some 102) (.int .i64 (k : Int))).put (some 103) (.pointer (some ⟨wd.heap.size, 0, none⟩))).put (some 104) (.pointer (some ⟨wd.heap.size, i * 20, none⟩))).put (some 105) (.pointer (some ⟨wd.heap.size, i * 20 + k, none⟩))).put (some 106) (.float .f32 (0))).put (some 107) (.float .f32 (0))).put (some 108) (.bool false)).put (some 109) (.bool false)).put (some 110) (.int .i64 (k : Int))).put (some 111) (.bool true)).put (some 112) (.bool true)).put (some 113) (.int .i64 (k : Int))).put (some 114) (.pointer (some ⟨w2.heap.size, k, none⟩))).put (some 115) (.float .f32 (shr k))).put (some 116) (.int .i64 (k : Int))).put (some 117) ((.int .i64 (m' : Int)))).put (some 118) ((.pointer (some ⟨w2.heap.size, m', none⟩)))).put (some 119) ((.float .f32 (shr m')))).put (some 120) (.bool false)).put (some 121) (.bool false)).put (some 122) (.bool false)) ∧ Kept w [(wd.heap.size, vls 178 (clw (setW (oneC (fiW (a : Int)) (fiW (b : Int)) p q)) 0), 66), (w7.heap.size, vls 178 (clw (oneC (fiW (a : Int)) (fiW (b : Int)) p q) 0), 66), (w2.heap.size, fls shr, 41)] wq) 22 #[false, false, false, false, false, false, false, false, false, false, false, false, false, false, false, false, false, false, false, false, false, false] (by kernel_rfl) rfl rfl ?_ ?_
              · have kd := g1.out.drew
                clear g1
                generalize World.drew _ = wz at kd ⊢
                refine take_val 0 _ _ (.int .i64 (i : Int)) rfl (by rfl) (by kernel_rfl) (by kernel_rfl) (by kernel_rfl) (fun w => by rfl) rfl rfl kd ?_
                simp only [Act.put, List.setIfInBounds_toArray, List.set_cons_zero, List.set_cons_succ]
                refine take_val 1 _ _ (.int .i64 (k : Int)) rfl (by rfl) (by kernel_rfl) (by kernel_rfl) (by kernel_rfl) (fun w => by rfl) rfl rfl kd ?_
                simp only [Act.put, List.setIfInBounds_toArray, List.set_cons_zero, List.set_cons_succ]
                refine take_val 2 _ _ (.pointer (some ⟨wd.heap.size, 0, none⟩)) rfl (by rfl) (by kernel_rfl) (by kernel_rfl) (by kernel_rfl) (fun w => by unfold execOp; go_simp) rfl rfl kd ?_
                simp only [Act.put, List.setIfInBounds_toArray, List.set_cons_zero, List.set_cons_succ]
                refine take_val 3 _ _ (.pointer (some ⟨wd.heap.size, i * 20, none⟩)) rfl (by rfl) (by kernel_rfl) (by kernel_rfl) (by kernel_rfl) (fun w => by unfold execOp; go_simp) rfl rfl kd ?_
                simp only [Act.put, List.setIfInBounds_toArray, List.set_cons_zero, List.set_cons_succ]
                refine take_val 4 _ _ (.pointer (some ⟨wd.heap.size, i * 20 + k, none⟩)) rfl (by rfl) (by kernel_rfl) (by kernel_rfl) (by kernel_rfl) (fun w => by unfold execOp; go_simp) rfl rfl kd ?_
                simp only [Act.put, List.setIfInBounds_toArray, List.set_cons_zero, List.set_cons_succ]
                refine take_cell 5 _ _ (.float .f32 (0)) rfl (by rfl) (by kernel_rfl) (by kernel_rfl) (by kernel_rfl) (fun wq hS => by have hcell : wq.cell? ⟨wd.heap.size, i * 20 + k, none⟩ = some (.float .f32 (0)) := (by rw [← EV]; exact (hS.v in0).cf (pos177 HI.out HK.out)); clear hS; unfold execOp; go_simp) rfl rfl kd ?_
                simp only [Act.put, List.setIfInBounds_toArray, List.set_cons_zero, List.set_cons_succ]
                refine take_val 6 _ _ (.float .f32 (0)) rfl (by rfl) (by kernel_rfl) (by kernel_rfl) (by kernel_rfl) (fun w => by rfl) rfl rfl kd ?_
                simp only [Act.put, List.setIfInBounds_toArray, List.set_cons_zero, List.set_cons_succ]
                refine take_val 7 _ _ (.bool false) rfl (by rfl) (by kernel_rfl) (by kernel_rfl) (by kernel_rfl) (fun w => run_binop_val _ _ _ _ (by rfl) (by rfl) (by simp [eqGuard]) (run_neq_w _ fe w)) rfl rfl kd ?_
                simp only [Act.put, List.setIfInBounds_toArray, List.set_cons_zero, List.set_cons_succ]
                refine take_val 8 _ _ (.bool false) rfl (by rfl) (by kernel_rfl) (by kernel_rfl) (by kernel_rfl) (fun w => by rfl) rfl rfl kd ?_
                simp only [Act.put, List.setIfInBounds_toArray, List.set_cons_zero, List.set_cons_succ]
                refine take_val 9 _ _ (.int .i64 (k : Int)) rfl (by rfl) (by kernel_rfl) (by kernel_rfl) (by kernel_rfl) (fun w => by rfl) rfl rfl kd ?_
                simp only [Act.put, List.setIfInBounds_toArray, List.set_cons_zero, List.set_cons_succ]
                refine take_val 10 _ _ (.bool true) rfl (by rfl) (by kernel_rfl) (by kernel_rfl) (by kernel_rfl) (fun w => run_binop_val _ _ _ _ (by rfl) (by rfl) (by simp [eqGuard]) (run_gtr_i _ true hk4 w)) rfl rfl kd ?_
                simp only [Act.put, List.setIfInBounds_toArray, List.set_cons_zero, List.set_cons_succ]
                refine take_val 11 _ _ (.bool true) rfl (by rfl) (by kernel_rfl) (by kernel_rfl) (by kernel_rfl) (fun w => by rfl) rfl rfl kd ?_
                simp only [Act.put, List.setIfInBounds_toArray, List.set_cons_zero, List.set_cons_succ]
                refine take_val 12 _ _ (.int .i64 (k : Int)) rfl (by rfl) (by kernel_rfl) (by kernel_rfl) (by kernel_rfl) (fun w => by rfl) rfl rfl kd ?_
                simp only [Act.put, List.setIfInBounds_toArray, List.set_cons_zero, List.set_cons_succ]
                refine take_val 13 _ _ (.pointer (some ⟨w2.heap.size, k, none⟩)) rfl (by rfl) (by kernel_rfl) (by kernel_rfl) (by kernel_rfl) (fun w => by unfold execOp; go_simp) rfl rfl kd ?_
                simp only [Act.put, List.setIfInBounds_toArray, List.set_cons_zero, List.set_cons_succ]
                refine take_cell 14 _ _ (.float .f32 (shr k)) rfl (by rfl) (by kernel_rfl) (by kernel_rfl) (by kernel_rfl) (fun wq hS => by have hcell : wq.cell? ⟨w2.heap.size, k, none⟩ = some (.float .f32 (shr k)) := (show vAt wq w2.heap.size 20 (flw shr) 41 from hS.at (x := (w2.heap.size, fls shr, 41)) in2).cell HK.out; clear hS; unfold execOp; go_simp) rfl rfl kd ?_
                simp only [Act.put, List.setIfInBounds_toArray, List.set_cons_zero, List.set_cons_succ]
                refine take_val 15 _ _ (.int .i64 (k : Int)) rfl (by rfl) (by kernel_rfl) (by kernel_rfl) (by kernel_rfl) (fun w => by rfl) rfl rfl kd ?_
                simp only [Act.put, List.setIfInBounds_toArray, List.set_cons_zero, List.set_cons_succ]
                refine take_val 16 _ _ ((.int .i64 (m' : Int))) rfl (by rfl) (by kernel_rfl) (by kernel_rfl) (by kernel_rfl) (fun w => run_binop_val _ _ _ _ (by rfl) (by rfl) (by simp [eqGuard]) (run_sub1_i _ hkm w)) rfl rfl kd ?_
                simp only [Act.put, List.setIfInBounds_toArray, List.set_cons_zero, List.set_cons_succ]
                refine take_val 17 _ _ ((.pointer (some ⟨w2.heap.size, m', none⟩))) rfl (by rfl) (by kernel_rfl) (by kernel_rfl) (by kernel_rfl) (fun w => by unfold execOp; go_simp) rfl rfl kd ?_
                simp only [Act.put, List.setIfInBounds_toArray, List.set_cons_zero, List.set_cons_succ]
                refine take_cell 18 _ _ ((.float .f32 (shr m'))) rfl (by rfl) (by kernel_rfl) (by kernel_rfl) (by kernel_rfl) (fun wq hS => by have hcell : wq.cell? ⟨w2.heap.size, m', none⟩ = some (.float .f32 (shr m')) := (show vAt wq w2.heap.size 20 (flw shr) 41 from hS.at (x := (w2.heap.size, fls shr, 41)) in2).cell HM20.out; clear hS; unfold execOp; go_simp) rfl rfl kd ?_
                simp only [Act.put, List.setIfInBounds_toArray, List.set_cons_zero, List.set_cons_succ]
                refine take_val 19 _ _ (.bool false) rfl (by rfl) (by kernel_rfl) (by kernel_rfl) (by kernel_rfl) (fun w => run_binop_val _ _ _ _ (by rfl) (by rfl) (by simp [eqGuard]) (run_lss_w _ fl w)) rfl rfl kd ?_
                simp only [Act.put, List.setIfInBounds_toArray, List.set_cons_zero, List.set_cons_succ]
                refine take_val 20 _ _ (.bool false) rfl (by rfl) (by kernel_rfl) (by kernel_rfl) (by kernel_rfl) (fun w => by rfl) rfl rfl kd ?_
                simp only [Act.put, List.setIfInBounds_toArray, List.set_cons_zero, List.set_cons_succ]
                refine take_val 21 _ _ (.bool false) rfl (by rfl) (by kernel_rfl) (by kernel_rfl) (by kernel_rfl) (fun w => by rfl) rfl rfl kd ?_
                simp only [Act.put, List.setIfInBounds_toArray, List.set_cons_zero, List.set_cons_succ]
                refine wpAnyH_done (by kernel_rfl) ?_ _
                exact ⟨rfl, rfl, kd⟩
              rintro a1 wz ⟨rfl, g2⟩
              clear g1
              replace g2 := hid g2
              simp only [Act.put, List.setIfInBounds_toArray, List.set_cons_zero, List.set_cons_succ]
              clear EV AV fe
              go_wp2_with fail
              go_roundw
              case rel => exact ⟨k + 1, HK.out, by go_num, g2⟩
              case measure => have := HK.out; simp [intOf]; omega
        · have hk3 : ¬ (k : Int) < 20 := by omega
          obtain rfl : k = 20 := by omega
          go_wp2_with fail
          have g2 := hid g1.out.drew
          have hle : w.heap.size ≤ wr.heap.size := g1.out.size
          clear g1
          refine wp_region_still_tail 8 (by kernel_rfl) (by kernel_rfl) ?_
          change wpStill _ _ wr.drew (fun a' => wpList _ _ _ _ a' wr.drew) _ _
          simp only [List.take_succ_cons, List.take_zero, List.drop_succ_cons, List.drop_zero]
          generalize wr.drew = wz at g2 ⊢
          still_step
          still_step
          still_step
          refine still_load rfl 45 _ rfl _ rfl _ ((g2.out.v in0).partAt (160 + i * 2) 2 (by have := HI.out; omega) #[.float .f32 (stlH (fiW (a : Int)) i), .float .f32 (fiW (b : Int))] (part_one 0 HI.out (fun z h1 h2 => set1_air HP160.out h1 h2)) Try.underlying45 (by rfl) info_air) ?_
          simp only [Act.put, List.setIfInBounds_toArray, List.set_cons_zero, List.set_cons_succ]
          still_step
          still_step
          still_step
          refine still_load rfl 45 _ rfl _ rfl _ ((g2.out.v in1).partAt (160 + i * 2) 2 (by have := HI.out; omega) #[.float .f32 (stlH (fiW (a : Int)) i), .float .f32 (fiW (b : Int))] (part_one 0 HI.out (fun z h1 h2 => by unfold oneC; exact if_neg (by have := HP160.out; omega))) Try.underlying45 (by rfl) info_air) ?_
          simp only [Act.put, List.setIfInBounds_toArray, List.set_cons_zero, List.set_cons_succ]
          refine wpStill_nil ?_
          go_wp2_with fail
          refine (sSameAir (stlH (fiW (a : Int)) i) (fiW (b : Int)) (stlH (fiW (a : Int)) i) (fiW (b : Int)) (stl_lt LT.out HI.out) (amt_lt (vp_facts HB.out).1) (stl_lt LT.out HI.out) (amt_lt (vp_facts HB.out).1) _).mono ?_
          rintro e wq ⟨rfl, hbq⟩
          rw [sameA_self]
          have g3 := hid (g2.out.stay hbq)
          clear g2 hbq
          go_wp2_with fail
          go_roundw
          case rel => exact ⟨i + 1, HI.out, by go_num, g3⟩
          case measure => have := HI.out; simp [intOf]; omega
    · obtain rfl : i = 8 := by omega
      have hk3 : ¬ ((8 : Nat) : Int) < 8 := by omega
      clear LT HA HB
      have SL := hid (fun (i : Nat) (hi : i < 177) => setW_lt OK1.out (fun i _ => L1.out i) i hi)
      have GA := hid (set1_gauge (fiW (a : Int)) (fiW (b : Int)) (p := p) (q := q) HP160.out (fun l => by rw [show p = j by have := HP.out; have := HJ.out; omega]; exact amt_nn HF.out.g1))
      rcases Nat.eq_zero_or_pos r with hz | hz
      · subst hz
        have GV : (setW (oneC (fiW (a : Int)) (fiW (b : Int)) p q)) 176 = gvW j q := by
          have hpj : p = j := by have := HP.out; omega
          rw [GA.out, if_pos (by rw [hpj]; exact HJ.out), hpj]
        have tok7 : True := trivial
        go_wp2_with (first | (have _t := tok7; refine wpList_load_row rfl 66 _ rfl (wd.heap.size) rfl 66 (vls 178 (clw (setW (oneC (fiW (a : Int)) (fiW (b : Int)) p q)) 0)) (0, 0) _ (g0.out.v in0) Try.underlying66 rfl (by rw [vls_size]; exact info_col) ?_))
        refine (iRainOf (setW (oneC (fiW (a : Int)) (fiW (b : Int)) p q)) 0 SL.out true ⟨fun _ => OKS.out, fun _ => rfl⟩ (gvW j q) 0 (fun _ => ⟨GV.symm, rfl⟩) (fun h => by cases h) _).mono ?_
        rintro e wm ⟨rfl, hbm⟩
        have km := hid (g0.out.stay hbm)
        clear g0 hbm GV tok7
        go_wp2_with fail
        refine (iMassOf_ok j HJ.out _).mono ?_
        rintro e wn ⟨rfl, hbn⟩
        have kn := hid (km.out.stay hbn)
        clear km hbn
        have r1 := fun w => run_mul (P := Try.prog) 40 HF.out.g1 (show amtB 1199570944 = true by decide) w
        rw [HF.out.gx] at r1
        have r2 := fun w => run_mul (P := Try.prog) 40 (shr_amt' HJ.out) HF.out.q1 w
        have r3 := fun w => run_mul (P := Try.prog) 40 HF.out.f1 (mass_amt HJ.out) w
        have r4 := fun w => run_mul (P := Try.prog) 40 (mass_amt HJ.out) (show amtB 1115684864 = true by decide) w
        have hj9 : (j : Int) < 20 := by have := HJ.out; omega
        have tok8 : True := trivial
        go_wp2_with (first | (have _t := tok8; refine load_one_g rfl 40 _ (by rfl) (w2.heap.size) j (by rfl) (show vAt wn w2.heap.size 20 (flw shr) 41 from kn.out.at (x := (w2.heap.size, fls shr, 41)) in2) (by have := HJ.out; omega) (.float .f32 (shr j)) rfl _ Try.underlying40 (by rfl) ?_) | (have _t := tok8; refine load_one (by rfl) 40 _ (by rfl) (w2.heap.size) j (by rfl) (show vAt wn w2.heap.size 20 (flw shr) 41 from kn.out.at (x := (w2.heap.size, fls shr, 41)) in2) (by have := HJ.out; omega) (.float .f32 (shr j)) rfl _ Try.underlying40 (by rfl) ?_))
        have hN := lNearEq (fmul (fmul (shr j) q) (mass j)) (fmul (mass j) 1115684864) (fadd (fmul (fmul (mass j) 1115684864) 953267991) 953267991) HF.out.x1 (ms_facts HJ.out).1 rfl (ms_facts HJ.out).2.1 (ms_facts HJ.out).2.2.1 wn
        refine hN.mono ?_
        clear hN r1 r2 r3 r4
        rintro e wo ⟨rfl, hbo⟩
        have ko := hid (kn.out.stay hbo)
        clear kn hbo tok8
        have rq := fun w => run_mul (P := Try.prog) 40 HF.out.q1 (mass_amt HJ.out) w
        obtain ⟨r', n', hbs, hrt⟩ := base_two (h := fiW (a : Int)) (v := fiW (b : Int)) HP.out HR.out HJ.out HF.out.m1
        have HBS := hid hbs
        have HRT := hid hrt
        clear hbs hrt
        go_wp2_with (first | (refine wpList_load_row ?hw 66 _ rfl (w7.heap.size) rfl 66 (vls 178 (clw (oneC (fiW (a : Int)) (fiW (b : Int)) p q) 0)) (0, 0) _ (ko.out.v in1) Try.underlying66 rfl (by rw [vls_size]; exact info_col) ?_; case hw => rfl))
        refine (iBase_ok (oneC (fiW (a : Int)) (fiW (b : Int)) p q) 0 (fun i _ => L1.out i) OK1.out r' n' HBS.out _).mono ?_
        rintro e wv ⟨rfl, hbv⟩
        have kv := hid (ko.out.stay hbv)
        have hrt := HRT.out
        clear ko hbv HBS HRT
        rcases hrt with ⟨hgc, rfl, rfl⟩ | ⟨hgc, rfl, rfl⟩
        · rcases ge_cases hgc with hg1 | ⟨hg1, hg2⟩
          · clear hgc
            go_wp2_with fail
            go_ret
            exact ⟨rfl, kv.out.1⟩
          · clear hgc
            go_wp2_with fail
            go_ret
            exact ⟨rfl, kv.out.1⟩
        · obtain ⟨hg1, hg2⟩ := ge_not hgc
          clear hgc
          go_wp2_with fail
          go_ret
          exact ⟨rfl, kv.out.1⟩
      · have hz1 : (0 : Int) < (r : Int) := by omega
        have hz2 : ¬ (r : Int) = 0 := by omega
        have GV : (setW (oneC (fiW (a : Int)) (fiW (b : Int)) p q)) 176 = 0 := by
          rw [GA.out, if_neg (by have := HP.out; omega)]
        obtain ⟨G, hG⟩ : ∃ G : Nat, G = 0 := ⟨0, rfl⟩
        have e00 : (FloatKind.f32.format.order G 0 != some .eq) = false := by rw [hG]; simp only [bne, same_eq zero_amt]; rfl
        rw [← hG] at GV
        clear hG
        have tok7 : True := trivial
        go_wp2_with (first | (have _t := tok7; refine wpList_load_row rfl 66 _ rfl (wd.heap.size) rfl 66 (vls 178 (clw (setW (oneC (fiW (a : Int)) (fiW (b : Int)) p q)) 0)) (0, 0) _ (g0.out.v in0) Try.underlying66 rfl (by rw [vls_size]; exact info_col) ?_))
        refine (iRainOf (setW (oneC (fiW (a : Int)) (fiW (b : Int)) p q)) 0 SL.out true ⟨fun _ => OKS.out, fun _ => rfl⟩ G 0 (fun _ => ⟨GV.symm, rfl⟩) (fun h => by cases h) _).mono ?_
        rintro e wm ⟨rfl, hbm⟩
        have km := hid (g0.out.stay hbm)
        clear g0 hbm GV tok7
        go_wp2_with fail
        refine (iMassOf_ok j HJ.out _).mono ?_
        rintro e wn ⟨rfl, hbn⟩
        have ko := hid (km.out.stay hbn)
        clear km hbn hz
        generalize hzr : (r : Int) = z at hz1 hz2 hr3 ⊢
        have HZ := hid hzr
        clear hzr bs2 fr2 fr7 hw1 hq' hi hlt hk3
        have rq := fun w => run_mul (P := Try.prog) 40 HF.out.q1 (mass_amt HJ.out) w
        obtain ⟨r', n', hbs, hrt⟩ := base_two (h := fiW (a : Int)) (v := fiW (b : Int)) HP.out HR.out HJ.out HF.out.m1
        have HBS := hid hbs
        have HRT := hid hrt
        clear hbs hrt
        go_wp2_with (first | (refine wpList_load_row ?hw 66 _ rfl (w7.heap.size) rfl 66 (vls 178 (clw (oneC (fiW (a : Int)) (fiW (b : Int)) p q) 0)) (0, 0) _ (ko.out.v in1) Try.underlying66 rfl (by rw [vls_size]; exact info_col) ?_; case hw => rfl))
        refine (iBase_ok (oneC (fiW (a : Int)) (fiW (b : Int)) p q) 0 (fun i _ => L1.out i) OK1.out r' n' HBS.out _).mono ?_
        rintro e wv ⟨rfl, hbv⟩
        have kv := hid (ko.out.stay hbv)
        have hrt := HRT.out
        rw [HZ.out] at hrt
        clear ko hbv HBS HRT
        rcases hrt with ⟨hgc, rfl, rfl⟩ | ⟨hgc, rfl, rfl⟩
        · rcases ge_cases hgc with hg1 | ⟨hg1, hg2⟩
          · clear hgc
            go_wp2_with fail
            go_ret
            exact ⟨rfl, kv.out.1⟩
          · clear hgc
            go_wp2_with fail
            go_ret
            exact ⟨rfl, kv.out.1⟩
        · obtain ⟨hg1, hg2⟩ := ge_not hgc
          clear hgc
          go_wp2_with fail
          go_ret
          exact ⟨rfl, kv.out.1⟩

theorem words_cons : ∀ (v : List Char) (r : List Char), (∀ c ∈ v, c ≠ Char.ofNat 32) → wordsSigns (v ++ Char.ofNat 32 :: r) = v :: wordsSigns r
  | [], r, _ => rfl
  | c :: v, r, h => by
    have ih := words_cons v r (fun x hx => h x (by simp [hx]))
    have hc : c ≠ Char.ofNat 32 := h c (by simp)
    show wordsSigns (c :: (v ++ Char.ofNat 32 :: r)) = _
    rw [wordsSigns.eq_3 _ _ (fun e => hc e), ih]

def w0 : List Nat := [104, 97, 114, 110, 101, 115, 115]

def w1 : List Nat := [56, 56, 53, 102, 55, 102, 51, 101, 50, 98, 52, 101, 48, 97, 100, 50, 102, 54, 102, 54, 53, 49, 51, 98, 102, 100, 53, 48, 98, 57, 54, 99, 57, 54, 56, 54, 48, 54, 50, 54, 48, 49, 98, 99, 48, 48, 51, 98, 56, 53, 48, 98, 51, 54, 100, 102, 97, 98, 49, 51, 53, 102, 97, 101]

def w2 : List Nat := [99, 117, 116]

def w3 : List Nat := [97, 116, 32, 108, 111, 111, 112, 46, 101, 120, 97, 109, 112, 108, 101, 47, 103, 48, 49, 50, 50, 52, 47, 108, 97, 119, 115, 46, 70, 110, 69, 120, 97, 99, 116, 67, 111, 108, 108, 105, 100, 101, 80, 97, 105, 114, 115, 32, 108, 111, 111, 112, 46, 101, 120, 97, 109, 112, 108, 101, 47, 103, 48, 49, 50, 50, 52, 47, 108, 97, 119, 115, 46, 70, 110, 78, 117, 99, 108, 101, 105, 32, 108, 111, 111, 112, 46, 101, 120, 97, 109, 112, 108, 101, 47, 103, 48, 49, 50, 50, 52, 47, 108, 97, 119, 115, 46, 70, 110, 66, 114, 111, 107, 101, 110, 32, 108, 111, 111, 112, 46, 101, 120, 97, 109, 112, 108, 101, 47, 103, 48, 49, 50, 50, 52, 47, 108, 97, 119, 115, 46, 70, 110, 70, 97, 108, 108, 115]

def letters (l : List Nat) : List Char := l.map Char.ofNat

theorem head_reads : Try.prog.initOrder = String.ofList (letters w0 ++ Char.ofNat 32 :: (letters w1 ++ Char.ofNat 32 :: (letters w2 ++ Char.ofNat 32 :: letters w3))) := by kernel_rfl

theorem no_blank {l : List Nat} (h : l.all (fun n => Char.ofNat n != Char.ofNat 32) = true) : ∀ c ∈ letters l, c ≠ Char.ofNat 32 := by
  intro c hc
  obtain ⟨n, hn, rfl⟩ := List.mem_map.1 hc
  have := List.all_eq_true.1 h n hn
  simpa using this

theorem h0 : letters w0 = "harness".toList := by kernel_rfl

theorem h2 : letters w2 = "cut".toList := by kernel_rfl

theorem sums : isSumSigns (letters w1) = true := by kernel_rfl

theorem words : wordsSigns Try.prog.initOrder.toList = "harness".toList :: letters w1 :: "cut".toList :: wordsSigns (letters w3) := by
  rw [head_reads, String.toList_ofList, words_cons _ _ (no_blank (by decide +kernel)), words_cons _ _ (no_blank (by decide +kernel)), words_cons _ _ (no_blank (by decide +kernel)), h0, h2]

theorem behind : ∃ r, behindMainWord (wordsSigns Try.prog.initOrder.toList) = "cut".toList :: r := by
  refine ⟨wordsSigns (letters w3), ?_⟩
  rw [words]
  generalize wordsSigns (letters w3) = r
  have hs := sums
  generalize letters w1 = v at hs
  unfold behindMainWord
  simp [hs]

theorem not_later : Try.prog.laysLater = false := by kernel_rfl

theorem no_reflect : Try.prog.bearsReflect = false := by kernel_rfl

theorem no_doors : Try.prog.doorFits [] = true := by kernel_rfl

theorem strips (r : List (List Char)) : stripLifts liftWords ("cut".toList :: r) = ([], "cut".toList :: r) := by kernel_rfl

theorem may_enter_of (P : Program) (r : List (List Char)) (h : behindMainWord (wordsSigns P.initOrder.toList) = "cut".toList :: r) (h1 : P.laysLater = false) (h2 : P.bearsReflect = false) (h3 : P.doorFits [] = true) : P.mayEnter = true := by
  unfold Program.mayEnter
  rw [h]
  dsimp only
  rw [strips, h1, h2, h3]
  kernel_rfl

theorem lifts_final_of (P : Program) (r : List (List Char)) (h : behindMainWord (wordsSigns P.initOrder.toList) = "cut".toList :: r) : P.liftsFinal = false := by
  unfold Program.liftsFinal Program.headLifts
  rw [h]
  dsimp only
  rw [strips]
  kernel_rfl

theorem made_of (P : Program) (r : List (List Char)) (h : behindMainWord (wordsSigns P.initOrder.toList) = "cut".toList :: r) : P.make = some .cut := by
  unfold Program.make
  rw [h]
  kernel_rfl

theorem may_enter : Try.prog.mayEnter = true := let ⟨r, h⟩ := behind; may_enter_of _ r h not_later no_reflect no_doors

theorem lifts_final : Try.prog.liftsFinal = false := let ⟨r, h⟩ := behind; lifts_final_of _ r h

theorem made : Try.prog.make = some .cut := let ⟨r, h⟩ := behind; made_of _ r h

theorem laid : laidOutB Try.prog = true := by kernel_rfl

theorem rowed : mapsRowed Try.prog = true := by kernel_rfl

theorem no_stops : Try.prog.stops = [] := by kernel_rfl

theorem no_knobs : Try.prog.stopKnobs = [] := by kernel_rfl

theorem plain_keys : Try.prog.plainKeys = false := by kernel_rfl

theorem stops_heard : Try.prog.stopsHeard = true := by kernel_rfl

theorem arr2 {α : Type} {cs : Array α} (h : cs.size = 2) : ∃ c0 c1, cs = #[c0, c1] := by
  obtain ⟨l⟩ := cs
  match l, h with
  | [a, b], _ => exact ⟨a, b, rfl⟩

theorem own : ownKnob Try.prog.godebug = none := by kernel_rfl

theorem cellsU8 : Try.prog.cellsOf 5 = 1 := by kernel_rfl

theorem rdy : Try.prog.readableRec 38 = true ∧ 38 < Try.prog.types.size := ⟨by kernel_rfl, of_decide_eq_true (by kernel_rfl)⟩
end Go.Proofs.Ytjcdfgcnnnaooaa

namespace Go.Proofs.Ytjcdfgcnnnaooaa.fnFalls
open Go.RowKit Go.Fl Go.ChangeShapes Go.WideShapes Go.ChangeAt

set_option maxHeartbeats 2000000 in
theorem closed : joinedFacts Try.prog 6 Try.f6 Rows.fnFallsSpec Rows.fnFallsRow = true := by
  unfold joinedFacts
  simp only [Bool.and_eq_true]
  exact ⟨⟨⟨⟨⟨⟨⟨⟨⟨⟨⟨⟨⟨⟨⟨⟨⟨⟨⟨⟨⟨⟨⟨⟨⟨⟨⟨⟨⟨⟨⟨(by as_aux_lemma => kernel_rfl),
    laid⟩,
    rowed⟩,
    (by as_aux_lemma => kernel_rfl)⟩,
    (by as_aux_lemma => kernel_rfl)⟩,
    (by as_aux_lemma => kernel_rfl)⟩,
    (by rw [no_stops]; rfl)⟩,
    (by as_aux_lemma => kernel_rfl)⟩,
    (by rw [no_knobs]; rfl)⟩,
    (by as_aux_lemma => kernel_rfl)⟩,
    (by as_aux_lemma => kernel_rfl)⟩,
    (by as_aux_lemma => kernel_rfl)⟩,
    (by as_aux_lemma => kernel_rfl)⟩,
    (by as_aux_lemma => kernel_rfl)⟩,
    (by as_aux_lemma => kernel_rfl)⟩,
    (by as_aux_lemma => kernel_rfl)⟩,
    (by as_aux_lemma => kernel_rfl)⟩,
    (by as_aux_lemma => kernel_rfl)⟩,
    (by as_aux_lemma => kernel_rfl)⟩,
    (by as_aux_lemma => kernel_rfl)⟩,
    (by as_aux_lemma => kernel_rfl)⟩,
    (by as_aux_lemma => kernel_rfl)⟩,
    (show (Rows.fnFallsRow.plainKeys == Try.prog.plainKeys) = true by rw [plain_keys]; rfl)⟩,
    (by as_aux_lemma => kernel_rfl)⟩,
    stops_heard⟩,
    may_enter⟩,
    (show (Rows.fnFallsRow.lifted == Try.prog.liftsFinal) = true by rw [lifts_final]; rfl)⟩,
    (show (Try.prog.make == some Rows.fnFallsRow.make) = true by rw [made]; rfl)⟩,
    (by as_aux_lemma => kernel_rfl)⟩,
    (by as_aux_lemma => kernel_rfl)⟩,
    (by as_aux_lemma => kernel_rfl)⟩,
    (by as_aux_lemma => kernel_rfl)⟩

set_option maxRecDepth 100000 in
theorem lifted (os : Os) (started : os.Started) (H : Type) (enc : TypeId × Value → H) :
    ReturnsInHanded {} Try.checked os 6 .any (Rows.fnFallsSpec.pre6 enc Try.prog Try.f6 Rows.fnFallsRow.domain false) (Rows.fnFallsSpec.post enc Try.prog Try.f6 false true false false) := by
  refine LawFrame.lifted (C := Try.checked) (fn := Try.f6) (n := 2) (tb := 4) started own (by kernel_rfl) Try.func6 laid ?_ rfl rfl ?_ rfl Try.underlying4
    (ChangeSpec.witness6 (enc := enc) (C := Try.checked) false ⟨#[], #[.slice none 0 0, .slice none 0 0], []⟩ 8 (by kernel_rfl) (by kernel_rfl) (by kernel_rfl) (by kernel_rfl)) ?_
  · intro t ht
    simp only [Try.params6, List.mem_cons, List.not_mem_nil, or_false] at ht
    rcases ht with rfl | rfl <;> first | exact rdy
  · intro ds hd
    match ds, hd with
    | [_, _], _ => rfl
  · intro W base args ds ps hval hn hT
    obtain ⟨v0, v1, rfl⟩ : ∃ v0 v1, args = #[v0, v1] := arr2 hn
    simp only [Try.params6] at hT
    obtain ⟨d0, p0, t0⟩ := trodAll_head hT
    obtain ⟨n0, x0, R0, M0, X0⟩ := open_u8s Try.underlying38 Try.underlying5 cellsU8 t0 (open_sl Try.underlying38 (hval 0 38 v0 rfl rfl))
    obtain ⟨ds0, ps0, T0⟩ := trodAll_tail hT
    obtain ⟨d1, p1, t1⟩ := trodAll_head T0
    obtain ⟨n1, x1, R1, M1, X1⟩ := open_u8s Try.underlying38 Try.underlying5 cellsU8 t1 (open_sl Try.underlying38 (hval 1 38 v1 rfl rfl))
    exact coreFalls v0 v1 n0 n1 x0 x1 W R0 R1 X0 X1

theorem over : Rows.fnFallsRow.holds Try.pinned (OpenSpec.ofChange Rows.fnFallsSpec) :=
  OpenClaim.holds_of_wide 6 Try.f6 rfl rfl rfl rfl rfl rfl rfl ⟨rfl, rfl, rfl, rfl, rfl⟩ rfl rfl rfl rfl rfl (by kernel_rfl) Try.func6 closed
    (of_decide_eq_true (by kernel_rfl)) (by unfold Func.isWrapper; rw [if_neg (by decide +kernel)]; exact ⟨rfl, rfl⟩)
    (fun os started H enc _ => lifted os started H enc)

theorem proved : Rows.FnFallsSaid := over
#print axioms proved
end Go.Proofs.Ytjcdfgcnnnaooaa.fnFalls
