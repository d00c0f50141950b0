import Derived.Test.YtjcdfgcnnnaooaaDoorEKernelText
import Derived.Test.YtjcdfgcnnnaooaaDoorChecked
import Derived.Test.YtjcdfgcnnnaooaaDoorRows
import Derived.Test.YtjcdfgcnnnaooaaDoorCards
import Derived.Test.YtjcdfgcnnnaooaaDoorTie
import Derived.Laws.FloatArith
import Derived.ProofKit
import Derived.WalkKit
import Derived.WalkLawsBesides
import Derived.WalkSpells
import Derived.Deep.RegionHeld3
import Derived.ChangeKeysEq
import Derived.Laws.BitsAllLaws
import Derived.Deep.MidRow
import Derived.Deep.WholeRow
import Derived.StillTailTactics
import Derived.Deep.Slices
import Derived.ChangeSame
import Derived.OrdersIn
import Derived.ControlIn
import Derived.RangeFuncSeq
import Derived.RangeFuncNested
import Derived.ArgAppend
import Derived.OwnWalkIn
import Derived.TacticsInMore
import Derived.Below
import Derived.Laws.AppendOwn
import Derived.Laws.ComplexArith
import Derived.Deep.Strs
import Derived.Laws.IdiomStrings
import Derived.Laws.Bits64b
import Derived.Deep.QuietTactic
import Derived.BigQuiet
import Derived.OpenShut
import Derived.Stop.LaidErr
import Derived.LaidMore
import Derived.Handed
import Derived.LaidHandle
import Derived.Stop.Joined
import Derived.MakeChecks
import Derived.Lib.LaidTab
import Derived.StillTail
import Derived.Shelf.Strings.OnBuilder
import Derived.Lib.Join
import Derived.Shelf.Strings.BuilderK
import Derived.SevenTiedAt
/- The tied card of FnExactKernelText. -/
namespace Go.Proofs.YtjcdfgcnnnaooaaDoor
open Go.RowKit Go.Fl

@[go_sem] theorem ext_f64bits (y : Nat) (w : World) : (callFunc 114 #[.float .f64 y]).run Tryd.prog w = .ok (.value (.int .u64 y)) w := by
  rw [run_callFunc_extern Tryd.func114 (by kernel_rfl) (by kernel_rfl) (by kernel_rfl) (e := Extern.MathFloatBits.float64bits) (by kernel_rfl)]
  rfl

@[go_sem] theorem ext_f64from (n : Int) (w : World) : (callFunc 140 #[.int .u64 n]).run Tryd.prog w = .ok (.value (.float .f64 n.toNat)) w := by
  rw [run_callFunc_extern Tryd.func140 (by kernel_rfl) (by kernel_rfl) (by kernel_rfl) (e := Extern.MathFloatBits.float64frombits) (by kernel_rfl)]
  rfl

theorem hid {p : Prop} (h : p) : Hid p := h

theorem clear_sign (y : Nat) (h : y < 18446744073709551616) : (bits BinOp.andNot IntKind.u64 (y : Int) 9223372036854775808).toNat = y % 9223372036854775808 := by
  rw [u64_andNot _ _ (by omega) (by omega) (by omega) (by omega)]
  rw [Int.toNat_natCast, Int.toNat_natCast]
  exact Nat.and_two_pow_sub_one_eq_mod y 63

theorem abs_f64 (y : Nat) (h : y < 18446744073709551616) (w : World) :
    Calls Tryd.prog 131 #[.float .f64 y] w fun e w' => e = .returned (.float .f64 (y % 9223372036854775808)) ∧ w = w' := by
  have hc := hid (clear_sign y h)
  clear h
  go_enter Tryd.func131, Tryd.ntmps131
  go_wp2
  go_ret
  exact ⟨by simp [hc.out], rfl⟩

theorem isNaN_f64 (y : Nat) (w : World) :
    Calls Tryd.prog 74 #[.float .f64 y] w fun e w' => e = .returned (.bool (FloatKind.f64.format.order y y != some .eq)) ∧ w = w' := by
  go_enter Tryd.func74, Tryd.ntmps74
  go_wp2
  go_ret
  exact ⟨rfl, rfl⟩

theorem isInf_f64 (y : Nat) (h : y < 18446744073709551616) (w : World) :
    Calls Tryd.prog 113 #[.float .f64 y, .int .i64 0] w fun e w' => e = .returned (.bool (FloatKind.f64.format.order (y % 9223372036854775808) 9218868437227405311 == some .gt)) ∧ w = w' := by
  have hc := hid h
  clear h
  go_enter Tryd.func113, Tryd.ntmps113
  go_wp2_with (go_at_call 131; refine (abs_f64 y hc.out _).mono ?_; rintro e w' ⟨rfl, rfl⟩)
  go_ret
  exact ⟨rfl, rfl⟩

theorem isFinite_t (x : Nat) (hx : x < 4294967296) (h : finB x = true) (w : World) :
    Calls Tryd.prog 85 #[.float .f32 x] w fun e w' => e = .returned (.bool true) ∧ w = w' := by
  rw [finB_iff] at h
  have hc := fun w => run_conv_wid (P := Tryd.prog) w 22 28 x hx Tryd.underlying22 Tryd.underlying28 h
  obtain ⟨a, b, m, e, hr⟩ := read_wid_fin hx h
  have hn : (FloatKind.f64.format.order (wid x) (wid x) != some .eq) = false := by
    show (D.order (wid x) (wid x) != some .eq) = false
    rw [order_self hr]; rfl
  have hi : (FloatKind.f64.format.order (wid x % 9223372036854775808) 9218868437227405311 == some .gt) = false := by
    show (D.order (wid x % 9223372036854775808) 9218868437227405311 == some .gt) = false
    rw [b, order_ltD a (by decide)]
    rw [DINF_val] at a
    have hle : wid (mg x) ≤ 9218868437227405311 := by omega
    rcases Nat.lt_or_eq_of_le hle with h' | h'
    · rw [Nat.compare_eq_lt.2 h']; rfl
    · rw [Nat.compare_eq_eq.2 h']; rfl
  have hw : wid x < 18446744073709551616 := D.write_lt _
  have Hn := hid hn
  have Hi := hid hi
  have Hw := hid hw
  clear hn hi hw hr a b h hx
  go_enter Tryd.func85, Tryd.ntmps85
  go_wp2_with (first | (go_at_call 74; refine (isNaN_f64 (wid x) _).mono ?_; rintro e w' ⟨rfl, rfl⟩; rw [Hn.out]) | (go_at_call 113; refine (isInf_f64 (wid x) Hw.out _).mono ?_; rintro e w' ⟨rfl, rfl⟩; rw [Hi.out]))
  go_ret
  exact ⟨rfl, rfl⟩

theorem isFinite_f (x : Nat) (hx : x < 4294967296) (h : finB x = false) (w : World) :
    Calls Tryd.prog 85 #[.float .f32 x] w fun e w' => e = .returned (.bool false) ∧ Below w.heap.size w w' := by
  rw [finB_iff'] at h
  rcases Nat.lt_or_eq_of_le h with h | h
  · obtain ⟨z, hc, h1, _⟩ := run_conv_nan (P := Tryd.prog) w 22 28 x Tryd.underlying22 Tryd.underlying28 h
    obtain ⟨s, t, hr⟩ := read_nanD h1
    have Hn := hid (show (FloatKind.f64.format.order z z != some .eq) = true by
      show (D.order z z != some .eq) = true
      rw [order_nan hr]; rfl)
    clear h h1 hr hx
    go_enter Tryd.func85, Tryd.ntmps85
    go_wp2_with (go_at_call 74; refine (isNaN_f64 z _).mono ?_; rintro e w' ⟨rfl, rfl⟩; rw [Hn.out])
    go_ret
    exact ⟨rfl, (Below.refl _ _).drew⟩
  · obtain ⟨z, hc, h1, h2⟩ := run_conv_inf (P := Tryd.prog) w 22 28 x hx Tryd.underlying22 Tryd.underlying28 h.symm
    have hr : D.read z = .infinity (decide (9223372036854775808 ≤ z)) := by rw [read_signD h2, h1, read_DINF]
    have Hn := hid (show (FloatKind.f64.format.order z z != some .eq) = false by
      show (D.order z z != some .eq) = false
      rw [order_inf hr]; rfl)
    have Hi := hid (show (FloatKind.f64.format.order (z % 9223372036854775808) 9218868437227405311 == some .gt) = true by
      rw [h1]; decide)
    have H2 := hid h2
    clear h h1 hr hx h2
    go_enter Tryd.func85, Tryd.ntmps85
    go_wp2_with (first | (go_at_call 74; refine (isNaN_f64 z _).mono ?_; rintro e w' ⟨rfl, rfl⟩; rw [Hn.out]) | (go_at_call 113; refine (isInf_f64 z H2.out _).mono ?_; rintro e w' ⟨rfl, rfl⟩; rw [Hi.out]))
    go_ret
    exact ⟨rfl, Below.refl _ _⟩

theorem signbit_f64 (y : Nat) (w : World) :
    Calls Tryd.prog 86 #[.float .f64 y] w fun e w' => e = .returned (.bool (decide (wrap64 (y : Int) < 0))) ∧ w = w' := by
  go_enter Tryd.func86, Tryd.ntmps86
  go_wp2
  go_ret
  exact ⟨rfl, rfl⟩

theorem and_sign (y : Nat) (h : y < 18446744073709551616) : (decide (wrap64 (y : Int) < 0)) = decide (9223372036854775808 ≤ y) := by
  unfold wrap64
  by_cases h' : 9223372036854775808 ≤ y
  · rw [decide_eq_true h']; simp; omega
  · rw [decide_eq_false h']; simp; omega

theorem isAmount_t (x : Nat) (h : amtB x = true) (w : World) :
    Calls Tryd.prog 53 #[.float .f32 x] w fun e w' => e = .returned (.bool true) ∧ w = w' := by
  have hf := amt_fin h
  rw [amtB_iff, INF_val] at h
  have hx : x < 4294967296 := by omega
  have hc := fun w => run_conv_wid (P := Tryd.prog) w 22 28 x hx Tryd.underlying22 Tryd.underlying28 (finB_iff.1 hf)
  have hw : wid x < 18446744073709551616 := D.write_lt _
  have Hs := hid (show (decide (wrap64 (wid x : Int) < 0)) = false by
    rw [and_sign _ hw]
    have := (wid_val (x := x) (by rw [INF_val]; omega)).1
    rw [DINF_val] at this
    simp; omega)
  have Hx := hid hx
  have Hf := hid hf
  clear h hf hx hw
  go_enter Tryd.func53, Tryd.ntmps53
  go_wp2_with (first | (go_at_call 85; refine (isFinite_t x Hx.out Hf.out _).mono ?_; rintro e w' ⟨rfl, rfl⟩) | (go_at_call 86; refine (signbit_f64 (wid x) _).mono ?_; rintro e w' ⟨rfl, rfl⟩; rw [Hs.out]))
  go_ret
  exact ⟨rfl, rfl⟩

theorem isAmount_f (x : Nat) (hx : x < 4294967296) (h : amtB x = false) (w : World) :
    Calls Tryd.prog 53 #[.float .f32 x] w fun e w' => e = .returned (.bool false) ∧ Below w.heap.size w w' := by
  rcases hf : finB x with _ | _
  · have Hx := hid hx
    have Hf := hid hf
    clear h hf hx
    go_enter Tryd.func53, Tryd.ntmps53
    go_wp2_with (go_at_call 85; refine (isFinite_f x Hx.out Hf.out _).mono ?_; rintro e w' ⟨rfl, hb⟩)
    go_ret
    exact ⟨rfl, hb⟩
  · have hc := fun w => run_conv_wid (P := Tryd.prog) w 22 28 x hx Tryd.underlying22 Tryd.underlying28 (finB_iff.1 hf)
    have hw : wid x < 18446744073709551616 := D.write_lt _
    have Hs := hid (show (decide (wrap64 (wid x : Int) < 0)) = true by
      rw [and_sign _ hw, wid_fin hx (finB_iff.1 hf)]
      rw [amtB_iff', INF_val] at h
      rw [finB_iff, INF_val] at hf
      unfold mg at hf ⊢
      rw [if_pos (by omega)]
      simp)
    have Hx := hid hx
    have Hf := hid hf
    clear h hf hx hw
    go_enter Tryd.func53, Tryd.ntmps53
    go_wp2_with (first | (go_at_call 85; refine (isFinite_t x Hx.out Hf.out _).mono ?_; rintro e w' ⟨rfl, rfl⟩) | (go_at_call 86; refine (signbit_f64 (wid x) _).mono ?_; rintro e w' ⟨rfl, rfl⟩; rw [Hs.out]))
    go_ret
    exact ⟨rfl, Below.refl _ _⟩

/-- The table of trailing zeros where the base asks it. -/
def Tab64 (w : World) : Prop := w.cell? ⟨6, 15, none⟩ = some (.int .u8 4)

theorem Tab64.stay {w w' : World} (h : Tab64 w) (hb : Below w.heap.size w w') : Tab64 w' := by
  unfold Tab64 at *
  rw [hb.cell (block_lt_of_cell h)]; exact h

set_option maxRecDepth 100000 in
set_option maxHeartbeats 1000000 in
theorem iZeros16 (w : World) (h : Tab64 w) : Calls Tryd.prog 122 #[.int .u64 16] w fun e w' => e = .returned (.int .i64 4) ∧ w' = w := by
  have c0 : w.cell? ⟨6, 15, none⟩ = some (.int .u8 4) := h
  have hq : IntKind.u64.wrap (bits BinOp.and IntKind.u64 16 (IntKind.u64.wrap (-16)) * 285870213051353865) / 288230376151711744 = 15 := by decide
  clear h
  go_enter Tryd.func122, Tryd.ntmps122
  go_wp2
  go_ret
  exact ⟨rfl, rfl⟩

theorem hx_bits (u : Nat) (h : u < 18446744073709551616) : bits BinOp.and IntKind.u64 (u : Int) 15 = ((u % 16 : Nat) : Int) := by
  rw [show (15 : Int) = ((15 : Nat) : Int) from rfl, bits_and_u64_nat u 15 h (by decide), Nat.and_two_pow_sub_one_eq_mod u 4]

theorem zero65 : Tryd.zeroCells158 = vls 65 (fun _ => .int .u8 0) := by rfl

theorem info_u8 : (Tryd.prog.info? 5).map (·.size) = some 1 := by kernel_rfl

theorem ix36 (d : Nat) (h : d < 16) (w : World) : (Instr.index 9 (.string ⟨#[48, 49, 50, 51, 52, 53, 54, 55, 56, 57, 97, 98, 99, 100, 101, 102, 103, 104, 105, 106, 107, 108, 109, 110, 111, 112, 113, 114, 115, 116, 117, 118, 119, 120, 121, 122]⟩) (.int .u64 (d : Int))).run Tryd.prog w = .ok (.int .u8 (hexN d : Int)) w :=
  index_hex .u64 Tryd.underlying9 (by decide) (by decide) d h w

set_option maxRecDepth 100000 in
set_option maxHeartbeats 1000000 in
theorem iPow16 (w : World) : Calls Tryd.prog 121 #[.int .i64 16] w fun e w' => e = .returned (.bool true) ∧ w' = w := by
  have hb : bits BinOp.and IntKind.i64 16 15 = 0 := by decide
  go_enter Tryd.func121, Tryd.ntmps121
  go_wp2
  go_ret
  exact ⟨rfl, rfl⟩

theorem hx_cv {n t m : Nat} {w w2 : World} (k2 : Kept w [(w.heap.size, vls 65 (hxW n 65 (t + 1)), 158)] w2) (h : m + (t + 1) = 65) :
    (convert 95 9 (.slice (some ⟨w.heap.size, m, none⟩) (t + 1) (t + 1))).run Tryd.prog w2 = .ok (.string ⟨(hexL n (t + 1)).toArray⟩) w2 := by
  have h1 := run_convert_bytes_back (P := Tryd.prog) w2 95 9 5 ⟨w.heap.size, m, none⟩ (t + 1) (hexL n (t + 1)) Tryd.underlying95 Tryd.underlying5 Tryd.underlying9 (fun j hj => by
    rw [hexL_length] at hj
    rw [Addr.add_mid, ← hxW_read n 65 (k := t + 1) (i := j) (by omega) hj, show 65 - (t + 1) + j = m + j by omega]
    exact (k2.v in0).cell (by omega))
  rwa [hexL_length] at h1

set_option maxRecDepth 100000 in
set_option maxHeartbeats 1000000 in
theorem iFormatBits (n : Nat) (hn : n < 4294967296) (w : World) (ht : Tab64 w) :
    Calls Tryd.prog 98 #[.slice none 0 0, .int .u64 (n : Int), .int .i64 16, .bool false, .bool false] w fun e w' =>
      (∃ k, 1 ≤ k ∧ k ≤ 8 ∧ n < 16 ^ k ∧ e = .returned (.tuple #[.slice none 0 0, .string ⟨(hexL n k).toArray⟩])) ∧ Below w.heap.size w w' := by
  have hT := hid (ht.stay ((Below.refl w.heap.size w).alloc (Nat.le_refl _) (.cells (vls 65 (fun _ => .int .u8 0)) 158)))
  have HN := hid hn
  clear ht hn
  have k0 := hid ((Kept.nil w).push (vls 65 fun _ => .int .u8 0) 158)
  go_enter Tryd.func98, Tryd.ntmps98
  go_wp2_with fail
  rw [zero65]
  refine (iPow16 _).mono ?_
  rintro e w1 ⟨rfl, rfl⟩
  go_wp2_with fail
  refine (iZeros16 _ hT.out).mono ?_
  rintro e w1 ⟨rfl, rfl⟩
  clear hT
  go_wp2_with fail
  have k1 : Hid (Kept w [(w.heap.size, vls 65 (hxW n 65 0), 158)] (w.alloc (.cells (vls 65 (fun _ => .int .u8 0)) 158))) := hid (k0.out.ext (fun i hi => (hxW_zero n 65 hi).symm))
  clear k0
  go_loopw [1, 13] (fun v i wr => ∃ t u j : Nat, t ≤ 7 ∧ j + t = 65 ∧ v = .int .u64 (u : Int) ∧ i = .int .i64 (j : Int) ∧ Hid (u = n / 16 ^ t) ∧ Hid (Kept w [(w.heap.size, vls 65 (hxW n 65 t), 158)] wr)) (fun v _ _ => (intOf v).toNat)
  case atStart => exact ⟨0, n, 65, by omega, rfl, rfl, rfl, hid (by simp), k1⟩
  case round =>
    clear k1
    obtain ⟨t, u, j, ht, hj, rfl, rfl, hu, h1⟩ := hrel
    obtain ⟨m, rfl⟩ : ∃ m, j = m + 1 := ⟨j - 1, by omega⟩
    have hm3 : (m : Int) < 65 := by omega
    have hm4 : wrap64 (m : Int) = (m : Int) := by unfold wrap64; omega
    by_cases hge : 16 ≤ u
    · have hg3 : (16 : Int) ≤ (u : Int) := by omega
      have hu64 : u < 18446744073709551616 := by
        have h1 := hu.out
        have h2 := HN.out
        have h3 := Nat.div_le_self n (16 ^ t)
        omega
      obtain ⟨d, hd⟩ : ∃ d, d = u % 16 := ⟨_, rfl⟩
      have hb : bits BinOp.and IntKind.u64 (u : Int) 15 = (d : Int) := by rw [hd]; exact hx_bits u hu64
      have hix := ix36 d (by rw [hd]; exact Nat.mod_lt _ (by decide))
      have HD := hid hd
      have HT := hid ht
      have HJ := hid hj
      have HG := hid hge
      have tok1 : True := trivial
      clear hge ht hj hu64 hd
      go_wp2_with (have _t := tok1; refine store_one (by rfl) 5 _ _ (by rfl) info_u8 (w.heap.size) m (.int .u8 (hexN d : Int)) (by rfl) (by rfl) rfl rfl h1.out (by omega) (by omega) ne0 ?_; intro w2 k2; rw [HD.out] at k2; replace k2 := hid (k2.ext (hx_st hu.out (by have := HJ.out; omega))); clear h1 tok1)
      go_roundw
      case rel => exact ⟨t + 1, u / 16, m, by have := hx_more HN.out (by rw [← hu.out]; exact HG.out); omega, by have := HJ.out; omega, by go_num, by go_num, hid (by rw [hu.out, hx_next]), k2⟩
      case measure => have := HG.out; simp [intOf]; omega
    · have hg3 : ¬ (16 : Int) ≤ (u : Int) := by omega
      have hix := ix36 u (by omega)
      have HJ := hid hj
      have hx2 : Hid (u < 16) := hid (by omega)
      have hk1 : m + (t + 1) = 65 := by omega
      have HT := hid ht
      have hal : Tryd.prog.arrayLen 158 = 65 := by kernel_rfl
      have hsl : ∀ W, (Instr.sliceAt 158 (.pointer (some ⟨w.heap.size, 0, none⟩)) (some (.int .i64 (m : Int))) none none).run Tryd.prog W = .ok (.slice (some ⟨w.heap.size, m, none⟩) (t + 1) (t + 1)) W := fun W => by
        rw [run_sliceAt_array_l W 158 ⟨w.heap.size, 0, none⟩ Tryd.underlying158 .i64 (m : Int) (by omega) (by rw [hal]; omega)]
        go_simp
        omega
      have tok1 : True := trivial
      have HK1 := hid hk1
      clear hge hj hk1 ht
      go_wp2_with (have _t := tok1; refine store_one (by rfl) 5 _ _ (by rfl) info_u8 (w.heap.size) m (.int .u8 (hexN u : Int)) (by rfl) (by rfl) rfl rfl h1.out (by omega) (by omega) ne0 ?_; intro w2 k2; replace k2 := hid (k2.ext (hx_st' hu.out hx2.out (by have := HJ.out; omega))); have hcv := hx_cv k2.out HK1.out; clear h1 tok1)
      go_ret2
      exact ⟨⟨t + 1, by omega, by have := HT.out; omega, hx_last (by rw [← hu.out]; exact hx2.out), rfl⟩, k2.out.1⟩

theorem wrU {c : Nat} (h : c < 1000) : IntKind.u64.wrap (c : Int) = (c : Int) := by rw [IntKind.wrap_u64]; omega

theorem and32 {c : Nat} (h : c < 1000) : bits BinOp.and IntKind.u64 (c : Int) 4294967295 = (c : Int) := by
  rw [show (4294967295 : Int) = ((4294967295 : Nat) : Int) from rfl, bits_and_u64_nat c _ (by omega) (by decide), Nat.and_two_pow_sub_one_eq_mod c 32]
  congr 1
  omega

set_option maxRecDepth 100000 in
set_option maxHeartbeats 1000000 in
theorem iMul1 (c : Nat) (hc : c < 1000) (w : World) : Calls Tryd.prog 100 #[.int .u64 1, .int .u64 (c : Int)] w fun e w' => e = .returned (.tuple #[.int .u64 0, .int .u64 (c : Int)]) ∧ w' = w := by
  have h1 : bits BinOp.and IntKind.u64 1 4294967295 = 1 := and32 (c := 1) (by omega)
  have h2 := and32 hc
  have h3 : (c : Int) / 4294967296 = 0 := by omega
  have h4 := wrU hc
  have h5 : bits BinOp.and IntKind.u64 0 4294967295 = 0 := and32 (c := 0) (by omega)
  clear hc
  go_enter Tryd.func100, Tryd.ntmps100
  go_wp2
  go_ret2
  exact ⟨rfl, rfl⟩

set_option maxRecDepth 100000 in
set_option maxHeartbeats 1000000 in
theorem iMul2 (c : Nat) (hc : c < 1000) (w : World) : Calls Tryd.prog 76 #[.int .u64 1, .int .u64 (c : Int)] w fun e w' => e = .returned (.tuple #[.int .u64 0, .int .u64 (c : Int)]) ∧ w' = w := by
  have HC := hid hc
  clear hc
  go_enter Tryd.func76, Tryd.ntmps76
  go_wp2_with fail
  refine (iMul1 c HC.out _).mono ?_
  rintro e w1 ⟨rfl, rfl⟩
  go_wp2
  go_ret2
  exact ⟨rfl, rfl⟩

set_option maxRecDepth 100000 in
set_option maxHeartbeats 1000000 in
theorem iHasPre (s : ByteArray) (h : 1 ≤ s.size) (b : Bool) (hb : ((s.extract 0 1).toList == [48]) = b) (w : World) : Calls Tryd.prog 101 #[.string s, .string ⟨#[48]⟩] w fun e w' => e = .returned (.bool b) ∧ w' = w := by
  have h1 : (1 : Int) ≤ (s.size : Int) := by omega
  go_enter Tryd.func101, Tryd.ntmps101
  go_wp2
  go_ret
  exact ⟨rfl, rfl⟩

set_option maxRecDepth 100000 in
set_option maxHeartbeats 1000000 in
theorem iHasPre2 (s : ByteArray) (h : 1 ≤ s.size) (b : Bool) (hb : ((s.extract 0 1).toList == [48]) = b) (w : World) : Calls Tryd.prog 77 #[.string s, .string ⟨#[48]⟩] w fun e w' => e = .returned (.bool b) ∧ w' = w := by
  have H := hid h
  have HB := hid hb
  clear h hb
  go_enter Tryd.func77, Tryd.ntmps77
  go_wp2_with fail
  refine (iHasPre s H.out b HB.out _).mono ?_
  rintro e w1 ⟨rfl, rfl⟩
  go_wp2
  go_ret
  exact ⟨rfl, rfl⟩

set_option maxRecDepth 100000 in
set_option maxHeartbeats 1000000 in
theorem iRep0 (w : World) : Calls Tryd.prog 43 #[.string ⟨#[48]⟩, .int .i64 0] w fun e w' => e = .returned (.string ⟨#[]⟩) ∧ w' = w := by
  go_enter Tryd.func43, Tryd.ntmps43
  go_wp2
  go_ret
  exact ⟨rfl, rfl⟩

set_option maxRecDepth 100000 in
set_option maxHeartbeats 1000000 in
theorem iRep1 (w : World) : Calls Tryd.prog 43 #[.string ⟨#[48]⟩, .int .i64 1] w fun e w' => e = .returned (.string ⟨#[48]⟩) ∧ w' = w := by
  go_enter Tryd.func43, Tryd.ntmps43
  go_wp2
  go_ret
  exact ⟨rfl, rfl⟩

def zs64 : ByteArray := ⟨#[48, 48, 48, 48, 48, 48, 48, 48, 48, 48, 48, 48, 48, 48, 48, 48, 48, 48, 48, 48, 48, 48, 48, 48, 48, 48, 48, 48, 48, 48, 48, 48, 48, 48, 48, 48, 48, 48, 48, 48, 48, 48, 48, 48, 48, 48, 48, 48, 48, 48, 48, 48, 48, 48, 48, 48, 48, 48, 48, 48, 48, 48, 48, 48]⟩

theorem rep_cut (c : Nat) (h : c ≤ 7) : zs64.extract 0 c = ⟨(List.replicate c 48).toArray⟩ := by
  have : ∀ c, c < 8 → zs64.extract 0 c = ⟨(List.replicate c 48).toArray⟩ := by decide +kernel
  exact this c (by omega)

set_option maxRecDepth 100000 in
set_option maxHeartbeats 1000000 in
theorem iRepN (c : Nat) (h2 : 2 ≤ c) (h7 : c ≤ 7) (w : World) : Calls Tryd.prog 43 #[.string ⟨#[48]⟩, .int .i64 (c : Int)] w fun e w' => e = .returned (.string ⟨(List.replicate c 48).toArray⟩) ∧ w' = w := by
  have a0 : ¬ (c : Int) = 0 := by omega
  have a1 : ¬ (c : Int) = 1 := by omega
  have a2 : ¬ (c : Int) < 0 := by omega
  have a3 := wrU (c := c) (by omega)
  have a4 : ¬ (9223372036854775807 : Int) < (c : Int) := by omega
  have a5 : wrap64 (c : Int) = (c : Int) := by unfold wrap64; omega
  have a6 : (c : Int) ≤ 64 := by omega
  have hv : ((ByteArray.mk #[48])[0]'(by decide)).toNat = 48 := rfl
  have H2 := hid h2
  have H7 := hid h7
  clear h2 h7
  go_enter Tryd.func43, Tryd.ntmps43
  go_wp2_with fail
  refine (iMul2 c (by have := H7.out; omega) _).mono ?_
  rintro e w1 ⟨rfl, rfl⟩
  go_wp2_with fail
  refine (iHasPre2 _ (by decide +kernel) false (by decide +kernel) _).mono ?_
  rintro e w1 ⟨rfl, rfl⟩
  go_wp2_with fail
  refine (iHasPre2 _ (by decide +kernel) false (by decide +kernel) _).mono ?_
  rintro e w1 ⟨rfl, rfl⟩
  go_wp2_with fail
  refine (iHasPre2 _ (by decide +kernel) true (by decide +kernel) _).mono ?_
  rintro e w1 ⟨rfl, rfl⟩
  go_wp2_with fail
  go_ret
  exact ⟨congrArg (fun s => Ending.returned (Value.string s)) (rep_cut c H7.out), rfl⟩

theorem iRep (c : Nat) (h : c ≤ 7) (w : World) : Calls Tryd.prog 43 #[.string ⟨#[48]⟩, .int .i64 (c : Int)] w fun e w' => e = .returned (.string ⟨(List.replicate c 48).toArray⟩) ∧ w' = w := by
  rcases Nat.lt_or_ge c 2 with h1 | h1
  · rcases Nat.lt_or_ge c 1 with h2 | h2
    · obtain rfl : c = 0 := by omega
      exact iRep0 w
    · obtain rfl : c = 1 := by omega
      exact iRep1 w
  · exact iRepN c h1 h w

set_option maxRecDepth 100000 in
set_option maxHeartbeats 1000000 in
theorem iFormatUint (n : Nat) (hn : n < 4294967296) (w : World) (ht : Tab64 w) :
    Calls Tryd.prog 73 #[.int .u64 (n : Int), .int .i64 16] w fun e w' =>
      (∃ k, 1 ≤ k ∧ k ≤ 8 ∧ n < 16 ^ k ∧ e = .returned (.string ⟨(hexL n k).toArray⟩)) ∧ Below w.heap.size w w' := by
  have hT := hid ht
  have HN := hid hn
  clear ht hn
  go_enter Tryd.func73, Tryd.ntmps73
  go_wp2_with fail
  refine (iFormatBits n HN.out _ hT.out).mono ?_
  rintro e w1 ⟨⟨k, h1, h2, h3, rfl⟩, hb⟩
  have HB := hid hb
  have H3 := hid h3
  clear hb h3
  go_wp2
  go_ret
  exact ⟨⟨k, h1, h2, H3.out, rfl⟩, HB.out⟩

set_option maxRecDepth 100000 in
set_option maxHeartbeats 1000000 in
theorem iFormatUint2 (n : Nat) (hn : n < 4294967296) (w : World) (ht : Tab64 w) :
    Calls Tryd.prog 41 #[.int .u64 (n : Int), .int .i64 16] w fun e w' =>
      (∃ k, 1 ≤ k ∧ k ≤ 8 ∧ n < 16 ^ k ∧ e = .returned (.string ⟨(hexL n k).toArray⟩)) ∧ Below w.heap.size w w' := by
  have hT := hid ht
  have HN := hid hn
  clear ht hn
  go_enter Tryd.func41, Tryd.ntmps41
  go_wp2_with fail
  refine (iFormatUint n HN.out _ hT.out).mono ?_
  rintro e w1 ⟨⟨k, h1, h2, h3, rfl⟩, hb⟩
  have HB := hid hb
  have H3 := hid h3
  clear hb h3
  go_wp2
  go_ret
  exact ⟨⟨k, h1, h2, H3.out, rfl⟩, HB.out⟩

theorem info_f32 : ∃ i, Tryd.prog.info? 22 = some i ∧ i.size = 1 := by
  have h : (Tryd.prog.info? 22).map (·.size) = some 1 := by kernel_rfl
  cases hi : Tryd.prog.info? 22 with
  | none => rw [hi] at h; cases h
  | some i => rw [hi] at h; exact ⟨i, rfl, Option.some.inj h⟩

theorem ix (T : TypeId) (hT : Tryd.prog.underlying T = some (.array 20 22)) (c : Nat → Nat) (k : Nat) (hk : k < 20) (w : World) :
    (Instr.index T (.agg (fls c)) (.int .i64 (k : Int))).run Tryd.prog w = .ok (.float .f32 (c k)) w := by
  obtain ⟨i, h1, h2⟩ := info_f32
  exact run_index_arr hT Tryd.underlying22 rfl h1 h2 _ _ hk _ (fls_get c hk) w

theorem info_arr : (Tryd.prog.info? 32).map (·.size) = some 20 := by kernel_rfl

set_option maxRecDepth 100000 in
theorem validSizes_t (c : Nat → Nat) (h : ∀ i, i < 20 → amtB (c i) = true) (w : World) :
    Calls Tryd.prog 49 #[.agg (fls c)] w fun e w' => e = .returned (.bool true) ∧ Below w.heap.size w w' := by
  have H := hid h
  clear h
  go_enter Tryd.func49, Tryd.ntmps49
  go_wp2_with (refine wpList_load_row rfl 32 _ rfl w.heap.size rfl 32 (fls c) (0, 0) _ (heap_alloc_new _ _) Tryd.underlying32 rfl (by rw [fls_size]; exact info_arr) ?_)
  go_loop [6] (fun i => ∃ k : Nat, k ≤ 20 ∧ i = .int .i64 k) (fun i => 20 - (intOf i).toNat)
  case atStart => exact ⟨0, by omega, rfl⟩
  case round =>
    obtain ⟨k, hk, rfl⟩ := hrel
    by_cases hlt : k < 20
    · have hix := ix 32 Tryd.underlying32 c k hlt
      go_wp2_with (go_at_call 53; refine (isAmount_t (c k) (H.out k hlt) _).mono ?_; rintro e w' ⟨rfl, rfl⟩)
      go_round
      case rel => exact ⟨k + 1, by omega, by go_num⟩
      case measure => simp [intOf]; omega
    · go_wp2
      go_ret
      exact ⟨rfl, (Below.refl _ _).alloc (Nat.le_refl _) _⟩

@[go_sem] theorem ext_f32bits (y : Nat) (w : World) : (callFunc 75 #[.float .f32 y]).run Tryd.prog w = .ok (.value (.int .u32 y)) w := by
  rw [run_callFunc_extern Tryd.func75 (by kernel_rfl) (by kernel_rfl) (by kernel_rfl) (e := Extern.MathFloatBits.float32bits) (by kernel_rfl)]
  rfl

theorem sFinite_t (x : Nat) (hx : x < 4294967296) (h : finB x = true) (w : World) :
    Calls Tryd.prog 109 #[.float .f32 x] w fun e w' => e = .returned (.bool true) ∧ w = w' := by
  have hr := fun w => run_float_arith (P := Tryd.prog) w .sub 22 .f32 x x 0 (sub_self_fin hx h)
  clear h hx
  go_enter Tryd.func109, Tryd.ntmps109
  go_wp2
  go_ret
  exact ⟨rfl, rfl⟩

theorem sAmount_t (x : Nat) (h : amtB x = true) (w : World) :
    Calls Tryd.prog 82 #[.float .f32 x] w fun e w' => e = .returned (.bool true) ∧ w = w' := by
  have hf := amt_fin h
  have h' := amtB_iff.1 h
  have hx : x < 4294967296 := by rw [INF_val] at h'; omega
  have Hx := hid hx
  have Hf := hid hf
  by_cases h0 : x = 0
  · subst h0
    clear h hf h' hx
    go_enter Tryd.func82, Tryd.ntmps82
    go_wp2_with (go_at_call 109; refine (sFinite_t 0 Hx.out Hf.out _).mono ?_; rintro e w' ⟨rfl, rfl⟩)
    go_ret
    exact ⟨rfl, rfl⟩
  · have hg : (FloatKind.f32.format.order x 0 == some .gt) = true := by
      show (S.order x 0 == some .gt) = true
      rw [order_zero_pos h', Nat.compare_eq_gt.2 (by omega)]; rfl
    clear h hf h' hx h0
    go_enter Tryd.func82, Tryd.ntmps82
    go_wp2_with (go_at_call 109; refine (sFinite_t x Hx.out Hf.out _).mono ?_; rintro e w' ⟨rfl, rfl⟩)
    go_ret
    exact ⟨rfl, rfl⟩

set_option maxRecDepth 100000 in
theorem validSizes_f (c : Nat → Nat) (hb : ∀ i, i < 20 → c i < 4294967296) (h : ¬ ∀ i, i < 20 → amtB (c i) = true) (w : World) :
    Calls Tryd.prog 49 #[.agg (fls c)] w fun e w' => e = .returned (.bool false) ∧ Below w.heap.size w w' := by
  have H := hid h
  have HB := hid hb
  clear h hb
  go_enter Tryd.func49, Tryd.ntmps49
  go_wp2_with (refine wpList_load_row rfl 32 _ rfl w.heap.size rfl 32 (fls c) (0, 0) _ (heap_alloc_new _ _) Tryd.underlying32 rfl (by rw [fls_size]; exact info_arr) ?_)
  go_loop [6] (fun i => ∃ k : Nat, k ≤ 20 ∧ Hid (∀ i, i < k → amtB (c i) = true) ∧ i = .int .i64 k) (fun i => 20 - (intOf i).toNat)
  case atStart => exact ⟨0, by omega, hid (fun i hi => by omega), rfl⟩
  case round =>
    obtain ⟨k, hk, HK, rfl⟩ := hrel
    by_cases hlt : k < 20
    · have hix := ix 32 Tryd.underlying32 c k hlt
      rcases hac : amtB (c k) with _ | _
      · have HA := hid hac
        clear hac
        go_wp2_with (go_at_call 53; refine (isAmount_f (c k) (HB.out k hlt) HA.out _).mono ?_; rintro e w' ⟨rfl, hb⟩)
        go_ret
        exact ⟨rfl, (((Below.refl _ _).alloc (Nat.le_refl _) _).trans (hb.mono (by simp)))⟩
      · have HA := hid hac
        clear hac
        go_wp2_with (go_at_call 53; refine (isAmount_t (c k) HA.out _).mono ?_; rintro e w' ⟨rfl, rfl⟩)
        go_round
        case rel =>
          refine ⟨k + 1, by omega, hid (fun i hi => ?_), by go_num⟩
          by_cases e : i = k
          · subst e; exact HA.out
          · exact HK.out i (by omega)
        case measure => simp [intOf]; omega
    · have hk20 : k = 20 := by omega
      exact (H.out (fun i hi => HK.out i (by omega))).elim

theorem info_a20 : (Tryd.prog.info? 30).map (·.size) = some 20 := by kernel_rfl

theorem back {P : Program} {f : FuncId} {args : Array Value} {w : World} {v : Value} (h : Calls P f args w fun e w' => e = .returned v ∧ w = w') : Calls P f args w fun e w' => e = .returned v ∧ w' = w :=
  h.mono fun _ _ ⟨a, b⟩ => ⟨a, b.symm⟩

def Amts (c : Nat → Nat) : Prop := ∀ i, i < 20 → amtB (c i) = true

theorem iBits (x : Nat) (hx : x < 4294967296) (w : World) :
    Calls Tryd.prog 42 #[.float .f32 x] w fun e w' => e = .returned (.int .u32 (nb x : Int)) ∧ Below w.heap.size w w' := by
  have hnb : nb x = if nanB x = true then 2143289344 else x := rfl
  rcases hn : nanB x with _ | _
  · have hle : mg x ≤ INF := by simpa [nanB] using hn
    rw [hn] at hnb
    have Hnb := hid hnb
    rcases Nat.lt_or_eq_of_le hle with h | h
    · have hc := fun w => run_conv_wid (P := Tryd.prog) w 22 28 x hx Tryd.underlying22 Tryd.underlying28 h
      obtain ⟨_, _, m, e, hr⟩ := read_wid_fin hx h
      have Hn := hid (show (FloatKind.f64.format.order (wid x) (wid x) != some .eq) = false by
        show (D.order (wid x) (wid x) != some .eq) = false
        rw [order_self hr]; rfl)
      clear hnb hn hle h hr hx
      go_enter Tryd.func42, Tryd.ntmps42
      go_wp2_with (go_at_call 74; refine (isNaN_f64 (wid x) _).mono ?_; rintro e w' ⟨rfl, rfl⟩; rw [Hn.out])
      go_ret
      exact ⟨by rw [Hnb.out]; simp, Below.refl _ _⟩
    · obtain ⟨z, hc, h1, h2⟩ := run_conv_inf (P := Tryd.prog) w 22 28 x hx Tryd.underlying22 Tryd.underlying28 h
      have hr : D.read z = .infinity (decide (9223372036854775808 ≤ z)) := by rw [read_signD h2, h1, read_DINF]
      have Hn := hid (show (FloatKind.f64.format.order z z != some .eq) = false by
        show (D.order z z != some .eq) = false
        rw [order_inf hr]; rfl)
      clear hnb hn hle h hr hx h1 h2
      go_enter Tryd.func42, Tryd.ntmps42
      go_wp2_with (go_at_call 74; refine (isNaN_f64 z _).mono ?_; rintro e w' ⟨rfl, rfl⟩; rw [Hn.out])
      go_ret
      exact ⟨by rw [Hnb.out]; simp, Below.refl _ _⟩
  · have h : INF < mg x := by simpa [nanB] using hn
    rw [hn] at hnb
    have Hnb := hid hnb
    obtain ⟨z, hc, h1, _⟩ := run_conv_nan (P := Tryd.prog) w 22 28 x Tryd.underlying22 Tryd.underlying28 h
    obtain ⟨s, t, hr⟩ := read_nanD h1
    have Hn := hid (show (FloatKind.f64.format.order z z != some .eq) = true by
      show (D.order z z != some .eq) = true
      rw [order_nan hr]; rfl)
    clear hnb hn h hr hx h1
    go_enter Tryd.func42, Tryd.ntmps42
    go_wp2_with (go_at_call 74; refine (isNaN_f64 z _).mono ?_; rintro e w' ⟨rfl, rfl⟩; rw [Hn.out])
    go_ret
    exact ⟨by rw [Hnb.out]; simp, (Below.refl _ _).drew⟩

theorem nb_lt {x : Nat} (h : x < 4294967296) : nb x < 4294967296 := by
  unfold nb; split
  · decide
  · exact h

theorem hex8 {n k : Nat} (h2 : k ≤ 8) (h3 : n < 16 ^ k) : List.replicate (8 - k) 48 ++ hexL n k = hexL n 8 := by
  have := hexL_zeros k n (8 - k) h3
  rw [show k + (8 - k) = 8 by omega] at this
  exact this.symm

/-- The text of a number. -/
def txN (x : Nat) : ByteArray := ⟨(hexL (nb x) 8).toArray⟩

theorem cat_hex {n k : Nat} (h2 : k ≤ 8) (h3 : n < 16 ^ k) : (⟨(List.replicate (8 - k) 48).toArray⟩ ++ ⟨(hexL n k).toArray⟩ : ByteArray) = ⟨(hexL n 8).toArray⟩ := by
  rw [← hex8 h2 h3]
  apply ByteArray.ext
  simp

set_option maxRecDepth 100000 in
set_option maxHeartbeats 1000000 in
theorem iNumberText (x : Nat) (hx : x < 4294967296) (w : World) (ht : Tab64 w) :
    Calls Tryd.prog 13 #[.float .f32 x] w fun e w' => e = .returned (.string (txN x)) ∧ Below w.heap.size w w' := by
  have HT := hid ht
  have HX := hid hx
  have hc : IntKind.u64.wrap (nb x : Int) = (nb x : Int) := by have := nb_lt hx; rw [IntKind.wrap_u64]; omega
  clear ht hx
  go_enter Tryd.func13, Tryd.ntmps13
  go_wp2_with fail
  refine (iBits x HX.out _).mono ?_
  rintro e w1 ⟨rfl, hb1⟩
  have T1 := hid (HT.out.stay hb1)
  have B1 := hid hb1
  clear hb1 HT
  go_wp2_with fail
  refine (iFormatUint2 (nb x) (nb_lt HX.out) _ T1.out).mono ?_
  rintro e w2 ⟨⟨k, h1, h2, h3, rfl⟩, hb2⟩
  have B2 := hid (((Kept.nil w).stay B1.out).stay hb2)
  have hl : (⟨(hexL (nb x) k).toArray⟩ : ByteArray).size = k := by show (hexL (nb x) k).toArray.size = k; simp [hexL_length]
  have hs : wrap64 (8 - (k : Int)) = ((8 - k : Nat) : Int) := by rw [show (8 : Int) - (k : Int) = ((8 - k : Nat) : Int) by omega]; unfold wrap64; omega
  have hs' : (8 : Int) - (k : Int) = ((8 - k : Nat) : Int) := by omega
  obtain ⟨m, hm⟩ : ∃ m, m = 8 - k := ⟨_, rfl⟩
  rw [← hm] at hs hs'
  have H2 := hid h2
  have H3 := hid h3
  have HM := hid hm
  have hm7 : Hid (m ≤ 7) := hid (by omega)
  have hwm : wrap64 (m : Int) = (m : Int) := by unfold wrap64; omega
  clear hb2 B1 h1 h2 h3 hm T1
  go_wp2_with fail
  refine (iRep m hm7.out _).mono ?_
  rintro e w3 ⟨rfl, rfl⟩
  go_wp2
  go_ret
  refine ⟨congrArg (fun s => Ending.returned (Value.string s)) ?_, B2.out.1⟩
  rw [HM.out]
  exact cat_hex H2.out H3.out

theorem ix16 (d : Nat) (h : d < 16) (w : World) : (Instr.index 9 (.string ⟨#[48, 49, 50, 51, 52, 53, 54, 55, 56, 57, 97, 98, 99, 100, 101, 102]⟩) (.int .u32 (d : Int))).run Tryd.prog w = .ok (.int .u8 (hexN d : Int)) w :=
  index_hex .u32 Tryd.underlying9 (by decide) (by decide) d h w

set_option maxRecDepth 100000 in
set_option maxHeartbeats 1000000 in
theorem sBits (x : Nat) (hx : x < 4294967296) (w : World) :
    Calls Tryd.prog 72 #[.float .f32 x] w fun e w' => e = .returned (.int .u32 (nb x : Int)) ∧ w' = w := by
  have n1 := neq_self x hx
  have hnb : nb x = if nanB x = true then 2143289344 else x := rfl
  rcases hn : nanB x with _ | _
  · rw [hn] at hnb n1
    rw [hnb]
    clear hnb hn
    go_enter Tryd.func72, Tryd.ntmps72
    go_wp2
    go_ret
    exact ⟨by simp, rfl⟩
  · rw [hn] at hnb n1
    rw [hnb]
    clear hnb hn
    go_enter Tryd.func72, Tryd.ntmps72
    go_wp2
    go_ret
    exact ⟨by simp, rfl⟩

theorem infoz_u8 : (Tryd.prog.info? 5).map (fun i => (i.zero, i.size, i.bytes)) = some (some (.int .u8 0), 1, 1) := by kernel_rfl

theorem sHex_cv {n : Nat} {w wr : World} (h : ∃ cs', LvV cs' 8 (hxW n 8 8) ∧ Kept w [(w.heap.size, cs', 5)] wr) :
    (convert 95 9 (.slice (some ⟨w.heap.size, 0, none⟩) 8 8)).run Tryd.prog wr = .ok (.string ⟨(hexL n 8).toArray⟩) wr := by
  obtain ⟨cs', a1, a2⟩ := h
  have h1 := run_convert_bytes_back (P := Tryd.prog) wr 95 9 5 ⟨w.heap.size, 0, none⟩ 8 (hexL n 8) Tryd.underlying95 Tryd.underlying5 Tryd.underlying9 (fun j hj => by
    rw [hexL_length] at hj
    rw [Addr.add_mid, ← hxW_read n 8 (k := 8) (i := j) (by omega) hj, show 8 - 8 + j = 0 + j by omega]
    exact a1.cell (a2.at (x := (w.heap.size, cs', 5)) in0) (by omega))
  rwa [hexL_length] at h1

set_option maxRecDepth 100000 in
set_option maxHeartbeats 1000000 in
theorem sHex (x : Nat) (hx : x < 4294967296) (w : World) :
    Calls Tryd.prog 40 #[.float .f32 x] w fun e w' => e = .returned (.string (txN x)) ∧ Below w.heap.size w w' := by
  have HN := hid (nb_lt hx)
  obtain ⟨cs0, hv0, hmk⟩ := run_makeV (P := Tryd.prog) (t := 95) (e := 5) Tryd.underlying95 (.int .u8 0) 1 rfl (by omega) infoz_u8 (n := 8) (by omega) w
  rw [show ((8 : Nat) : Int) = 8 from rfl] at hmk
  obtain ⟨n, hn⟩ : ∃ n, n = nb x := ⟨_, rfl⟩
  have h0 : Hid (∃ cs', LvV cs' 8 (hxW n 8 0) ∧ Kept w [(w.heap.size, cs', 5)] (w.alloc (.cells cs0 5))) := hid ⟨cs0, hv0.ext (fun i hi => (hxW_zero n 8 hi).symm), (Kept.nil w).push _ _⟩
  have hb := fun w => sBits x hx w
  rw [← hn] at HN
  have hq : txN x = ⟨(hexL n 8).toArray⟩ := by rw [hn]; rfl
  rw [hq]
  simp only [← hn] at hb
  have HB := hid hb
  clear hx hb hq hn hv0
  go_enter Tryd.func40, Tryd.ntmps40
  go_wp2_with fail
  refine (HB.out _).mono ?_
  rintro e w1 ⟨rfl, rfl⟩
  go_wp2_with fail
  clear hmk HB
  go_loopw [3, 5] (fun v i wr => ∃ t u j : Nat, j + t = 8 ∧ v = .int .u32 (u : Int) ∧ i = .int .i64 ((j : Int) - 1) ∧ Hid (u = n / 16 ^ t) ∧ Hid (∃ cs', LvV cs' 8 (hxW n 8 t) ∧ Kept w1 [(w1.heap.size, cs', 5)] wr)) (fun _ i _ => (intOf i + 1).toNat)
  case atStart => exact ⟨0, n, 8, rfl, rfl, rfl, hid (by simp), h0⟩
  case round =>
    clear h0
    obtain ⟨t, u, j, hj, rfl, rfl, hu, h1⟩ := hrel
    rcases j with _ | m
    · obtain rfl : t = 8 := by omega
      have hcv := sHex_cv h1.out
      have B := hid (h1.out.choose_spec.2.1)
      clear h1 hu hj
      go_wp2
      go_ret
      exact ⟨rfl, B.out⟩
    · obtain ⟨cs', a1, a2⟩ := h1.out
      have hm8 : m < 8 := by omega
      have hm3 : (m : Int) < 8 := by omega
      have hm4 : ((m + 1 : Nat) : Int) - 1 = (m : Int) := by omega
      rw [hm4]
      have hm5 : wrap64 ((m : Int) - 1) = (m : Int) - 1 := by unfold wrap64; omega
      obtain ⟨d, hd⟩ : ∃ d, d = u % 16 := ⟨_, rfl⟩
      obtain ⟨q, hq⟩ : ∃ q, q = u / 16 := ⟨_, rfl⟩
      have hu32 : u < 4294967296 := by
        have h1 := hu.out
        have h2 := HN.out
        have h3 := Nat.div_le_self n (16 ^ t)
        omega
      have hr1 : (u : Int) % 16 = (d : Int) := by omega
      have hr2 : Int.tmod (u : Int) 16 = (d : Int) := by rw [Int.tmod_eq_emod_of_nonneg (by omega)]; exact hr1
      have hr3 : (u : Int) / 16 = (q : Int) := by omega
      have hr4 : Int.tdiv (u : Int) 16 = (q : Int) := by rw [Int.tdiv_eq_ediv_of_nonneg (by omega)]; exact hr3
      have hr5 : IntKind.u32.wrap (d : Int) = (d : Int) := by rw [IntKind.wrap_u32]; omega
      have hr6 : IntKind.u32.wrap (q : Int) = (q : Int) := by rw [IntKind.wrap_u32]; omega
      have hix := ix16 d (by omega)
      have i2 := fun w0 => run_indexAt (P := Tryd.prog) (t := 95) (e := 5) Tryd.underlying95 info_u8 (b := w1.heap.size) (o := 0) (n := 8) (cap := 8) (k := m) hm8 w0
      simp only [Nat.zero_add, Nat.mul_one] at i2
      have A1 := hid a1
      have A2 := hid a2
      have HD := hid hd
      have HQ := hid hq
      have HJ := hid hj
      have HM := hid hm8
      clear h1 a1 a2 hd hq hu32 hj hm8
      have tok1 : True := trivial
      go_wp2_with (have _t := tok1; clear tok1; refine store_lv1 rfl 5 _ _ rfl info_u8 w1.heap.size m (.int .u8 (hexN d : Int)) rfl rfl rfl rfl A2.out A1.out HM.out (Nat.le_refl _) (by simp) (fun w2 k1 v1 => ?_); rw [HD.out] at v1; replace v1 := hid v1; replace k1 := hid k1; clear A1 A2)
      have b3 : Hid (∃ cs', LvV cs' 8 (hxW n 8 (t + 1)) ∧ Kept w1 [(w1.heap.size, cs', 5)] w2) := hid ⟨_, v1.out.ext (hx_up hu.out (by have := HJ.out; omega)), by rw [← HD.out]; exact k1.out⟩
      go_roundw
      case rel => exact ⟨t + 1, q, m, by have := HJ.out; omega, by go_num, by go_num, hid (by rw [HQ.out, hu.out, hx_next]), b3⟩
      case measure => simp [intOf]

theorem words_cons : ∀ (v : List Char) (r : List Char), (∀ c ∈ v, c ≠ Char.ofNat 32) → wordsSigns (v ++ Char.ofNat 32 :: r) = v :: wordsSigns r
  | [], r, _ => rfl
  | c :: v, r, h => by
    have ih := words_cons v r (fun x hx => h x (by simp [hx]))
    have hc : c ≠ Char.ofNat 32 := h c (by simp)
    show wordsSigns (c :: (v ++ Char.ofNat 32 :: r)) = _
    rw [wordsSigns.eq_3 _ _ (fun e => hc e), ih]

def w0 : List Nat := [104, 97, 114, 110, 101, 115, 115]

def w1 : List Nat := [51, 50, 57, 48, 49, 55, 97, 102, 49, 55, 49, 52, 98, 48, 54, 98, 98, 54, 56, 49, 102, 57, 51, 56, 53, 98, 49, 97, 50, 53, 54, 49, 48, 100, 102, 101, 56, 97, 51, 101, 54, 55, 55, 101, 54, 102, 102, 50, 97, 52, 54, 53, 101, 53, 99, 97, 97, 50, 99, 53, 55, 53, 102, 102]

def w2 : List Nat := [99, 117, 116]

def w3 : List Nat := [97, 116, 32, 108, 111, 111, 112, 46, 101, 120, 97, 109, 112, 108, 101, 47, 103, 48, 49, 50, 50, 52, 47, 108, 97, 119, 115, 46, 70, 110, 69, 120, 97, 99, 116, 78, 117, 109, 98, 101, 114, 84, 101, 120, 116, 32, 108, 111, 111, 112, 46, 101, 120, 97, 109, 112, 108, 101, 47, 103, 48, 49, 50, 50, 52, 47, 108, 97, 119, 115, 46, 70, 110, 69, 120, 97, 99, 116, 82, 101, 97, 100, 78, 117, 109, 98, 101, 114, 32, 108, 111, 111, 112, 46, 101, 120, 97, 109, 112, 108, 101, 47, 103, 48, 49, 50, 50, 52, 47, 108, 97, 119, 115, 46, 70, 110, 69, 120, 97, 99, 116, 83, 105, 122, 101, 115, 84, 101, 120, 116, 32, 108, 111, 111, 112, 46, 101, 120, 97, 109, 112, 108, 101, 47, 103, 48, 49, 50, 50, 52, 47, 108, 97, 119, 115, 46, 70, 110, 69, 120, 97, 99, 116, 82, 101, 97, 100, 83, 105, 122, 101, 115, 32, 108, 111, 111, 112, 46, 101, 120, 97, 109, 112, 108, 101, 47, 103, 48, 49, 50, 50, 52, 47, 108, 97, 119, 115, 46, 70, 110, 69, 120, 97, 99, 116, 65, 105, 114, 84, 101, 120, 116, 32, 108, 111, 111, 112, 46, 101, 120, 97, 109, 112, 108, 101, 47, 103, 48, 49, 50, 50, 52, 47, 108, 97, 119, 115, 46, 70, 110, 69, 120, 97, 99, 116, 82, 101, 97, 100, 65, 105, 114, 32, 108, 111, 111, 112, 46, 101, 120, 97, 109, 112, 108, 101, 47, 103, 48, 49, 50, 50, 52, 47, 108, 97, 119, 115, 46, 70, 110, 69, 120, 97, 99, 116, 75, 101, 114, 110, 101, 108, 84, 101, 120, 116, 32, 108, 111, 111, 112, 46, 101, 120, 97, 109, 112, 108, 101, 47, 103, 48, 49, 50, 50, 52, 47, 108, 97, 119, 115, 46, 70, 110, 69, 120, 97, 99, 116, 82, 101, 97, 100, 75, 101, 114, 110, 101, 108, 32, 108, 111, 111, 112, 46, 101, 120, 97, 109, 112, 108, 101, 47, 103, 48, 49, 50, 50, 52, 47, 108, 97, 119, 115, 46, 70, 110, 69, 120, 97, 99, 116, 83, 111, 117, 110, 100, 105, 110, 103, 84, 101, 120, 116]

def letters (l : List Nat) : List Char := l.map Char.ofNat

theorem head_reads : Tryd.prog.initOrder = String.ofList (letters w0 ++ Char.ofNat 32 :: (letters w1 ++ Char.ofNat 32 :: (letters w2 ++ Char.ofNat 32 :: letters w3))) := by kernel_rfl

theorem no_blank {l : List Nat} (h : l.all (fun n => Char.ofNat n != Char.ofNat 32) = true) : ∀ c ∈ letters l, c ≠ Char.ofNat 32 := by
  intro c hc
  obtain ⟨n, hn, rfl⟩ := List.mem_map.1 hc
  have := List.all_eq_true.1 h n hn
  simpa using this

theorem h0 : letters w0 = "harness".toList := by kernel_rfl

theorem h2 : letters w2 = "cut".toList := by kernel_rfl

theorem sums : isSumSigns (letters w1) = true := by kernel_rfl

theorem words : wordsSigns Tryd.prog.initOrder.toList = "harness".toList :: letters w1 :: "cut".toList :: wordsSigns (letters w3) := by
  rw [head_reads, String.toList_ofList, words_cons _ _ (no_blank (by decide +kernel)), words_cons _ _ (no_blank (by decide +kernel)), words_cons _ _ (no_blank (by decide +kernel)), h0, h2]

theorem behind : ∃ r, behindMainWord (wordsSigns Tryd.prog.initOrder.toList) = "cut".toList :: r := by
  refine ⟨wordsSigns (letters w3), ?_⟩
  rw [words]
  generalize wordsSigns (letters w3) = r
  have hs := sums
  generalize letters w1 = v at hs
  unfold behindMainWord
  simp [hs]

theorem not_later : Tryd.prog.laysLater = false := by kernel_rfl

theorem no_reflect : Tryd.prog.bearsReflect = false := by kernel_rfl

theorem no_doors : Tryd.prog.doorFits [] = true := by kernel_rfl

theorem strips (r : List (List Char)) : stripLifts liftWords ("cut".toList :: r) = ([], "cut".toList :: r) := by kernel_rfl

theorem may_enter_of (P : Program) (r : List (List Char)) (h : behindMainWord (wordsSigns P.initOrder.toList) = "cut".toList :: r) (h1 : P.laysLater = false) (h2 : P.bearsReflect = false) (h3 : P.doorFits [] = true) : P.mayEnter = true := by
  unfold Program.mayEnter
  rw [h]
  dsimp only
  rw [strips, h1, h2, h3]
  kernel_rfl

theorem lifts_final_of (P : Program) (r : List (List Char)) (h : behindMainWord (wordsSigns P.initOrder.toList) = "cut".toList :: r) : P.liftsFinal = false := by
  unfold Program.liftsFinal Program.headLifts
  rw [h]
  dsimp only
  rw [strips]
  kernel_rfl

theorem made_of (P : Program) (r : List (List Char)) (h : behindMainWord (wordsSigns P.initOrder.toList) = "cut".toList :: r) : P.make = some .cut := by
  unfold Program.make
  rw [h]
  kernel_rfl

theorem may_enter : Tryd.prog.mayEnter = true := let ⟨r, h⟩ := behind; may_enter_of _ r h not_later no_reflect no_doors

theorem lifts_final : Tryd.prog.liftsFinal = false := let ⟨r, h⟩ := behind; lifts_final_of _ r h

theorem made : Tryd.prog.make = some .cut := let ⟨r, h⟩ := behind; made_of _ r h

theorem laid : laidOutB Tryd.prog = true := by kernel_rfl

theorem rowed : mapsRowed Tryd.prog = true := by kernel_rfl

theorem no_stops : Tryd.prog.stops = [] := by kernel_rfl

theorem no_knobs : Tryd.prog.stopKnobs = [] := by kernel_rfl

theorem plain_keys : Tryd.prog.plainKeys = true := by kernel_rfl

theorem stops_heard : Tryd.prog.stopsHeard = true := by kernel_rfl

theorem arr1 {α : Type} {cs : Array α} (h : cs.size = 1) : ∃ c0, cs = #[c0] := by
  obtain ⟨l⟩ := cs
  match l, h with
  | [a], _ => exact ⟨a, rfl⟩

theorem own : ownKnob Tryd.prog.godebug = none := by kernel_rfl

theorem cells400 : Tryd.prog.cellsOf 47 = 400 := by kernel_rfl

theorem types400 : Tryd.prog.cellTypes Tryd.prog.depth 47 = some (List.replicate 400 22) := by kernel_rfl

theorem rdk : Tryd.prog.readableRec 47 = true ∧ 47 < Tryd.prog.types.size := ⟨by kernel_rfl, of_decide_eq_true (by kernel_rfl)⟩

def tz64 : List Int := [0, 1, 56, 2, 57, 49, 28, 3, 61, 58, 42, 50, 38, 29, 17, 4, 62, 47, 59, 36, 45, 43, 51, 22, 53, 39, 33, 30, 24, 18, 12, 5, 63, 55, 48, 27, 60, 41, 37, 16, 46, 35, 44, 21, 52, 32, 23, 11, 54, 26, 40, 15, 34, 20, 31, 10, 25, 14, 19, 9, 13, 8, 7, 6]

/-- What the rows' condition says of the table. -/
theorem tab_of {W : World} (h : laidMetH Tryd.prog Rows.fnExactNumberTextRow.laid W) : Tab64 W := by
  rw [MakeChecks.laidMetH_plain _ _ _ (by kernel_rfl)] at h
  have h2 : laidMet Tryd.prog (("math/bits.deBruijn64tab", Lib.tabData .u8 tz64) :: [("internal/strconv.uint64pow10", Rows.laid_internal_strconv_uint64pow10)]) W := laidMet.tail h
  have hT := Lib.tabIs_of_head (g := 6) (t := 177) (e := 5) (by kernel_rfl) (by kernel_rfl) Tryd.underlying177 Tryd.underlying5 (by kernel_rfl) (by kernel_rfl) h2
  exact hT.cell (by kernel_rfl) 15 (by decide)

/-- The door's own heap meets the rows' condition. -/
theorem door_metT (os : Os) (args : Array Value) : laidMetH Tryd.prog Rows.fnExactNumberTextRow.laid ((World.doorLaid Tryd.prog 400 os).forCall (fun _ _ => 0) ⟨#[], args, []⟩).memory :=
  laidMetH_of_parts3 (fuel := 8) (laidMet_of_run' 8 (by kernel_rfl) (by kernel_rfl)) (by kernel_rfl) (by kernel_rfl)

/-- A whole array stored: the world behind it under a name of its own. -/
theorem store_abs {P : Program} {ops : Array Oper} {rest : List Oper} {o : Oper} {a : Act} {w : World} {Q : Exit → Act → World → Prop} (hgd : o.guard = none) (ty : TypeId) (x y : Operand) (ho : o.op = .store ty x y)
    (g : Nat) (d : Nat → Nat) (hx : a.eval x = .pointer (some ⟨g, 0, none⟩)) (hy : a.eval y = .agg (fls d)) (t : TypeId) (old : Nat → Nat) (hg : arrAt w g old t) (hi : (P.info? ty).map (·.size) = some 20)
    (h : ∀ w', w' = w.setRow g (fls d) → wpList P ops Q rest (a.put o.dst undef) w') : wpList P ops Q (o :: rest) a w :=
  wpList_store_row hgd ty x y ho g (fls d) hx hy t (fls old) hg (by rw [fls_size]; exact hi) (by simp) (fls_one d) (h _ rfl)

def rest1 (x : Nat) : Nat := fsub 1065353216 x

def mixed (c d : Nat → Nat) (x : Nat) : Nat → Nat := fun i => fadd (fmul (c i) (rest1 x)) (fmul (d i) x)

theorem txN_size (x : Nat) : (txN x).size = 8 := by
  show (hexL (nb x) 8).toArray.size = 8
  simp [hexL_length]

def shl156_ren : Go.Shelf.Ren := ⟨fun | 156 => 50 | 165 => 78 | 166 => 62 | 169 => 63 | 240 => 90 | 241 => 102 | 276 => 115 | 277 => 123 | n => n, fun | 31 => 78 | 9 => 9 | 3 => 3 | 4 => 4 | 0 => 0 | 20 => 20 | 72 => 97 | 76 => 98 | 70 => 94 | 37 => 95 | 75 => 70 | 127 => 124 | 164 => 152 | 5 => 5 | 80 => 100 | n => n, fun | n => n⟩

theorem shl156 : Go.Proofs.Lays.n156 Tryd.prog shl156_ren := {
  mixed := by kernel_rfl
  f156 := Tryd.func50.trans (congrArg some (by kernel_rfl))
  f165 := Tryd.func78.trans (congrArg some (by kernel_rfl))
  f166 := Tryd.func62.trans (congrArg some (by kernel_rfl))
  f169 := Tryd.func63.trans (congrArg some (by kernel_rfl))
  f240 := Tryd.func90.trans (congrArg some (by kernel_rfl))
  f241 := Tryd.func102.trans (congrArg some (by kernel_rfl))
  f276 := Tryd.func115.trans (congrArg some (by kernel_rfl))
  f277 := Tryd.func123.trans (congrArg some (by kernel_rfl))
  t0 := Tryd.underlying0
  a0 := Tryd.isAgg0
  z0 := Tryd.sizeOf0
  v0 := Tryd.zeroValue0
  t3 := Tryd.underlying3
  a3 := Tryd.isAgg3
  z3 := Tryd.sizeOf3
  v3 := Tryd.zeroValue3
  t4 := Tryd.underlying4
  a4 := Tryd.isAgg4
  z4 := Tryd.sizeOf4
  v4 := Tryd.zeroValue4
  t9 := Tryd.underlying9
  a9 := Tryd.isAgg9
  z9 := Tryd.sizeOf9
  v9 := Tryd.zeroValue9
  t20 := Tryd.underlying20
  a20 := Tryd.isAgg20
  z20 := Tryd.sizeOf20
  v20 := Tryd.zeroValue20
  t31 := Tryd.underlying78
  a31 := Tryd.isAgg78
  z31 := Tryd.sizeOf78
  v31 := Tryd.zeroValue78
  t37 := Tryd.underlying95
  a37 := Tryd.isAgg95
  z37 := Tryd.sizeOf95
  v37 := Tryd.zeroValue95
  t70 := Tryd.underlying94
  a70 := Tryd.isAgg94
  z70 := Tryd.sizeOf94
  v70 := Tryd.zeroValue94
  t72 := Tryd.underlying97
  a72 := Tryd.isAgg97
  z72 := Tryd.sizeOf97
  v72 := Tryd.zeroValue97
  t75 := Tryd.underlying70
  a75 := Tryd.isAgg70
  z75 := Tryd.sizeOf70
  v75 := Tryd.zeroValue70
  t76 := Tryd.underlying98
  a76 := Tryd.isAgg98
  z76 := Tryd.sizeOf98
  v76 := Tryd.zeroValue98
  t127 := Tryd.underlying124
  a127 := Tryd.isAgg124
  z127 := Tryd.sizeOf124
  v127 := Tryd.zeroValue124
  t164 := Tryd.underlying152
  a164 := Tryd.isAgg152
  z164 := Tryd.sizeOf152
  v164 := Tryd.zeroValue152 }

theorem shlB156 : Builder.Extra Tryd.prog shl156_ren := {
  sizeBuilder := by kernel_rfl
  liesBuilder := by kernel_rfl
  t5 := Tryd.underlying5
  a5 := Tryd.isAgg5
  z5 := Tryd.sizeOf5
  v5 := Tryd.zeroValue5
  infoByte := by kernel_rfl
  cellsByte := by kernel_rfl
  sizeByte := by kernel_rfl
  neB5 := by decide }

theorem shJoin (bk o c : Nat) (xs : List ByteArray) (sep : ByteArray) (w : World) (hcells : ∀ (j : Nat) x, xs[j]? = some x → w.cell? ⟨bk, o + j, none⟩ = some (.string x)) (hbk : bk < w.heap.size) (hN : xs.length ≤ 140737488355328) (hcap : xs.length ≤ c) (hlen : (Lib.join (xs.map (·.data.toList)) sep.data.toList).length ≤ 140737488355328) :
    Calls Tryd.prog 50 #[.slice (some ⟨bk, o, none⟩) xs.length c, .string sep] w fun e w' => e = .returned (.string ⟨(Lib.join (xs.map (·.data.toList)) sep.data.toList).toArray⟩) ∧ Below w.heap.size w w' := Any.strings_Join shl156 shlB156 bk o c xs sep w hcells hbk hN hcap hlen

theorem info_f1 : (Tryd.prog.info? 22).map (·.size) = some 1 := by kernel_rfl

/-- The text of the first n numbers. -/
def txR (c : Nat → Nat) (n : Nat) : ByteArray := rowB (fun i => txN (c i)) n

theorem txR_size (c : Nat → Nat) (n : Nat) : (txR c n).size ≤ 9 * n := rowB_size (fun i => txN_size (c i)) n

theorem txR_zero (c : Nat → Nat) {k : Nat} (h : k = 0) : txR c k = ⟨#[]⟩ := by subst h; rfl

theorem txR_one (c : Nat → Nat) : txR c 1 = ⟨#[]⟩ ++ txN (c 0) := rfl

theorem txR_more (c : Nat → Nat) {n : Nat} (h : 0 < n) : txR c (n + 1) = (txR c n ++ ⟨#[32]⟩) ++ txN (c n) := by
  show (if n = 0 then _ else _) = _
  rw [if_neg (by omega)]; rfl

set_option maxRecDepth 100000 in
set_option maxHeartbeats 1000000 in
theorem sRow (s : Value) (n : Nat) (c : Nat → Nat) (hc : ∀ i, i < n → c i < 4294967296) (w : World) (hs : RdV w s n (flV c)) (hn : n ≤ 1000) :
    Calls Tryd.prog 83 #[s] w fun e w' => e = .returned (.string (txR c n)) ∧ Below w.heap.size w w' := by
  obtain ⟨p, cap, rfl, hcl⟩ := hs
  have HC := hid hc
  have HN := hid hn
  have HS := hid hcl
  clear hc hcl hn
  go_enter Tryd.func83, Tryd.ntmps83
  go_wp2_with fail
  go_loopw [3, 4] (fun v i wr => ∃ k : Nat, k ≤ n ∧ v = .string (txR c k) ∧ i = .int .i64 (k : Int) ∧ Hid (Below w.heap.size w wr)) (fun _ i _ => n - (intOf i).toNat)
  case atStart => exact ⟨0, by omega, rfl, rfl, hid (Below.refl _ _)⟩
  case round =>
    obtain ⟨k, hk, rfl, rfl, hb⟩ := hrel
    by_cases hlt : k < n
    · have HL := hid hlt
      have hk3 : (k : Int) < (n : Int) := by omega
      obtain ⟨b, o, rfl, hcell⟩ := HS.out (by omega)
      have c0 : wr.cell? ⟨b, o + k, none⟩ = some (.float .f32 (c k)) := by have h9 := hcell k hlt; rw [hb.out.cell (block_lt_of_cell h9)]; exact h9
      have i1 := fun w => run_indexAt (P := Tryd.prog) (t := 102) (e := 22) Tryd.underlying102 info_f1 (b := b) (o := o) (n := n) (cap := cap) (k := k) hlt w
      simp only [Nat.mul_one] at i1
      have z0 := txR_size c k
      have z1 : (txR c k).size ≤ 9000 := le_9k z0 hk HN.out
      have z2 := txN_size (c k)
      have hw9 : wrap64 ((k : Int) + 1) = (k : Int) + 1 := wr_k1 hlt HN.out
      clear hcell z0
      rcases Nat.eq_zero_or_pos k with h0 | h0
      · have h03 : ¬ (0 : Int) < (k : Int) := by omega
        have HP := hid h0
        clear h0
        rw [txR_zero c HP.out]
        go_wp2_with fail
        refine (sHex (c k) (HC.out k HL.out) _).mono ?_
        rintro e w1 ⟨rfl, hb1⟩
        have b2 := stp hb.out (Nat.le_refl _) hb1
        have B2 := hid b2
        clear b2 hb1 hb
        go_wp2_with fail
        go_roundw
        case rel => exact ⟨k + 1, HL.out, by rw [HP.out]; exact congrArg Value.string (txR_one c).symm, by go_num, B2⟩
        case measure => first | exact ms_io HL.out | (rw [hw9]; exact ms_io HL.out)
      · have h03 : (0 : Int) < (k : Int) := by omega
        have hX := fun w => sHex (c k) (HC.out k HL.out) w
        have hM := hid (txR_more c h0)
        generalize txR c k = S at hM z1 ⊢
        generalize txN (c k) = T at hX hM z2
        have HX := hid hX
        clear hX h0
        go_wp2_with fail
        refine (HX.out _).mono ?_
        rintro e w1 ⟨rfl, hb1⟩
        have b2 := stp hb.out (Nat.le_refl _) hb1
        have B2 := hid b2
        clear b2 hb1 hb
        go_wp2_with fail
        go_roundw
        case rel => exact ⟨k + 1, HL.out, congrArg Value.string hM.out.symm, by go_num, B2⟩
        case measure => first | exact ms_io HL.out | (rw [hw9]; exact ms_io HL.out)
    · obtain rfl : k = n := by omega
      have hk3 : ¬ (k : Int) < (k : Int) := by omega
      go_wp2
      go_ret
      exact ⟨rfl, hb.out⟩

def txSq (q : Bool) (c : Nat → Nat) : ByteArray := if q = true then txR c 20 else ⟨#[]⟩

def szB (c : Nat → Nat) : Bool := (List.range 20).all fun i => amtB (c i)

theorem szB_t {c : Nat → Nat} (h : szB c = true) : ∀ i, i < 20 → amtB (c i) = true := fun i hi => List.all_eq_true.1 h i (List.mem_range.2 hi)

theorem szB_f {c : Nat → Nat} (h : szB c = false) : ¬ ∀ i, i < 20 → amtB (c i) = true := fun k => by
  have : szB c = true := List.all_eq_true.2 fun i hi => k i (List.mem_range.1 hi)
  rw [this] at h; cases h

theorem iOkB (c : Nat → Nat) (hc : ∀ i, i < 20 → c i < 4294967296) (q : Bool) (hq : szB c = q) (w : World) :
    Calls Tryd.prog 49 #[.agg (fls c)] w fun e w' => e = .returned (.bool q) ∧ Below w.heap.size w w' := by
  cases q
  · exact validSizes_f c hc (szB_f hq) w
  · exact validSizes_t c (szB_t hq) w

theorem infoz_str : (Tryd.prog.info? 9).map (fun i => (i.zero, i.size, i.bytes)) = some (some (.string ⟨#[]⟩), 1, 16) := by kernel_rfl

theorem info_str1 : (Tryd.prog.info? 9).map (·.size) = some 1 := by kernel_rfl

/-- The words of sizes, up to k. -/
def wdsS (c : Nat → Nat) (k : Nat) : Nat → Value := mrV (fun _ => .string ⟨#[]⟩) (fun i => .string (txN (c i))) k

theorem join_words (c : Nat → Nat) (B : Nat) (wr : World) (cs : Array Value) (h : LvV cs 20 (wdsS c 20)) (hb : wr.heap[B]? = some (.cells cs 9 (0, 0))) :
    Calls Tryd.prog 50 #[.slice (some ⟨B, 0, none⟩) 20 20, .string ⟨#[32]⟩] wr fun e w' => e = .returned (.string (txR c 20)) ∧ Below wr.heap.size wr w' := by
  have hl : ((List.range 20).map fun i => txN (c i)).length = 20 := by simp
  have hJ := shJoin B 0 20 ((List.range 20).map fun i => txN (c i)) ⟨#[32]⟩ wr (fun j x hj => ?_) (lt_of_block hb) (by rw [hl]; decide) (by rw [hl]; decide) (by rw [rowB_len]; exact Nat.le_trans (txR_size c 20) (by decide))
  · rw [hl, rowB_is] at hJ
    exact hJ
  · have hj20 : j < 20 := by
      have := (List.getElem?_eq_some_iff.1 hj).1
      simpa using this
    have hx : x = txN (c j) := by
      simp [hj20] at hj
      exact hj.symm
    rw [Nat.zero_add, h.cell hb hj20, hx]
    unfold wdsS mrV
    rw [if_pos hj20]

set_option maxRecDepth 100000 in
set_option maxHeartbeats 1000000 in
theorem iSizesText (c : Nat → Nat) (hc : ∀ i, i < 20 → c i < 4294967296) (q : Bool) (hq : szB c = q) (w : World) (ht : Tab64 w) :
    Calls Tryd.prog 19 #[.agg (fls c)] w fun e w' => e = .returned (.string (txSq q c)) ∧ Below w.heap.size w w' := by
  have k0 := hid ((Kept.nil w).push (fls c) 32)
  have HT := hid ht
  have HC := hid hc
  have HQ := hid hq
  clear ht hc hq
  go_enter Tryd.func19, Tryd.ntmps19
  go_wp2_with (refine wpList_load_row rfl 32 _ rfl (w.heap.size) rfl 32 (fls c) (0, 0) _ (k0.out.at (x := (w.heap.size, fls c, 32)) in0) Tryd.underlying32 rfl (by rw [fls_size]; exact info_arr) ?_)
  refine (iOkB c HC.out q HQ.out _).mono ?_
  rintro e w1 ⟨rfl, hb⟩
  have k1 := hid (k0.out.stay hb)
  clear k0 hb
  cases q
  · go_wp2
    go_ret
    exact ⟨rfl, k1.out.1⟩
  · obtain ⟨cs0, hv0, hmk⟩ := run_makeW (P := Tryd.prog) (t := 78) (e := 9) Tryd.underlying78 (.string ⟨#[]⟩) 16 rfl (by omega) infoz_str (n := 20) (by omega) w1
    rw [show ((20 : Nat) : Int) = 20 from rfl] at hmk
    have bs : w.heap.size < w1.heap.size := k1.out.lt (x := (w.heap.size, fls c, 32)) in0
    have k2 := hid (k1.out.push cs0 9)
    have h0 : Hid (∃ cs', LvV cs' 20 (wdsS c 0) ∧ Kept w [(w1.heap.size, cs', 9), (w.heap.size, fls c, 32)] (w1.alloc (.cells cs0 9))) := hid ⟨cs0, by unfold wdsS; rw [mrV_zero]; exact hv0, k2.out⟩
    clear hv0 k1
    go_wp2_with (refine wpList_load_row rfl 32 _ rfl (w.heap.size) rfl 32 (fls c) (0, 0) _ (k2.out.at (x := (w.heap.size, fls c, 32)) in1) Tryd.underlying32 rfl (by rw [fls_size]; exact info_arr) ?_)
    clear hmk k2
    go_loopw [11] (fun i wr => ∃ k : Nat, k ≤ 20 ∧ i = .int .i64 (k : Int) ∧ Hid (∃ cs', LvV cs' 20 (wdsS c k) ∧ Kept w [(w1.heap.size, cs', 9), (w.heap.size, fls c, 32)] wr)) (fun i _ => 20 - (intOf i).toNat)
    case atStart => exact ⟨0, by omega, rfl, h0⟩
    case round =>
      clear h0
      obtain ⟨k, hk, rfl, h1⟩ := hrel
      by_cases hlt : k < 20
      · have HL := hid hlt
        have hk3 : (k : Int) < 20 := by omega
        have hw9 := wr_k1 hlt (by omega)
        have hix : ∀ w, (Instr.index 32 (.agg (fls c)) (.int .i64 (k : Int))).run Tryd.prog w = .ok (.float .f32 (c k)) w := ix 32 Tryd.underlying32 c k hlt
        have i2 := fun w0 => run_indexAt (P := Tryd.prog) (t := 78) (e := 9) Tryd.underlying78 info_str1 (b := w1.heap.size) (o := 0) (n := 20) (cap := 20) (k := k) hlt w0
        simp only [Nat.zero_add, Nat.mul_one] at i2
        obtain ⟨cs', a1, a2⟩ := h1.out
        have A1 := hid a1
        have A2 := hid a2
        clear h1 a1 a2
        go_wp2_with fail
        refine (iNumberText (c k) (HC.out k HL.out) _ (HT.out.stay A2.out.1)).mono ?_
        rintro e w2 ⟨rfl, hb⟩
        have A3 := hid (A2.out.stay hb)
        clear A2 hb
        have tok1 : True := trivial
        go_wp2_with (have _t := tok1; clear tok1; refine store_lv1 rfl 9 _ _ rfl info_str1 w1.heap.size k (.string (txN (c k))) rfl rfl rfl rfl A3.out A1.out HL.out (Nat.le_of_lt bs) (by simp; omega) (fun w3 k3 v3 => ?_); replace k3 := hid k3; replace v3 := hid v3; clear A1 A3)
        have b3 : Hid (∃ cs', LvV cs' 20 (wdsS c (k + 1)) ∧ Kept w [(w1.heap.size, cs', 9), (w.heap.size, fls c, 32)] w3) := hid ⟨_, by have := v3.out; unfold wdsS at this; rw [mrV_step (fun _ => .string ⟨#[]⟩) (fun i => .string (txN (c i))) k] at this; exact this, k3.out⟩
        go_roundw
        case rel => exact ⟨k + 1, HL.out, by go_num, b3⟩
        case measure => first | exact ms_io HL.out | (rw [hw9]; exact ms_io HL.out)
      · obtain rfl : k = 20 := by omega
        have hk3 : ¬ ((20 : Nat) : Int) < 20 := by omega
        obtain ⟨cs', a1, a2⟩ := h1.out
        have A1 := hid a1
        have A2 := hid a2
        clear h1 a1 a2
        go_wp2_with fail
        refine (join_words c w1.heap.size _ cs' A1.out (A2.out.at (x := (w1.heap.size, cs', 9)) in0)).mono ?_
        rintro e w2 ⟨rfl, hb⟩
        have A3 := hid (A2.out.stay hb)
        clear A2 hb
        go_wp2
        go_ret
        exact ⟨rfl, A3.out.1⟩

theorem shl166 : Go.Proofs.Lays.n166 Tryd.prog shl156_ren := {
  mixed := by kernel_rfl
  f166 := Tryd.func62.trans (congrArg some (by kernel_rfl))
  f240 := Tryd.func90.trans (congrArg some (by kernel_rfl))
  f276 := Tryd.func115.trans (congrArg some (by kernel_rfl))
  t0 := Tryd.underlying0
  a0 := Tryd.isAgg0
  z0 := Tryd.sizeOf0
  v0 := Tryd.zeroValue0
  t3 := Tryd.underlying3
  a3 := Tryd.isAgg3
  z3 := Tryd.sizeOf3
  v3 := Tryd.zeroValue3
  t4 := Tryd.underlying4
  a4 := Tryd.isAgg4
  z4 := Tryd.sizeOf4
  v4 := Tryd.zeroValue4
  t9 := Tryd.underlying9
  a9 := Tryd.isAgg9
  z9 := Tryd.sizeOf9
  v9 := Tryd.zeroValue9
  t20 := Tryd.underlying20
  a20 := Tryd.isAgg20
  z20 := Tryd.sizeOf20
  v20 := Tryd.zeroValue20
  t37 := Tryd.underlying95
  a37 := Tryd.isAgg95
  z37 := Tryd.sizeOf95
  v37 := Tryd.zeroValue95
  t70 := Tryd.underlying94
  a70 := Tryd.isAgg94
  z70 := Tryd.sizeOf94
  v70 := Tryd.zeroValue94
  t72 := Tryd.underlying97
  a72 := Tryd.isAgg97
  z72 := Tryd.sizeOf97
  v72 := Tryd.zeroValue97
  t75 := Tryd.underlying70
  a75 := Tryd.isAgg70
  z75 := Tryd.sizeOf70
  v75 := Tryd.zeroValue70
  t164 := Tryd.underlying152
  a164 := Tryd.isAgg152
  z164 := Tryd.sizeOf152
  v164 := Tryd.zeroValue152 }

theorem shl169 : Go.Proofs.Lays.n169 Tryd.prog shl156_ren := {
  mixed := by kernel_rfl
  f169 := Tryd.func63.trans (congrArg some (by kernel_rfl))
  t0 := Tryd.underlying0
  a0 := Tryd.isAgg0
  z0 := Tryd.sizeOf0
  v0 := Tryd.zeroValue0
  t3 := Tryd.underlying3
  a3 := Tryd.isAgg3
  z3 := Tryd.sizeOf3
  v3 := Tryd.zeroValue3
  t9 := Tryd.underlying9
  a9 := Tryd.isAgg9
  z9 := Tryd.sizeOf9
  v9 := Tryd.zeroValue9
  t37 := Tryd.underlying95
  a37 := Tryd.isAgg95
  z37 := Tryd.sizeOf95
  v37 := Tryd.zeroValue95
  t70 := Tryd.underlying94
  a70 := Tryd.isAgg94
  z70 := Tryd.sizeOf94
  v70 := Tryd.zeroValue94
  t72 := Tryd.underlying97
  a72 := Tryd.isAgg97
  z72 := Tryd.sizeOf97
  v72 := Tryd.zeroValue97
  t127 := Tryd.underlying124
  a127 := Tryd.isAgg124
  z127 := Tryd.sizeOf124
  v127 := Tryd.zeroValue124 }

theorem shWrite (B b : Nat) (bs : List Value) (s : ByteArray) (w : World) (h : Go.Lib.IsBuilderF 97 5 B b bs w) (hlen : bs.length + s.size ≤ 140737488355328) (hBw : B ≤ w.heap.size) :
    Calls Tryd.prog 62 #[.pointer (some ⟨b, 0, none⟩), .string s] w fun e w' => e = .returned (.tuple #[.int .i64 s.size, .nilIface]) ∧ (Go.Lib.BuilderAtF 97 5 B b (.pointer (some ⟨b, 0, none⟩)) (bs ++ Go.Lib.strCells s) w' ∧ Below B w w' ∧ Go.Lib.OthersKept 5 (some b) w w') := Go.Proofs.Any.Builder_WriteString_k shl166 shlB156 B b bs s w h hlen hBw

theorem shString (B b : Nat) (l : List UInt8) (w : World) (h : Go.Lib.IsBuilderF 97 5 B b (Go.Lib.byteCells l) w) (hBw : B ≤ w.heap.size) :
    Calls Tryd.prog 63 #[.pointer (some ⟨b, 0, none⟩)] w fun e w' => e = .returned (.string ⟨l.toArray⟩) ∧ (Go.Lib.IsBuilderF 97 5 B b (Go.Lib.byteCells l) w' ∧ Below B w w' ∧ Go.Lib.OthersKept 5 (some b) w w') := Go.Proofs.Any.Builder_String_any_k shl169 shlB156 B b l w h hBw

theorem bld_at {T e : TypeId} {B b : Nat} {p : Value} {bs : List Value} {a z : World} (h : Go.Lib.BuilderAtF T e B b p bs a) (k : Below a.heap.size a z) : Go.Lib.BuilderAtF T e B b p bs z := by
  obtain ⟨h1, v, h2, h3, h4⟩ := h
  refine ⟨h1, v, ?_, ?_, h4⟩
  · rw [k.block b (lt_of_block h2)]; exact h2
  · exact h3.kept (row := none) ⟨k.os, k.tape, k.output, k.size, fun i hi _ => k.block i hi⟩ (Classical.em _)

theorem bld_stay {T e : TypeId} {B b : Nat} {bs : List Value} {a z : World} (h : Go.Lib.IsBuilderF T e B b bs a) (k : Below a.heap.size a z) : Go.Lib.IsBuilderF T e B b bs z := by
  rcases h with h | h
  · exact .inl (bld_at h k)
  · exact .inr (bld_at h k)

theorem bld_new {T e : TypeId} {b : Nat} {w : World} (h : w.heap[b]? = some (.cells #[.pointer none, .slice none 0 0] T (0, 0))) : Go.Lib.IsBuilderF T e b b [] w :=
  .inl ⟨Nat.le_refl _, .slice none 0 0, h, World.ownsRowF_of (World.ownsRow_nil _ _ _ _), by simp [Value.ownBlock]⟩

set_option maxRecDepth 100000 in
theorem toA20 (c : Nat → Nat) (w : World) :
    Calls Tryd.prog 60 #[.agg (fls c)] w fun e w' => e = .returned (.agg (fls c)) ∧ Below w.heap.size w w' := by
  have b0 : Below w.heap.size w (w.alloc (.cells (fls c) 30)) := (Below.refl _ _).alloc (Nat.le_refl _) _
  have a0 := hid (arrAt.new w c 30)
  go_enter Tryd.func60, Tryd.ntmps60
  go_wp2
  go_loopw [4] (fun i wr => ∃ k : Nat, k ≤ 20 ∧ i = .int .i64 k ∧ Hid (arrAt wr w.heap.size c 30) ∧ Hid (arrAt wr (w.heap.size + 1) (fun _ => 0) 30) ∧ Hid (arrAt wr (w.heap.size + 1 + 1) (cut c k) 30) ∧ Hid (Below w.heap.size w wr)) (fun i _ => 20 - (intOf i).toNat)
  case atStart =>
    refine ⟨0, by omega, rfl, hid ((a0.out.alloc _).alloc _), hid ?_, hid ?_, hid ((b0.alloc (by simp) _).alloc (by simp; omega) _)⟩
    · have := arrAt.new (w.alloc (.cells (fls c) 30)) (fun _ => 0) 30
      have e : (w.alloc (.cells (fls c) 30)).heap.size = w.heap.size + 1 := by simp
      rw [e] at this
      exact this.alloc _
    · have := arrAt.new ((w.alloc (.cells (fls c) 30)).alloc (.cells (fls fun _ => 0) 30)) (fun _ => 0) 30
      have e : ((w.alloc (.cells (fls c) 30)).alloc (.cells (fls fun _ => 0) 30)).heap.size = w.heap.size + 1 + 1 := by simp
      rw [e] at this
      exact this.ext (fun i _ => (cut_zero' c i).symm)
  case round =>
    obtain ⟨k, hk, rfl, h0, h1, h2, hb⟩ := hrel
    by_cases hlt : k < 20
    · have q0 := h0.out.cell hlt
      have q2 := h2.out.cell hlt
      have f2 := h2.out.frozen k
      go_wp2
      go_roundw
      case rel => exact ⟨k + 1, by omega, by go_num, hid (h0.out.setOther (by simp; omega) _), hid (h1.out.setOther (by simp) _), hid ((h2.out.set k (c k)).ext (fun i _ => cut_succ c k i)), hid (hb.out.setCell (by simp; omega) _)⟩
      case measure => simp [intOf]; omega
    · obtain rfl : k = 20 := by omega
      have h2' := hid (h2.out.ext (cut_all c))
      clear h2
      go_wp2_with (first | (refine wpList_load_row rfl 30 _ rfl (w.heap.size + 1 + 1) rfl 30 (fls c) (0, 0) _ h2'.out Tryd.underlying30 rfl (by rw [fls_size]; exact info_a20) ?_) | (refine wpList_store_row rfl 30 _ _ rfl (w.heap.size + 1) (fls c) rfl rfl 30 _ h1.out (by rw [fls_size]; exact info_a20) (by simp) (fls_one c) ?_))
      exact bodyPost_ret (results_cell_row rfl _ _ (w.heap.size + 1) 30 (fls c) (0, 0) _ rfl (h1.out.setRow c) Tryd.underlying30 rfl (by rw [fls_size]; exact info_a20)) rfl ⟨rfl, below_row hb.out (by omega) _⟩

theorem info_kern : (Tryd.prog.info? 49).map (·.size) = some 400 := by kernel_rfl

theorem info_k20 : (Tryd.prog.info? 47).map (·.size) = some 400 := by kernel_rfl

@[go_sem] theorem zero_kern : Tryd.zeroCells49 = vls 400 (flw fun _ => 0) := by kernel_rfl

set_option maxRecDepth 100000 in
theorem toKernel (c : Nat → Nat) (w : World) :
    Calls Tryd.prog 30 #[.agg (vls 400 (flw c))] w fun e w' => e = .returned (.agg (vls 400 (flw c))) ∧ Below w.heap.size w w' := by
  have A0 := hid (((vAt.new w 400 (flw c) 47).alloc (.cells (vls 400 (flw fun _ => 0)) 49)).alloc (.cells (vls 400 (flw fun _ => 0)) 49))
  have A1 := hid ((vAt.new1 w (.cells (vls 400 (flw c)) 47) 400 (flw fun _ => 0) 49).alloc (.cells (vls 400 (flw fun _ => 0)) 49))
  have A2 := hid (vAt.new2 w (.cells (vls 400 (flw c)) 47) (.cells (vls 400 (flw fun _ => 0)) 49) 400 (flw fun _ => 0) 49)
  have b0 := boxed3 w (.cells (vls 400 (flw c)) 47) (.cells (vls 400 (flw fun _ => 0)) 49) (.cells (vls 400 (flw fun _ => 0)) 49)
  go_enter Tryd.func30, Tryd.ntmps30
  go_wp2_with fail
  go_loopw [4] (fun i wr => ∃ k : Nat, k ≤ 20 ∧ i = .int .i64 k ∧ Hid (vAt wr w.heap.size 400 (flw c) 47) ∧ Hid (vAt wr (w.heap.size + 1) 400 (flw fun _ => 0) 49) ∧ Hid (vAt wr (w.heap.size + 1 + 1) 400 (flw (rowsP c (fun _ => 0) k)) 49) ∧ Hid (Below w.heap.size w wr)) (fun i _ => 20 - (intOf i).toNat)
  case atStart => exact ⟨0, by omega, rfl, A0, A1, hid (A2.out.ext fun i _ => by unfold flw; rw [rowsP_zero]), hid b0⟩
  case round =>
    obtain ⟨k, hk, rfl, h0, h1, h2, hb⟩ := hrel
    by_cases hlt : k < 20
    · go_wp2_with (refine wpList_load_krow rfl 30 _ rfl w.heap.size k rfl c 47 h0.out hlt _ Tryd.underlying30 rfl info_a20 ?_)
      refine (toA20 (rowK c k) _).mono ?_
      rintro e w1 ⟨rfl, hb1⟩
      have g0 := hid (h0.out.stay hb1)
      have g1 := hid (h1.out.stay hb1)
      have g2 := hid (h2.out.stay hb1)
      have c1 := stp hb.out (Nat.le_refl _) hb1
      have n0 := hid (g0.out.setPartOther (k := w.heap.size + 1 + 1) (by omega) (k * 20) (fls (rowK c k)).toList)
      have n1 := hid (g1.out.setPartOther (k := w.heap.size + 1 + 1) (by omega) (k * 20) (fls (rowK c k)).toList)
      have n2 := hid g2.out.setKRow
      have nb := below_cells (g := w.heap.size + 1 + 1) (by omega) (fls (rowK c k)).toList (k * 20) c1
      clear h0 h1 h2 hb
      go_wp2_with (refine wpList_store_krow rfl 30 _ _ rfl (w.heap.size + 1 + 1) k (rowK c k) rfl rfl (rowsP c (fun _ => 0) k) 49 g2.out hlt info_a20 ?_; intro w9 hw9; rw [← hw9] at n0 n1 n2 nb; clear hw9 g0 g1 g2)
      go_roundw
      case rel => exact ⟨k + 1, by omega, by go_num, n0, n1, n2, hid nb⟩
      case measure => simp [intOf]; omega
    · obtain rfl : k = 20 := by omega
      have h2' := hid (h2.out.ext (d := flw c) fun i hi => by unfold flw; rw [rowsP_all _ _ i hi])
      clear h2
      go_wp2_with (first | (refine wpList_load_row rfl 49 _ rfl (w.heap.size + 1 + 1) rfl 49 (vls 400 (flw c)) (0, 0) _ h2'.out Tryd.underlying49 rfl (by rw [vls_size]; exact info_kern) ?_) | (refine wpList_store_row rfl 49 _ _ rfl (w.heap.size + 1) (vls 400 (flw c)) rfl rfl 49 _ h1.out (by rw [vls_size]; exact info_kern) (by simp) (vls_one (flw_one c)) ?_))
      exact bodyPost_ret (results_cell_row rfl _ _ (w.heap.size + 1) 49 (vls 400 (flw c)) (0, 0) _ rfl (h1.out.setRow (flw c)) Tryd.underlying49 rfl (by rw [vls_size]; exact info_kern)) rfl ⟨rfl, below_row hb.out (by omega) _⟩

theorem sFinite_fq (x : Nat) (hx : x < 4294967296) (h : finB x = false) (w : World) :
    Calls Tryd.prog 109 #[.float .f32 x] w fun e w' => e = .returned (.bool false) ∧ ∃ m, w' = w.drewN m := by
  obtain ⟨z, hr, h1, _⟩ := run_arith_nan (P := Tryd.prog) w .sub (by simp) 22 x x (sub_self_none hx h)
  have Hn := hid (show (FloatKind.f32.format.order z 0 == some .eq) = false by
    show (S.order z 0 == some .eq) = false
    rw [order_nan32 h1]; rfl)
  clear h hx h1
  go_enter Tryd.func109, Tryd.ntmps109
  go_wp2
  go_ret
  exact ⟨by simp [Hn.out], 1, rfl⟩

theorem sAmount_fq (x : Nat) (hx : x < 4294967296) (h : amtB x = false) (w : World) :
    Calls Tryd.prog 82 #[.float .f32 x] w fun e w' => e = .returned (.bool false) ∧ ∃ m, w' = w.drewN m := by
  rcases hf : finB x with _ | _
  · have Hx := hid hx
    have Hf := hid hf
    clear h hf hx
    go_enter Tryd.func82, Tryd.ntmps82
    go_wp2_with (go_at_call 109; refine (sFinite_fq x Hx.out Hf.out _).mono ?_; rintro e w' ⟨rfl, hb⟩)
    go_ret
    exact ⟨rfl, hb⟩
  · have hs : 2147483648 ≤ x := by
      rw [amtB_iff', INF_val] at h
      have := finB_iff.1 hf
      rw [INF_val] at this
      unfold mg at this
      omega
    have hg : (FloatKind.f32.format.order x 0 == some .gt) = false := order_neg_zero hx hf hs
    have hb : ((x : Int) == 0) = false := by simp; omega
    have Hx := hid hx
    have Hf := hid hf
    clear h hf hx hs
    go_enter Tryd.func82, Tryd.ntmps82
    go_wp2_with (go_at_call 109; refine (sFinite_t x Hx.out Hf.out _).mono ?_; rintro e w' ⟨rfl, rfl⟩)
    go_ret
    exact ⟨rfl, 0, rfl⟩

/-- A kernel is valid. -/
def KOk (c : Nat → Nat) : Prop := AmtK c ∧ Sym c

set_option maxHeartbeats 1000000 in
set_option maxRecDepth 100000 in
theorem sKOk (c : Nat → Nat) (hb : ∀ i, i < 400 → c i < 4294967296) (q : Bool) (hq : q = true ↔ KOk c) (w : World) (g : Nat) (T : TypeId) (hg : vAt w g 400 (flw c) T) :
    Calls Tryd.prog 58 #[.pointer (some ⟨g, 0, none⟩)] w fun e w' => e = .returned (.bool q) ∧ Below w.heap.size w w' := by
  have HB := hid hb
  have HQ := hid hq
  have HG := hid hg
  clear hb hq hg
  go_enter Tryd.func58, Tryd.ntmps58
  go_wp2_with fail
  go_loopw [3] (fun i wr => ∃ k : Nat, k ≤ 20 ∧ i = .int .i64 k ∧ Hid (∀ i j, i < k → j < 20 → amtB (c (i * 20 + j)) = true ∧ (FloatKind.f32.format.order (c (i * 20 + j)) (c (j * 20 + i)) != some .eq) = false) ∧ Hid (vAt wr g 400 (flw c) T) ∧ Hid (Below w.heap.size w wr)) (fun i _ => 20 - (intOf i).toNat)
  case atStart => exact ⟨0, by omega, rfl, hid (fun i j hi => by omega), HG, hid (Below.refl _ _)⟩
  case round =>
    obtain ⟨k, hk, rfl, hA, h0, hb⟩ := hrel
    by_cases hlt : k < 20
    · have HK := hid hlt
      have hk3 : (k : Int) < 20 := by omega
      go_wp2_with fail
      go_loopw [4] (fun i wr => ∃ j : Nat, j ≤ 20 ∧ i = .int .i64 j ∧ Hid (∀ i, i < j → amtB (c (k * 20 + i)) = true ∧ (FloatKind.f32.format.order (c (k * 20 + i)) (c (i * 20 + k)) != some .eq) = false) ∧ Hid (vAt wr g 400 (flw c) T) ∧ Hid (Below w.heap.size w wr)) (fun i _ => 20 - (intOf i).toNat)
      case atStart => exact ⟨0, by omega, rfl, hid (fun i hi => by omega), h0, hb⟩
      case round =>
        clear h0 hb
        obtain ⟨j, hj, rfl, hR, h0, hb⟩ := hrel
        by_cases hlj : j < 20
        · have HJ := hid hlj
          have hj3 : (j : Int) < 20 := by omega
          have q0 := h0.out.fcell (k := k * 20 + j) (by omega)
          have q1 := h0.out.fcell (k := j * 20 + k) (by omega)
          have hx := HB.out (k * 20 + j) (by omega)
          rcases ha : amtB (c (k * 20 + j)) with _ | _
          · have HA := hid ha
            have HX := hid hx
            have hnq : q = false := by
              rw [← Bool.not_eq_true]
              intro ht
              have := (HQ.out.1 ht).1 (k * 20 + j) (by have := HK.out; have := HJ.out; omega)
              rw [ha] at this; cases this
            subst hnq
            clear ha hx
            go_wp2_with fail
            go_quiet ((go_at_call 82; exact Calls.quiet_of (sAmount_fq (c (k * 20 + j)) HX.out HA.out _)))
            go_wp2
            go_ret
            exact ⟨rfl, below_drewN hb.out _⟩
          · have HA := hid ha
            rcases ho : (FloatKind.f32.format.order (c (k * 20 + j)) (c (j * 20 + k)) != some .eq) with _ | _
            · have HR2 : Hid (∀ i, i < j + 1 → amtB (c (k * 20 + i)) = true ∧ (FloatKind.f32.format.order (c (k * 20 + i)) (c (i * 20 + k)) != some .eq) = false) := hid (all_step hR.out ⟨ha, ho⟩)
              clear ha hx
              go_wp2_with fail
              go_quiet ((go_at_call 82; exact Calls.quiet_of_same (back (sAmount_t (c (k * 20 + j)) HA.out _))))
              go_wp2
              go_roundw
              case rel => exact ⟨j + 1, by omega, by go_num, HR2, h0, hid (below_drewN hb.out _)⟩
              case measure => simp [intOf]; omega
            · have hnq : q = false := by
                rw [← Bool.not_eq_true]
                intro ht
                have hs := (HQ.out.1 ht).2 k j HK.out HJ.out
                have h1 := feq_amt ha (hs ▸ ha)
                rw [decide_eq_true hs] at h1
                have h2 : (!(FloatKind.f32.format.order (c (k * 20 + j)) (c (j * 20 + k)) == some .eq)) = true := ho
                rw [show (FloatKind.f32.format.order (c (k * 20 + j)) (c (j * 20 + k)) == some .eq) = true from h1] at h2
                cases h2
              subst hnq
              clear ha hx
              go_wp2_with fail
              go_quiet ((go_at_call 82; exact Calls.quiet_of_same (back (sAmount_t (c (k * 20 + j)) HA.out _))))
              go_wp2
              go_ret
              exact ⟨rfl, below_drewN hb.out _⟩
        · obtain rfl : j = 20 := by omega
          have HA2 : Hid (∀ i j, i < k + 1 → j < 20 → amtB (c (i * 20 + j)) = true ∧ (FloatKind.f32.format.order (c (i * 20 + j)) (c (j * 20 + i)) != some .eq) = false) := hid fun i j hi hj => by
            rcases Nat.lt_or_eq_of_le (Nat.le_of_lt_succ hi) with h | h
            · exact hA.out i j h hj
            · rw [h]; exact hR.out j hj
          go_wp2
          go_roundw
          case rel => exact ⟨k + 1, by omega, by go_num, HA2, h0, hb⟩
          case measure => simp [intOf]; omega
    · obtain rfl : k = 20 := by omega
      have hqt : q = true := HQ.out.2 ⟨fun n hn => by
        have := (hA.out (n / 20) (n % 20) (by omega) (by omega)).1
        rwa [show n / 20 * 20 + n % 20 = n by omega] at this, fun i j hi hj => by
        have h1 := feq_amt (hA.out i j hi hj).1 (hA.out j i hj hi).1
        have h2 : (!(FloatKind.f32.format.order (c (i * 20 + j)) (c (j * 20 + i)) == some .eq)) = false := (hA.out i j hi hj).2
        by_cases e : c (i * 20 + j) = c (j * 20 + i)
        · exact e
        · rw [decide_eq_false e] at h1
          rw [show (FloatKind.f32.format.order (c (i * 20 + j)) (c (j * 20 + i)) == some .eq) = false from h1] at h2
          cases h2⟩
      subst hqt
      go_wp2
      go_ret
      exact ⟨rfl, hb.out⟩

theorem ixk (c : Nat → Nat) (k : Nat) (hk : k < 20) (w : World) :
    (Instr.index 49 (.agg (vls 400 (flw c))) (.int .i64 (k : Int))).run Tryd.prog w = .ok (.agg (fls (rowK c k))) w :=
  run_index_row Tryd.underlying49 Tryd.underlying30 rfl info_a20 400 (flw c) k hk (by omega) w

theorem ixr (c : Nat → Nat) (k : Nat) (hk : k < 20) (w : World) :
    (Instr.index 30 (.agg (fls c)) (.int .i64 (k : Int))).run Tryd.prog w = .ok (.float .f32 (c k)) w := ix 30 Tryd.underlying30 c k hk w

set_option maxHeartbeats 1000000 in
set_option maxRecDepth 100000 in
theorem iTransposed (c : Nat → Nat) (w : World) :
    Calls Tryd.prog 89 #[.agg (vls 400 (flw c))] w fun e w' => e = .returned (.agg (vls 400 (flw (trK c)))) ∧ Below w.heap.size w w' := by
  have A0 := hid (((vAt.new w 400 (flw c) 49).alloc (.cells (vls 400 (flw fun _ => 0)) 49)).alloc (.cells (vls 400 (flw fun _ => 0)) 49))
  have A1 := hid ((vAt.new1 w (.cells (vls 400 (flw c)) 49) 400 (flw fun _ => 0) 49).alloc (.cells (vls 400 (flw fun _ => 0)) 49))
  have A2 := hid (vAt.new2 w (.cells (vls 400 (flw c)) 49) (.cells (vls 400 (flw fun _ => 0)) 49) 400 (flw fun _ => 0) 49)
  have b0 := boxed3 w (.cells (vls 400 (flw c)) 49) (.cells (vls 400 (flw fun _ => 0)) 49) (.cells (vls 400 (flw fun _ => 0)) 49)
  go_enter Tryd.func89, Tryd.ntmps89
  go_wp2_with (refine wpList_load_row rfl 49 _ rfl (w.heap.size) rfl 49 (vls 400 (flw c)) (0, 0) _ A0.out Tryd.underlying49 rfl (by rw [vls_size]; exact info_kern) ?_)
  go_loopw [9] (fun i wr => ∃ k : Nat, k ≤ 20 ∧ i = .int .i64 k ∧ Hid (vAt wr (w.heap.size + 1 + 1) 400 (flw (trP c k 0)) 49) ∧ Hid (vAt wr (w.heap.size + 1) 400 (flw fun _ => 0) 49) ∧ Hid (Below w.heap.size w wr)) (fun i _ => 20 - (intOf i).toNat)
  case atStart => exact ⟨0, by omega, rfl, hid (A2.out.ext fun i _ => by unfold flw; rw [trP_zero]), A1, hid b0⟩
  case round =>
    obtain ⟨k, hk, rfl, g2, g1, hb⟩ := hrel
    by_cases hlt : k < 20
    · have HK := hid hlt
      have hk3 : (k : Int) < 20 := by omega
      have hix := ixk c k hlt
      have hs := hb.out.size
      have N0 := hid (arrAt.new wr (fun _ => 0) 30)
      have P0 := hid (N0.out.setRow (rowK c k))
      have n2 := hid ((g2.out.alloc (.cells (fls fun _ => 0) 30)).setRowOther (k := wr.heap.size) (Nat.ne_of_lt g2.out.lt) (fls (rowK c k)))
      have n1 := hid ((g1.out.alloc (.cells (fls fun _ => 0) 30)).setRowOther (k := wr.heap.size) (Nat.ne_of_lt g1.out.lt) (fls (rowK c k)))
      have nb := below_row (hb.out.alloc hb.out.size (.cells (fls fun _ => 0) 30)) hb.out.size (g := wr.heap.size) (fls (rowK c k))
      clear A0 A1 A2
      have tok1 : True := trivial
      go_wp2_with (first | (have _t := P1; refine wpList_load_row rfl 30 _ rfl (wr.heap.size) rfl 30 (fls (rowK c k)) (0, 0) _ P1.out Tryd.underlying30 rfl (by rw [fls_size]; exact info_a20) ?_) | (have _t := tok1; refine store_abs rfl 30 _ _ rfl wr.heap.size (rowK c k) rfl rfl 30 _ N0.out info_a20 ?_; intro w9 hw9; rw [← hw9] at P0 n2 n1 nb; clear hw9 N0 g1 g2 hb tok1; have P1 := hid P0.out))
      clear hix
      go_loopw [14] (fun i wr2 => ∃ j : Nat, j ≤ 20 ∧ i = .int .i64 j ∧ Hid (vAt wr2 (w.heap.size + 1 + 1) 400 (flw (trP c k j)) 49) ∧ Hid (vAt wr2 (w.heap.size + 1) 400 (flw fun _ => 0) 49) ∧ Hid (Below w.heap.size w wr2)) (fun i _ => 20 - (intOf i).toNat)
      case atStart => exact ⟨0, by omega, rfl, n2, n1, hid nb⟩
      case round =>
        clear n2 n1 nb P0 P1
        obtain ⟨j, hj, rfl, g2, g1, hb⟩ := hrel
        by_cases hlj : j < 20
        · have HJ := hid hlj
          have hj3 : (j : Int) < 20 := by omega
          have hix := ixr (rowK c k) j hlj
          have q2 := g2.out.cell (k := j * 20 + k) (by omega)
          have f2 := g2.out.frozen (j * 20 + k)
          have n2 := hid ((g2.out.fset (j * 20 + k) (rowK c k j)).ext (d := flw (trP c k (j + 1))) fun n _ => by unfold flw; rw [show rowK c k j = c (k * 20 + j) from rfl, trP_set c HK.out HJ.out])
          have n1 := hid (g1.out.setOther (a := ⟨w.heap.size + 1 + 1, j * 20 + k, none⟩) (by simp) (.float .f32 (rowK c k j)))
          have nb := hb.out.setCell (p := ⟨w.heap.size + 1 + 1, j * 20 + k, none⟩) (by simp; omega) (.float .f32 (rowK c k j))
          clear g2 g1 hb
          go_wp2
          go_roundw
          case rel => exact ⟨j + 1, by omega, by go_num, n2, n1, hid nb⟩
          case measure => simp [intOf]; omega
        · obtain rfl : j = 20 := by omega
          have n2 := hid (g2.out.ext (d := flw (trP c (k + 1) 0)) fun n hn => by unfold flw; rw [trP_next c k n hn])
          clear g2
          go_wp2
          go_roundw
          case rel => exact ⟨k + 1, by omega, by go_num, n2, g1, hb⟩
          case measure => simp [intOf]; omega
    · obtain rfl : k = 20 := by omega
      have n2 := hid (g2.out.ext (d := flw (trK c)) fun n _ => by unfold flw; rw [trP_all])
      clear g2
      go_wp2_with (first | (refine wpList_load_row rfl 49 _ rfl (w.heap.size + 1 + 1) rfl 49 (vls 400 (flw (trK c))) (0, 0) _ n2.out Tryd.underlying49 rfl (by rw [vls_size]; exact info_kern) ?_) | (refine wpList_store_row rfl 49 _ _ rfl (w.heap.size + 1) (vls 400 (flw (trK c))) rfl rfl 49 _ g1.out (by rw [vls_size]; exact info_kern) (by simp) (vls_one (flw_one _)) ?_))
      exact bodyPost_ret (results_cell_row rfl _ _ (w.heap.size + 1) 49 (vls 400 (flw (trK c))) (0, 0) _ rfl (g1.out.setRow (flw (trK c))) Tryd.underlying49 rfl (by rw [vls_size]; exact info_kern)) rfl ⟨rfl, below_row hb.out (by omega) _⟩

theorem eq_kern (c d : Nat → Nat) (w : World) : (binOp .eql 49 (.agg (vls 400 (flw c))) (.agg (vls 400 (flw d)))).run Tryd.prog w = .ok (.bool (eqK c d)) w := by
  have hR : (Tryd.prog.info? 30).map (·.size) = some 20 := info_a20
  cases hi : Tryd.prog.info? 30 with
  | none => rw [hi] at hR; cases hR
  | some iR =>
    rw [hi] at hR
    obtain ⟨iE, h1, _⟩ := info_f32
    exact run_eq_kernels Tryd.underlying49 Tryd.underlying30 Tryd.underlying22 hi (by simpa using hR) h1 (by kernel_rfl) (by kernel_rfl) c d w

theorem run_trans (a : Act) (p : Tmp) (v : Value) (hx : a.eval (.tmp p) = v) (d : Option Tmp) (ats : Array TypeId) (t : TypeId) (ps : String) (af : Array Edge) (gd : Option (Nat × Bool)) (w : World) :
    (execOp a.eval ⟨d, .call { callee := .value (.func 89), args := #[.tmp p], argTypes := ats }, t, ps, af, gd⟩).run Tryd.prog w = .ok (.enter 89 #[v]) w := by
  have hx' : a.tmps[p]?.getD undef = v := by rw [← hx]; simp [Act.eval]
  clear hx
  unfold execOp
  go_simp

set_option maxHeartbeats 1000000 in
set_option maxRecDepth 100000 in
theorem iValidKernel (c : Nat → Nat) (hb : ∀ i, i < 400 → c i < 4294967296) (q : Bool) (hq : q = true ↔ KOk c) (w : World) :
    Calls Tryd.prog 61 #[.agg (vls 400 (flw c))] w fun e w' => e = .returned (.bool q) ∧ Below w.heap.size w w' := by
  have A0 := hid (vAt.new w 400 (flw c) 49)
  have b0 := boxed w (.cells (vls 400 (flw c)) 49)
  have HB := hid hb
  have HQ := hid hq
  clear hb hq
  go_enter Tryd.func61, Tryd.ntmps61
  go_wp2_with (refine wpList_load_row rfl 49 _ rfl (w.heap.size) rfl 49 (vls 400 (flw c)) (0, 0) _ A0.out Tryd.underlying49 rfl (by rw [vls_size]; exact info_kern) ?_)
  go_loopw [6] (fun i wr => ∃ k : Nat, k ≤ 20 ∧ i = .int .i64 k ∧ Hid (∀ n, n < k * 20 → amtB (c n) = true) ∧ Hid (vAt wr w.heap.size 400 (flw c) 49) ∧ Hid (Below w.heap.size w wr)) (fun i _ => 20 - (intOf i).toNat)
  case atStart => exact ⟨0, by omega, rfl, hid (fun n hn => by omega), A0, hid b0⟩
  case round =>
    obtain ⟨k, hk, rfl, hA, g0, hb⟩ := hrel
    by_cases hlt : k < 20
    · have HK := hid hlt
      have hk3 : (k : Int) < 20 := by omega
      have hix := ixk c k hlt
      have N0 := hid (arrAt.new wr (fun _ => 0) 30)
      have P0 := hid (N0.out.setRow (rowK c k))
      have n0 := hid ((g0.out.alloc (.cells (fls fun _ => 0) 30)).setRowOther (k := wr.heap.size) (Nat.ne_of_lt g0.out.lt) (fls (rowK c k)))
      have nb := below_row (hb.out.alloc hb.out.size (.cells (fls fun _ => 0) 30)) hb.out.size (g := wr.heap.size) (fls (rowK c k))
      clear A0 b0
      have tok1 : True := trivial
      go_wp2_with (first | (have _t := P1; refine wpList_load_row rfl 30 _ rfl (wr.heap.size) rfl 30 (fls (rowK c k)) (0, 0) _ P1.out Tryd.underlying30 rfl (by rw [fls_size]; exact info_a20) ?_) | (have _t := tok1; refine store_abs rfl 30 _ _ rfl wr.heap.size (rowK c k) rfl rfl 30 _ N0.out info_a20 ?_; intro w9 hw9; rw [← hw9] at P0 n0 nb; clear hw9 N0 g0 hb tok1; have P1 := hid P0.out))
      by_cases hv : Amts (rowK c k)
      · have HA2 : Hid (∀ n, n < (k + 1) * 20 → amtB (c n) = true) := hid fun n hn => by
          by_cases h : n < k * 20
          · exact hA.out n h
          · have := hv (n - k * 20) (by omega)
            unfold rowK at this
            rwa [show k * 20 + (n - k * 20) = n by omega] at this
        refine (validSizes_t (rowK c k) hv _).mono ?_
        rintro e w3 ⟨rfl, hb3⟩
        have n0 := hid (n0.out.stay hb3)
        have nb := stp nb (Nat.le_refl _) hb3
        clear hv hix P0 P1
        go_wp2
        go_roundw
        case rel => exact ⟨k + 1, by omega, by go_num, HA2, n0, hid nb⟩
        case measure => simp [intOf]; omega
      · have hnq : q = false := by
          rw [← Bool.not_eq_true]
          intro ht
          exact hv fun i hi => (HQ.out.1 ht).1 (k * 20 + i) (by have := HK.out; omega)
        subst hnq
        refine (validSizes_f (rowK c k) (fun i hi => HB.out _ (by have := HK.out; omega)) hv _).mono ?_
        rintro e w3 ⟨rfl, hb3⟩
        have nb := stp nb (Nat.le_refl _) hb3
        clear hv hix P0 P1
        go_wp2
        go_ret
        exact ⟨rfl, nb⟩
    · obtain rfl : k = 20 := by omega
      have hall : AmtK c := hA.out
      have hqe : eqK c (trK c) = q := by
        have h1 := eqK_sym hall
        cases q
        · rw [← Bool.not_eq_true]
          intro ht
          have := HQ.out.2 ⟨hall, h1.1 ht⟩
          cases this
        · exact h1.2 (HQ.out.1 rfl).2
      have HE := hid hqe
      have k0 : Hid (Kept w [(w.heap.size, vls 400 (flw c), 49)] wr) := hid ⟨hb.out, fun x hx => by rw [List.mem_singleton.1 hx]; exact g0.out⟩
      clear hall hqe A0 b0 g0 hb hA
      go_wp2_with fail
      refine region_kept (w0 := w) (l := [(w.heap.size, vls 400 (flw c), 49)]) 5 #[false, false, false, false, false] (by kernel_rfl) rfl rfl ?_
      have kd := k0.out.drew
      clear k0
      generalize wr.drew = wd at kd ⊢
      refine take_load 0 _ _ rfl (by rfl) (by kernel_rfl) (by kernel_rfl) (by kernel_rfl) 49 _ rfl w.heap.size (vls 400 (flw c)) 49 (by rfl) (by simp) _ Tryd.underlying49 rfl (by rw [vls_size]; exact info_kern) rfl rfl kd ?_
      refine take_load 1 _ _ rfl (by rfl) (by kernel_rfl) (by kernel_rfl) (by kernel_rfl) 49 _ rfl w.heap.size (vls 400 (flw c)) 49 (by rfl) (by simp) _ Tryd.underlying49 rfl (by rw [vls_size]; exact info_kern) rfl rfl kd ?_
      simp only [Act.put, List.setIfInBounds_toArray, List.set_cons_zero, List.set_cons_succ]
      refine wpAnyH_ready (rs := [2]) (by kernel_rfl) (by simp) ?_
      refine callK 2 _ _ (.agg (vls 400 (flw (trK c)))) kd rfl (by rfl) 89 #[.agg (vls 400 (flw c))] (fun w => run_trans _ 14 _ (by rfl) _ _ _ _ _ _ w) rfl rfl ?hc (fun w1 k1 => ?_) AllReadyH.nil
      case hc => exact iTransposed c _
      refine ⟨k1, ?_⟩
      simp only [Act.put, List.setIfInBounds_toArray, List.set_cons_zero, List.set_cons_succ]
      refine take_val 3 _ _ (.bool (eqK c (trK c))) rfl (by rfl) (by kernel_rfl) (by kernel_rfl) (by kernel_rfl) (fun w => run_binop_val _ _ _ _ (by rfl) (by rfl) (run_eqGuard_agg _ _ _ _ _ _ _ (by kernel_rfl)) (eq_kern _ _ w)) rfl rfl k1 ?_
      refine take_val 4 _ _ (.bool (eqK c (trK c))) rfl (by rfl) (by kernel_rfl) (by kernel_rfl) (by kernel_rfl) (fun w => by rfl) rfl rfl k1 ?_
      refine wpAnyH_done (by kernel_rfl) (NoPanic.normal ?_) _
      simp only [Act.put, List.setIfInBounds_toArray, List.set_cons_zero, List.set_cons_succ]
      rw [HE.out]
      go_wp2
      go_ret
      exact ⟨rfl, k1.1⟩

/-- The text of the first n rows of a kernel. -/
def txK (c : Nat → Nat) (n : Nat) : ByteArray := linB (fun i => txR (rowK c i) 20) n

def txKq (q : Bool) (c : Nat → Nat) : ByteArray := if q = true then txK c 20 else ⟨#[]⟩

theorem txK_size (c : Nat → Nat) (n : Nat) : (txK c n).size ≤ 181 * n := linB_size (fun i => txR_size (rowK c i) 20) n

theorem txK_next (c : Nat → Nat) (n : Nat) : txK c (n + 1) = txK c n ++ (txR (rowK c n) 20 ++ ⟨#[10]⟩) := rfl

theorem rd_row {w : World} {g : Nat} {c : Nat → Nat} {T : TypeId} (h : vAt w g 400 (flw c) T) {k : Nat} (hk : k < 20) : RdV w (.slice (some ⟨g, k * 20, none⟩) 20 20) 20 (flV (rowK c k)) :=
  ⟨some ⟨g, k * 20, none⟩, 20, rfl, fun _ => ⟨g, k * 20, rfl, fun j hj => h.cell (by omega)⟩⟩

set_option maxRecDepth 100000 in
set_option maxHeartbeats 1000000 in
theorem sKText (c : Nat → Nat) (hc : ∀ i, i < 400 → c i < 4294967296) (w : World) (g : Nat) (T : TypeId) (hg : vAt w g 400 (flw c) T) :
    Calls Tryd.prog 59 #[.pointer (some ⟨g, 0, none⟩)] w fun e w' => e = .returned (.string (txK c 20)) ∧ Below w.heap.size w w' := by
  have k0 : Hid (Kept w [(g, vls 400 (flw c), T)] w) := hid (keptG hg)
  have HC := hid hc
  clear hc hg
  go_enter Tryd.func59, Tryd.ntmps59
  go_wp2_with fail
  go_loopw [3, 4] (fun v i wr => ∃ k : Nat, k ≤ 20 ∧ v = .string (txK c k) ∧ i = .int .i64 (k : Int) ∧ Hid (Kept w [(g, vls 400 (flw c), T)] wr)) (fun _ i _ => 20 - (intOf i).toNat)
  case atStart => exact ⟨0, by omega, rfl, rfl, k0⟩
  case round =>
    clear k0
    obtain ⟨k, hk, rfl, rfl, h1⟩ := hrel
    by_cases hlt : k < 20
    · have HL := hid hlt
      have hk3 : (k : Int) < 20 := by omega
      have hw9 := wr_k1 hlt (by omega)
      have z1 : (txK c k).size ≤ 9000 := Nat.le_trans (txK_size c k) (Nat.le_trans (Nat.mul_le_mul_left 181 hk) (by decide))
      have z2 : (txR (rowK c k) 20).size ≤ 180 := txR_size (rowK c k) 20
      have hX := hid (fun w s hs => sRow s 20 (rowK c k) (fun i hi => HC.out _ (by have := HL.out; omega)) w hs (by omega))
      have hM := hid (txK_next c k)
      have HR := hid (rd_row (h1.out.v in0) hlt)
      generalize txK c k = S at hM z1 ⊢
      generalize txR (rowK c k) 20 = U at hX hM z2
      go_wp2_with fail
      refine (hX.out _ _ HR.out).mono ?_
      rintro e w1 ⟨rfl, hb⟩
      have h2 := hid (h1.out.stay hb)
      clear h1 hb HR hX
      go_wp2_with fail
      go_roundw
      case rel => exact ⟨k + 1, HL.out, congrArg Value.string hM.out.symm, by go_num, h2⟩
      case measure => first | exact ms_io HL.out | (rw [hw9]; exact ms_io HL.out)
    · obtain rfl : k = 20 := by omega
      have hk3 : ¬ ((20 : Nat) : Int) < 20 := by omega
      go_wp2
      go_ret
      exact ⟨rfl, h1.out.1⟩

set_option maxRecDepth 100000 in
set_option maxHeartbeats 1000000 in
theorem sKernelText (c : Nat → Nat) (hc : ∀ i, i < 400 → c i < 4294967296) (q : Bool) (hq : q = true ↔ KOk c) (w : World) :
    Calls Tryd.prog 29 #[.agg (vls 400 (flw c))] w fun e w' => e = .returned (.string (txKq q c)) ∧ Below w.heap.size w w' := by
  have k0 := hid ((Kept.nil w).push (vls 400 (flw c)) 49)
  have HC := hid hc
  have HQ := hid hq
  clear hc hq
  go_enter Tryd.func29, Tryd.ntmps29
  go_wp2_with fail
  refine (sKOk c HC.out q HQ.out _ w.heap.size 49 (k0.out.v in0)).mono ?_
  rintro e w1 ⟨rfl, hb⟩
  have k1 := hid (k0.out.stay hb)
  clear k0 hb
  cases q
  · go_wp2
    go_ret
    exact ⟨rfl, k1.out.1⟩
  · go_wp2_with fail
    refine (sKText c HC.out _ w.heap.size 49 (k1.out.v in0)).mono ?_
    rintro e w2 ⟨rfl, hb⟩
    have k2 := hid (k1.out.stay hb)
    clear k1 hb
    go_wp2
    go_ret
    exact ⟨rfl, k2.out.1⟩

/-- The bytes that a builder holds. -/
def blB (b : ByteArray) : List Value := Go.Lib.byteCells b.data.toList

theorem blB_len (b : ByteArray) : (blB b).length = b.size := by unfold blB; rw [Go.Lib.byteCells_length]; rfl

theorem blB_next (S U : ByteArray) : (blB S ++ Go.Lib.strCells U) ++ Go.Lib.strCells ⟨#[10]⟩ = blB (S ++ (U ++ ⟨#[10]⟩)) := by
  unfold blB
  rw [Go.Lib.strCells_eq, Go.Lib.strCells_eq, ← Go.Lib.byteCells_append, ← Go.Lib.byteCells_append]
  congr 1
  simp

theorem txSq_ok {c : Nat → Nat} (h : KOk c) {k : Nat} (hk : k < 20) : szB (rowK c k) = true := List.all_eq_true.2 fun j hj => h.1 _ (by have := List.mem_range.1 hj; omega)

theorem row_lt {k i : Nat} (hk : k < 20) (hi : i < 20) : k * 20 + i < 400 := by omega

theorem wlen1 {a b : Nat} (h1 : a ≤ 9000) (h2 : b ≤ 180) : a + b ≤ 140737488355328 := by omega

theorem wlen2 {a b : Nat} (h1 : a ≤ 9000) (h2 : b ≤ 180) : a + b + (⟨#[10]⟩ : ByteArray).size ≤ 140737488355328 := by
  have : (⟨#[10]⟩ : ByteArray).size = 1 := rfl
  omega

set_option maxRecDepth 100000 in
set_option maxHeartbeats 1000000 in
theorem iKernelText (c : Nat → Nat) (hc : ∀ i, i < 400 → c i < 4294967296) (q : Bool) (hq : q = true ↔ KOk c) (w : World) (ht : Tab64 w) :
    Calls Tryd.prog 31 #[.agg (vls 400 (flw c))] w fun e w' => e = .returned (.string (txKq q c)) ∧ Below w.heap.size w w' := by
  have k0 := hid ((Kept.nil w).push (vls 400 (flw c)) 49)
  have HT := hid ht
  have HC := hid hc
  have HQ := hid hq
  clear hc hq ht
  go_enter Tryd.func31, Tryd.ntmps31
  go_wp2_with (refine wpList_load_row rfl 49 _ rfl (w.heap.size) rfl 49 (vls 400 (flw c)) (0, 0) _ (k0.out.at (x := (w.heap.size, vls 400 (flw c), 49)) in0) Tryd.underlying49 rfl (by rw [vls_size]; exact info_kern) ?_)
  refine (iValidKernel c HC.out q HQ.out _).mono ?_
  rintro e w1 ⟨rfl, hb⟩
  have k1 := hid (k0.out.stay hb)
  clear k0 hb
  cases q
  · go_wp2
    go_ret
    exact ⟨rfl, k1.out.1⟩
  · have OK := hid (HQ.out.1 rfl)
    have bs : w.heap.size ≤ w1.heap.size := k1.out.size
    have k2 := hid (k1.out.push (#[.pointer none, .slice none 0 0] : Array Value) 97)
    have b0 : Hid (Go.Lib.IsBuilderF 97 5 w1.heap.size w1.heap.size (blB (txK c 0)) (w1.alloc (.cells (#[.pointer none, .slice none 0 0] : Array Value) 97))) := hid (bld_new (k2.out.at (x := (w1.heap.size, _, _)) in0))
    clear k1
    go_wp2_with (refine wpList_load_row rfl 49 _ rfl (w.heap.size) rfl 49 (vls 400 (flw c)) (0, 0) _ (k2.out.at (x := (w.heap.size, vls 400 (flw c), 49)) in1) Tryd.underlying49 rfl (by rw [vls_size]; exact info_kern) ?_)
    have q0 : Hid (Below w.heap.size w (w1.alloc (.cells (#[.pointer none, .slice none 0 0] : Array Value) 97)) ∧ w1.heap.size ≤ (w1.alloc (.cells (#[.pointer none, .slice none 0 0] : Array Value) 97)).heap.size) := hid ⟨k2.out.1, by simp⟩
    clear k2
    go_loopw [10] (fun i wr => ∃ k : Nat, k ≤ 20 ∧ i = .int .i64 (k : Int) ∧ Hid (Go.Lib.IsBuilderF 97 5 w1.heap.size w1.heap.size (blB (txK c k)) wr) ∧ Hid (Below w.heap.size w wr ∧ w1.heap.size ≤ wr.heap.size)) (fun i _ => 20 - (intOf i).toNat)
    case atStart => exact ⟨0, by omega, rfl, b0, q0⟩
    case round =>
      clear b0 q0
      obtain ⟨k, hk, rfl, h1, h2⟩ := hrel
      by_cases hlt : k < 20
      · have HL := hid hlt
        have hk3 : (k : Int) < 20 := by omega
        have hw9 := wr_k1 hlt (by omega)
        have hix : ∀ w, (Instr.index 49 (.agg (vls 400 (flw c))) (.int .i64 (k : Int))).run Tryd.prog w = .ok (.agg (fls (rowK c k))) w := fun w => run_index_row Tryd.underlying49 Tryd.underlying30 rfl info_a20 400 (flw c) k hlt (by omega) w
        have kA := hid ((Kept.nil wr).push (fls fun _ => 0) 30)
        have fr := (Kept.nil wr).fresh
        have tok1 : True := trivial
        go_wp2_with (first | (have _t := tok1; refine store_row (by rfl) 30 _ _ (by rfl) (wr.heap.size) (fls (rowK c k)) (fls fun _ => 0) (by rfl) (by rfl) kA.out (by rw [fls_size]; exact info_a20) (by simp) (fls_one _) (Nat.le_refl _) fr ?_; intro w3 k3; replace k3 := hid k3; clear kA tok1) | (refine wpList_load_row rfl 30 _ rfl (wr.heap.size) rfl 30 (fls (rowK c k)) (0, 0) _ (k3.out.at (x := (wr.heap.size, fls (rowK c k), 30)) in0) Tryd.underlying30 rfl (by rw [fls_size]; exact info_a20) ?_))
        have bw3 : Hid (Below w.heap.size w w3) := hid (stp h2.out.1 (Nat.le_refl _) k3.out.1)
        have z1 : (txK c k).size ≤ 9000 := Nat.le_trans (txK_size c k) (Nat.le_trans (Nat.mul_le_mul_left 181 hk) (by decide))
        have z2 : (txR (rowK c k) 20).size ≤ 180 := txR_size (rowK c k) 20
        have hX := iSizesText (rowK c k) (fun i hi => HC.out _ (row_lt HL.out hi)) true (txSq_ok OK.out HL.out) w3 (HT.out.stay bw3.out)
        rw [show txSq true (rowK c k) = txR (rowK c k) 20 from if_pos rfl] at hX
        have hM := hid (txK_next c k)
        generalize txK c k = S at hM z1 h1
        generalize txR (rowK c k) 20 = U at hX hM z2
        have Z := hid (And.intro z1 z2)
        clear z1 z2 bw3
        refine hX.mono ?_
        rintro e w4 ⟨rfl, hb⟩
        have k4 := hid (k3.out.stay hb)
        clear k3 hb hX
        have l4 : w1.heap.size ≤ w4.heap.size := Nat.le_trans h2.out.2 k4.out.1.size
        go_wp2_with fail
        refine (shWrite w1.heap.size w1.heap.size (blB S) U _ (bld_stay h1.out k4.out.1) (by rw [blB_len]; exact wlen1 Z.out.1 Z.out.2) l4).mono ?_
        rintro e w5 ⟨rfl, g5, hb5, -⟩
        have G5 := hid g5
        have HB5 := hid hb5
        have l5 : w1.heap.size ≤ w5.heap.size := Nat.le_trans l4 hb5.size
        clear g5 hb5
        go_wp2_with fail
        refine (shWrite w1.heap.size w1.heap.size (blB S ++ Go.Lib.strCells U) ⟨#[10]⟩ _ (.inr G5.out) (by rw [List.length_append, blB_len, Go.Lib.strCells_length]; exact wlen2 Z.out.1 Z.out.2) l5).mono ?_
        rintro e w6 ⟨rfl, g6, hb6, -⟩
        rw [blB_next, ← hM.out] at g6
        have G6 := hid g6
        have l6 : w1.heap.size ≤ w6.heap.size := Nat.le_trans l5 hb6.size
        have B6 := hid (And.intro (((stp h2.out.1 (Nat.le_refl _) k4.out.1).trans (HB5.out.mono bs)).trans (hb6.mono bs)) l6)
        clear g6 hb6 l4 l5 l6
        go_wp2_with fail
        go_roundw
        case rel => exact ⟨k + 1, HL.out, by go_num, hid (.inr G6.out), B6⟩
        case measure => first | exact ms_io HL.out | (rw [hw9]; exact ms_io HL.out)
      · obtain rfl : k = 20 := by omega
        have hk3 : ¬ ((20 : Nat) : Int) < 20 := by omega
        go_wp2_with fail
        refine (shString w1.heap.size w1.heap.size (txK c 20).data.toList _ h1.out h2.out.2).mono ?_
        rintro e w2 ⟨rfl, -, hb, -⟩
        have B2 := hid (h2.out.1.trans (hb.mono bs))
        clear hb
        go_wp2
        go_ret
        refine ⟨?_, B2.out⟩
        rw [show txKq true c = txK c 20 from if_pos rfl]
        generalize txK c 20 = S
        exact congrArg (fun s => Ending.returned (Value.string s)) (mk_list S)

set_option maxRecDepth 100000 in
set_option maxHeartbeats 1000000 in
theorem lawKernelText (c : Nat → Nat) (hc : ∀ i, i < 400 → c i < 4294967296) {w : World} (ht : Tab64 w) :
    Calls Tryd.prog 9 #[.agg (vls 400 (flw c))] w fun e w' => e = .returned (.bool true) ∧ Below w.heap.size w w' := by
  obtain ⟨q, hq⟩ : ∃ q : Bool, q = true ↔ KOk c := by
    rcases Classical.em (KOk c) with h | h
    · exact ⟨true, ⟨fun _ => h, fun _ => rfl⟩⟩
    · exact ⟨false, ⟨fun h2 => (Bool.noConfusion h2), fun h2 => absurd h2 h⟩⟩
  have k0 := hid ((Kept.nil w).push (vls 400 (flw c)) 47)
  have HT := hid ht
  have HC := hid hc
  have HQ := hid hq
  clear hc hq ht
  go_enter Tryd.func9, Tryd.ntmps9
  go_wp2_with (refine wpList_load_row rfl 47 _ rfl (w.heap.size) rfl 47 (vls 400 (flw c)) (0, 0) _ (k0.out.at (x := (w.heap.size, vls 400 (flw c), 47)) in0) Tryd.underlying47 rfl (by rw [vls_size]; exact info_k20) ?_)
  refine (toKernel c _).mono ?_
  rintro e w1 ⟨rfl, hb⟩
  have k1 := hid (k0.out.stay hb)
  clear k0 hb
  go_wp2_with fail
  refine (sKernelText c HC.out q HQ.out _).mono ?_
  rintro e w2 ⟨rfl, hb⟩
  have k2 := hid (k1.out.stay hb)
  clear k1 hb
  go_wp2_with (refine wpList_load_row rfl 47 _ rfl (w.heap.size) rfl 47 (vls 400 (flw c)) (0, 0) _ (k2.out.at (x := (w.heap.size, vls 400 (flw c), 47)) in0) Tryd.underlying47 rfl (by rw [vls_size]; exact info_k20) ?_)
  refine (toKernel c _).mono ?_
  rintro e w3 ⟨rfl, hb⟩
  have k3 := hid (k2.out.stay hb)
  clear k2 hb
  go_wp2_with fail
  refine (iKernelText c HC.out q HQ.out _ (HT.out.stay k3.out.1)).mono ?_
  rintro e w4 ⟨rfl, hb⟩
  have k4 := hid (k3.out.stay hb)
  clear k3 hb
  generalize txKq q c = S
  go_wp2
  go_ret
  exact ⟨rfl, k4.out.1⟩
end Go.Proofs.YtjcdfgcnnnaooaaDoor

namespace Go.Proofs.YtjcdfgcnnnaooaaDoor.fnExactKernelText
open Go.RowKit Go.Fl Go.ChangeShapes Go.WideShapes Go.ChangeAt

set_option maxHeartbeats 2000000 in
theorem closed : joinedFacts Tryd.prog 9 Tryd.f9 Rows.fnExactKernelTextSpec Rows.fnExactKernelTextRow = true := by
  unfold joinedFacts
  simp only [Bool.and_eq_true]
  exact ⟨⟨⟨⟨⟨⟨⟨⟨⟨⟨⟨⟨⟨⟨⟨⟨⟨⟨⟨⟨⟨⟨⟨⟨⟨⟨⟨⟨⟨⟨⟨(by as_aux_lemma => kernel_rfl),
    laid⟩,
    rowed⟩,
    (by as_aux_lemma => kernel_rfl)⟩,
    (by as_aux_lemma => kernel_rfl)⟩,
    (by as_aux_lemma => kernel_rfl)⟩,
    (by rw [no_stops]; rfl)⟩,
    (by as_aux_lemma => kernel_rfl)⟩,
    (by rw [no_knobs]; rfl)⟩,
    (by as_aux_lemma => kernel_rfl)⟩,
    (by as_aux_lemma => kernel_rfl)⟩,
    (by as_aux_lemma => kernel_rfl)⟩,
    (by as_aux_lemma => kernel_rfl)⟩,
    (by as_aux_lemma => kernel_rfl)⟩,
    (by as_aux_lemma => kernel_rfl)⟩,
    (by as_aux_lemma => kernel_rfl)⟩,
    (by as_aux_lemma => kernel_rfl)⟩,
    (by as_aux_lemma => kernel_rfl)⟩,
    (by as_aux_lemma => kernel_rfl)⟩,
    (by as_aux_lemma => kernel_rfl)⟩,
    (by as_aux_lemma => kernel_rfl)⟩,
    (by as_aux_lemma => kernel_rfl)⟩,
    (show (Rows.fnExactKernelTextRow.plainKeys == Tryd.prog.plainKeys) = true by rw [plain_keys]; rfl)⟩,
    (by as_aux_lemma => kernel_rfl)⟩,
    stops_heard⟩,
    may_enter⟩,
    (show (Rows.fnExactKernelTextRow.lifted == Tryd.prog.liftsFinal) = true by rw [lifts_final]; rfl)⟩,
    (show (Tryd.prog.make == some Rows.fnExactKernelTextRow.make) = true by rw [made]; rfl)⟩,
    (by as_aux_lemma => kernel_rfl)⟩,
    (by as_aux_lemma => kernel_rfl)⟩,
    (by as_aux_lemma => kernel_rfl)⟩,
    (by as_aux_lemma => kernel_rfl)⟩

set_option maxRecDepth 100000 in
theorem lifted (os : Os) (started : os.Started) (H : Type) (enc : TypeId × Value → H) :
    ReturnsInHanded {} Tryd.checked os 9 .any (fun w args => (Rows.fnExactKernelTextSpec.pre enc Tryd.prog Tryd.f9 Rows.fnExactKernelTextRow.domain false w args ∧ laidMetH Tryd.prog Rows.fnExactKernelTextRow.laid w) ∧ sizedMet enc Tryd.prog Tryd.f9 (OpenSpec.ofChange Rows.fnExactKernelTextSpec) false w args) (Rows.fnExactKernelTextSpec.post enc Tryd.prog Tryd.f9 false true false false) := by
  refine LawFrame.lifted_vars (C := Tryd.checked) (fn := Tryd.f9) (n := 1) (tb := 4) (laidL := Rows.fnExactKernelTextRow.laid) started own (by kernel_rfl) Tryd.func9 laid ?_ rfl ?_ rfl Tryd.underlying4 ?_
    (ChangeSpec.witness_shaped (enc := enc) (C := Tryd.checked) (os := os) (X := fun w _ => laidMetH Tryd.prog Rows.fnExactKernelTextRow.laid w) false (World.doorLaid Tryd.prog 400 os) #[.agg (Array.replicate 400 (.float .f32 0))] 8 rfl (World.shaped_of_RefB (by kernel_rfl) (by kernel_rfl)) (by kernel_rfl) (by kernel_rfl) (by kernel_rfl) (door_metT os _)) ?_
  · intro t ht
    simp only [Tryd.params9, List.mem_cons, List.not_mem_nil, or_false] at ht
    subst ht; exact rdk
  · intro ds gs hd hg
    match ds, gs, hd, hg with
    | [d0], [], _, _ => rfl
  · intro W hL
    exact ⟨[], trivial⟩
  · intro W base args ds ps hval hn hT hL
    obtain ⟨v0, rfl⟩ : ∃ v0, args = #[v0] := arr1 hn
    have ht := tab_of hL
    simp only [Tryd.params9] at hT
    obtain ⟨c0, rfl, hb0⟩ := open_floats Tryd.underlying47 rfl Tryd.underlying22 cells400 types400 (hval 0 47 v0 rfl rfl)
    exact lawKernelText c0 hb0 ht

theorem over : Rows.fnExactKernelTextRow.holds Tryd.pinned (OpenSpec.ofChange Rows.fnExactKernelTextSpec) :=
  OpenClaim.holds_of_wide 9 Tryd.f9 rfl rfl rfl rfl rfl rfl rfl ⟨rfl, rfl, rfl, rfl, rfl⟩ rfl rfl rfl rfl rfl (by kernel_rfl) Tryd.func9 closed
    (of_decide_eq_true (by kernel_rfl)) (by unfold Func.isWrapper; rw [if_neg (by decide +kernel)]; exact ⟨rfl, rfl⟩)
    (fun os started H enc _ => lifted os started H enc)

theorem named : Tryd.prog.funcNamed "loop.example/g01224/laws.FnExactKernelText" = some 9 := by kernel_rfl
theorem c_wf : Rows.fnExactKernelTextRow.wfByText (OpenSpec.ofChange Rows.fnExactKernelTextSpec) = true := by kernel_rfl
theorem c_main : Tryd.pinned.checked.prog.mainIs = some (true, "329017af1714b06bb681f9385b1a25610dfe8a3e677e6ff2a465e5caa2c575ff".toList) := by kernel_rfl
theorem c_looks : true = Tryd.pinned.checked.prog.looks [] := by kernel_rfl
theorem c_goes : false = Rows.fnExactKernelTextRow.goesBy Tryd.pinned.checked.prog := by kernel_rfl
theorem proved : Rows.FnExactKernelTextCardSaid :=
  Claim7.holds_tied_plain_at .later [] [.data, .data, .data] true (true, "329017af1714b06bb681f9385b1a25610dfe8a3e677e6ff2a465e5caa2c575ff") true
    over (fun _ h => by cases h) c_wf (fun _ h => by cases h) fnExactKernelText_row_tie rfl ⟨rfl, rfl⟩ c_main rfl
    (fun f fn hf hfn => by
      obtain rfl : f = 9 := Option.some.inj (named.symm.trans hf) |>.symm
      obtain rfl : fn = Tryd.f9 := (Option.some.inj (Tryd.func9.symm.trans hfn)).symm
      exact ⟨c_looks, fun j t ht => by
        have hm := Array.mem_of_getElem? ht
        rw [Tryd.params9] at hm
        simp only [List.mem_toArray, List.mem_cons, List.not_mem_nil, or_false] at hm
        subst hm; exact (show Tryd.prog.wantsStandIn 47 = false by kernel_rfl)⟩)
    c_goes
#print axioms proved
end Go.Proofs.YtjcdfgcnnnaooaaDoor.fnExactKernelText
