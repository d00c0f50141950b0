import Derived.Test.YtjcdfgcnnnaooaaDoorESoundingText
import Derived.Test.YtjcdfgcnnnaooaaDoorChecked
import Derived.Test.YtjcdfgcnnnaooaaDoorRows
import Derived.Test.YtjcdfgcnnnaooaaDoorCards
import Derived.Test.YtjcdfgcnnnaooaaDoorTie
import Derived.Laws.FloatArith
import Derived.ProofKit
import Derived.WalkKit
import Derived.WalkLawsBesides
import Derived.WalkSpells
import Derived.Deep.RegionHeld3
import Derived.ChangeKeysEq
import Derived.Laws.BitsAllLaws
import Derived.Deep.MidRow
import Derived.Deep.WholeRow
import Derived.StillTailTactics
import Derived.Deep.Slices
import Derived.ChangeSame
import Derived.OrdersIn
import Derived.ControlIn
import Derived.RangeFuncSeq
import Derived.RangeFuncNested
import Derived.ArgAppend
import Derived.OwnWalkIn
import Derived.TacticsInMore
import Derived.Below
import Derived.Laws.AppendOwn
import Derived.Laws.ComplexArith
import Derived.Deep.Strs
import Derived.Laws.IdiomStrings
import Derived.Laws.Bits64b
import Derived.Deep.QuietTactic
import Derived.BigQuiet
import Derived.OpenShut
import Derived.Stop.LaidErr
import Derived.LaidMore
import Derived.Handed
import Derived.LaidHandle
import Derived.Stop.Joined
import Derived.MakeChecks
import Derived.Lib.LaidTab
import Derived.StillTail
import Derived.Shelf.Strings.OnBuilder
import Derived.Lib.Join
import Derived.Shelf.Strings.BuilderK
import Derived.RangeFuncLeaves
import Derived.RangeFuncBox
import Derived.LoopNIn
import Derived.LoopIn
import Derived.Shelf.Abstract
import Derived.SevenTiedAt
/- The tied card of FnExactSoundingText. -/
namespace Go.Proofs.YtjcdfgcnnnaooaaDoor
open Go.RowKit Go.Fl

@[go_sem] theorem ext_f64bits (y : Nat) (w : World) : (callFunc 114 #[.float .f64 y]).run Tryd.prog w = .ok (.value (.int .u64 y)) w := by
  rw [run_callFunc_extern Tryd.func114 (by kernel_rfl) (by kernel_rfl) (by kernel_rfl) (e := Extern.MathFloatBits.float64bits) (by kernel_rfl)]
  rfl

@[go_sem] theorem ext_f64from (n : Int) (w : World) : (callFunc 140 #[.int .u64 n]).run Tryd.prog w = .ok (.value (.float .f64 n.toNat)) w := by
  rw [run_callFunc_extern Tryd.func140 (by kernel_rfl) (by kernel_rfl) (by kernel_rfl) (e := Extern.MathFloatBits.float64frombits) (by kernel_rfl)]
  rfl

theorem hid {p : Prop} (h : p) : Hid p := h

theorem clear_sign (y : Nat) (h : y < 18446744073709551616) : (bits BinOp.andNot IntKind.u64 (y : Int) 9223372036854775808).toNat = y % 9223372036854775808 := by
  rw [u64_andNot _ _ (by omega) (by omega) (by omega) (by omega)]
  rw [Int.toNat_natCast, Int.toNat_natCast]
  exact Nat.and_two_pow_sub_one_eq_mod y 63

theorem abs_f64 (y : Nat) (h : y < 18446744073709551616) (w : World) :
    Calls Tryd.prog 131 #[.float .f64 y] w fun e w' => e = .returned (.float .f64 (y % 9223372036854775808)) ∧ w = w' := by
  have hc := hid (clear_sign y h)
  clear h
  go_enter Tryd.func131, Tryd.ntmps131
  go_wp2
  go_ret
  exact ⟨by simp [hc.out], rfl⟩

theorem isNaN_f64 (y : Nat) (w : World) :
    Calls Tryd.prog 74 #[.float .f64 y] w fun e w' => e = .returned (.bool (FloatKind.f64.format.order y y != some .eq)) ∧ w = w' := by
  go_enter Tryd.func74, Tryd.ntmps74
  go_wp2
  go_ret
  exact ⟨rfl, rfl⟩

theorem isInf_f64 (y : Nat) (h : y < 18446744073709551616) (w : World) :
    Calls Tryd.prog 113 #[.float .f64 y, .int .i64 0] w fun e w' => e = .returned (.bool (FloatKind.f64.format.order (y % 9223372036854775808) 9218868437227405311 == some .gt)) ∧ w = w' := by
  have hc := hid h
  clear h
  go_enter Tryd.func113, Tryd.ntmps113
  go_wp2_with (go_at_call 131; refine (abs_f64 y hc.out _).mono ?_; rintro e w' ⟨rfl, rfl⟩)
  go_ret
  exact ⟨rfl, rfl⟩

theorem isFinite_t (x : Nat) (hx : x < 4294967296) (h : finB x = true) (w : World) :
    Calls Tryd.prog 85 #[.float .f32 x] w fun e w' => e = .returned (.bool true) ∧ w = w' := by
  rw [finB_iff] at h
  have hc := fun w => run_conv_wid (P := Tryd.prog) w 22 28 x hx Tryd.underlying22 Tryd.underlying28 h
  obtain ⟨a, b, m, e, hr⟩ := read_wid_fin hx h
  have hn : (FloatKind.f64.format.order (wid x) (wid x) != some .eq) = false := by
    show (D.order (wid x) (wid x) != some .eq) = false
    rw [order_self hr]; rfl
  have hi : (FloatKind.f64.format.order (wid x % 9223372036854775808) 9218868437227405311 == some .gt) = false := by
    show (D.order (wid x % 9223372036854775808) 9218868437227405311 == some .gt) = false
    rw [b, order_ltD a (by decide)]
    rw [DINF_val] at a
    have hle : wid (mg x) ≤ 9218868437227405311 := by omega
    rcases Nat.lt_or_eq_of_le hle with h' | h'
    · rw [Nat.compare_eq_lt.2 h']; rfl
    · rw [Nat.compare_eq_eq.2 h']; rfl
  have hw : wid x < 18446744073709551616 := D.write_lt _
  have Hn := hid hn
  have Hi := hid hi
  have Hw := hid hw
  clear hn hi hw hr a b h hx
  go_enter Tryd.func85, Tryd.ntmps85
  go_wp2_with (first | (go_at_call 74; refine (isNaN_f64 (wid x) _).mono ?_; rintro e w' ⟨rfl, rfl⟩; rw [Hn.out]) | (go_at_call 113; refine (isInf_f64 (wid x) Hw.out _).mono ?_; rintro e w' ⟨rfl, rfl⟩; rw [Hi.out]))
  go_ret
  exact ⟨rfl, rfl⟩

theorem isFinite_f (x : Nat) (hx : x < 4294967296) (h : finB x = false) (w : World) :
    Calls Tryd.prog 85 #[.float .f32 x] w fun e w' => e = .returned (.bool false) ∧ Below w.heap.size w w' := by
  rw [finB_iff'] at h
  rcases Nat.lt_or_eq_of_le h with h | h
  · obtain ⟨z, hc, h1, _⟩ := run_conv_nan (P := Tryd.prog) w 22 28 x Tryd.underlying22 Tryd.underlying28 h
    obtain ⟨s, t, hr⟩ := read_nanD h1
    have Hn := hid (show (FloatKind.f64.format.order z z != some .eq) = true by
      show (D.order z z != some .eq) = true
      rw [order_nan hr]; rfl)
    clear h h1 hr hx
    go_enter Tryd.func85, Tryd.ntmps85
    go_wp2_with (go_at_call 74; refine (isNaN_f64 z _).mono ?_; rintro e w' ⟨rfl, rfl⟩; rw [Hn.out])
    go_ret
    exact ⟨rfl, (Below.refl _ _).drew⟩
  · obtain ⟨z, hc, h1, h2⟩ := run_conv_inf (P := Tryd.prog) w 22 28 x hx Tryd.underlying22 Tryd.underlying28 h.symm
    have hr : D.read z = .infinity (decide (9223372036854775808 ≤ z)) := by rw [read_signD h2, h1, read_DINF]
    have Hn := hid (show (FloatKind.f64.format.order z z != some .eq) = false by
      show (D.order z z != some .eq) = false
      rw [order_inf hr]; rfl)
    have Hi := hid (show (FloatKind.f64.format.order (z % 9223372036854775808) 9218868437227405311 == some .gt) = true by
      rw [h1]; decide)
    have H2 := hid h2
    clear h h1 hr hx h2
    go_enter Tryd.func85, Tryd.ntmps85
    go_wp2_with (first | (go_at_call 74; refine (isNaN_f64 z _).mono ?_; rintro e w' ⟨rfl, rfl⟩; rw [Hn.out]) | (go_at_call 113; refine (isInf_f64 z H2.out _).mono ?_; rintro e w' ⟨rfl, rfl⟩; rw [Hi.out]))
    go_ret
    exact ⟨rfl, Below.refl _ _⟩

theorem signbit_f64 (y : Nat) (w : World) :
    Calls Tryd.prog 86 #[.float .f64 y] w fun e w' => e = .returned (.bool (decide (wrap64 (y : Int) < 0))) ∧ w = w' := by
  go_enter Tryd.func86, Tryd.ntmps86
  go_wp2
  go_ret
  exact ⟨rfl, rfl⟩

theorem and_sign (y : Nat) (h : y < 18446744073709551616) : (decide (wrap64 (y : Int) < 0)) = decide (9223372036854775808 ≤ y) := by
  unfold wrap64
  by_cases h' : 9223372036854775808 ≤ y
  · rw [decide_eq_true h']; simp; omega
  · rw [decide_eq_false h']; simp; omega

theorem isAmount_t (x : Nat) (h : amtB x = true) (w : World) :
    Calls Tryd.prog 53 #[.float .f32 x] w fun e w' => e = .returned (.bool true) ∧ w = w' := by
  have hf := amt_fin h
  rw [amtB_iff, INF_val] at h
  have hx : x < 4294967296 := by omega
  have hc := fun w => run_conv_wid (P := Tryd.prog) w 22 28 x hx Tryd.underlying22 Tryd.underlying28 (finB_iff.1 hf)
  have hw : wid x < 18446744073709551616 := D.write_lt _
  have Hs := hid (show (decide (wrap64 (wid x : Int) < 0)) = false by
    rw [and_sign _ hw]
    have := (wid_val (x := x) (by rw [INF_val]; omega)).1
    rw [DINF_val] at this
    simp; omega)
  have Hx := hid hx
  have Hf := hid hf
  clear h hf hx hw
  go_enter Tryd.func53, Tryd.ntmps53
  go_wp2_with (first | (go_at_call 85; refine (isFinite_t x Hx.out Hf.out _).mono ?_; rintro e w' ⟨rfl, rfl⟩) | (go_at_call 86; refine (signbit_f64 (wid x) _).mono ?_; rintro e w' ⟨rfl, rfl⟩; rw [Hs.out]))
  go_ret
  exact ⟨rfl, rfl⟩

theorem isAmount_f (x : Nat) (hx : x < 4294967296) (h : amtB x = false) (w : World) :
    Calls Tryd.prog 53 #[.float .f32 x] w fun e w' => e = .returned (.bool false) ∧ Below w.heap.size w w' := by
  rcases hf : finB x with _ | _
  · have Hx := hid hx
    have Hf := hid hf
    clear h hf hx
    go_enter Tryd.func53, Tryd.ntmps53
    go_wp2_with (go_at_call 85; refine (isFinite_f x Hx.out Hf.out _).mono ?_; rintro e w' ⟨rfl, hb⟩)
    go_ret
    exact ⟨rfl, hb⟩
  · have hc := fun w => run_conv_wid (P := Tryd.prog) w 22 28 x hx Tryd.underlying22 Tryd.underlying28 (finB_iff.1 hf)
    have hw : wid x < 18446744073709551616 := D.write_lt _
    have Hs := hid (show (decide (wrap64 (wid x : Int) < 0)) = true by
      rw [and_sign _ hw, wid_fin hx (finB_iff.1 hf)]
      rw [amtB_iff', INF_val] at h
      rw [finB_iff, INF_val] at hf
      unfold mg at hf ⊢
      rw [if_pos (by omega)]
      simp)
    have Hx := hid hx
    have Hf := hid hf
    clear h hf hx hw
    go_enter Tryd.func53, Tryd.ntmps53
    go_wp2_with (first | (go_at_call 85; refine (isFinite_t x Hx.out Hf.out _).mono ?_; rintro e w' ⟨rfl, rfl⟩) | (go_at_call 86; refine (signbit_f64 (wid x) _).mono ?_; rintro e w' ⟨rfl, rfl⟩; rw [Hs.out]))
    go_ret
    exact ⟨rfl, Below.refl _ _⟩

/-- The table of trailing zeros where the base asks it. -/
def Tab64 (w : World) : Prop := w.cell? ⟨6, 15, none⟩ = some (.int .u8 4)

theorem Tab64.stay {w w' : World} (h : Tab64 w) (hb : Below w.heap.size w w') : Tab64 w' := by
  unfold Tab64 at *
  rw [hb.cell (block_lt_of_cell h)]; exact h

set_option maxRecDepth 100000 in
set_option maxHeartbeats 1000000 in
theorem iZeros16 (w : World) (h : Tab64 w) : Calls Tryd.prog 122 #[.int .u64 16] w fun e w' => e = .returned (.int .i64 4) ∧ w' = w := by
  have c0 : w.cell? ⟨6, 15, none⟩ = some (.int .u8 4) := h
  have hq : IntKind.u64.wrap (bits BinOp.and IntKind.u64 16 (IntKind.u64.wrap (-16)) * 285870213051353865) / 288230376151711744 = 15 := by decide
  clear h
  go_enter Tryd.func122, Tryd.ntmps122
  go_wp2
  go_ret
  exact ⟨rfl, rfl⟩

theorem hx_bits (u : Nat) (h : u < 18446744073709551616) : bits BinOp.and IntKind.u64 (u : Int) 15 = ((u % 16 : Nat) : Int) := by
  rw [show (15 : Int) = ((15 : Nat) : Int) from rfl, bits_and_u64_nat u 15 h (by decide), Nat.and_two_pow_sub_one_eq_mod u 4]

theorem zero65 : Tryd.zeroCells158 = vls 65 (fun _ => .int .u8 0) := by rfl

theorem info_u8 : (Tryd.prog.info? 5).map (·.size) = some 1 := by kernel_rfl

theorem ix36 (d : Nat) (h : d < 16) (w : World) : (Instr.index 9 (.string ⟨#[48, 49, 50, 51, 52, 53, 54, 55, 56, 57, 97, 98, 99, 100, 101, 102, 103, 104, 105, 106, 107, 108, 109, 110, 111, 112, 113, 114, 115, 116, 117, 118, 119, 120, 121, 122]⟩) (.int .u64 (d : Int))).run Tryd.prog w = .ok (.int .u8 (hexN d : Int)) w :=
  index_hex .u64 Tryd.underlying9 (by decide) (by decide) d h w

set_option maxRecDepth 100000 in
set_option maxHeartbeats 1000000 in
theorem iPow16 (w : World) : Calls Tryd.prog 121 #[.int .i64 16] w fun e w' => e = .returned (.bool true) ∧ w' = w := by
  have hb : bits BinOp.and IntKind.i64 16 15 = 0 := by decide
  go_enter Tryd.func121, Tryd.ntmps121
  go_wp2
  go_ret
  exact ⟨rfl, rfl⟩

theorem hx_cv {n t m : Nat} {w w2 : World} (k2 : Kept w [(w.heap.size, vls 65 (hxW n 65 (t + 1)), 158)] w2) (h : m + (t + 1) = 65) :
    (convert 95 9 (.slice (some ⟨w.heap.size, m, none⟩) (t + 1) (t + 1))).run Tryd.prog w2 = .ok (.string ⟨(hexL n (t + 1)).toArray⟩) w2 := by
  have h1 := run_convert_bytes_back (P := Tryd.prog) w2 95 9 5 ⟨w.heap.size, m, none⟩ (t + 1) (hexL n (t + 1)) Tryd.underlying95 Tryd.underlying5 Tryd.underlying9 (fun j hj => by
    rw [hexL_length] at hj
    rw [Addr.add_mid, ← hxW_read n 65 (k := t + 1) (i := j) (by omega) hj, show 65 - (t + 1) + j = m + j by omega]
    exact (k2.v in0).cell (by omega))
  rwa [hexL_length] at h1

set_option maxRecDepth 100000 in
set_option maxHeartbeats 1000000 in
theorem iFormatBits (n : Nat) (hn : n < 4294967296) (w : World) (ht : Tab64 w) :
    Calls Tryd.prog 98 #[.slice none 0 0, .int .u64 (n : Int), .int .i64 16, .bool false, .bool false] w fun e w' =>
      (∃ k, 1 ≤ k ∧ k ≤ 8 ∧ n < 16 ^ k ∧ e = .returned (.tuple #[.slice none 0 0, .string ⟨(hexL n k).toArray⟩])) ∧ Below w.heap.size w w' := by
  have hT := hid (ht.stay ((Below.refl w.heap.size w).alloc (Nat.le_refl _) (.cells (vls 65 (fun _ => .int .u8 0)) 158)))
  have HN := hid hn
  clear ht hn
  have k0 := hid ((Kept.nil w).push (vls 65 fun _ => .int .u8 0) 158)
  go_enter Tryd.func98, Tryd.ntmps98
  go_wp2_with fail
  rw [zero65]
  refine (iPow16 _).mono ?_
  rintro e w1 ⟨rfl, rfl⟩
  go_wp2_with fail
  refine (iZeros16 _ hT.out).mono ?_
  rintro e w1 ⟨rfl, rfl⟩
  clear hT
  go_wp2_with fail
  have k1 : Hid (Kept w [(w.heap.size, vls 65 (hxW n 65 0), 158)] (w.alloc (.cells (vls 65 (fun _ => .int .u8 0)) 158))) := hid (k0.out.ext (fun i hi => (hxW_zero n 65 hi).symm))
  clear k0
  go_loopw [1, 13] (fun v i wr => ∃ t u j : Nat, t ≤ 7 ∧ j + t = 65 ∧ v = .int .u64 (u : Int) ∧ i = .int .i64 (j : Int) ∧ Hid (u = n / 16 ^ t) ∧ Hid (Kept w [(w.heap.size, vls 65 (hxW n 65 t), 158)] wr)) (fun v _ _ => (intOf v).toNat)
  case atStart => exact ⟨0, n, 65, by omega, rfl, rfl, rfl, hid (by simp), k1⟩
  case round =>
    clear k1
    obtain ⟨t, u, j, ht, hj, rfl, rfl, hu, h1⟩ := hrel
    obtain ⟨m, rfl⟩ : ∃ m, j = m + 1 := ⟨j - 1, by omega⟩
    have hm3 : (m : Int) < 65 := by omega
    have hm4 : wrap64 (m : Int) = (m : Int) := by unfold wrap64; omega
    by_cases hge : 16 ≤ u
    · have hg3 : (16 : Int) ≤ (u : Int) := by omega
      have hu64 : u < 18446744073709551616 := by
        have h1 := hu.out
        have h2 := HN.out
        have h3 := Nat.div_le_self n (16 ^ t)
        omega
      obtain ⟨d, hd⟩ : ∃ d, d = u % 16 := ⟨_, rfl⟩
      have hb : bits BinOp.and IntKind.u64 (u : Int) 15 = (d : Int) := by rw [hd]; exact hx_bits u hu64
      have hix := ix36 d (by rw [hd]; exact Nat.mod_lt _ (by decide))
      have HD := hid hd
      have HT := hid ht
      have HJ := hid hj
      have HG := hid hge
      have tok1 : True := trivial
      clear hge ht hj hu64 hd
      go_wp2_with (have _t := tok1; refine store_one (by rfl) 5 _ _ (by rfl) info_u8 (w.heap.size) m (.int .u8 (hexN d : Int)) (by rfl) (by rfl) rfl rfl h1.out (by omega) (by omega) ne0 ?_; intro w2 k2; rw [HD.out] at k2; replace k2 := hid (k2.ext (hx_st hu.out (by have := HJ.out; omega))); clear h1 tok1)
      go_roundw
      case rel => exact ⟨t + 1, u / 16, m, by have := hx_more HN.out (by rw [← hu.out]; exact HG.out); omega, by have := HJ.out; omega, by go_num, by go_num, hid (by rw [hu.out, hx_next]), k2⟩
      case measure => have := HG.out; simp [intOf]; omega
    · have hg3 : ¬ (16 : Int) ≤ (u : Int) := by omega
      have hix := ix36 u (by omega)
      have HJ := hid hj
      have hx2 : Hid (u < 16) := hid (by omega)
      have hk1 : m + (t + 1) = 65 := by omega
      have HT := hid ht
      have hal : Tryd.prog.arrayLen 158 = 65 := by kernel_rfl
      have hsl : ∀ W, (Instr.sliceAt 158 (.pointer (some ⟨w.heap.size, 0, none⟩)) (some (.int .i64 (m : Int))) none none).run Tryd.prog W = .ok (.slice (some ⟨w.heap.size, m, none⟩) (t + 1) (t + 1)) W := fun W => by
        rw [run_sliceAt_array_l W 158 ⟨w.heap.size, 0, none⟩ Tryd.underlying158 .i64 (m : Int) (by omega) (by rw [hal]; omega)]
        go_simp
        omega
      have tok1 : True := trivial
      have HK1 := hid hk1
      clear hge hj hk1 ht
      go_wp2_with (have _t := tok1; refine store_one (by rfl) 5 _ _ (by rfl) info_u8 (w.heap.size) m (.int .u8 (hexN u : Int)) (by rfl) (by rfl) rfl rfl h1.out (by omega) (by omega) ne0 ?_; intro w2 k2; replace k2 := hid (k2.ext (hx_st' hu.out hx2.out (by have := HJ.out; omega))); have hcv := hx_cv k2.out HK1.out; clear h1 tok1)
      go_ret2
      exact ⟨⟨t + 1, by omega, by have := HT.out; omega, hx_last (by rw [← hu.out]; exact hx2.out), rfl⟩, k2.out.1⟩

theorem wrU {c : Nat} (h : c < 1000) : IntKind.u64.wrap (c : Int) = (c : Int) := by rw [IntKind.wrap_u64]; omega

theorem and32 {c : Nat} (h : c < 1000) : bits BinOp.and IntKind.u64 (c : Int) 4294967295 = (c : Int) := by
  rw [show (4294967295 : Int) = ((4294967295 : Nat) : Int) from rfl, bits_and_u64_nat c _ (by omega) (by decide), Nat.and_two_pow_sub_one_eq_mod c 32]
  congr 1
  omega

set_option maxRecDepth 100000 in
set_option maxHeartbeats 1000000 in
theorem iMul1 (c : Nat) (hc : c < 1000) (w : World) : Calls Tryd.prog 100 #[.int .u64 1, .int .u64 (c : Int)] w fun e w' => e = .returned (.tuple #[.int .u64 0, .int .u64 (c : Int)]) ∧ w' = w := by
  have h1 : bits BinOp.and IntKind.u64 1 4294967295 = 1 := and32 (c := 1) (by omega)
  have h2 := and32 hc
  have h3 : (c : Int) / 4294967296 = 0 := by omega
  have h4 := wrU hc
  have h5 : bits BinOp.and IntKind.u64 0 4294967295 = 0 := and32 (c := 0) (by omega)
  clear hc
  go_enter Tryd.func100, Tryd.ntmps100
  go_wp2
  go_ret2
  exact ⟨rfl, rfl⟩

set_option maxRecDepth 100000 in
set_option maxHeartbeats 1000000 in
theorem iMul2 (c : Nat) (hc : c < 1000) (w : World) : Calls Tryd.prog 76 #[.int .u64 1, .int .u64 (c : Int)] w fun e w' => e = .returned (.tuple #[.int .u64 0, .int .u64 (c : Int)]) ∧ w' = w := by
  have HC := hid hc
  clear hc
  go_enter Tryd.func76, Tryd.ntmps76
  go_wp2_with fail
  refine (iMul1 c HC.out _).mono ?_
  rintro e w1 ⟨rfl, rfl⟩
  go_wp2
  go_ret2
  exact ⟨rfl, rfl⟩

set_option maxRecDepth 100000 in
set_option maxHeartbeats 1000000 in
theorem iHasPre (s : ByteArray) (h : 1 ≤ s.size) (b : Bool) (hb : ((s.extract 0 1).toList == [48]) = b) (w : World) : Calls Tryd.prog 101 #[.string s, .string ⟨#[48]⟩] w fun e w' => e = .returned (.bool b) ∧ w' = w := by
  have h1 : (1 : Int) ≤ (s.size : Int) := by omega
  go_enter Tryd.func101, Tryd.ntmps101
  go_wp2
  go_ret
  exact ⟨rfl, rfl⟩

set_option maxRecDepth 100000 in
set_option maxHeartbeats 1000000 in
theorem iHasPre2 (s : ByteArray) (h : 1 ≤ s.size) (b : Bool) (hb : ((s.extract 0 1).toList == [48]) = b) (w : World) : Calls Tryd.prog 77 #[.string s, .string ⟨#[48]⟩] w fun e w' => e = .returned (.bool b) ∧ w' = w := by
  have H := hid h
  have HB := hid hb
  clear h hb
  go_enter Tryd.func77, Tryd.ntmps77
  go_wp2_with fail
  refine (iHasPre s H.out b HB.out _).mono ?_
  rintro e w1 ⟨rfl, rfl⟩
  go_wp2
  go_ret
  exact ⟨rfl, rfl⟩

set_option maxRecDepth 100000 in
set_option maxHeartbeats 1000000 in
theorem iRep0 (w : World) : Calls Tryd.prog 43 #[.string ⟨#[48]⟩, .int .i64 0] w fun e w' => e = .returned (.string ⟨#[]⟩) ∧ w' = w := by
  go_enter Tryd.func43, Tryd.ntmps43
  go_wp2
  go_ret
  exact ⟨rfl, rfl⟩

set_option maxRecDepth 100000 in
set_option maxHeartbeats 1000000 in
theorem iRep1 (w : World) : Calls Tryd.prog 43 #[.string ⟨#[48]⟩, .int .i64 1] w fun e w' => e = .returned (.string ⟨#[48]⟩) ∧ w' = w := by
  go_enter Tryd.func43, Tryd.ntmps43
  go_wp2
  go_ret
  exact ⟨rfl, rfl⟩

def zs64 : ByteArray := ⟨#[48, 48, 48, 48, 48, 48, 48, 48, 48, 48, 48, 48, 48, 48, 48, 48, 48, 48, 48, 48, 48, 48, 48, 48, 48, 48, 48, 48, 48, 48, 48, 48, 48, 48, 48, 48, 48, 48, 48, 48, 48, 48, 48, 48, 48, 48, 48, 48, 48, 48, 48, 48, 48, 48, 48, 48, 48, 48, 48, 48, 48, 48, 48, 48]⟩

theorem rep_cut (c : Nat) (h : c ≤ 7) : zs64.extract 0 c = ⟨(List.replicate c 48).toArray⟩ := by
  have : ∀ c, c < 8 → zs64.extract 0 c = ⟨(List.replicate c 48).toArray⟩ := by decide +kernel
  exact this c (by omega)

set_option maxRecDepth 100000 in
set_option maxHeartbeats 1000000 in
theorem iRepN (c : Nat) (h2 : 2 ≤ c) (h7 : c ≤ 7) (w : World) : Calls Tryd.prog 43 #[.string ⟨#[48]⟩, .int .i64 (c : Int)] w fun e w' => e = .returned (.string ⟨(List.replicate c 48).toArray⟩) ∧ w' = w := by
  have a0 : ¬ (c : Int) = 0 := by omega
  have a1 : ¬ (c : Int) = 1 := by omega
  have a2 : ¬ (c : Int) < 0 := by omega
  have a3 := wrU (c := c) (by omega)
  have a4 : ¬ (9223372036854775807 : Int) < (c : Int) := by omega
  have a5 : wrap64 (c : Int) = (c : Int) := by unfold wrap64; omega
  have a6 : (c : Int) ≤ 64 := by omega
  have hv : ((ByteArray.mk #[48])[0]'(by decide)).toNat = 48 := rfl
  have H2 := hid h2
  have H7 := hid h7
  clear h2 h7
  go_enter Tryd.func43, Tryd.ntmps43
  go_wp2_with fail
  refine (iMul2 c (by have := H7.out; omega) _).mono ?_
  rintro e w1 ⟨rfl, rfl⟩
  go_wp2_with fail
  refine (iHasPre2 _ (by decide +kernel) false (by decide +kernel) _).mono ?_
  rintro e w1 ⟨rfl, rfl⟩
  go_wp2_with fail
  refine (iHasPre2 _ (by decide +kernel) false (by decide +kernel) _).mono ?_
  rintro e w1 ⟨rfl, rfl⟩
  go_wp2_with fail
  refine (iHasPre2 _ (by decide +kernel) true (by decide +kernel) _).mono ?_
  rintro e w1 ⟨rfl, rfl⟩
  go_wp2_with fail
  go_ret
  exact ⟨congrArg (fun s => Ending.returned (Value.string s)) (rep_cut c H7.out), rfl⟩

theorem iRep (c : Nat) (h : c ≤ 7) (w : World) : Calls Tryd.prog 43 #[.string ⟨#[48]⟩, .int .i64 (c : Int)] w fun e w' => e = .returned (.string ⟨(List.replicate c 48).toArray⟩) ∧ w' = w := by
  rcases Nat.lt_or_ge c 2 with h1 | h1
  · rcases Nat.lt_or_ge c 1 with h2 | h2
    · obtain rfl : c = 0 := by omega
      exact iRep0 w
    · obtain rfl : c = 1 := by omega
      exact iRep1 w
  · exact iRepN c h1 h w

set_option maxRecDepth 100000 in
set_option maxHeartbeats 1000000 in
theorem iFormatUint (n : Nat) (hn : n < 4294967296) (w : World) (ht : Tab64 w) :
    Calls Tryd.prog 73 #[.int .u64 (n : Int), .int .i64 16] w fun e w' =>
      (∃ k, 1 ≤ k ∧ k ≤ 8 ∧ n < 16 ^ k ∧ e = .returned (.string ⟨(hexL n k).toArray⟩)) ∧ Below w.heap.size w w' := by
  have hT := hid ht
  have HN := hid hn
  clear ht hn
  go_enter Tryd.func73, Tryd.ntmps73
  go_wp2_with fail
  refine (iFormatBits n HN.out _ hT.out).mono ?_
  rintro e w1 ⟨⟨k, h1, h2, h3, rfl⟩, hb⟩
  have HB := hid hb
  have H3 := hid h3
  clear hb h3
  go_wp2
  go_ret
  exact ⟨⟨k, h1, h2, H3.out, rfl⟩, HB.out⟩

set_option maxRecDepth 100000 in
set_option maxHeartbeats 1000000 in
theorem iFormatUint2 (n : Nat) (hn : n < 4294967296) (w : World) (ht : Tab64 w) :
    Calls Tryd.prog 41 #[.int .u64 (n : Int), .int .i64 16] w fun e w' =>
      (∃ k, 1 ≤ k ∧ k ≤ 8 ∧ n < 16 ^ k ∧ e = .returned (.string ⟨(hexL n k).toArray⟩)) ∧ Below w.heap.size w w' := by
  have hT := hid ht
  have HN := hid hn
  clear ht hn
  go_enter Tryd.func41, Tryd.ntmps41
  go_wp2_with fail
  refine (iFormatUint n HN.out _ hT.out).mono ?_
  rintro e w1 ⟨⟨k, h1, h2, h3, rfl⟩, hb⟩
  have HB := hid hb
  have H3 := hid h3
  clear hb h3
  go_wp2
  go_ret
  exact ⟨⟨k, h1, h2, H3.out, rfl⟩, HB.out⟩

@[go_sem] theorem ext_f32bits (y : Nat) (w : World) : (callFunc 75 #[.float .f32 y]).run Tryd.prog w = .ok (.value (.int .u32 y)) w := by
  rw [run_callFunc_extern Tryd.func75 (by kernel_rfl) (by kernel_rfl) (by kernel_rfl) (e := Extern.MathFloatBits.float32bits) (by kernel_rfl)]
  rfl

theorem sFinite_t (x : Nat) (hx : x < 4294967296) (h : finB x = true) (w : World) :
    Calls Tryd.prog 109 #[.float .f32 x] w fun e w' => e = .returned (.bool true) ∧ w = w' := by
  have hr := fun w => run_float_arith (P := Tryd.prog) w .sub 22 .f32 x x 0 (sub_self_fin hx h)
  clear h hx
  go_enter Tryd.func109, Tryd.ntmps109
  go_wp2
  go_ret
  exact ⟨rfl, rfl⟩

theorem sAmount_t (x : Nat) (h : amtB x = true) (w : World) :
    Calls Tryd.prog 82 #[.float .f32 x] w fun e w' => e = .returned (.bool true) ∧ w = w' := by
  have hf := amt_fin h
  have h' := amtB_iff.1 h
  have hx : x < 4294967296 := by rw [INF_val] at h'; omega
  have Hx := hid hx
  have Hf := hid hf
  by_cases h0 : x = 0
  · subst h0
    clear h hf h' hx
    go_enter Tryd.func82, Tryd.ntmps82
    go_wp2_with (go_at_call 109; refine (sFinite_t 0 Hx.out Hf.out _).mono ?_; rintro e w' ⟨rfl, rfl⟩)
    go_ret
    exact ⟨rfl, rfl⟩
  · have hg : (FloatKind.f32.format.order x 0 == some .gt) = true := by
      show (S.order x 0 == some .gt) = true
      rw [order_zero_pos h', Nat.compare_eq_gt.2 (by omega)]; rfl
    clear h hf h' hx h0
    go_enter Tryd.func82, Tryd.ntmps82
    go_wp2_with (go_at_call 109; refine (sFinite_t x Hx.out Hf.out _).mono ?_; rintro e w' ⟨rfl, rfl⟩)
    go_ret
    exact ⟨rfl, rfl⟩

theorem l00In_t (n a b : Int) (h1 : a ≤ n) (h2 : n ≤ b) (w : World) :
    Calls Tryd.prog 92 #[.int .i64 n, .int .i64 a, .int .i64 b] w fun e w' => e = .returned (.bool true) ∧ w = w' := by
  go_enter Tryd.func92, Tryd.ntmps92
  go_wp2
  go_ret
  exact ⟨by first | rfl | (simp; done) | (simp; omega), rfl⟩

theorem l00In_f (n a b : Int) (hn : ¬ (a ≤ n ∧ n ≤ b)) (w : World) :
    Calls Tryd.prog 92 #[.int .i64 n, .int .i64 a, .int .i64 b] w fun e w' => e = .returned (.bool false) ∧ w = w' := by
  by_cases h0 : a ≤ n
  · have h3 : b < n := by omega
    clear hn
    go_enter Tryd.func92, Tryd.ntmps92
    go_wp2
    go_ret
    exact ⟨by first | rfl | (simp; done) | (simp; omega), rfl⟩
  · have h3 : n < a := by omega
    have h4 : decide (a ≤ n) = false := by simp; omega
    clear hn h0
    go_enter Tryd.func92, Tryd.ntmps92
    go_wp2
    go_ret
    exact ⟨by simp, rfl⟩

theorem iBits (x : Nat) (hx : x < 4294967296) (w : World) :
    Calls Tryd.prog 42 #[.float .f32 x] w fun e w' => e = .returned (.int .u32 (nb x : Int)) ∧ Below w.heap.size w w' := by
  have hnb : nb x = if nanB x = true then 2143289344 else x := rfl
  rcases hn : nanB x with _ | _
  · have hle : mg x ≤ INF := by simpa [nanB] using hn
    rw [hn] at hnb
    have Hnb := hid hnb
    rcases Nat.lt_or_eq_of_le hle with h | h
    · have hc := fun w => run_conv_wid (P := Tryd.prog) w 22 28 x hx Tryd.underlying22 Tryd.underlying28 h
      obtain ⟨_, _, m, e, hr⟩ := read_wid_fin hx h
      have Hn := hid (show (FloatKind.f64.format.order (wid x) (wid x) != some .eq) = false by
        show (D.order (wid x) (wid x) != some .eq) = false
        rw [order_self hr]; rfl)
      clear hnb hn hle h hr hx
      go_enter Tryd.func42, Tryd.ntmps42
      go_wp2_with (go_at_call 74; refine (isNaN_f64 (wid x) _).mono ?_; rintro e w' ⟨rfl, rfl⟩; rw [Hn.out])
      go_ret
      exact ⟨by rw [Hnb.out]; simp, Below.refl _ _⟩
    · obtain ⟨z, hc, h1, h2⟩ := run_conv_inf (P := Tryd.prog) w 22 28 x hx Tryd.underlying22 Tryd.underlying28 h
      have hr : D.read z = .infinity (decide (9223372036854775808 ≤ z)) := by rw [read_signD h2, h1, read_DINF]
      have Hn := hid (show (FloatKind.f64.format.order z z != some .eq) = false by
        show (D.order z z != some .eq) = false
        rw [order_inf hr]; rfl)
      clear hnb hn hle h hr hx h1 h2
      go_enter Tryd.func42, Tryd.ntmps42
      go_wp2_with (go_at_call 74; refine (isNaN_f64 z _).mono ?_; rintro e w' ⟨rfl, rfl⟩; rw [Hn.out])
      go_ret
      exact ⟨by rw [Hnb.out]; simp, Below.refl _ _⟩
  · have h : INF < mg x := by simpa [nanB] using hn
    rw [hn] at hnb
    have Hnb := hid hnb
    obtain ⟨z, hc, h1, _⟩ := run_conv_nan (P := Tryd.prog) w 22 28 x Tryd.underlying22 Tryd.underlying28 h
    obtain ⟨s, t, hr⟩ := read_nanD h1
    have Hn := hid (show (FloatKind.f64.format.order z z != some .eq) = true by
      show (D.order z z != some .eq) = true
      rw [order_nan hr]; rfl)
    clear hnb hn h hr hx h1
    go_enter Tryd.func42, Tryd.ntmps42
    go_wp2_with (go_at_call 74; refine (isNaN_f64 z _).mono ?_; rintro e w' ⟨rfl, rfl⟩; rw [Hn.out])
    go_ret
    exact ⟨by rw [Hnb.out]; simp, (Below.refl _ _).drew⟩

theorem nb_lt {x : Nat} (h : x < 4294967296) : nb x < 4294967296 := by
  unfold nb; split
  · decide
  · exact h

theorem hex8 {n k : Nat} (h2 : k ≤ 8) (h3 : n < 16 ^ k) : List.replicate (8 - k) 48 ++ hexL n k = hexL n 8 := by
  have := hexL_zeros k n (8 - k) h3
  rw [show k + (8 - k) = 8 by omega] at this
  exact this.symm

/-- The text of a number. -/
def txN (x : Nat) : ByteArray := ⟨(hexL (nb x) 8).toArray⟩

theorem cat_hex {n k : Nat} (h2 : k ≤ 8) (h3 : n < 16 ^ k) : (⟨(List.replicate (8 - k) 48).toArray⟩ ++ ⟨(hexL n k).toArray⟩ : ByteArray) = ⟨(hexL n 8).toArray⟩ := by
  rw [← hex8 h2 h3]
  apply ByteArray.ext
  simp

set_option maxRecDepth 100000 in
set_option maxHeartbeats 1000000 in
theorem iNumberText (x : Nat) (hx : x < 4294967296) (w : World) (ht : Tab64 w) :
    Calls Tryd.prog 13 #[.float .f32 x] w fun e w' => e = .returned (.string (txN x)) ∧ Below w.heap.size w w' := by
  have HT := hid ht
  have HX := hid hx
  have hc : IntKind.u64.wrap (nb x : Int) = (nb x : Int) := by have := nb_lt hx; rw [IntKind.wrap_u64]; omega
  clear ht hx
  go_enter Tryd.func13, Tryd.ntmps13
  go_wp2_with fail
  refine (iBits x HX.out _).mono ?_
  rintro e w1 ⟨rfl, hb1⟩
  have T1 := hid (HT.out.stay hb1)
  have B1 := hid hb1
  clear hb1 HT
  go_wp2_with fail
  refine (iFormatUint2 (nb x) (nb_lt HX.out) _ T1.out).mono ?_
  rintro e w2 ⟨⟨k, h1, h2, h3, rfl⟩, hb2⟩
  have B2 := hid (((Kept.nil w).stay B1.out).stay hb2)
  have hl : (⟨(hexL (nb x) k).toArray⟩ : ByteArray).size = k := by show (hexL (nb x) k).toArray.size = k; simp [hexL_length]
  have hs : wrap64 (8 - (k : Int)) = ((8 - k : Nat) : Int) := by rw [show (8 : Int) - (k : Int) = ((8 - k : Nat) : Int) by omega]; unfold wrap64; omega
  have hs' : (8 : Int) - (k : Int) = ((8 - k : Nat) : Int) := by omega
  obtain ⟨m, hm⟩ : ∃ m, m = 8 - k := ⟨_, rfl⟩
  rw [← hm] at hs hs'
  have H2 := hid h2
  have H3 := hid h3
  have HM := hid hm
  have hm7 : Hid (m ≤ 7) := hid (by omega)
  have hwm : wrap64 (m : Int) = (m : Int) := by unfold wrap64; omega
  clear hb2 B1 h1 h2 h3 hm T1
  go_wp2_with fail
  refine (iRep m hm7.out _).mono ?_
  rintro e w3 ⟨rfl, rfl⟩
  go_wp2
  go_ret
  refine ⟨congrArg (fun s => Ending.returned (Value.string s)) ?_, B2.out.1⟩
  rw [HM.out]
  exact cat_hex H2.out H3.out

theorem ix16 (d : Nat) (h : d < 16) (w : World) : (Instr.index 9 (.string ⟨#[48, 49, 50, 51, 52, 53, 54, 55, 56, 57, 97, 98, 99, 100, 101, 102]⟩) (.int .u32 (d : Int))).run Tryd.prog w = .ok (.int .u8 (hexN d : Int)) w :=
  index_hex .u32 Tryd.underlying9 (by decide) (by decide) d h w

set_option maxRecDepth 100000 in
set_option maxHeartbeats 1000000 in
theorem sBits (x : Nat) (hx : x < 4294967296) (w : World) :
    Calls Tryd.prog 72 #[.float .f32 x] w fun e w' => e = .returned (.int .u32 (nb x : Int)) ∧ w' = w := by
  have n1 := neq_self x hx
  have hnb : nb x = if nanB x = true then 2143289344 else x := rfl
  rcases hn : nanB x with _ | _
  · rw [hn] at hnb n1
    rw [hnb]
    clear hnb hn
    go_enter Tryd.func72, Tryd.ntmps72
    go_wp2
    go_ret
    exact ⟨by simp, rfl⟩
  · rw [hn] at hnb n1
    rw [hnb]
    clear hnb hn
    go_enter Tryd.func72, Tryd.ntmps72
    go_wp2
    go_ret
    exact ⟨by simp, rfl⟩

theorem infoz_u8 : (Tryd.prog.info? 5).map (fun i => (i.zero, i.size, i.bytes)) = some (some (.int .u8 0), 1, 1) := by kernel_rfl

theorem sHex_cv {n : Nat} {w wr : World} (h : ∃ cs', LvV cs' 8 (hxW n 8 8) ∧ Kept w [(w.heap.size, cs', 5)] wr) :
    (convert 95 9 (.slice (some ⟨w.heap.size, 0, none⟩) 8 8)).run Tryd.prog wr = .ok (.string ⟨(hexL n 8).toArray⟩) wr := by
  obtain ⟨cs', a1, a2⟩ := h
  have h1 := run_convert_bytes_back (P := Tryd.prog) wr 95 9 5 ⟨w.heap.size, 0, none⟩ 8 (hexL n 8) Tryd.underlying95 Tryd.underlying5 Tryd.underlying9 (fun j hj => by
    rw [hexL_length] at hj
    rw [Addr.add_mid, ← hxW_read n 8 (k := 8) (i := j) (by omega) hj, show 8 - 8 + j = 0 + j by omega]
    exact a1.cell (a2.at (x := (w.heap.size, cs', 5)) in0) (by omega))
  rwa [hexL_length] at h1

set_option maxRecDepth 100000 in
set_option maxHeartbeats 1000000 in
theorem sHex (x : Nat) (hx : x < 4294967296) (w : World) :
    Calls Tryd.prog 40 #[.float .f32 x] w fun e w' => e = .returned (.string (txN x)) ∧ Below w.heap.size w w' := by
  have HN := hid (nb_lt hx)
  obtain ⟨cs0, hv0, hmk⟩ := run_makeV (P := Tryd.prog) (t := 95) (e := 5) Tryd.underlying95 (.int .u8 0) 1 rfl (by omega) infoz_u8 (n := 8) (by omega) w
  rw [show ((8 : Nat) : Int) = 8 from rfl] at hmk
  obtain ⟨n, hn⟩ : ∃ n, n = nb x := ⟨_, rfl⟩
  have h0 : Hid (∃ cs', LvV cs' 8 (hxW n 8 0) ∧ Kept w [(w.heap.size, cs', 5)] (w.alloc (.cells cs0 5))) := hid ⟨cs0, hv0.ext (fun i hi => (hxW_zero n 8 hi).symm), (Kept.nil w).push _ _⟩
  have hb := fun w => sBits x hx w
  rw [← hn] at HN
  have hq : txN x = ⟨(hexL n 8).toArray⟩ := by rw [hn]; rfl
  rw [hq]
  simp only [← hn] at hb
  have HB := hid hb
  clear hx hb hq hn hv0
  go_enter Tryd.func40, Tryd.ntmps40
  go_wp2_with fail
  refine (HB.out _).mono ?_
  rintro e w1 ⟨rfl, rfl⟩
  go_wp2_with fail
  clear hmk HB
  go_loopw [3, 5] (fun v i wr => ∃ t u j : Nat, j + t = 8 ∧ v = .int .u32 (u : Int) ∧ i = .int .i64 ((j : Int) - 1) ∧ Hid (u = n / 16 ^ t) ∧ Hid (∃ cs', LvV cs' 8 (hxW n 8 t) ∧ Kept w1 [(w1.heap.size, cs', 5)] wr)) (fun _ i _ => (intOf i + 1).toNat)
  case atStart => exact ⟨0, n, 8, rfl, rfl, rfl, hid (by simp), h0⟩
  case round =>
    clear h0
    obtain ⟨t, u, j, hj, rfl, rfl, hu, h1⟩ := hrel
    rcases j with _ | m
    · obtain rfl : t = 8 := by omega
      have hcv := sHex_cv h1.out
      have B := hid (h1.out.choose_spec.2.1)
      clear h1 hu hj
      go_wp2
      go_ret
      exact ⟨rfl, B.out⟩
    · obtain ⟨cs', a1, a2⟩ := h1.out
      have hm8 : m < 8 := by omega
      have hm3 : (m : Int) < 8 := by omega
      have hm4 : ((m + 1 : Nat) : Int) - 1 = (m : Int) := by omega
      rw [hm4]
      have hm5 : wrap64 ((m : Int) - 1) = (m : Int) - 1 := by unfold wrap64; omega
      obtain ⟨d, hd⟩ : ∃ d, d = u % 16 := ⟨_, rfl⟩
      obtain ⟨q, hq⟩ : ∃ q, q = u / 16 := ⟨_, rfl⟩
      have hu32 : u < 4294967296 := by
        have h1 := hu.out
        have h2 := HN.out
        have h3 := Nat.div_le_self n (16 ^ t)
        omega
      have hr1 : (u : Int) % 16 = (d : Int) := by omega
      have hr2 : Int.tmod (u : Int) 16 = (d : Int) := by rw [Int.tmod_eq_emod_of_nonneg (by omega)]; exact hr1
      have hr3 : (u : Int) / 16 = (q : Int) := by omega
      have hr4 : Int.tdiv (u : Int) 16 = (q : Int) := by rw [Int.tdiv_eq_ediv_of_nonneg (by omega)]; exact hr3
      have hr5 : IntKind.u32.wrap (d : Int) = (d : Int) := by rw [IntKind.wrap_u32]; omega
      have hr6 : IntKind.u32.wrap (q : Int) = (q : Int) := by rw [IntKind.wrap_u32]; omega
      have hix := ix16 d (by omega)
      have i2 := fun w0 => run_indexAt (P := Tryd.prog) (t := 95) (e := 5) Tryd.underlying95 info_u8 (b := w1.heap.size) (o := 0) (n := 8) (cap := 8) (k := m) hm8 w0
      simp only [Nat.zero_add, Nat.mul_one] at i2
      have A1 := hid a1
      have A2 := hid a2
      have HD := hid hd
      have HQ := hid hq
      have HJ := hid hj
      have HM := hid hm8
      clear h1 a1 a2 hd hq hu32 hj hm8
      have tok1 : True := trivial
      go_wp2_with (have _t := tok1; clear tok1; refine store_lv1 rfl 5 _ _ rfl info_u8 w1.heap.size m (.int .u8 (hexN d : Int)) rfl rfl rfl rfl A2.out A1.out HM.out (Nat.le_refl _) (by simp) (fun w2 k1 v1 => ?_); rw [HD.out] at v1; replace v1 := hid v1; replace k1 := hid k1; clear A1 A2)
      have b3 : Hid (∃ cs', LvV cs' 8 (hxW n 8 (t + 1)) ∧ Kept w1 [(w1.heap.size, cs', 5)] w2) := hid ⟨_, v1.out.ext (hx_up hu.out (by have := HJ.out; omega)), by rw [← HD.out]; exact k1.out⟩
      go_roundw
      case rel => exact ⟨t + 1, q, m, by have := HJ.out; omega, by go_num, by go_num, hid (by rw [HQ.out, hu.out, hx_next]), b3⟩
      case measure => simp [intOf]

theorem words_cons : ∀ (v : List Char) (r : List Char), (∀ c ∈ v, c ≠ Char.ofNat 32) → wordsSigns (v ++ Char.ofNat 32 :: r) = v :: wordsSigns r
  | [], r, _ => rfl
  | c :: v, r, h => by
    have ih := words_cons v r (fun x hx => h x (by simp [hx]))
    have hc : c ≠ Char.ofNat 32 := h c (by simp)
    show wordsSigns (c :: (v ++ Char.ofNat 32 :: r)) = _
    rw [wordsSigns.eq_3 _ _ (fun e => hc e), ih]

def w0 : List Nat := [104, 97, 114, 110, 101, 115, 115]

def w1 : List Nat := [51, 50, 57, 48, 49, 55, 97, 102, 49, 55, 49, 52, 98, 48, 54, 98, 98, 54, 56, 49, 102, 57, 51, 56, 53, 98, 49, 97, 50, 53, 54, 49, 48, 100, 102, 101, 56, 97, 51, 101, 54, 55, 55, 101, 54, 102, 102, 50, 97, 52, 54, 53, 101, 53, 99, 97, 97, 50, 99, 53, 55, 53, 102, 102]

def w2 : List Nat := [99, 117, 116]

def w3 : List Nat := [97, 116, 32, 108, 111, 111, 112, 46, 101, 120, 97, 109, 112, 108, 101, 47, 103, 48, 49, 50, 50, 52, 47, 108, 97, 119, 115, 46, 70, 110, 69, 120, 97, 99, 116, 78, 117, 109, 98, 101, 114, 84, 101, 120, 116, 32, 108, 111, 111, 112, 46, 101, 120, 97, 109, 112, 108, 101, 47, 103, 48, 49, 50, 50, 52, 47, 108, 97, 119, 115, 46, 70, 110, 69, 120, 97, 99, 116, 82, 101, 97, 100, 78, 117, 109, 98, 101, 114, 32, 108, 111, 111, 112, 46, 101, 120, 97, 109, 112, 108, 101, 47, 103, 48, 49, 50, 50, 52, 47, 108, 97, 119, 115, 46, 70, 110, 69, 120, 97, 99, 116, 83, 105, 122, 101, 115, 84, 101, 120, 116, 32, 108, 111, 111, 112, 46, 101, 120, 97, 109, 112, 108, 101, 47, 103, 48, 49, 50, 50, 52, 47, 108, 97, 119, 115, 46, 70, 110, 69, 120, 97, 99, 116, 82, 101, 97, 100, 83, 105, 122, 101, 115, 32, 108, 111, 111, 112, 46, 101, 120, 97, 109, 112, 108, 101, 47, 103, 48, 49, 50, 50, 52, 47, 108, 97, 119, 115, 46, 70, 110, 69, 120, 97, 99, 116, 65, 105, 114, 84, 101, 120, 116, 32, 108, 111, 111, 112, 46, 101, 120, 97, 109, 112, 108, 101, 47, 103, 48, 49, 50, 50, 52, 47, 108, 97, 119, 115, 46, 70, 110, 69, 120, 97, 99, 116, 82, 101, 97, 100, 65, 105, 114, 32, 108, 111, 111, 112, 46, 101, 120, 97, 109, 112, 108, 101, 47, 103, 48, 49, 50, 50, 52, 47, 108, 97, 119, 115, 46, 70, 110, 69, 120, 97, 99, 116, 75, 101, 114, 110, 101, 108, 84, 101, 120, 116, 32, 108, 111, 111, 112, 46, 101, 120, 97, 109, 112, 108, 101, 47, 103, 48, 49, 50, 50, 52, 47, 108, 97, 119, 115, 46, 70, 110, 69, 120, 97, 99, 116, 82, 101, 97, 100, 75, 101, 114, 110, 101, 108, 32, 108, 111, 111, 112, 46, 101, 120, 97, 109, 112, 108, 101, 47, 103, 48, 49, 50, 50, 52, 47, 108, 97, 119, 115, 46, 70, 110, 69, 120, 97, 99, 116, 83, 111, 117, 110, 100, 105, 110, 103, 84, 101, 120, 116]

def letters (l : List Nat) : List Char := l.map Char.ofNat

theorem head_reads : Tryd.prog.initOrder = String.ofList (letters w0 ++ Char.ofNat 32 :: (letters w1 ++ Char.ofNat 32 :: (letters w2 ++ Char.ofNat 32 :: letters w3))) := by kernel_rfl

theorem no_blank {l : List Nat} (h : l.all (fun n => Char.ofNat n != Char.ofNat 32) = true) : ∀ c ∈ letters l, c ≠ Char.ofNat 32 := by
  intro c hc
  obtain ⟨n, hn, rfl⟩ := List.mem_map.1 hc
  have := List.all_eq_true.1 h n hn
  simpa using this

theorem h0 : letters w0 = "harness".toList := by kernel_rfl

theorem h2 : letters w2 = "cut".toList := by kernel_rfl

theorem sums : isSumSigns (letters w1) = true := by kernel_rfl

theorem words : wordsSigns Tryd.prog.initOrder.toList = "harness".toList :: letters w1 :: "cut".toList :: wordsSigns (letters w3) := by
  rw [head_reads, String.toList_ofList, words_cons _ _ (no_blank (by decide +kernel)), words_cons _ _ (no_blank (by decide +kernel)), words_cons _ _ (no_blank (by decide +kernel)), h0, h2]

theorem behind : ∃ r, behindMainWord (wordsSigns Tryd.prog.initOrder.toList) = "cut".toList :: r := by
  refine ⟨wordsSigns (letters w3), ?_⟩
  rw [words]
  generalize wordsSigns (letters w3) = r
  have hs := sums
  generalize letters w1 = v at hs
  unfold behindMainWord
  simp [hs]

theorem not_later : Tryd.prog.laysLater = false := by kernel_rfl

theorem no_reflect : Tryd.prog.bearsReflect = false := by kernel_rfl

theorem no_doors : Tryd.prog.doorFits [] = true := by kernel_rfl

theorem strips (r : List (List Char)) : stripLifts liftWords ("cut".toList :: r) = ([], "cut".toList :: r) := by kernel_rfl

theorem may_enter_of (P : Program) (r : List (List Char)) (h : behindMainWord (wordsSigns P.initOrder.toList) = "cut".toList :: r) (h1 : P.laysLater = false) (h2 : P.bearsReflect = false) (h3 : P.doorFits [] = true) : P.mayEnter = true := by
  unfold Program.mayEnter
  rw [h]
  dsimp only
  rw [strips, h1, h2, h3]
  kernel_rfl

theorem lifts_final_of (P : Program) (r : List (List Char)) (h : behindMainWord (wordsSigns P.initOrder.toList) = "cut".toList :: r) : P.liftsFinal = false := by
  unfold Program.liftsFinal Program.headLifts
  rw [h]
  dsimp only
  rw [strips]
  kernel_rfl

theorem made_of (P : Program) (r : List (List Char)) (h : behindMainWord (wordsSigns P.initOrder.toList) = "cut".toList :: r) : P.make = some .cut := by
  unfold Program.make
  rw [h]
  kernel_rfl

theorem may_enter : Tryd.prog.mayEnter = true := let ⟨r, h⟩ := behind; may_enter_of _ r h not_later no_reflect no_doors

theorem lifts_final : Tryd.prog.liftsFinal = false := let ⟨r, h⟩ := behind; lifts_final_of _ r h

theorem made : Tryd.prog.make = some .cut := let ⟨r, h⟩ := behind; made_of _ r h

theorem laid : laidOutB Tryd.prog = true := by kernel_rfl

theorem rowed : mapsRowed Tryd.prog = true := by kernel_rfl

theorem no_stops : Tryd.prog.stops = [] := by kernel_rfl

theorem no_knobs : Tryd.prog.stopKnobs = [] := by kernel_rfl

theorem plain_keys : Tryd.prog.plainKeys = true := by kernel_rfl

theorem stops_heard : Tryd.prog.stopsHeard = true := by kernel_rfl

theorem arr1 {α : Type} {cs : Array α} (h : cs.size = 1) : ∃ c0, cs = #[c0] := by
  obtain ⟨l⟩ := cs
  match l, h with
  | [a], _ => exact ⟨a, rfl⟩

theorem own : ownKnob Tryd.prog.godebug = none := by kernel_rfl

theorem cells2 : Tryd.prog.cellsOf 39 = 2 := by kernel_rfl

theorem cellsL : Tryd.prog.cellsOf 111 = 3 := by kernel_rfl

theorem cellsF : Tryd.prog.cellsOf 22 = 1 := by kernel_rfl

theorem rds : Tryd.prog.readableRec 55 = true ∧ 55 < Tryd.prog.types.size := ⟨by kernel_rfl, of_decide_eq_true (by kernel_rfl)⟩

def tz64 : List Int := [0, 1, 56, 2, 57, 49, 28, 3, 61, 58, 42, 50, 38, 29, 17, 4, 62, 47, 59, 36, 45, 43, 51, 22, 53, 39, 33, 30, 24, 18, 12, 5, 63, 55, 48, 27, 60, 41, 37, 16, 46, 35, 44, 21, 52, 32, 23, 11, 54, 26, 40, 15, 34, 20, 31, 10, 25, 14, 19, 9, 13, 8, 7, 6]

/-- What the rows' condition says of the table. -/
theorem tab_of {W : World} (h : laidMetH Tryd.prog Rows.fnExactNumberTextRow.laid W) : Tab64 W := by
  rw [MakeChecks.laidMetH_plain _ _ _ (by kernel_rfl)] at h
  have h2 : laidMet Tryd.prog (("math/bits.deBruijn64tab", Lib.tabData .u8 tz64) :: [("internal/strconv.uint64pow10", Rows.laid_internal_strconv_uint64pow10)]) W := laidMet.tail h
  have hT := Lib.tabIs_of_head (g := 6) (t := 177) (e := 5) (by kernel_rfl) (by kernel_rfl) Tryd.underlying177 Tryd.underlying5 (by kernel_rfl) (by kernel_rfl) h2
  exact hT.cell (by kernel_rfl) 15 (by decide)

/-- The door's own heap meets the rows' condition. -/
theorem door_metT (os : Os) (args : Array Value) : laidMetH Tryd.prog Rows.fnExactNumberTextRow.laid ((World.doorLaid Tryd.prog 400 os).forCall (fun _ _ => 0) ⟨#[], args, []⟩).memory :=
  laidMetH_of_parts3 (fuel := 8) (laidMet_of_run' 8 (by kernel_rfl) (by kernel_rfl)) (by kernel_rfl) (by kernel_rfl)

theorem info_air : (Tryd.prog.info? 41).map (·.size) = some 2 := by kernel_rfl

theorem info_lair : (Tryd.prog.info? 39).map (·.size) = some 2 := by kernel_rfl

def rest1 (x : Nat) : Nat := fsub 1065353216 x

def mixed (c d : Nat → Nat) (x : Nat) : Nat → Nat := fun i => fadd (fmul (c i) (rest1 x)) (fmul (d i) x)

set_option maxRecDepth 100000 in
theorem toAir (h v : Nat) (w : World) :
    Calls Tryd.prog 24 #[.agg #[.float .f32 h, .float .f32 v]] w fun e w' => e = .returned (.agg #[.float .f32 h, .float .f32 v]) ∧ Below w.heap.size w w' := by
  have k0 : Hid (Kept w [(w.heap.size + 1, #[.float .f32 h, .float .f32 v], 41)] (((w.alloc (.cells #[.float .f32 h, .float .f32 v] 39)).alloc (.cells #[.float .f32 h, .float .f32 v] 41)).alloc (.cells #[.float .f32 h, .float .f32 v] 41))) := hid (((((Kept.nil w).push _ _).push _ _).push _ _).sub (by simp))
  go_enter Tryd.func24, Tryd.ntmps24
  go_wp2
  exact bodyPost_ret (results_cell_row rfl _ _ (w.heap.size + 1) 41 #[.float .f32 h, .float .f32 v] (0, 0) _ rfl (k0.out.at (x := (w.heap.size + 1, #[.float .f32 h, .float .f32 v], 41)) (by simp)) Tryd.underlying41 rfl info_air) rfl ⟨rfl, k0.out.1⟩

theorem iHeat (x : Nat) (q : Bool) (hq : heatB x = q) (w : World) :
    Calls Tryd.prog 88 #[.float .f32 x] w fun e w' => e = .returned (.bool q) ∧ w = w' := by
  have h1 : heatB x = ((FloatKind.f32.format.order x 3262119936 == some .gt || FloatKind.f32.format.order x 3262119936 == some .eq) && (FloatKind.f32.format.order x 1114636288 == some .lt || FloatKind.f32.format.order x 1114636288 == some .eq)) := rfl
  rw [h1] at hq
  clear h1
  rcases a : (FloatKind.f32.format.order x 3262119936 == some .gt || FloatKind.f32.format.order x 3262119936 == some .eq) with _ | _
  · rw [a] at hq
    simp only [Bool.false_and] at hq
    subst hq
    go_enter Tryd.func88, Tryd.ntmps88
    go_wp2
    go_ret
    exact ⟨rfl, rfl⟩
  · rw [a] at hq
    simp only [Bool.true_and] at hq
    cases q
    all_goals
      go_enter Tryd.func88, Tryd.ntmps88
      go_wp2
      go_ret
      exact ⟨rfl, rfl⟩

theorem sHeat (x : Nat) (q : Bool) (hq : heatB x = q) (w : World) :
    Calls Tryd.prog 87 #[.float .f32 x] w fun e w' => e = .returned (.bool q) ∧ w = w' := by
  have h1 : heatB x = ((FloatKind.f32.format.order x 3262119936 == some .gt || FloatKind.f32.format.order x 3262119936 == some .eq) && (FloatKind.f32.format.order x 1114636288 == some .lt || FloatKind.f32.format.order x 1114636288 == some .eq)) := rfl
  rw [h1] at hq
  clear h1
  rcases a : (FloatKind.f32.format.order x 3262119936 == some .gt || FloatKind.f32.format.order x 3262119936 == some .eq) with _ | _
  · rw [a] at hq
    simp only [Bool.false_and] at hq
    subst hq
    go_enter Tryd.func87, Tryd.ntmps87
    go_wp2
    go_ret
    exact ⟨rfl, rfl⟩
  · rw [a] at hq
    simp only [Bool.true_and] at hq
    cases q
    all_goals
      go_enter Tryd.func87, Tryd.ntmps87
      go_wp2
      go_ret
      exact ⟨rfl, rfl⟩

set_option maxRecDepth 100000 in
theorem iValidAir (h v : Nat) (hv : v < 4294967296) (q : Bool) (hq : airB h v = q) (w : World) :
    Calls Tryd.prog 56 #[.agg #[.float .f32 h, .float .f32 v]] w fun e w' => e = .returned (.bool q) ∧ Below w.heap.size w w' := by
  have b0 := boxed w (.cells #[.float .f32 h, .float .f32 v] 41)
  have Hv := hid hv
  have e1 : airB h v = (heatB h && amtB v && vapB v) := rfl
  rw [e1] at hq
  clear hv e1
  rcases a : heatB h with _ | _
  · have Ha := hid a
    rw [a] at hq
    simp only [Bool.false_and] at hq
    subst hq
    clear a
    go_enter Tryd.func56, Tryd.ntmps56
    go_wp2_with fail
    refine (iHeat h false Ha.out _).mono ?_
    rintro e w1 ⟨rfl, rfl⟩
    go_wp2
    go_ret
    exact ⟨rfl, b0⟩
  · have Ha := hid a
    rw [a] at hq
    clear a
    rcases b : amtB v with _ | _
    · have Hb := hid b
      rw [b] at hq
      simp only [Bool.and_false, Bool.false_and] at hq
      subst hq
      clear b
      go_enter Tryd.func56, Tryd.ntmps56
      go_wp2_with fail
      refine (iHeat h true Ha.out _).mono ?_
      rintro e w1 ⟨rfl, rfl⟩
      go_wp2_with fail
      refine (isAmount_f v Hv.out Hb.out _).mono ?_
      rintro e w1 ⟨rfl, hb1⟩
      go_wp2
      go_ret
      exact ⟨rfl, stp b0 (Nat.le_refl _) hb1⟩
    · have Hb := hid b
      rw [b] at hq
      simp only [Bool.true_and] at hq
      have hc : (FloatKind.f32.format.order v 1148846080 == some .lt || FloatKind.f32.format.order v 1148846080 == some .eq) = q := hq
      clear b hq
      cases q
      all_goals
        go_enter Tryd.func56, Tryd.ntmps56
        go_wp2_with fail
        refine (iHeat h true Ha.out _).mono ?_
        rintro e w1 ⟨rfl, rfl⟩
        go_wp2_with fail
        refine (isAmount_t v Hb.out _).mono ?_
        rintro e w1 ⟨rfl, rfl⟩
        go_wp2
        go_ret
        exact ⟨rfl, b0⟩

theorem txN_size (x : Nat) : (txN x).size = 8 := by
  show (hexL (nb x) 8).toArray.size = 8
  simp [hexL_length]

def shl156_ren : Go.Shelf.Ren := ⟨fun | 156 => 50 | 165 => 78 | 166 => 62 | 169 => 63 | 240 => 90 | 241 => 102 | 276 => 115 | 277 => 123 | n => n, fun | 31 => 78 | 9 => 9 | 3 => 3 | 4 => 4 | 0 => 0 | 20 => 20 | 72 => 97 | 76 => 98 | 70 => 94 | 37 => 95 | 75 => 70 | 127 => 124 | 164 => 152 | 5 => 5 | 80 => 100 | n => n, fun | n => n⟩

theorem shl156 : Go.Proofs.Lays.n156 Tryd.prog shl156_ren := {
  mixed := by kernel_rfl
  f156 := Tryd.func50.trans (congrArg some (by kernel_rfl))
  f165 := Tryd.func78.trans (congrArg some (by kernel_rfl))
  f166 := Tryd.func62.trans (congrArg some (by kernel_rfl))
  f169 := Tryd.func63.trans (congrArg some (by kernel_rfl))
  f240 := Tryd.func90.trans (congrArg some (by kernel_rfl))
  f241 := Tryd.func102.trans (congrArg some (by kernel_rfl))
  f276 := Tryd.func115.trans (congrArg some (by kernel_rfl))
  f277 := Tryd.func123.trans (congrArg some (by kernel_rfl))
  t0 := Tryd.underlying0
  a0 := Tryd.isAgg0
  z0 := Tryd.sizeOf0
  v0 := Tryd.zeroValue0
  t3 := Tryd.underlying3
  a3 := Tryd.isAgg3
  z3 := Tryd.sizeOf3
  v3 := Tryd.zeroValue3
  t4 := Tryd.underlying4
  a4 := Tryd.isAgg4
  z4 := Tryd.sizeOf4
  v4 := Tryd.zeroValue4
  t9 := Tryd.underlying9
  a9 := Tryd.isAgg9
  z9 := Tryd.sizeOf9
  v9 := Tryd.zeroValue9
  t20 := Tryd.underlying20
  a20 := Tryd.isAgg20
  z20 := Tryd.sizeOf20
  v20 := Tryd.zeroValue20
  t31 := Tryd.underlying78
  a31 := Tryd.isAgg78
  z31 := Tryd.sizeOf78
  v31 := Tryd.zeroValue78
  t37 := Tryd.underlying95
  a37 := Tryd.isAgg95
  z37 := Tryd.sizeOf95
  v37 := Tryd.zeroValue95
  t70 := Tryd.underlying94
  a70 := Tryd.isAgg94
  z70 := Tryd.sizeOf94
  v70 := Tryd.zeroValue94
  t72 := Tryd.underlying97
  a72 := Tryd.isAgg97
  z72 := Tryd.sizeOf97
  v72 := Tryd.zeroValue97
  t75 := Tryd.underlying70
  a75 := Tryd.isAgg70
  z75 := Tryd.sizeOf70
  v75 := Tryd.zeroValue70
  t76 := Tryd.underlying98
  a76 := Tryd.isAgg98
  z76 := Tryd.sizeOf98
  v76 := Tryd.zeroValue98
  t127 := Tryd.underlying124
  a127 := Tryd.isAgg124
  z127 := Tryd.sizeOf124
  v127 := Tryd.zeroValue124
  t164 := Tryd.underlying152
  a164 := Tryd.isAgg152
  z164 := Tryd.sizeOf152
  v164 := Tryd.zeroValue152 }

theorem shlB156 : Builder.Extra Tryd.prog shl156_ren := {
  sizeBuilder := by kernel_rfl
  liesBuilder := by kernel_rfl
  t5 := Tryd.underlying5
  a5 := Tryd.isAgg5
  z5 := Tryd.sizeOf5
  v5 := Tryd.zeroValue5
  infoByte := by kernel_rfl
  cellsByte := by kernel_rfl
  sizeByte := by kernel_rfl
  neB5 := by decide }

theorem shJoin (bk o c : Nat) (xs : List ByteArray) (sep : ByteArray) (w : World) (hcells : ∀ (j : Nat) x, xs[j]? = some x → w.cell? ⟨bk, o + j, none⟩ = some (.string x)) (hbk : bk < w.heap.size) (hN : xs.length ≤ 140737488355328) (hcap : xs.length ≤ c) (hlen : (Lib.join (xs.map (·.data.toList)) sep.data.toList).length ≤ 140737488355328) :
    Calls Tryd.prog 50 #[.slice (some ⟨bk, o, none⟩) xs.length c, .string sep] w fun e w' => e = .returned (.string ⟨(Lib.join (xs.map (·.data.toList)) sep.data.toList).toArray⟩) ∧ Below w.heap.size w w' := Any.strings_Join shl156 shlB156 bk o c xs sep w hcells hbk hN hcap hlen

theorem iHgt (x : Nat) (hx : x < 4294967296) (q : Bool) (hq : hgtB x = q) (w : World) :
    Calls Tryd.prog 116 #[.float .f32 x] w fun e w' => e = .returned (.bool q) ∧ Below w.heap.size w w' := by
  have e1 : hgtB x = (amtB x && (FloatKind.f32.format.order x 1106247680 == some .lt || FloatKind.f32.format.order x 1106247680 == some .eq)) := rfl
  rw [e1] at hq
  have Hx := hid hx
  clear e1 hx
  rcases a : amtB x with _ | _
  · have Ha := hid a
    rw [a] at hq
    simp only [Bool.false_and] at hq
    subst hq
    clear a
    go_enter Tryd.func116, Tryd.ntmps116
    go_wp2_with fail
    refine (isAmount_f x Hx.out Ha.out _).mono ?_
    rintro e w1 ⟨rfl, hb1⟩
    go_wp2
    go_ret
    exact ⟨rfl, hb1⟩
  · have Ha := hid a
    rw [a] at hq
    simp only [Bool.true_and] at hq
    clear a
    cases q
    all_goals
      go_enter Tryd.func116, Tryd.ntmps116
      go_wp2_with fail
      refine (isAmount_t x Ha.out _).mono ?_
      rintro e w1 ⟨rfl, rfl⟩
      go_wp2
      go_ret
      exact ⟨rfl, Below.refl _ _⟩

set_option maxRecDepth 100000 in
theorem sAirAt_t (h v : Nat) (hq : airB h v = true) (w : World) (g o : Nat) (c0 : w.cell? ⟨g, o, none⟩ = some (.float .f32 h)) (c1 : w.cell? ⟨g, o + 1, none⟩ = some (.float .f32 v)) :
    Calls Tryd.prog 54 #[.pointer (some ⟨g, o, none⟩)] w fun e w' => e = .returned (.bool true) ∧ w = w' := by
  obtain ⟨a, b, c⟩ := airB_iff.1 hq
  have hc : (FloatKind.f32.format.order v 1148846080 == some .lt || FloatKind.f32.format.order v 1148846080 == some .eq) = true := c
  have Ha := hid a
  have Hb := hid b
  clear a b c hq
  go_enter Tryd.func54, Tryd.ntmps54
  go_wp2_with fail
  refine (sHeat h true Ha.out _).mono ?_
  rintro e w1 ⟨rfl, rfl⟩
  go_wp2_with fail
  refine (sAmount_t v Hb.out _).mono ?_
  rintro e w1 ⟨rfl, rfl⟩
  go_wp2
  go_ret
  exact ⟨rfl, rfl⟩

set_option maxRecDepth 100000 in
theorem iValidParcel (a h v : Nat) (ha : a < 4294967296) (hv : v < 4294967296) (q : Bool) (hq : parB a h v = q) (w : World) :
    Calls Tryd.prog 93 #[.agg #[.float .f32 a, .float .f32 h, .float .f32 v]] w fun e w' => e = .returned (.bool q) ∧ Below w.heap.size w w' := by
  have b0 := boxed w (.cells #[.float .f32 a, .float .f32 h, .float .f32 v] 127)
  have A0 := hid (parAt.new w a h v 127)
  have Ha := hid ha
  have Hv := hid hv
  have e1 : parB a h v = (hgtB a && airB h v) := rfl
  rw [e1] at hq
  clear ha hv e1
  rcases x : hgtB a with _ | _
  · have Hx := hid x
    rw [x] at hq
    simp only [Bool.false_and] at hq
    subst hq
    clear x
    go_enter Tryd.func93, Tryd.ntmps93
    go_wp2_with fail
    refine (iHgt a Ha.out false Hx.out _).mono ?_
    rintro e w1 ⟨rfl, hb1⟩
    go_wp2
    go_ret
    exact ⟨rfl, stp b0 (Nat.le_refl _) hb1⟩
  · have Hx := hid x
    rw [x] at hq
    simp only [Bool.true_and] at hq
    have Hq := hid hq
    clear x hq
    go_enter Tryd.func93, Tryd.ntmps93
    go_wp2_with fail
    refine (iHgt a Ha.out true Hx.out _).mono ?_
    rintro e w1 ⟨rfl, hb1⟩
    have A1 := hid (A0.out.stay hb1)
    have b1 := stp b0 (Nat.le_refl _) hb1
    go_wp2_with (refine wpList_load_air (by rfl) 41 _ rfl w.heap.size rfl a h v 127 A1.out _ Tryd.underlying41 rfl info_air ?_)
    refine (iValidAir h v Hv.out q Hq.out _).mono ?_
    rintro e w2 ⟨rfl, hb2⟩
    cases q
    all_goals
      go_wp2
      go_ret
      exact ⟨rfl, stp b1 (Nat.le_refl _) hb2⟩

theorem info_lev : (Tryd.prog.info? 108).map (·.size) = some 3 := by kernel_rfl

theorem info_llev : (Tryd.prog.info? 111).map (·.size) = some 3 := by kernel_rfl

theorem infoz_lev : (Tryd.prog.info? 108).map (fun i => (i.zero, i.size, i.bytes)) = some (some (.agg #[.float .f32 0, .float .f32 0, .float .f32 0]), 3, 12) := by kernel_rfl

theorem sameFloat2 (a b : Nat) (h : Same2 a b) (w : World) :
    Calls Tryd.prog 16 #[.float .f64 a, .float .f64 b] w fun e w' => e = .returned (.bool true) ∧ w = w' := by
  obtain ⟨h1, h2⟩ := h
  rcases h1 with ⟨h1, rfl⟩ | ⟨h1, h3, h4, h5⟩
  · have hn : (FloatKind.f64.format.order a a != some .eq) = false := by
      show (Ieee.Format.order D a a != some .eq) = false
      rw [h1]; rfl
    have hq : (FloatKind.f64.format.order a a == some .eq) = true := by
      show (Ieee.Format.order D a a == some .eq) = true
      rw [h1]; rfl
    rcases hz : (FloatKind.f64.format.order a 0 == some .eq) with _ | _
    · clear h1 h2
      go_enter Tryd.func16, Tryd.ntmps16
      go_wp2
      go_ret
      exact ⟨by simp, rfl⟩
    · obtain ⟨q, hd⟩ := h2 h1 (beq_iff_eq.1 hz)
      have hdiv := fun w => run_float_arith (P := Tryd.prog) w .quo 28 .f64 4607182418800017408 a q hd
      clear h1 h2 hd
      go_enter Tryd.func16, Tryd.ntmps16
      go_wp2
      go_ret
      exact ⟨by simp, rfl⟩
  · have hn : (FloatKind.f64.format.order a a != some .eq) = true := by
      show (Ieee.Format.order D a a != some .eq) = true
      rw [h1]; rfl
    have hm : (FloatKind.f64.format.order b b != some .eq) = true := by
      show (Ieee.Format.order D b b != some .eq) = true
      rw [h3]; rfl
    clear h1 h2 h3 h4 h5
    go_enter Tryd.func16, Tryd.ntmps16
    go_wp2
    go_ret
    exact ⟨by simp, rfl⟩

theorem eqAir_any (h v : Nat) (hh : h < 4294967296) (hv : v < 4294967296) (w : World) :
    Calls Tryd.prog 28 #[.agg #[.float .f32 h, .float .f32 v], .agg #[.float .f32 h, .float .f32 v]] w fun e w' => e = .returned (.bool true) ∧ Below w.heap.size w w' := by
  obtain ⟨z0, f0, c0, d0, s0⟩ := conv_any (P := Tryd.prog) 22 28 h hh Tryd.underlying22 Tryd.underlying28
  obtain ⟨z1, f1, c1, d1, s1⟩ := conv_any (P := Tryd.prog) 22 28 v hv Tryd.underlying22 Tryd.underlying28
  have S0 := hid s0
  have S1 := hid s1
  have D0 := hid d0
  have D1 := hid d1
  have k0 : Hid (Kept w [(w.heap.size + 1, #[.float .f32 h, .float .f32 v], 41), (w.heap.size, #[.float .f32 h, .float .f32 v], 41)] ((w.alloc (.cells #[.float .f32 h, .float .f32 v] 41)).alloc (.cells #[.float .f32 h, .float .f32 v] 41))) := hid ((((Kept.nil w).push _ _).push _ _).sub (by simp))
  have k2 := hid (kept_wf (kept_wf k0.out (D0.out _)) (D0.out _))
  have e0 : (f0 (f0 ((w.alloc (.cells #[.float .f32 h, .float .f32 v] 41)).alloc (.cells #[.float .f32 h, .float .f32 v] 41)))).cell? ⟨w.heap.size, 1, none⟩ = some (.float .f32 v) := (cell_of_row _ (w.heap.size) 1 _ _ _ (k2.out.at (x := (w.heap.size, #[.float .f32 h, .float .f32 v], 41)) (by simp))).trans rfl
  have e1 : (f0 ((w.alloc (.cells #[.float .f32 h, .float .f32 v] 41)).alloc (.cells #[.float .f32 h, .float .f32 v] 41))).cell? ⟨w.heap.size + 1, 0, none⟩ = some (.float .f32 h) := (cell_of_row _ (w.heap.size + 1) 0 _ _ _ ((kept_wf k0.out (D0.out _)).at (x := (w.heap.size + 1, #[.float .f32 h, .float .f32 v], 41)) (by simp))).trans rfl
  have e2 : (f1 (f0 (f0 ((w.alloc (.cells #[.float .f32 h, .float .f32 v] 41)).alloc (.cells #[.float .f32 h, .float .f32 v] 41))))).cell? ⟨w.heap.size + 1, 1, none⟩ = some (.float .f32 v) := (cell_of_row _ (w.heap.size + 1) 1 _ _ _ ((kept_wf k2.out (D1.out _)).at (x := (w.heap.size + 1, #[.float .f32 h, .float .f32 v], 41)) (by simp))).trans rfl
  clear hh hv s0 s1 d0 d1
  go_enter Tryd.func28, Tryd.ntmps28
  go_wp2_with fail
  refine (sameFloat2 _ _ (S0.out _ _) _).mono ?_
  rintro e w1 ⟨rfl, rfl⟩
  go_wp2_with fail
  refine (sameFloat2 _ _ (S1.out _ _) _).mono ?_
  rintro e w1 ⟨rfl, rfl⟩
  go_wp2
  go_ret
  exact ⟨rfl, (kept_wf (kept_wf k2.out (D1.out _)) (D1.out _)).1⟩

set_option maxRecDepth 100000 in
theorem eqLevel_any (a h v : Nat) (ha : a < 4294967296) (hh : h < 4294967296) (hv : v < 4294967296) (w : World) :
    Calls Tryd.prog 71 #[.agg #[.float .f32 a, .float .f32 h, .float .f32 v], .agg #[.float .f32 a, .float .f32 h, .float .f32 v]] w fun e w' => e = .returned (.bool true) ∧ Below w.heap.size w w' := by
  obtain ⟨z0, f0, c0, d0, s0⟩ := conv_any (P := Tryd.prog) 22 28 a ha Tryd.underlying22 Tryd.underlying28
  have S0 := hid s0
  have D0 := hid d0
  have Hh := hid hh
  have Hv := hid hv
  have k0 : Hid (Kept w [(w.heap.size + 1, #[.float .f32 a, .float .f32 h, .float .f32 v], 108), (w.heap.size, #[.float .f32 a, .float .f32 h, .float .f32 v], 108)] ((w.alloc (.cells #[.float .f32 a, .float .f32 h, .float .f32 v] 108)).alloc (.cells #[.float .f32 a, .float .f32 h, .float .f32 v] 108))) := hid ((((Kept.nil w).push _ _).push _ _).sub (by simp))
  have k2 := hid (kept_wf (kept_wf k0.out (D0.out _)) (D0.out _))
  have e1 : (f0 ((w.alloc (.cells #[.float .f32 a, .float .f32 h, .float .f32 v] 108)).alloc (.cells #[.float .f32 a, .float .f32 h, .float .f32 v] 108))).cell? ⟨w.heap.size + 1, 0, none⟩ = some (.float .f32 a) := (cell_of_row _ (w.heap.size + 1) 0 _ _ _ ((kept_wf k0.out (D0.out _)).at (x := (w.heap.size + 1, #[.float .f32 a, .float .f32 h, .float .f32 v], 108)) (by simp))).trans rfl
  have A0 : Hid (parAt (f0 (f0 ((w.alloc (.cells #[.float .f32 a, .float .f32 h, .float .f32 v] 108)).alloc (.cells #[.float .f32 a, .float .f32 h, .float .f32 v] 108)))) w.heap.size a h v 108) := hid (k2.out.at (x := (w.heap.size, _, _)) (by simp))
  have A1 : Hid (parAt (f0 (f0 ((w.alloc (.cells #[.float .f32 a, .float .f32 h, .float .f32 v] 108)).alloc (.cells #[.float .f32 a, .float .f32 h, .float .f32 v] 108)))) (w.heap.size + 1) a h v 108) := hid (k2.out.at (x := (w.heap.size + 1, _, _)) (by simp))
  clear ha hh hv s0 d0
  go_enter Tryd.func71, Tryd.ntmps71
  go_wp2_with fail
  refine (sameFloat2 _ _ (S0.out _ _) _).mono ?_
  rintro e w1 ⟨rfl, rfl⟩
  go_wp2_with (first | (refine wpList_load_air (by rfl) 41 _ rfl w.heap.size rfl a h v 108 A0.out _ Tryd.underlying41 rfl info_air ?_) | (refine wpList_load_air (by rfl) 41 _ rfl (w.heap.size + 1) rfl a h v 108 A1.out _ Tryd.underlying41 rfl info_air ?_))
  refine (eqAir_any h v Hh.out Hv.out _).mono ?_
  rintro e w2 ⟨rfl, hb2⟩
  go_wp2
  go_ret
  exact ⟨rfl, (k2.out.stay hb2).1⟩

set_option maxRecDepth 100000 in
theorem toLevel (a h v : Nat) (w : World) :
    Calls Tryd.prog 69 #[.agg #[.float .f32 a, .float .f32 h, .float .f32 v]] w fun e w' => e = .returned (.agg #[.float .f32 a, .float .f32 h, .float .f32 v]) ∧ Below w.heap.size w w' := by
  have k0 : Hid (Kept w [(w.heap.size + 1 + 1, #[.float .f32 a, .float .f32 0, .float .f32 0], 108), (w.heap.size + 1, #[.float .f32 0, .float .f32 0, .float .f32 0], 108)] (((w.alloc (.cells #[.float .f32 a, .float .f32 h, .float .f32 v] 111)).alloc (.cells #[.float .f32 0, .float .f32 0, .float .f32 0] 108)).alloc (.cells #[.float .f32 a, .float .f32 0, .float .f32 0] 108))) := hid (((((Kept.nil w).push _ _).push _ _).push _ _).sub (by simp))
  have A0 : Hid (parAt (((w.alloc (.cells #[.float .f32 a, .float .f32 h, .float .f32 v] 111)).alloc (.cells #[.float .f32 0, .float .f32 0, .float .f32 0] 108)).alloc (.cells #[.float .f32 a, .float .f32 0, .float .f32 0] 108)) w.heap.size a h v 111) := hid (((((Kept.nil w).push _ _).push _ _).push _ _).at (x := (w.heap.size, #[.float .f32 a, .float .f32 h, .float .f32 v], 111)) (by simp))
  go_enter Tryd.func69, Tryd.ntmps69
  go_wp2_with (refine wpList_load_air (by rfl) 39 _ rfl w.heap.size rfl a h v 111 A0.out _ Tryd.underlying39 rfl info_lair ?_)
  refine (toAir h v _).mono ?_
  rintro e w1 ⟨rfl, hb1⟩
  have k1 := hid (k0.out.stay hb1)
  clear k0 A0 hb1
  have tok1 : True := trivial
  go_wp2_with (first | (have _t := tok1; refine store_air (w0 := w) (l := [(w.heap.size + 1, #[.float .f32 0, .float .f32 0, .float .f32 0], 108)]) rfl 41 _ _ rfl (w.heap.size + 1 + 1) rfl h v rfl a 0 0 108 k1.out (by omega) (by simp) info_air ?_; intro w2 k2; have k2 := hid k2; clear tok1) | (have _t := k2; refine wpList_load_row rfl 108 _ rfl (w.heap.size + 1 + 1) rfl 108 (#[.float .f32 a, .float .f32 h, .float .f32 v]) (0, 0) _ (k2.out.at (x := (w.heap.size + 1 + 1, #[.float .f32 a, .float .f32 h, .float .f32 v], 108)) (by simp)) Tryd.underlying108 rfl (info_lev) ?_) | (have _t := k2; refine store_kept (w0 := w) (l := []) rfl 108 _ _ rfl (w.heap.size + 1) (#[.float .f32 a, .float .f32 h, .float .f32 v]) rfl rfl 108 (#[.float .f32 0, .float .f32 0, .float .f32 0]) (k2.out.sub (by simp)) (by omega) (by simp) (info_lev) (by simp) (by simp [Value.oneCell']) ?_; intro w3 k3; have k3 := hid k3))
  exact bodyPost_ret (results_cell_row rfl _ _ (w.heap.size + 1) 108 #[.float .f32 a, .float .f32 h, .float .f32 v] (0, 0) _ rfl (k3.out.at (x := (w.heap.size + 1, #[.float .f32 a, .float .f32 h, .float .f32 v], 108)) (by simp)) Tryd.underlying108 rfl info_lev) rfl ⟨rfl, k3.out.1⟩

theorem szLevels_ok (p : Option Addr) (n cap : Nat) (hn : n ≤ 1048576) (w : World) :
    Calls Tryd.prog 35 #[.slice p n cap, .int .i64 1048576] w fun e w' => e = .returned (.int .i64 (1048576 - (n : Int))) ∧ w = w' := by
  have h1 : IntKind.i64.wrap (1048576 - (n : Int)) = 1048576 - (n : Int) := by rw [IntKind.wrap_i64]; omega
  have h2 : ¬ (1048576 - (n : Int) < 0) := by omega
  go_enter Tryd.func35, Tryd.ntmps35
  go_wp2
  go_ret
  exact ⟨rfl, rfl⟩

theorem szLevels_no (p : Option Addr) (n cap : Nat) (hn : 1048576 < n) (hm : n ≤ maxLen) (w : World) :
    Calls Tryd.prog 35 #[.slice p n cap, .int .i64 1048576] w fun e w' => e = .returned (.int .i64 (-1)) ∧ w = w' := by
  have hm' : n ≤ 9223372036854775807 := hm
  have h1 : IntKind.i64.wrap (1048576 - (n : Int)) = 1048576 - (n : Int) := by rw [IntKind.wrap_i64]; omega
  have h2 : (1048576 - (n : Int) < 0) := by omega
  go_enter Tryd.func35, Tryd.ntmps35
  go_wp2
  go_ret
  exact ⟨rfl, rfl⟩

set_option maxRecDepth 100000 in
set_option maxHeartbeats 1000000 in
theorem toLevels (s : Value) (n : Nat) (x : Nat → Nat) (_hx : ∀ k, x k < 4294967296) (w : World) (hs : Rd w s n x) (hn : n ≤ 1048576) :
    Calls Tryd.prog 37 #[s] w fun e w' => ∃ g, e = .returned (.slice (some ⟨g, 0, none⟩) n n) ∧ Rd w' (.slice (some ⟨g, 0, none⟩) n n) n x ∧ Below w.heap.size w w' := by
  obtain ⟨p, cap, rfl, hc⟩ := hs
  have HC := hid hc
  have hmk := fun w => run_make3 (P := Tryd.prog) (t := 58) (e := 108) Tryd.underlying58 infoz_lev hn w
  have k0 : Hid (Kept w [(w.heap.size, vls (3 * n) (flw (part3 x 0)), 108)] (w.alloc (.cells (vls (3 * n) (flw fun _ => 0)) 108))) := hid (by rw [part3_zero]; exact (Kept.nil w).push _ _)
  clear hc
  go_enter Tryd.func37, Tryd.ntmps37
  go_wp2_with fail
  go_loopw [4] (fun i wr => ∃ k : Nat, k ≤ n ∧ i = .int .i64 k ∧ Hid (Kept w [(w.heap.size, vls (3 * n) (flw (part3 x k)), 108)] wr)) (fun i _ => n - (intOf i).toNat)
  case atStart => exact ⟨0, by omega, rfl, k0⟩
  case round =>
    obtain ⟨k, hk, rfl, h0⟩ := hrel
    clear k0 hmk
    by_cases hlt : k < n
    · have HK := hid hlt
      have hk3 : (k : Int) < (n : Int) := by omega
      obtain ⟨b, o, rfl, hcell⟩ := HC.out (by omega)
      have R1 := hid (fun wq (hb : Below w.heap.size w wq) => row3 (w := wq) (n := n) (x := x) (b := b) (o := o) (fun j hj => by have h1 := hcell j hj; rw [hb.cell (block_lt_of_cell h1)]; exact h1) HK.out)
      clear hcell
      have i1 := fun w => run_indexAt (P := Tryd.prog) (t := 55) (e := 111) Tryd.underlying55 info_llev (b := b) (o := o) (n := n) (cap := cap) (k := k) hlt w
      have i2 := fun w9 => run_indexAt (P := Tryd.prog) (t := 58) (e := 108) Tryd.underlying58 info_lev (b := w.heap.size) (o := 0) (n := n) (cap := n) (k := k) hlt w9
      simp only [Nat.zero_add] at i2
      go_wp2_with (refine wpList_load_mid rfl 111 _ rfl b (o + k * 3) rfl _ _ (R1.out _ h0.out.1) Tryd.underlying111 rfl info_llev ?_)
      refine (toLevel _ _ _ _).mono ?_
      rintro e w1 ⟨rfl, hb1⟩
      have h1 := hid (h0.out.stay hb1)
      have V1 : Hid (vAt w1 w.heap.size (3 * n) (flw (part3 x k)) 108) := hid (h1.out.at (x := (w.heap.size, vls (3 * n) (flw (part3 x k)), 108)) (by simp))
      clear i1
      go_wp2_with (refine wpList_store_mid rfl 108 _ _ rfl w.heap.size (k * 3) #[.float .f32 (x (k * 3)), .float .f32 (x (k * 3 + 1)), .float .f32 (x (k * 3 + 2))] rfl rfl (V1.out.there (k * 3) 3 (by have := HK.out; omega)) info_lev (by simp [Value.oneCell']) ?_)
      clear i2
      go_wp2
      go_roundw
      case rel => exact ⟨k + 1, by omega, by go_num, hid (by have h2 := h1.out.three (Nat.le_refl _) (by simp) (k * 3) (x (k * 3)) (x (k * 3 + 1)) (x (k * 3 + 2)); rw [part3_step] at h2; exact h2)⟩
      case measure => simp [intOf]; omega
    · obtain rfl : k = n := by omega
      go_wp2
      go_ret
      exact ⟨w.heap.size, rfl, Rd.of_vAt (vAt.part (T := 108) (k := k) (h0.out.at (x := (w.heap.size, vls (3 * k) (flw (part3 x k)), 108)) (by simp)) (Nat.le_refl _)) (Nat.le_refl _) _, h0.out.1⟩

set_option maxRecDepth 100000 in
set_option maxHeartbeats 1000000 in
theorem eqLevels (s t : Value) (n : Nat) (x : Nat → Nat) (hx : ∀ k, x k < 4294967296) (w : World) (hs : Rd w s n x) (ht : Rd w t n x) (hn : n ≤ 1048576) :
    Calls Tryd.prog 39 #[s, t] w fun e w' => e = .returned (.bool true) ∧ Below w.heap.size w w' := by
  obtain ⟨p, cap, rfl, hc⟩ := hs
  obtain ⟨p', cap', rfl, hc'⟩ := ht
  have HC := hid hc
  have HC' := hid hc'
  have HX := hid hx
  clear hc hc' hx
  go_enter Tryd.func39, Tryd.ntmps39
  go_wp2_with fail
  go_loopw [5] (fun i wr => ∃ k : Nat, k ≤ n ∧ i = .int .i64 k ∧ Hid (Kept w [] wr)) (fun i _ => n - (intOf i).toNat)
  case atStart => exact ⟨0, by omega, rfl, hid (Kept.nil w)⟩
  case round =>
    obtain ⟨k, hk, rfl, h0⟩ := hrel
    by_cases hlt : k < n
    · have HK := hid hlt
      have hk3 : (k : Int) < (n : Int) := by omega
      obtain ⟨b, o, rfl, hcell⟩ := HC.out (by omega)
      obtain ⟨b', o', rfl, hcell'⟩ := HC'.out (by omega)
      have R1 := hid (fun wq (hb : Below w.heap.size w wq) => row3 (w := wq) (n := n) (x := x) (b := b) (o := o) (fun j hj => by have h1 := hcell j hj; rw [hb.cell (block_lt_of_cell h1)]; exact h1) HK.out)
      have R2 := hid (fun wq (hb : Below w.heap.size w wq) => row3 (w := wq) (n := n) (x := x) (b := b') (o := o') (fun j hj => by have h1 := hcell' j hj; rw [hb.cell (block_lt_of_cell h1)]; exact h1) HK.out)
      clear hcell hcell'
      go_wp2_with fail
      refine region_kept (w0 := w) (l := []) 10 #[false, false, false, false, false, false, false, false, false, false] (by kernel_rfl) rfl rfl ?_
      have kd := h0.out.drew
      generalize World.drew _ = wd at kd ⊢
      refine take_val 0 _ _ (.slice (some ⟨b, o, none⟩) n cap) rfl (by rfl) (by kernel_rfl) (by kernel_rfl) (by kernel_rfl) (fun w => by rfl) rfl rfl kd ?_
      simp only [Act.put, List.setIfInBounds_toArray, List.set_cons_zero, List.set_cons_succ]
      refine take_val 1 _ _ (.int .i64 (k : Int)) rfl (by rfl) (by kernel_rfl) (by kernel_rfl) (by kernel_rfl) (fun w => by rfl) rfl rfl kd ?_
      simp only [Act.put, List.setIfInBounds_toArray, List.set_cons_zero, List.set_cons_succ]
      refine take_val 2 _ _ (.pointer (some ⟨b, o + k * 3, none⟩)) rfl (by rfl) (by kernel_rfl) (by kernel_rfl) (by kernel_rfl) (fun w => run_index_op _ _ rfl rfl (run_indexAt Tryd.underlying58 info_lev HK.out w)) rfl rfl kd ?_
      simp only [Act.put, List.setIfInBounds_toArray, List.set_cons_zero, List.set_cons_succ]
      refine take_cell 3 _ _ (.agg #[.float .f32 (x (k * 3)), .float .f32 (x (k * 3 + 1)), .float .f32 (x (k * 3 + 2))]) rfl (by rfl) (by kernel_rfl) (by kernel_rfl) (by kernel_rfl) (fun wq hS => run_load_mid 108 _ b (o + k * 3) [.float .f32 (x (k * 3)), .float .f32 (x (k * 3 + 1)), .float .f32 (x (k * 3 + 2))] rfl (R1.out _ hS.1) _ Tryd.underlying108 rfl info_lev) rfl rfl kd ?_
      simp only [Act.put, List.setIfInBounds_toArray, List.set_cons_zero, List.set_cons_succ]
      refine take_val 4 _ _ (.slice (some ⟨b', o', none⟩) n cap') rfl (by rfl) (by kernel_rfl) (by kernel_rfl) (by kernel_rfl) (fun w => by rfl) rfl rfl kd ?_
      simp only [Act.put, List.setIfInBounds_toArray, List.set_cons_zero, List.set_cons_succ]
      refine take_val 5 _ _ (.int .i64 (k : Int)) rfl (by rfl) (by kernel_rfl) (by kernel_rfl) (by kernel_rfl) (fun w => by rfl) rfl rfl kd ?_
      simp only [Act.put, List.setIfInBounds_toArray, List.set_cons_zero, List.set_cons_succ]
      refine take_val 6 _ _ (.pointer (some ⟨b', o' + k * 3, none⟩)) rfl (by rfl) (by kernel_rfl) (by kernel_rfl) (by kernel_rfl) (fun w => run_index_op _ _ rfl rfl (run_indexAt Tryd.underlying58 info_lev HK.out w)) rfl rfl kd ?_
      simp only [Act.put, List.setIfInBounds_toArray, List.set_cons_zero, List.set_cons_succ]
      refine take_cell 7 _ _ (.agg #[.float .f32 (x (k * 3)), .float .f32 (x (k * 3 + 1)), .float .f32 (x (k * 3 + 2))]) rfl (by rfl) (by kernel_rfl) (by kernel_rfl) (by kernel_rfl) (fun wq hS => run_load_mid 108 _ b' (o' + k * 3) [.float .f32 (x (k * 3)), .float .f32 (x (k * 3 + 1)), .float .f32 (x (k * 3 + 2))] rfl (R2.out _ hS.1) _ Tryd.underlying108 rfl info_lev) rfl rfl kd ?_
      simp only [Act.put, List.setIfInBounds_toArray, List.set_cons_zero, List.set_cons_succ]
      refine wpAnyH_ready (rs := [8]) (by kernel_rfl) (by simp) ?_
      refine callK 8 _ _ (.bool true) kd rfl (by rfl) 71 #[.agg #[.float .f32 (x (k * 3)), .float .f32 (x (k * 3 + 1)), .float .f32 (x (k * 3 + 2))], .agg #[.float .f32 (x (k * 3)), .float .f32 (x (k * 3 + 1)), .float .f32 (x (k * 3 + 2))]] (fun w => by unfold execOp; go_simp) rfl rfl ?hc1 (fun w1 k1 => ?_) AllReadyH.nil
      case hc1 => exact eqLevel_any _ _ _ (HX.out _) (HX.out _) (HX.out _) _
      refine ⟨k1, ?_⟩
      simp only [Act.put, List.setIfInBounds_toArray, List.set_cons_zero, List.set_cons_succ]
      refine take_val 9 _ _ (.bool false) rfl (by rfl) (by kernel_rfl) (by kernel_rfl) (by kernel_rfl) (fun w => by unfold execOp; go_simp) rfl rfl k1 ?_
      simp only [Act.put, List.setIfInBounds_toArray, List.set_cons_zero, List.set_cons_succ]
      refine wpAnyH_done (by kernel_rfl) (NoPanic.normal ?_) _
      go_wp2
      go_roundw
      case rel => exact ⟨k + 1, by omega, by go_num, hid k1⟩
      case measure => simp [intOf]; omega
    · obtain rfl : k = n := by omega
      go_wp2
      go_ret
      exact ⟨rfl, h0.out.1⟩

theorem shl166 : Go.Proofs.Lays.n166 Tryd.prog shl156_ren := {
  mixed := by kernel_rfl
  f166 := Tryd.func62.trans (congrArg some (by kernel_rfl))
  f240 := Tryd.func90.trans (congrArg some (by kernel_rfl))
  f276 := Tryd.func115.trans (congrArg some (by kernel_rfl))
  t0 := Tryd.underlying0
  a0 := Tryd.isAgg0
  z0 := Tryd.sizeOf0
  v0 := Tryd.zeroValue0
  t3 := Tryd.underlying3
  a3 := Tryd.isAgg3
  z3 := Tryd.sizeOf3
  v3 := Tryd.zeroValue3
  t4 := Tryd.underlying4
  a4 := Tryd.isAgg4
  z4 := Tryd.sizeOf4
  v4 := Tryd.zeroValue4
  t9 := Tryd.underlying9
  a9 := Tryd.isAgg9
  z9 := Tryd.sizeOf9
  v9 := Tryd.zeroValue9
  t20 := Tryd.underlying20
  a20 := Tryd.isAgg20
  z20 := Tryd.sizeOf20
  v20 := Tryd.zeroValue20
  t37 := Tryd.underlying95
  a37 := Tryd.isAgg95
  z37 := Tryd.sizeOf95
  v37 := Tryd.zeroValue95
  t70 := Tryd.underlying94
  a70 := Tryd.isAgg94
  z70 := Tryd.sizeOf94
  v70 := Tryd.zeroValue94
  t72 := Tryd.underlying97
  a72 := Tryd.isAgg97
  z72 := Tryd.sizeOf97
  v72 := Tryd.zeroValue97
  t75 := Tryd.underlying70
  a75 := Tryd.isAgg70
  z75 := Tryd.sizeOf70
  v75 := Tryd.zeroValue70
  t164 := Tryd.underlying152
  a164 := Tryd.isAgg152
  z164 := Tryd.sizeOf152
  v164 := Tryd.zeroValue152 }

theorem shl169 : Go.Proofs.Lays.n169 Tryd.prog shl156_ren := {
  mixed := by kernel_rfl
  f169 := Tryd.func63.trans (congrArg some (by kernel_rfl))
  t0 := Tryd.underlying0
  a0 := Tryd.isAgg0
  z0 := Tryd.sizeOf0
  v0 := Tryd.zeroValue0
  t3 := Tryd.underlying3
  a3 := Tryd.isAgg3
  z3 := Tryd.sizeOf3
  v3 := Tryd.zeroValue3
  t9 := Tryd.underlying9
  a9 := Tryd.isAgg9
  z9 := Tryd.sizeOf9
  v9 := Tryd.zeroValue9
  t37 := Tryd.underlying95
  a37 := Tryd.isAgg95
  z37 := Tryd.sizeOf95
  v37 := Tryd.zeroValue95
  t70 := Tryd.underlying94
  a70 := Tryd.isAgg94
  z70 := Tryd.sizeOf94
  v70 := Tryd.zeroValue94
  t72 := Tryd.underlying97
  a72 := Tryd.isAgg97
  z72 := Tryd.sizeOf97
  v72 := Tryd.zeroValue97
  t127 := Tryd.underlying124
  a127 := Tryd.isAgg124
  z127 := Tryd.sizeOf124
  v127 := Tryd.zeroValue124 }

theorem shWrite (B b : Nat) (bs : List Value) (s : ByteArray) (w : World) (h : Go.Lib.IsBuilderF 97 5 B b bs w) (hlen : bs.length + s.size ≤ 140737488355328) (hBw : B ≤ w.heap.size) :
    Calls Tryd.prog 62 #[.pointer (some ⟨b, 0, none⟩), .string s] w fun e w' => e = .returned (.tuple #[.int .i64 s.size, .nilIface]) ∧ (Go.Lib.BuilderAtF 97 5 B b (.pointer (some ⟨b, 0, none⟩)) (bs ++ Go.Lib.strCells s) w' ∧ Below B w w' ∧ Go.Lib.OthersKept 5 (some b) w w') := Go.Proofs.Any.Builder_WriteString_k shl166 shlB156 B b bs s w h hlen hBw

theorem shString (B b : Nat) (l : List UInt8) (w : World) (h : Go.Lib.IsBuilderF 97 5 B b (Go.Lib.byteCells l) w) (hBw : B ≤ w.heap.size) :
    Calls Tryd.prog 63 #[.pointer (some ⟨b, 0, none⟩)] w fun e w' => e = .returned (.string ⟨l.toArray⟩) ∧ (Go.Lib.IsBuilderF 97 5 B b (Go.Lib.byteCells l) w' ∧ Below B w w' ∧ Go.Lib.OthersKept 5 (some b) w w') := Go.Proofs.Any.Builder_String_any_k shl169 shlB156 B b l w h hBw

theorem bld_at {T e : TypeId} {B b : Nat} {p : Value} {bs : List Value} {a z : World} (h : Go.Lib.BuilderAtF T e B b p bs a) (k : Below a.heap.size a z) : Go.Lib.BuilderAtF T e B b p bs z := by
  obtain ⟨h1, v, h2, h3, h4⟩ := h
  refine ⟨h1, v, ?_, ?_, h4⟩
  · rw [k.block b (lt_of_block h2)]; exact h2
  · exact h3.kept (row := none) ⟨k.os, k.tape, k.output, k.size, fun i hi _ => k.block i hi⟩ (Classical.em _)

theorem bld_stay {T e : TypeId} {B b : Nat} {bs : List Value} {a z : World} (h : Go.Lib.IsBuilderF T e B b bs a) (k : Below a.heap.size a z) : Go.Lib.IsBuilderF T e B b bs z := by
  rcases h with h | h
  · exact .inl (bld_at h k)
  · exact .inr (bld_at h k)

theorem bld_new {T e : TypeId} {b : Nat} {w : World} (h : w.heap[b]? = some (.cells #[.pointer none, .slice none 0 0] T (0, 0))) : Go.Lib.IsBuilderF T e b b [] w :=
  .inl ⟨Nat.le_refl _, .slice none 0 0, h, World.ownsRowF_of (World.ownsRow_nil _ _ _ _), by simp [Value.ownBlock]⟩

def Cnt (n : Int) : Prop := 0 ≤ n ∧ n ≤ 1000000000

def Bx (b : Nat → Int) : Prop := ∀ i, i < 21 → Cnt (b i)

@[go_sem] theorem zero_kern : Tryd.zeroCells49 = vls 400 (flw fun _ => 0) := by kernel_rfl

theorem sFinite_fq (x : Nat) (hx : x < 4294967296) (h : finB x = false) (w : World) :
    Calls Tryd.prog 109 #[.float .f32 x] w fun e w' => e = .returned (.bool false) ∧ ∃ m, w' = w.drewN m := by
  obtain ⟨z, hr, h1, _⟩ := run_arith_nan (P := Tryd.prog) w .sub (by simp) 22 x x (sub_self_none hx h)
  have Hn := hid (show (FloatKind.f32.format.order z 0 == some .eq) = false by
    show (S.order z 0 == some .eq) = false
    rw [order_nan32 h1]; rfl)
  clear h hx h1
  go_enter Tryd.func109, Tryd.ntmps109
  go_wp2
  go_ret
  exact ⟨by simp [Hn.out], 1, rfl⟩

theorem sAmount_fq (x : Nat) (hx : x < 4294967296) (h : amtB x = false) (w : World) :
    Calls Tryd.prog 82 #[.float .f32 x] w fun e w' => e = .returned (.bool false) ∧ ∃ m, w' = w.drewN m := by
  rcases hf : finB x with _ | _
  · have Hx := hid hx
    have Hf := hid hf
    clear h hf hx
    go_enter Tryd.func82, Tryd.ntmps82
    go_wp2_with (go_at_call 109; refine (sFinite_fq x Hx.out Hf.out _).mono ?_; rintro e w' ⟨rfl, hb⟩)
    go_ret
    exact ⟨rfl, hb⟩
  · have hs : 2147483648 ≤ x := by
      rw [amtB_iff', INF_val] at h
      have := finB_iff.1 hf
      rw [INF_val] at this
      unfold mg at this
      omega
    have hg : (FloatKind.f32.format.order x 0 == some .gt) = false := order_neg_zero hx hf hs
    have hb : ((x : Int) == 0) = false := by simp; omega
    have Hx := hid hx
    have Hf := hid hf
    clear h hf hx hs
    go_enter Tryd.func82, Tryd.ntmps82
    go_wp2_with (go_at_call 109; refine (sFinite_t x Hx.out Hf.out _).mono ?_; rintro e w' ⟨rfl, rfl⟩)
    go_ret
    exact ⟨rfl, 0, rfl⟩

/-- The bytes that a builder holds. -/
def blB (b : ByteArray) : List Value := Go.Lib.byteCells b.data.toList

theorem blB_len (b : ByteArray) : (blB b).length = b.size := by unfold blB; rw [Go.Lib.byteCells_length]; rfl

theorem blB_next (S U : ByteArray) : (blB S ++ Go.Lib.strCells U) ++ Go.Lib.strCells ⟨#[10]⟩ = blB (S ++ (U ++ ⟨#[10]⟩)) := by
  unfold blB
  rw [Go.Lib.strCells_eq, Go.Lib.strCells_eq, ← Go.Lib.byteCells_append, ← Go.Lib.byteCells_append]
  congr 1
  simp

theorem info_lev3 : (Tryd.prog.info? 108).map (·.size) = some 3 := by kernel_rfl

/-- The text of a level, without the end of the line. -/
def txV (x : Nat → Nat) (k : Nat) : ByteArray := rowB (fun i => txN (x (k * 3 + i))) 3

def txL (x : Nat → Nat) (n : Nat) : ByteArray := linB (txV x) n

theorem nil_app (b : ByteArray) : (⟨#[]⟩ : ByteArray) ++ b = b := by apply ByteArray.ext; simp

theorem txV_is (x : Nat → Nat) (k : Nat) : txV x k = (((txN (x (k * 3)) ++ ⟨#[32]⟩) ++ txN (x (k * 3 + 1))) ++ ⟨#[32]⟩) ++ txN (x (k * 3 + 2)) := by
  show (((((⟨#[]⟩ ++ txN (x (k * 3 + 0))) ++ ⟨#[32]⟩) ++ txN (x (k * 3 + 1))) ++ ⟨#[32]⟩) ++ txN (x (k * 3 + 2))) = _
  rw [nil_app, Nat.add_zero]

theorem txV_size (x : Nat → Nat) (k : Nat) : (txV x k).size ≤ 27 := rowB_size (fun i => txN_size (x (k * 3 + i))) 3

theorem txL_size (x : Nat → Nat) (n : Nat) : (txL x n).size ≤ 28 * n := linB_size (txV_size x) n

theorem txL_next (x : Nat → Nat) (n : Nat) : txL x (n + 1) = txL x n ++ (txV x n ++ ⟨#[10]⟩) := rfl

theorem le_28 {a k n : Nat} (h : a ≤ 28 * k) (hk : k ≤ n) (hn : n ≤ 1048576) : a ≤ 29360128 := by omega

theorem wr_kM {k n : Nat} (h : k < n) (hn : n ≤ 1048576) : wrap64 ((k : Int) + 1) = (k : Int) + 1 := by unfold wrap64; omega

set_option maxRecDepth 100000 in
set_option maxHeartbeats 2000000 in
theorem sLText (s : Value) (n : Nat) (x : Nat → Nat) (hx : ∀ i, x i < 4294967296) (w : World) (hs : Rd w s n x) (hn : n ≤ 1048576) :
    Calls Tryd.prog 68 #[s] w fun e w' => e = .returned (.string (txL x n)) ∧ Below w.heap.size w w' := by
  obtain ⟨p, cap, rfl, hc⟩ := hs
  have HC := hid hc
  have HX := hid hx
  have HN := hid hn
  have k0 := hid (Kept.nil w)
  clear hc hx hn
  go_enter Tryd.func68, Tryd.ntmps68
  go_wp2_with fail
  go_loopw [3, 4] (fun v i wr => ∃ k : Nat, k ≤ n ∧ v = .string (txL x k) ∧ i = .int .i64 (k : Int) ∧ Hid (Kept w [] wr)) (fun _ i _ => n - (intOf i).toNat)
  case atStart => exact ⟨0, by omega, rfl, rfl, k0⟩
  case round =>
    clear k0
    obtain ⟨k, hk, rfl, rfl, h1⟩ := hrel
    by_cases hlt : k < n
    · have HL := hid hlt
      have hk3 : (k : Int) < (n : Int) := by omega
      have hw9 := wr_kM hlt HN.out
      obtain ⟨b, o, rfl, hcell⟩ := HC.out (by omega)
      have i1 := fun w => run_indexAt (P := Tryd.prog) (t := 58) (e := 108) Tryd.underlying58 info_lev3 (b := b) (o := o) (n := n) (cap := cap) (k := k) hlt w
      have q0 : w.cell? ⟨b, o + k * 3, none⟩ = some (.float .f32 (x (k * 3))) := hcell (k * 3) (by omega)
      have q1 : w.cell? ⟨b, o + k * 3 + 1, none⟩ = some (.float .f32 (x (k * 3 + 1))) := by rw [Nat.add_assoc]; exact hcell (k * 3 + 1) (by omega)
      have q2 : w.cell? ⟨b, o + k * 3 + 2, none⟩ = some (.float .f32 (x (k * 3 + 2))) := by rw [Nat.add_assoc]; exact hcell (k * 3 + 2) (by omega)
      have zA := txN_size (x (k * 3))
      have zH := txN_size (x (k * 3 + 1))
      have zV := txN_size (x (k * 3 + 2))
      have zS : (txL x k).size ≤ 29360128 := le_28 (txL_size x k) hk HN.out
      have zS2 : (txL x k).size ≤ 9223372036854775780 := Nat.le_trans zS (by decide)
      clear zS
      have hA := hid (fun w => sHex (x (k * 3)) (HX.out _) w)
      have hH := hid (fun w => sHex (x (k * 3 + 1)) (HX.out _) w)
      have hV := hid (fun w => sHex (x (k * 3 + 2)) (HX.out _) w)
      have hM := hid (txL_next x k)
      rw [txV_is] at hM
      generalize txL x k = S at hM zS2 ⊢
      generalize txN (x (k * 3)) = A at hM zA hA
      generalize txN (x (k * 3 + 1)) = H at hM zH hH
      generalize txN (x (k * 3 + 2)) = V at hM zV hV
      clear hcell hlt hk
      go_wp2_with fail
      refine region_act (w0 := w) (lk := []) (fun a0 a1 wq => a1 = ((((((((((((((((((((((((((((a0.put (some 11) (.string S)).put (some 12) (.slice (some ⟨b, o, none⟩) n cap)).put (some 13) (.int .i64 (k : Int))).put (some 14) (.pointer (some ⟨b, o + k * 3, none⟩))).put (some 15) (.pointer (some ⟨b, o + k * 3, none⟩))).put (some 16) (.float .f32 (x (k * 3)))).put (some 17) (.string A)).put (some 18) (.string (A ++ ⟨#[32]⟩))).put (some 19) (.slice (some ⟨b, o, none⟩) n cap)).put (some 20) (.int .i64 (k : Int))).put (some 21) (.pointer (some ⟨b, o + k * 3, none⟩))).put (some 22) (.pointer (some ⟨b, o + k * 3 + 1, none⟩))).put (some 23) (.pointer (some ⟨b, o + k * 3 + 1, none⟩))).put (some 24) (.float .f32 (x (k * 3 + 1)))).put (some 25) (.string H)).put (some 26) (.string ((A ++ ⟨#[32]⟩) ++ H))).put (some 27) (.string (((A ++ ⟨#[32]⟩) ++ H) ++ ⟨#[32]⟩))).put (some 28) (.slice (some ⟨b, o, none⟩) n cap)).put (some 29) (.int .i64 (k : Int))).put (some 30) (.pointer (some ⟨b, o + k * 3, none⟩))).put (some 31) (.pointer (some ⟨b, o + k * 3 + 1, none⟩))).put (some 32) (.pointer (some ⟨b, o + k * 3 + 2, none⟩))).put (some 33) (.float .f32 (x (k * 3 + 2)))).put (some 34) (.string V)).put (some 35) (.string ((((A ++ ⟨#[32]⟩) ++ H) ++ ⟨#[32]⟩) ++ V))).put (some 36) (.string (((((A ++ ⟨#[32]⟩) ++ H) ++ ⟨#[32]⟩) ++ V) ++ ⟨#[10]⟩))).put (some 37) (.string (S ++ (((((A ++ ⟨#[32]⟩) ++ H) ++ ⟨#[32]⟩) ++ V) ++ ⟨#[10]⟩)))).put (some 3) (.string (S ++ (((((A ++ ⟨#[32]⟩) ++ H) ++ ⟨#[32]⟩) ++ V) ++ ⟨#[10]⟩)))) ∧ Kept w [] wq) 28 #[false, false, false, false, false, false, false, false, false, false, false, false, false, false, false, false, false, false, false, false, false, false, false, false, false, false, false, false] (by kernel_rfl) rfl rfl ?_ ?_
      · have kd := h1.out.drew
        clear h1
        generalize World.drew _ = wd at kd ⊢
        refine take_val 0 _ _ (.string S) rfl (by rfl) (by kernel_rfl) (by kernel_rfl) (by kernel_rfl) (fun w => by rfl) rfl rfl kd ?_
        simp only [Act.put, List.setIfInBounds_toArray, List.set_cons_zero, List.set_cons_succ]
        refine take_val 1 _ _ (.slice (some ⟨b, o, none⟩) n cap) rfl (by rfl) (by kernel_rfl) (by kernel_rfl) (by kernel_rfl) (fun w => by rfl) rfl rfl kd ?_
        simp only [Act.put, List.setIfInBounds_toArray, List.set_cons_zero, List.set_cons_succ]
        refine take_val 2 _ _ (.int .i64 (k : Int)) rfl (by rfl) (by kernel_rfl) (by kernel_rfl) (by kernel_rfl) (fun w => by rfl) rfl rfl kd ?_
        simp only [Act.put, List.setIfInBounds_toArray, List.set_cons_zero, List.set_cons_succ]
        refine take_val 3 _ _ (.pointer (some ⟨b, o + k * 3, none⟩)) rfl (by rfl) (by kernel_rfl) (by kernel_rfl) (by kernel_rfl) (fun w => by unfold execOp; go_simp) rfl rfl kd ?_
        simp only [Act.put, List.setIfInBounds_toArray, List.set_cons_zero, List.set_cons_succ]
        refine take_val 4 _ _ (.pointer (some ⟨b, o + k * 3, none⟩)) rfl (by rfl) (by kernel_rfl) (by kernel_rfl) (by kernel_rfl) (fun w => by unfold execOp; go_simp) rfl rfl kd ?_
        simp only [Act.put, List.setIfInBounds_toArray, List.set_cons_zero, List.set_cons_succ]
        refine take_cell 5 _ _ (.float .f32 (x (k * 3))) rfl (by rfl) (by kernel_rfl) (by kernel_rfl) (by kernel_rfl) (fun wq hS => by have hcell : wq.cell? ⟨b, o + k * 3, none⟩ = some (.float .f32 (x (k * 3))) := (by have h9 := q0; rw [hS.1.cell (block_lt_of_cell h9)]; exact h9); clear hS; unfold execOp; go_simp) rfl rfl kd ?_
        simp only [Act.put, List.setIfInBounds_toArray, List.set_cons_zero, List.set_cons_succ]
        refine take_val 8 _ _ (.slice (some ⟨b, o, none⟩) n cap) rfl (by rfl) (by kernel_rfl) (by kernel_rfl) (by kernel_rfl) (fun w => by rfl) rfl rfl kd ?_
        simp only [Act.put, List.setIfInBounds_toArray, List.set_cons_zero, List.set_cons_succ]
        refine take_val 9 _ _ (.int .i64 (k : Int)) rfl (by rfl) (by kernel_rfl) (by kernel_rfl) (by kernel_rfl) (fun w => by rfl) rfl rfl kd ?_
        simp only [Act.put, List.setIfInBounds_toArray, List.set_cons_zero, List.set_cons_succ]
        refine take_val 10 _ _ (.pointer (some ⟨b, o + k * 3, none⟩)) rfl (by rfl) (by kernel_rfl) (by kernel_rfl) (by kernel_rfl) (fun w => by unfold execOp; go_simp) rfl rfl kd ?_
        simp only [Act.put, List.setIfInBounds_toArray, List.set_cons_zero, List.set_cons_succ]
        refine take_val 11 _ _ (.pointer (some ⟨b, o + k * 3 + 1, none⟩)) rfl (by rfl) (by kernel_rfl) (by kernel_rfl) (by kernel_rfl) (fun w => by unfold execOp; go_simp) rfl rfl kd ?_
        simp only [Act.put, List.setIfInBounds_toArray, List.set_cons_zero, List.set_cons_succ]
        refine take_val 12 _ _ (.pointer (some ⟨b, o + k * 3 + 1, none⟩)) rfl (by rfl) (by kernel_rfl) (by kernel_rfl) (by kernel_rfl) (fun w => by unfold execOp; go_simp) rfl rfl kd ?_
        simp only [Act.put, List.setIfInBounds_toArray, List.set_cons_zero, List.set_cons_succ]
        refine take_cell 13 _ _ (.float .f32 (x (k * 3 + 1))) rfl (by rfl) (by kernel_rfl) (by kernel_rfl) (by kernel_rfl) (fun wq hS => by have hcell : wq.cell? ⟨b, o + k * 3 + 1, none⟩ = some (.float .f32 (x (k * 3 + 1))) := (by have h9 := q1; rw [hS.1.cell (block_lt_of_cell h9)]; exact h9); clear hS; unfold execOp; go_simp) rfl rfl kd ?_
        simp only [Act.put, List.setIfInBounds_toArray, List.set_cons_zero, List.set_cons_succ]
        refine take_val 17 _ _ (.slice (some ⟨b, o, none⟩) n cap) rfl (by rfl) (by kernel_rfl) (by kernel_rfl) (by kernel_rfl) (fun w => by rfl) rfl rfl kd ?_
        simp only [Act.put, List.setIfInBounds_toArray, List.set_cons_zero, List.set_cons_succ]
        refine take_val 18 _ _ (.int .i64 (k : Int)) rfl (by rfl) (by kernel_rfl) (by kernel_rfl) (by kernel_rfl) (fun w => by rfl) rfl rfl kd ?_
        simp only [Act.put, List.setIfInBounds_toArray, List.set_cons_zero, List.set_cons_succ]
        refine take_val 19 _ _ (.pointer (some ⟨b, o + k * 3, none⟩)) rfl (by rfl) (by kernel_rfl) (by kernel_rfl) (by kernel_rfl) (fun w => by unfold execOp; go_simp) rfl rfl kd ?_
        simp only [Act.put, List.setIfInBounds_toArray, List.set_cons_zero, List.set_cons_succ]
        refine take_val 20 _ _ (.pointer (some ⟨b, o + k * 3 + 1, none⟩)) rfl (by rfl) (by kernel_rfl) (by kernel_rfl) (by kernel_rfl) (fun w => by unfold execOp; go_simp) rfl rfl kd ?_
        simp only [Act.put, List.setIfInBounds_toArray, List.set_cons_zero, List.set_cons_succ]
        refine take_val 21 _ _ (.pointer (some ⟨b, o + k * 3 + 2, none⟩)) rfl (by rfl) (by kernel_rfl) (by kernel_rfl) (by kernel_rfl) (fun w => by unfold execOp; go_simp) rfl rfl kd ?_
        simp only [Act.put, List.setIfInBounds_toArray, List.set_cons_zero, List.set_cons_succ]
        refine take_cell 22 _ _ (.float .f32 (x (k * 3 + 2))) rfl (by rfl) (by kernel_rfl) (by kernel_rfl) (by kernel_rfl) (fun wq hS => by have hcell : wq.cell? ⟨b, o + k * 3 + 2, none⟩ = some (.float .f32 (x (k * 3 + 2))) := (by have h9 := q2; rw [hS.1.cell (block_lt_of_cell h9)]; exact h9); clear hS; unfold execOp; go_simp) rfl rfl kd ?_
        simp only [Act.put, List.setIfInBounds_toArray, List.set_cons_zero, List.set_cons_succ]
        refine wpAnyH_ready (rs := [6]) (by kernel_rfl) (by simp) ?_
        refine callK 6 _ _ (.string A) kd rfl (by rfl) 40 #[.float .f32 (x (k * 3))] (fun w => by unfold execOp; go_simp) rfl rfl ?hc1 (fun w101 k101 => ?_) AllReadyH.nil
        case hc1 => exact hA.out _
        refine ⟨k101, ?_⟩
        simp only [Act.put, List.setIfInBounds_toArray, List.set_cons_zero, List.set_cons_succ]
        refine take_val 7 _ _ (.string (A ++ ⟨#[32]⟩)) rfl (by rfl) (by kernel_rfl) (by kernel_rfl) (by kernel_rfl) (fun w => by unfold execOp; go_simp) rfl rfl k101 ?_
        simp only [Act.put, List.setIfInBounds_toArray, List.set_cons_zero, List.set_cons_succ]
        refine wpAnyH_ready (rs := [14]) (by kernel_rfl) (by simp) ?_
        refine callK 14 _ _ (.string H) k101 rfl (by rfl) 40 #[.float .f32 (x (k * 3 + 1))] (fun w => by unfold execOp; go_simp) rfl rfl ?hc2 (fun w102 k102 => ?_) AllReadyH.nil
        case hc2 => exact hH.out _
        refine ⟨k102, ?_⟩
        simp only [Act.put, List.setIfInBounds_toArray, List.set_cons_zero, List.set_cons_succ]
        refine take_val 15 _ _ (.string ((A ++ ⟨#[32]⟩) ++ H)) rfl (by rfl) (by kernel_rfl) (by kernel_rfl) (by kernel_rfl) (fun w => by unfold execOp; go_simp) rfl rfl k102 ?_
        simp only [Act.put, List.setIfInBounds_toArray, List.set_cons_zero, List.set_cons_succ]
        refine take_val 16 _ _ (.string (((A ++ ⟨#[32]⟩) ++ H) ++ ⟨#[32]⟩)) rfl (by rfl) (by kernel_rfl) (by kernel_rfl) (by kernel_rfl) (fun w => by unfold execOp; go_simp) rfl rfl k102 ?_
        simp only [Act.put, List.setIfInBounds_toArray, List.set_cons_zero, List.set_cons_succ]
        refine wpAnyH_ready (rs := [23]) (by kernel_rfl) (by simp) ?_
        refine callK 23 _ _ (.string V) k102 rfl (by rfl) 40 #[.float .f32 (x (k * 3 + 2))] (fun w => by unfold execOp; go_simp) rfl rfl ?hc3 (fun w103 k103 => ?_) AllReadyH.nil
        case hc3 => exact hV.out _
        refine ⟨k103, ?_⟩
        simp only [Act.put, List.setIfInBounds_toArray, List.set_cons_zero, List.set_cons_succ]
        refine take_val 24 _ _ (.string ((((A ++ ⟨#[32]⟩) ++ H) ++ ⟨#[32]⟩) ++ V)) rfl (by rfl) (by kernel_rfl) (by kernel_rfl) (by kernel_rfl) (fun w => by unfold execOp; go_simp) rfl rfl k103 ?_
        simp only [Act.put, List.setIfInBounds_toArray, List.set_cons_zero, List.set_cons_succ]
        refine take_val 25 _ _ (.string (((((A ++ ⟨#[32]⟩) ++ H) ++ ⟨#[32]⟩) ++ V) ++ ⟨#[10]⟩)) rfl (by rfl) (by kernel_rfl) (by kernel_rfl) (by kernel_rfl) (fun w => by unfold execOp; go_simp) rfl rfl k103 ?_
        simp only [Act.put, List.setIfInBounds_toArray, List.set_cons_zero, List.set_cons_succ]
        refine take_val 26 _ _ (.string (S ++ (((((A ++ ⟨#[32]⟩) ++ H) ++ ⟨#[32]⟩) ++ V) ++ ⟨#[10]⟩))) rfl (by rfl) (by kernel_rfl) (by kernel_rfl) (by kernel_rfl) (fun w => by unfold execOp; go_simp) rfl rfl k103 ?_
        simp only [Act.put, List.setIfInBounds_toArray, List.set_cons_zero, List.set_cons_succ]
        refine take_val 27 _ _ (.string (S ++ (((((A ++ ⟨#[32]⟩) ++ H) ++ ⟨#[32]⟩) ++ V) ++ ⟨#[10]⟩))) rfl (by rfl) (by kernel_rfl) (by kernel_rfl) (by kernel_rfl) (fun w => by rfl) rfl rfl k103 ?_
        simp only [Act.put, List.setIfInBounds_toArray, List.set_cons_zero, List.set_cons_succ]
        refine wpAnyH_done (by kernel_rfl) ?_ _
        exact ⟨rfl, rfl, k103⟩
      rintro a1 wz ⟨rfl, kz⟩
      replace kz := hid kz
      simp only [Act.put, List.setIfInBounds_toArray, List.set_cons_zero, List.set_cons_succ]
      go_wp2_with fail
      go_roundw
      case rel => exact ⟨k + 1, HL.out, congrArg Value.string hM.out.symm, by go_num, kz⟩
      case measure => first | exact ms_io HL.out | (rw [hw9]; exact ms_io HL.out)
    · obtain rfl : k = n := by omega
      have hk3 : ¬ (k : Int) < (k : Int) := by omega
      go_wp2
      go_ret
      exact ⟨rfl, h1.out.1⟩

@[go_sem] theorem semAtSome (l : Nat) (ρ : Operand → Value) (o : Oper) (h : ∀ c, o.op ≠ .defer c) : Oper.semAt (some l) ρ o = execOp ρ o := Oper.semAt_some l ρ o h

def encL (x : Nat → Nat) (k : Nat) : Array Value := #[.int .i64 (k : Int), .agg #[.float .f32 (x (k * 3)), .float .f32 (x (k * 3 + 1)), .float .f32 (x (k * 3 + 2)), .float .f32 (x ((k + 1) * 3)), .float .f32 (x ((k + 1) * 3 + 1)), .float .f32 (x ((k + 1) * 3 + 2))]]

theorem iNeighbours (p : Option Addr) (n cap : Nat) (w : World) :
    Calls Tryd.prog 94 #[.slice p n cap] w fun e w' => e = .returned (.func (.func 117) #[] #[.pointer (some ⟨w.heap.size, 0, none⟩)]) ∧ w' = w.alloc (.cells #[.slice p n cap] 58) := by
  have hmf : ∀ (fn : Fn) (first cap : Array Value) (w : World), (Instr.makeFunc fn first cap).run Tryd.prog w = .ok (.func fn first cap) w := fun _ _ _ _ => rfl
  go_enter Tryd.func94, Tryd.ntmps94
  go_wp2
  go_ret
  exact ⟨rfl, rfl⟩

set_option maxRecDepth 100000 in
set_option maxHeartbeats 4000000 in
theorem neighbours1_in (m : Nat) (l Bs n0 : Nat) (p : Option Addr) (n cap : Nat) (x : Nat → Nat) (hn : n ≤ 1048576) (J Jx : List (Fin (n - 1)) → World → Prop) (hAb : ∀ pre W, J pre W → J pre W.drew)
    (hY : ∀ pre (k : Fin (n - 1)) W, J pre W → pre.length < n - 1 → YieldAt Fence.wide (m - 1) Tryd.prog l (encL x k.1) W fun e W' =>
      (e = .returned (.bool true) ∧ J (pre ++ [k]) W' ∧ Below n0 W W') ∨ (e = .returned (.bool false) ∧ Jx (pre ++ [k]) W'))
    (W : World) (hB : Bs < n0) (hBs : W.cell? ⟨Bs, 0, none⟩ = some (.slice p n cap))
    (hc : 0 < n → ∃ b o, p = some ⟨b, o, none⟩ ∧ b < n0 ∧ ∀ k, k < 3 * n → W.cell? ⟨b, o + k, none⟩ = some (.float .f32 (x k))) (h0 : J [] W) :
    CallsIn Fence.wide m Tryd.prog 117 #[.func (.yield l) #[] #[], .pointer (some ⟨Bs, 0, none⟩)] W fun e W' => (∃ v, e = .returned v) ∧
      ((∃ ys, ys = List.finRange (n - 1) ∧ J ys W') ∨ (∃ pre, pre <+: List.finRange (n - 1) ∧ Jx pre W')) := by
  refine callsIn_of_wp Tryd.func117 rfl trivial ?_ rfl
  simp only [Tryd.ntmps117, List.size_toArray, List.length_cons, List.length_nil, Nat.reduceAdd, Nat.reduceSub, Array.replicate_succ, Array.replicate_zero, List.push_toArray, List.append_toArray, List.nil_append, List.cons_append]
  have HC := hid hc
  have HY := hid hY
  have HBS := hid hBs
  clear hc hY hBs
  gi_wp2
  gi_loopw [3] (fun i wr => ∃ k : Nat, k ≤ n - 1 ∧ i = .int .i64 ((k : Int) + 1) ∧ J ((List.finRange (n - 1)).take k) wr ∧ Hid (Below n0 W wr))
    (fun i _ => n - (intOf i).toNat)
  case atStart => exact ⟨0, Nat.zero_le _, rfl, h0, hid (Below.refl _ _)⟩
  case round =>
    obtain ⟨k, hk, rfl, hJs, hnx⟩ := hrel
    have hbx := hid ((hnx.out.cell (p := ⟨Bs, 0, none⟩) hB).trans HBS.out)
    have hbx' := hbx.out
    by_cases hlt : k + 1 < n
    · have HL := hid hlt
      have HN : Hid (k ≤ 1048576) := hid (by omega)
      obtain ⟨b, o, rfl, hb, hcell⟩ := HC.out (by omega)
      have hcw : ∀ j, j < 3 * n → wr.cell? ⟨b, o + j, none⟩ = some (.float .f32 (x j)) := fun j hj => (hnx.out.cell (p := ⟨b, o + j, none⟩) hb).trans (hcell j hj)
      have R0 := hid (row3 hcw (i := k) (by omega))
      have R1 := hid (row3 hcw (i := k + 1) hlt)
      obtain ⟨fn, tmps, assign, body, hy, hR⟩ := HY.out _ ⟨k, by omega⟩ wr.drew (hAb _ wr hJs) (by simp; omega)
      have hy := hid (show (Instr.yield l #[.int .i64 (k : Int), .agg #[.float .f32 (x (k * 3)), .float .f32 (x (k * 3 + 1)), .float .f32 (x (k * 3 + 2)), .float .f32 (x ((k + 1) * 3)), .float .f32 (x ((k + 1) * 3 + 1)), .float .f32 (x ((k + 1) * 3 + 2))]]).run Tryd.prog wr.drew = _ from hy)
      have hR := hid hR
      clear hcell hcw
      have hk3 : (k : Int) + 1 < (n : Int) := by omega
      gi_wp2
      clear hbx'
      refine regionIn_any 15 #[false, false, false, false, false, false, false, false, false, false, false, false, false, false, false] (by kernel_rfl) rfl rfl ?_
      refine takeIn 0 _ _ (.func (.yield l) #[] #[]) rfl rfl (by rfl) (by kernel_rfl) (by kernel_rfl) (by kernel_rfl) (fun w => by rfl) (fun _ => rfl) rfl rfl ?_
      simp only [Act.put, List.setIfInBounds_toArray, List.set_cons_zero, List.set_cons_succ]
      refine takeIn 1 _ _ (.int .i64 ((k : Int) + 1)) rfl rfl (by rfl) (by kernel_rfl) (by kernel_rfl) (by kernel_rfl) (fun w => by rfl) (fun _ => rfl) rfl rfl ?_
      simp only [Act.put, List.setIfInBounds_toArray, List.set_cons_zero, List.set_cons_succ]
      refine takeIn 2 _ _ (.int .i64 (k : Int)) rfl rfl (by rfl) (by kernel_rfl) (by kernel_rfl) (by kernel_rfl) (fun w => run_binop_val _ _ _ _ (by rfl) (by rfl) (by simp [eqGuard]) (run_pred HN.out w)) (fun _ => rfl) rfl rfl ?_
      simp only [Act.put, List.setIfInBounds_toArray, List.set_cons_zero, List.set_cons_succ]
      refine takeIn 4 _ _ (.int .i64 ((k : Int) + 1)) rfl rfl (by rfl) (by kernel_rfl) (by kernel_rfl) (by kernel_rfl) (fun w => by rfl) (fun _ => rfl) rfl rfl ?_
      simp only [Act.put, List.setIfInBounds_toArray, List.set_cons_zero, List.set_cons_succ]
      refine takeIn 5 _ _ (.int .i64 (k : Int)) rfl rfl (by rfl) (by kernel_rfl) (by kernel_rfl) (by kernel_rfl) (fun w => run_binop_val _ _ _ _ (by rfl) (by rfl) (by simp [eqGuard]) (run_pred HN.out w)) (fun _ => rfl) rfl rfl ?_
      simp only [Act.put, List.setIfInBounds_toArray, List.set_cons_zero, List.set_cons_succ]
      refine takeIn 9 _ _ (.int .i64 ((k : Int) + 1)) rfl rfl (by rfl) (by kernel_rfl) (by kernel_rfl) (by kernel_rfl) (fun w => by rfl) (fun _ => rfl) rfl rfl ?_
      simp only [Act.put, List.setIfInBounds_toArray, List.set_cons_zero, List.set_cons_succ]
      refine wpAnyIn_ready (rs := [3, 8]) (by kernel_rfl) (by simp) ?_
      refine readIn 3 _ _ (.slice (some ⟨b, o, none⟩) n cap) rfl rfl (by rfl) (run_load_cell _ _ ⟨Bs, 0, none⟩ _ rfl (run_loadVar_one Tryd.underlying58 rfl hbx.out)) rfl rfl rfl ?_ ?_
      · simp only [Act.put, List.setIfInBounds_toArray, List.set_cons_zero, List.set_cons_succ]
        refine takeIn 6 _ _ (.pointer (some ⟨b, o + k * 3, none⟩)) rfl rfl (by rfl) (by kernel_rfl) (by kernel_rfl) (by kernel_rfl) (fun w => run_index_op _ _ rfl rfl (run_indexAt Tryd.underlying58 info_lev (by have := HL.out; omega) w)) (fun _ => rfl) rfl rfl ?_
        simp only [Act.put, List.setIfInBounds_toArray, List.set_cons_zero, List.set_cons_succ]
        refine wpAnyIn_ready (rs := [7, 8]) (by kernel_rfl) (by simp) ?_
        refine readIn 7 _ _ (.agg #[.float .f32 (x (k * 3)), .float .f32 (x (k * 3 + 1)), .float .f32 (x (k * 3 + 2))]) rfl rfl (by rfl) (run_load_mid 108 _ b (o + k * 3) [.float .f32 (x (k * 3)), .float .f32 (x (k * 3 + 1)), .float .f32 (x (k * 3 + 2))] rfl (R0.out) _ Tryd.underlying108 rfl info_lev) rfl rfl rfl ?_ ?_
        · simp only [Act.put, List.setIfInBounds_toArray, List.set_cons_zero, List.set_cons_succ]
          refine wpAnyIn_ready (rs := [8]) (by kernel_rfl) (by simp) ?_
          refine readIn 8 _ _ (.slice (some ⟨b, o, none⟩) n cap) rfl rfl (by rfl) (run_load_cell _ _ ⟨Bs, 0, none⟩ _ rfl (run_loadVar_one Tryd.underlying58 rfl hbx.out)) rfl rfl rfl ?_ AllReadyIn.nil
          simp only [Act.put, List.setIfInBounds_toArray, List.set_cons_zero, List.set_cons_succ]
          refine takeIn 10 _ _ (.pointer (some ⟨b, o + (k + 1) * 3, none⟩)) rfl rfl (by rfl) (by kernel_rfl) (by kernel_rfl) (by kernel_rfl) (fun w => run_index_op _ _ rfl rfl (run_indexAt Tryd.underlying58 info_lev (by have := HL.out; omega) w)) (fun _ => rfl) rfl rfl ?_
          simp only [Act.put, List.setIfInBounds_toArray, List.set_cons_zero, List.set_cons_succ]
          refine wpAnyIn_ready (rs := [11]) (by kernel_rfl) (by simp) ?_
          refine readIn 11 _ _ (.agg #[.float .f32 (x ((k + 1) * 3)), .float .f32 (x ((k + 1) * 3 + 1)), .float .f32 (x ((k + 1) * 3 + 2))]) rfl rfl (by rfl) (run_load_mid 108 _ b (o + (k + 1) * 3) [.float .f32 (x ((k + 1) * 3)), .float .f32 (x ((k + 1) * 3 + 1)), .float .f32 (x ((k + 1) * 3 + 2))] rfl (R1.out) _ Tryd.underlying108 rfl info_lev) rfl rfl rfl ?_ AllReadyIn.nil
          simp only [Act.put, List.setIfInBounds_toArray, List.set_cons_zero, List.set_cons_succ]
          refine takeIn 12 _ _ (.agg #[.float .f32 (x (k * 3)), .float .f32 (x (k * 3 + 1)), .float .f32 (x (k * 3 + 2)), .float .f32 (x ((k + 1) * 3)), .float .f32 (x ((k + 1) * 3 + 1)), .float .f32 (x ((k + 1) * 3 + 2))]) rfl rfl (by rfl) (by kernel_rfl) (by kernel_rfl) (by kernel_rfl) (fun w => by unfold execOp; go_simp) (fun _ => rfl) rfl rfl ?_
          simp only [Act.put, List.setIfInBounds_toArray, List.set_cons_zero, List.set_cons_succ]
          refine wpAnyIn_ready (rs := [13]) (by kernel_rfl) (by simp) ?_
          refine yieldIn (F := Fence.wide) (l := l) (fn := fn) (tmps := tmps) (assign := assign) (body := body) 13 rfl rfl (by rfl) (by have hy2 := hy.out; unfold execOp; go_simp) (fun _ _ => True.intro) (fun h => by cases h) hR.out (fun e W3 hr => ?_) AllReadyIn.nil
          rcases hr with ⟨rfl, hJ3, hk3⟩ | ⟨rfl, hJx3⟩
          · refine ⟨.bool true, rfl, ?_⟩
            simp only [Act.put, List.setIfInBounds_toArray, List.set_cons_zero, List.set_cons_succ]
            refine takeIn 14 _ _ (.bool false) rfl rfl (by rfl) (by kernel_rfl) (by kernel_rfl) (by kernel_rfl) (fun w => by unfold execOp; go_simp) (fun _ => rfl) rfl rfl ?_
            simp only [Act.put, List.setIfInBounds_toArray, List.set_cons_zero, List.set_cons_succ]
            refine wpAnyIn_done (by kernel_rfl) (NoPanic.normal ?_) _
            gi_wp2
            go_roundw
            case rel => exact ⟨k + 1, by omega, by go_num, by rw [take_fin (m := n - 1) (k := k) (by omega)]; exact hJ3, hid (hnx.out.drew.trans hk3)⟩
            case measure => simp [intOf]; omega
          · refine ⟨.bool false, rfl, ?_⟩
            simp only [Act.put, List.setIfInBounds_toArray, List.set_cons_zero, List.set_cons_succ]
            refine takeIn 14 _ _ (.bool true) rfl rfl (by rfl) (by kernel_rfl) (by kernel_rfl) (by kernel_rfl) (fun w => by unfold execOp; go_simp) (fun _ => rfl) rfl rfl ?_
            simp only [Act.put, List.setIfInBounds_toArray, List.set_cons_zero, List.set_cons_succ]
            refine wpAnyIn_done (by kernel_rfl) (NoPanic.normal ?_) _
            gi_wp2
            refine bodyPost_ret (results_none rfl _ _ _) rfl ?_
            exact ⟨⟨_, rfl⟩, .inr ⟨_, by rw [← take_fin (m := n - 1) (k := k) (by omega)]; exact List.take_prefix _ _, hJx3⟩⟩
        refine readIn 8 _ _ (.slice (some ⟨b, o, none⟩) n cap) rfl rfl (by rfl) (run_load_cell _ _ ⟨Bs, 0, none⟩ _ rfl (run_loadVar_one Tryd.underlying58 rfl hbx.out)) rfl rfl rfl ?_ AllReadyIn.nil
        simp only [Act.put, List.setIfInBounds_toArray, List.set_cons_zero, List.set_cons_succ]
        refine takeIn 10 _ _ (.pointer (some ⟨b, o + (k + 1) * 3, none⟩)) rfl rfl (by rfl) (by kernel_rfl) (by kernel_rfl) (by kernel_rfl) (fun w => run_index_op _ _ rfl rfl (run_indexAt Tryd.underlying58 info_lev (by have := HL.out; omega) w)) (fun _ => rfl) rfl rfl ?_
        simp only [Act.put, List.setIfInBounds_toArray, List.set_cons_zero, List.set_cons_succ]
        refine wpAnyIn_ready (rs := [7, 11]) (by kernel_rfl) (by simp) ?_
        refine readIn 7 _ _ (.agg #[.float .f32 (x (k * 3)), .float .f32 (x (k * 3 + 1)), .float .f32 (x (k * 3 + 2))]) rfl rfl (by rfl) (run_load_mid 108 _ b (o + k * 3) [.float .f32 (x (k * 3)), .float .f32 (x (k * 3 + 1)), .float .f32 (x (k * 3 + 2))] rfl (R0.out) _ Tryd.underlying108 rfl info_lev) rfl rfl rfl ?_ ?_
        · simp only [Act.put, List.setIfInBounds_toArray, List.set_cons_zero, List.set_cons_succ]
          refine wpAnyIn_ready (rs := [11]) (by kernel_rfl) (by simp) ?_
          refine readIn 11 _ _ (.agg #[.float .f32 (x ((k + 1) * 3)), .float .f32 (x ((k + 1) * 3 + 1)), .float .f32 (x ((k + 1) * 3 + 2))]) rfl rfl (by rfl) (run_load_mid 108 _ b (o + (k + 1) * 3) [.float .f32 (x ((k + 1) * 3)), .float .f32 (x ((k + 1) * 3 + 1)), .float .f32 (x ((k + 1) * 3 + 2))] rfl (R1.out) _ Tryd.underlying108 rfl info_lev) rfl rfl rfl ?_ AllReadyIn.nil
          simp only [Act.put, List.setIfInBounds_toArray, List.set_cons_zero, List.set_cons_succ]
          refine takeIn 12 _ _ (.agg #[.float .f32 (x (k * 3)), .float .f32 (x (k * 3 + 1)), .float .f32 (x (k * 3 + 2)), .float .f32 (x ((k + 1) * 3)), .float .f32 (x ((k + 1) * 3 + 1)), .float .f32 (x ((k + 1) * 3 + 2))]) rfl rfl (by rfl) (by kernel_rfl) (by kernel_rfl) (by kernel_rfl) (fun w => by unfold execOp; go_simp) (fun _ => rfl) rfl rfl ?_
          simp only [Act.put, List.setIfInBounds_toArray, List.set_cons_zero, List.set_cons_succ]
          refine wpAnyIn_ready (rs := [13]) (by kernel_rfl) (by simp) ?_
          refine yieldIn (F := Fence.wide) (l := l) (fn := fn) (tmps := tmps) (assign := assign) (body := body) 13 rfl rfl (by rfl) (by have hy2 := hy.out; unfold execOp; go_simp) (fun _ _ => True.intro) (fun h => by cases h) hR.out (fun e W3 hr => ?_) AllReadyIn.nil
          rcases hr with ⟨rfl, hJ3, hk3⟩ | ⟨rfl, hJx3⟩
          · refine ⟨.bool true, rfl, ?_⟩
            simp only [Act.put, List.setIfInBounds_toArray, List.set_cons_zero, List.set_cons_succ]
            refine takeIn 14 _ _ (.bool false) rfl rfl (by rfl) (by kernel_rfl) (by kernel_rfl) (by kernel_rfl) (fun w => by unfold execOp; go_simp) (fun _ => rfl) rfl rfl ?_
            simp only [Act.put, List.setIfInBounds_toArray, List.set_cons_zero, List.set_cons_succ]
            refine wpAnyIn_done (by kernel_rfl) (NoPanic.normal ?_) _
            gi_wp2
            go_roundw
            case rel => exact ⟨k + 1, by omega, by go_num, by rw [take_fin (m := n - 1) (k := k) (by omega)]; exact hJ3, hid (hnx.out.drew.trans hk3)⟩
            case measure => simp [intOf]; omega
          · refine ⟨.bool false, rfl, ?_⟩
            simp only [Act.put, List.setIfInBounds_toArray, List.set_cons_zero, List.set_cons_succ]
            refine takeIn 14 _ _ (.bool true) rfl rfl (by rfl) (by kernel_rfl) (by kernel_rfl) (by kernel_rfl) (fun w => by unfold execOp; go_simp) (fun _ => rfl) rfl rfl ?_
            simp only [Act.put, List.setIfInBounds_toArray, List.set_cons_zero, List.set_cons_succ]
            refine wpAnyIn_done (by kernel_rfl) (NoPanic.normal ?_) _
            gi_wp2
            refine bodyPost_ret (results_none rfl _ _ _) rfl ?_
            exact ⟨⟨_, rfl⟩, .inr ⟨_, by rw [← take_fin (m := n - 1) (k := k) (by omega)]; exact List.take_prefix _ _, hJx3⟩⟩
        refine readIn 11 _ _ (.agg #[.float .f32 (x ((k + 1) * 3)), .float .f32 (x ((k + 1) * 3 + 1)), .float .f32 (x ((k + 1) * 3 + 2))]) rfl rfl (by rfl) (run_load_mid 108 _ b (o + (k + 1) * 3) [.float .f32 (x ((k + 1) * 3)), .float .f32 (x ((k + 1) * 3 + 1)), .float .f32 (x ((k + 1) * 3 + 2))] rfl (R1.out) _ Tryd.underlying108 rfl info_lev) rfl rfl rfl ?_ AllReadyIn.nil
        simp only [Act.put, List.setIfInBounds_toArray, List.set_cons_zero, List.set_cons_succ]
        refine wpAnyIn_ready (rs := [7]) (by kernel_rfl) (by simp) ?_
        refine readIn 7 _ _ (.agg #[.float .f32 (x (k * 3)), .float .f32 (x (k * 3 + 1)), .float .f32 (x (k * 3 + 2))]) rfl rfl (by rfl) (run_load_mid 108 _ b (o + k * 3) [.float .f32 (x (k * 3)), .float .f32 (x (k * 3 + 1)), .float .f32 (x (k * 3 + 2))] rfl (R0.out) _ Tryd.underlying108 rfl info_lev) rfl rfl rfl ?_ AllReadyIn.nil
        simp only [Act.put, List.setIfInBounds_toArray, List.set_cons_zero, List.set_cons_succ]
        refine takeIn 12 _ _ (.agg #[.float .f32 (x (k * 3)), .float .f32 (x (k * 3 + 1)), .float .f32 (x (k * 3 + 2)), .float .f32 (x ((k + 1) * 3)), .float .f32 (x ((k + 1) * 3 + 1)), .float .f32 (x ((k + 1) * 3 + 2))]) rfl rfl (by rfl) (by kernel_rfl) (by kernel_rfl) (by kernel_rfl) (fun w => by unfold execOp; go_simp) (fun _ => rfl) rfl rfl ?_
        simp only [Act.put, List.setIfInBounds_toArray, List.set_cons_zero, List.set_cons_succ]
        refine wpAnyIn_ready (rs := [13]) (by kernel_rfl) (by simp) ?_
        refine yieldIn (F := Fence.wide) (l := l) (fn := fn) (tmps := tmps) (assign := assign) (body := body) 13 rfl rfl (by rfl) (by have hy2 := hy.out; unfold execOp; go_simp) (fun _ _ => True.intro) (fun h => by cases h) hR.out (fun e W3 hr => ?_) AllReadyIn.nil
        rcases hr with ⟨rfl, hJ3, hk3⟩ | ⟨rfl, hJx3⟩
        · refine ⟨.bool true, rfl, ?_⟩
          simp only [Act.put, List.setIfInBounds_toArray, List.set_cons_zero, List.set_cons_succ]
          refine takeIn 14 _ _ (.bool false) rfl rfl (by rfl) (by kernel_rfl) (by kernel_rfl) (by kernel_rfl) (fun w => by unfold execOp; go_simp) (fun _ => rfl) rfl rfl ?_
          simp only [Act.put, List.setIfInBounds_toArray, List.set_cons_zero, List.set_cons_succ]
          refine wpAnyIn_done (by kernel_rfl) (NoPanic.normal ?_) _
          gi_wp2
          go_roundw
          case rel => exact ⟨k + 1, by omega, by go_num, by rw [take_fin (m := n - 1) (k := k) (by omega)]; exact hJ3, hid (hnx.out.drew.trans hk3)⟩
          case measure => simp [intOf]; omega
        · refine ⟨.bool false, rfl, ?_⟩
          simp only [Act.put, List.setIfInBounds_toArray, List.set_cons_zero, List.set_cons_succ]
          refine takeIn 14 _ _ (.bool true) rfl rfl (by rfl) (by kernel_rfl) (by kernel_rfl) (by kernel_rfl) (fun w => by unfold execOp; go_simp) (fun _ => rfl) rfl rfl ?_
          simp only [Act.put, List.setIfInBounds_toArray, List.set_cons_zero, List.set_cons_succ]
          refine wpAnyIn_done (by kernel_rfl) (NoPanic.normal ?_) _
          gi_wp2
          refine bodyPost_ret (results_none rfl _ _ _) rfl ?_
          exact ⟨⟨_, rfl⟩, .inr ⟨_, by rw [← take_fin (m := n - 1) (k := k) (by omega)]; exact List.take_prefix _ _, hJx3⟩⟩
      refine readIn 8 _ _ (.slice (some ⟨b, o, none⟩) n cap) rfl rfl (by rfl) (run_load_cell _ _ ⟨Bs, 0, none⟩ _ rfl (run_loadVar_one Tryd.underlying58 rfl hbx.out)) rfl rfl rfl ?_ AllReadyIn.nil
      simp only [Act.put, List.setIfInBounds_toArray, List.set_cons_zero, List.set_cons_succ]
      refine takeIn 10 _ _ (.pointer (some ⟨b, o + (k + 1) * 3, none⟩)) rfl rfl (by rfl) (by kernel_rfl) (by kernel_rfl) (by kernel_rfl) (fun w => run_index_op _ _ rfl rfl (run_indexAt Tryd.underlying58 info_lev (by have := HL.out; omega) w)) (fun _ => rfl) rfl rfl ?_
      simp only [Act.put, List.setIfInBounds_toArray, List.set_cons_zero, List.set_cons_succ]
      refine wpAnyIn_ready (rs := [3, 11]) (by kernel_rfl) (by simp) ?_
      refine readIn 3 _ _ (.slice (some ⟨b, o, none⟩) n cap) rfl rfl (by rfl) (run_load_cell _ _ ⟨Bs, 0, none⟩ _ rfl (run_loadVar_one Tryd.underlying58 rfl hbx.out)) rfl rfl rfl ?_ ?_
      · simp only [Act.put, List.setIfInBounds_toArray, List.set_cons_zero, List.set_cons_succ]
        refine takeIn 6 _ _ (.pointer (some ⟨b, o + k * 3, none⟩)) rfl rfl (by rfl) (by kernel_rfl) (by kernel_rfl) (by kernel_rfl) (fun w => run_index_op _ _ rfl rfl (run_indexAt Tryd.underlying58 info_lev (by have := HL.out; omega) w)) (fun _ => rfl) rfl rfl ?_
        simp only [Act.put, List.setIfInBounds_toArray, List.set_cons_zero, List.set_cons_succ]
        refine wpAnyIn_ready (rs := [7, 11]) (by kernel_rfl) (by simp) ?_
        refine readIn 7 _ _ (.agg #[.float .f32 (x (k * 3)), .float .f32 (x (k * 3 + 1)), .float .f32 (x (k * 3 + 2))]) rfl rfl (by rfl) (run_load_mid 108 _ b (o + k * 3) [.float .f32 (x (k * 3)), .float .f32 (x (k * 3 + 1)), .float .f32 (x (k * 3 + 2))] rfl (R0.out) _ Tryd.underlying108 rfl info_lev) rfl rfl rfl ?_ ?_
        · simp only [Act.put, List.setIfInBounds_toArray, List.set_cons_zero, List.set_cons_succ]
          refine wpAnyIn_ready (rs := [11]) (by kernel_rfl) (by simp) ?_
          refine readIn 11 _ _ (.agg #[.float .f32 (x ((k + 1) * 3)), .float .f32 (x ((k + 1) * 3 + 1)), .float .f32 (x ((k + 1) * 3 + 2))]) rfl rfl (by rfl) (run_load_mid 108 _ b (o + (k + 1) * 3) [.float .f32 (x ((k + 1) * 3)), .float .f32 (x ((k + 1) * 3 + 1)), .float .f32 (x ((k + 1) * 3 + 2))] rfl (R1.out) _ Tryd.underlying108 rfl info_lev) rfl rfl rfl ?_ AllReadyIn.nil
          simp only [Act.put, List.setIfInBounds_toArray, List.set_cons_zero, List.set_cons_succ]
          refine takeIn 12 _ _ (.agg #[.float .f32 (x (k * 3)), .float .f32 (x (k * 3 + 1)), .float .f32 (x (k * 3 + 2)), .float .f32 (x ((k + 1) * 3)), .float .f32 (x ((k + 1) * 3 + 1)), .float .f32 (x ((k + 1) * 3 + 2))]) rfl rfl (by rfl) (by kernel_rfl) (by kernel_rfl) (by kernel_rfl) (fun w => by unfold execOp; go_simp) (fun _ => rfl) rfl rfl ?_
          simp only [Act.put, List.setIfInBounds_toArray, List.set_cons_zero, List.set_cons_succ]
          refine wpAnyIn_ready (rs := [13]) (by kernel_rfl) (by simp) ?_
          refine yieldIn (F := Fence.wide) (l := l) (fn := fn) (tmps := tmps) (assign := assign) (body := body) 13 rfl rfl (by rfl) (by have hy2 := hy.out; unfold execOp; go_simp) (fun _ _ => True.intro) (fun h => by cases h) hR.out (fun e W3 hr => ?_) AllReadyIn.nil
          rcases hr with ⟨rfl, hJ3, hk3⟩ | ⟨rfl, hJx3⟩
          · refine ⟨.bool true, rfl, ?_⟩
            simp only [Act.put, List.setIfInBounds_toArray, List.set_cons_zero, List.set_cons_succ]
            refine takeIn 14 _ _ (.bool false) rfl rfl (by rfl) (by kernel_rfl) (by kernel_rfl) (by kernel_rfl) (fun w => by unfold execOp; go_simp) (fun _ => rfl) rfl rfl ?_
            simp only [Act.put, List.setIfInBounds_toArray, List.set_cons_zero, List.set_cons_succ]
            refine wpAnyIn_done (by kernel_rfl) (NoPanic.normal ?_) _
            gi_wp2
            go_roundw
            case rel => exact ⟨k + 1, by omega, by go_num, by rw [take_fin (m := n - 1) (k := k) (by omega)]; exact hJ3, hid (hnx.out.drew.trans hk3)⟩
            case measure => simp [intOf]; omega
          · refine ⟨.bool false, rfl, ?_⟩
            simp only [Act.put, List.setIfInBounds_toArray, List.set_cons_zero, List.set_cons_succ]
            refine takeIn 14 _ _ (.bool true) rfl rfl (by rfl) (by kernel_rfl) (by kernel_rfl) (by kernel_rfl) (fun w => by unfold execOp; go_simp) (fun _ => rfl) rfl rfl ?_
            simp only [Act.put, List.setIfInBounds_toArray, List.set_cons_zero, List.set_cons_succ]
            refine wpAnyIn_done (by kernel_rfl) (NoPanic.normal ?_) _
            gi_wp2
            refine bodyPost_ret (results_none rfl _ _ _) rfl ?_
            exact ⟨⟨_, rfl⟩, .inr ⟨_, by rw [← take_fin (m := n - 1) (k := k) (by omega)]; exact List.take_prefix _ _, hJx3⟩⟩
        refine readIn 11 _ _ (.agg #[.float .f32 (x ((k + 1) * 3)), .float .f32 (x ((k + 1) * 3 + 1)), .float .f32 (x ((k + 1) * 3 + 2))]) rfl rfl (by rfl) (run_load_mid 108 _ b (o + (k + 1) * 3) [.float .f32 (x ((k + 1) * 3)), .float .f32 (x ((k + 1) * 3 + 1)), .float .f32 (x ((k + 1) * 3 + 2))] rfl (R1.out) _ Tryd.underlying108 rfl info_lev) rfl rfl rfl ?_ AllReadyIn.nil
        simp only [Act.put, List.setIfInBounds_toArray, List.set_cons_zero, List.set_cons_succ]
        refine wpAnyIn_ready (rs := [7]) (by kernel_rfl) (by simp) ?_
        refine readIn 7 _ _ (.agg #[.float .f32 (x (k * 3)), .float .f32 (x (k * 3 + 1)), .float .f32 (x (k * 3 + 2))]) rfl rfl (by rfl) (run_load_mid 108 _ b (o + k * 3) [.float .f32 (x (k * 3)), .float .f32 (x (k * 3 + 1)), .float .f32 (x (k * 3 + 2))] rfl (R0.out) _ Tryd.underlying108 rfl info_lev) rfl rfl rfl ?_ AllReadyIn.nil
        simp only [Act.put, List.setIfInBounds_toArray, List.set_cons_zero, List.set_cons_succ]
        refine takeIn 12 _ _ (.agg #[.float .f32 (x (k * 3)), .float .f32 (x (k * 3 + 1)), .float .f32 (x (k * 3 + 2)), .float .f32 (x ((k + 1) * 3)), .float .f32 (x ((k + 1) * 3 + 1)), .float .f32 (x ((k + 1) * 3 + 2))]) rfl rfl (by rfl) (by kernel_rfl) (by kernel_rfl) (by kernel_rfl) (fun w => by unfold execOp; go_simp) (fun _ => rfl) rfl rfl ?_
        simp only [Act.put, List.setIfInBounds_toArray, List.set_cons_zero, List.set_cons_succ]
        refine wpAnyIn_ready (rs := [13]) (by kernel_rfl) (by simp) ?_
        refine yieldIn (F := Fence.wide) (l := l) (fn := fn) (tmps := tmps) (assign := assign) (body := body) 13 rfl rfl (by rfl) (by have hy2 := hy.out; unfold execOp; go_simp) (fun _ _ => True.intro) (fun h => by cases h) hR.out (fun e W3 hr => ?_) AllReadyIn.nil
        rcases hr with ⟨rfl, hJ3, hk3⟩ | ⟨rfl, hJx3⟩
        · refine ⟨.bool true, rfl, ?_⟩
          simp only [Act.put, List.setIfInBounds_toArray, List.set_cons_zero, List.set_cons_succ]
          refine takeIn 14 _ _ (.bool false) rfl rfl (by rfl) (by kernel_rfl) (by kernel_rfl) (by kernel_rfl) (fun w => by unfold execOp; go_simp) (fun _ => rfl) rfl rfl ?_
          simp only [Act.put, List.setIfInBounds_toArray, List.set_cons_zero, List.set_cons_succ]
          refine wpAnyIn_done (by kernel_rfl) (NoPanic.normal ?_) _
          gi_wp2
          go_roundw
          case rel => exact ⟨k + 1, by omega, by go_num, by rw [take_fin (m := n - 1) (k := k) (by omega)]; exact hJ3, hid (hnx.out.drew.trans hk3)⟩
          case measure => simp [intOf]; omega
        · refine ⟨.bool false, rfl, ?_⟩
          simp only [Act.put, List.setIfInBounds_toArray, List.set_cons_zero, List.set_cons_succ]
          refine takeIn 14 _ _ (.bool true) rfl rfl (by rfl) (by kernel_rfl) (by kernel_rfl) (by kernel_rfl) (fun w => by unfold execOp; go_simp) (fun _ => rfl) rfl rfl ?_
          simp only [Act.put, List.setIfInBounds_toArray, List.set_cons_zero, List.set_cons_succ]
          refine wpAnyIn_done (by kernel_rfl) (NoPanic.normal ?_) _
          gi_wp2
          refine bodyPost_ret (results_none rfl _ _ _) rfl ?_
          exact ⟨⟨_, rfl⟩, .inr ⟨_, by rw [← take_fin (m := n - 1) (k := k) (by omega)]; exact List.take_prefix _ _, hJx3⟩⟩
      refine readIn 11 _ _ (.agg #[.float .f32 (x ((k + 1) * 3)), .float .f32 (x ((k + 1) * 3 + 1)), .float .f32 (x ((k + 1) * 3 + 2))]) rfl rfl (by rfl) (run_load_mid 108 _ b (o + (k + 1) * 3) [.float .f32 (x ((k + 1) * 3)), .float .f32 (x ((k + 1) * 3 + 1)), .float .f32 (x ((k + 1) * 3 + 2))] rfl (R1.out) _ Tryd.underlying108 rfl info_lev) rfl rfl rfl ?_ AllReadyIn.nil
      simp only [Act.put, List.setIfInBounds_toArray, List.set_cons_zero, List.set_cons_succ]
      refine wpAnyIn_ready (rs := [3]) (by kernel_rfl) (by simp) ?_
      refine readIn 3 _ _ (.slice (some ⟨b, o, none⟩) n cap) rfl rfl (by rfl) (run_load_cell _ _ ⟨Bs, 0, none⟩ _ rfl (run_loadVar_one Tryd.underlying58 rfl hbx.out)) rfl rfl rfl ?_ AllReadyIn.nil
      simp only [Act.put, List.setIfInBounds_toArray, List.set_cons_zero, List.set_cons_succ]
      refine takeIn 6 _ _ (.pointer (some ⟨b, o + k * 3, none⟩)) rfl rfl (by rfl) (by kernel_rfl) (by kernel_rfl) (by kernel_rfl) (fun w => run_index_op _ _ rfl rfl (run_indexAt Tryd.underlying58 info_lev (by have := HL.out; omega) w)) (fun _ => rfl) rfl rfl ?_
      simp only [Act.put, List.setIfInBounds_toArray, List.set_cons_zero, List.set_cons_succ]
      refine wpAnyIn_ready (rs := [7]) (by kernel_rfl) (by simp) ?_
      refine readIn 7 _ _ (.agg #[.float .f32 (x (k * 3)), .float .f32 (x (k * 3 + 1)), .float .f32 (x (k * 3 + 2))]) rfl rfl (by rfl) (run_load_mid 108 _ b (o + k * 3) [.float .f32 (x (k * 3)), .float .f32 (x (k * 3 + 1)), .float .f32 (x (k * 3 + 2))] rfl (R0.out) _ Tryd.underlying108 rfl info_lev) rfl rfl rfl ?_ AllReadyIn.nil
      simp only [Act.put, List.setIfInBounds_toArray, List.set_cons_zero, List.set_cons_succ]
      refine takeIn 12 _ _ (.agg #[.float .f32 (x (k * 3)), .float .f32 (x (k * 3 + 1)), .float .f32 (x (k * 3 + 2)), .float .f32 (x ((k + 1) * 3)), .float .f32 (x ((k + 1) * 3 + 1)), .float .f32 (x ((k + 1) * 3 + 2))]) rfl rfl (by rfl) (by kernel_rfl) (by kernel_rfl) (by kernel_rfl) (fun w => by unfold execOp; go_simp) (fun _ => rfl) rfl rfl ?_
      simp only [Act.put, List.setIfInBounds_toArray, List.set_cons_zero, List.set_cons_succ]
      refine wpAnyIn_ready (rs := [13]) (by kernel_rfl) (by simp) ?_
      refine yieldIn (F := Fence.wide) (l := l) (fn := fn) (tmps := tmps) (assign := assign) (body := body) 13 rfl rfl (by rfl) (by have hy2 := hy.out; unfold execOp; go_simp) (fun _ _ => True.intro) (fun h => by cases h) hR.out (fun e W3 hr => ?_) AllReadyIn.nil
      rcases hr with ⟨rfl, hJ3, hk3⟩ | ⟨rfl, hJx3⟩
      · refine ⟨.bool true, rfl, ?_⟩
        simp only [Act.put, List.setIfInBounds_toArray, List.set_cons_zero, List.set_cons_succ]
        refine takeIn 14 _ _ (.bool false) rfl rfl (by rfl) (by kernel_rfl) (by kernel_rfl) (by kernel_rfl) (fun w => by unfold execOp; go_simp) (fun _ => rfl) rfl rfl ?_
        simp only [Act.put, List.setIfInBounds_toArray, List.set_cons_zero, List.set_cons_succ]
        refine wpAnyIn_done (by kernel_rfl) (NoPanic.normal ?_) _
        gi_wp2
        go_roundw
        case rel => exact ⟨k + 1, by omega, by go_num, by rw [take_fin (m := n - 1) (k := k) (by omega)]; exact hJ3, hid (hnx.out.drew.trans hk3)⟩
        case measure => simp [intOf]; omega
      · refine ⟨.bool false, rfl, ?_⟩
        simp only [Act.put, List.setIfInBounds_toArray, List.set_cons_zero, List.set_cons_succ]
        refine takeIn 14 _ _ (.bool true) rfl rfl (by rfl) (by kernel_rfl) (by kernel_rfl) (by kernel_rfl) (fun w => by unfold execOp; go_simp) (fun _ => rfl) rfl rfl ?_
        simp only [Act.put, List.setIfInBounds_toArray, List.set_cons_zero, List.set_cons_succ]
        refine wpAnyIn_done (by kernel_rfl) (NoPanic.normal ?_) _
        gi_wp2
        refine bodyPost_ret (results_none rfl _ _ _) rfl ?_
        exact ⟨⟨_, rfl⟩, .inr ⟨_, by rw [← take_fin (m := n - 1) (k := k) (by omega)]; exact List.take_prefix _ _, hJx3⟩⟩
    · have hk3 : ¬ (k : Int) + 1 < (n : Int) := by omega
      gi_wp2
      go_end0
      refine ⟨⟨_, rfl⟩, .inl ?_⟩
      have e : (List.finRange (n - 1)).take k = List.finRange (n - 1) := List.take_of_length_le (by simp; omega)
      rw [e] at hJs
      exact hJs

theorem neighbours_stops (m : Nat) (Bs n0 : Nat) (p : Option Addr) (n cap : Nat) (x : Nat → Nat) (hn : n ≤ 1048576) (w : World) (hB : Bs < n0) (hn0 : n0 ≤ w.heap.size)
    (hBs : w.cell? ⟨Bs, 0, none⟩ = some (.slice p n cap)) (hc : 0 < n → ∃ b o, p = some ⟨b, o, none⟩ ∧ b < n0 ∧ ∀ k, k < 3 * n → w.cell? ⟨b, o + k, none⟩ = some (.float .f32 (x k))) :
    SeqStopsK Fence.wide m Tryd.prog 117 #[.pointer (some ⟨Bs, 0, none⟩)] (fun k : Fin (n - 1) => encL x k.1) (Below n0) (fun ys => ys = List.finRange (n - 1)) (fun pre => pre <+: List.finRange (n - 1)) (n - 1) w := fun l J Jx W hW hA _ hY h0 =>
  neighbours1_in m l Bs n0 p n cap x hn J Jx (fun pre W1 hj => hA pre W1 W1.drew none hj ⟨rfl, rfl, rfl, Nat.le_refl _, fun _ _ _ => rfl⟩ (fun r e => by cases e)) hY W hB ((hW.cell (p := ⟨Bs, 0, none⟩) (show Bs < _ by omega)).trans hBs) (fun hp => by
    obtain ⟨b, o, e, hb, hk⟩ := hc hp
    exact ⟨b, o, e, hb, fun j hj => (hW.cell (p := ⟨b, o + j, none⟩) (show b < _ by omega)).trans (hk j hj)⟩) h0

theorem sHgtQ (x : Nat) (hx : x < 4294967296) (q : Bool) (hq : hgtB x = q) (w : World) :
    Calls Tryd.prog 91 #[.float .f32 x] w fun e w' => e = .returned (.bool q) ∧ ∃ m, w' = w.drewN m := by
  have e1 : hgtB x = (amtB x && (FloatKind.f32.format.order x 1106247680 == some .lt || FloatKind.f32.format.order x 1106247680 == some .eq)) := rfl
  rw [e1] at hq
  have Hx := hid hx
  clear e1 hx
  rcases a : amtB x with _ | _
  · have Ha := hid a
    rw [a] at hq
    simp only [Bool.false_and] at hq
    subst hq
    clear a
    go_enter Tryd.func91, Tryd.ntmps91
    go_wp2_with fail
    refine (sAmount_fq x Hx.out Ha.out _).mono ?_
    rintro e w1 ⟨rfl, m, rfl⟩
    go_wp2
    go_ret
    exact ⟨rfl, m, rfl⟩
  · have Ha := hid a
    rw [a] at hq
    simp only [Bool.true_and] at hq
    clear a
    cases q
    all_goals
      go_enter Tryd.func91, Tryd.ntmps91
      go_wp2_with fail
      refine (sAmount_t x Ha.out _).mono ?_
      rintro e w1 ⟨rfl, rfl⟩
      go_wp2
      go_ret
      exact ⟨rfl, 0, rfl⟩

set_option maxRecDepth 100000 in
theorem sAirAtQ (h v : Nat) (hv : v < 4294967296) (q : Bool) (hq : airB h v = q) (w : World) (g o : Nat) (c0 : w.cell? ⟨g, o, none⟩ = some (.float .f32 h)) (c1 : w.cell? ⟨g, o + 1, none⟩ = some (.float .f32 v)) :
    Calls Tryd.prog 54 #[.pointer (some ⟨g, o, none⟩)] w fun e w' => e = .returned (.bool q) ∧ ∃ m, w' = w.drewN m := by
  cases q
  · have Hv := hid hv
    have e1 : airB h v = (heatB h && amtB v && vapB v) := rfl
    rw [e1] at hq
    clear hv e1
    rcases a : heatB h with _ | _
    · have Ha := hid a
      clear a hq
      go_enter Tryd.func54, Tryd.ntmps54
      go_wp2_with fail
      refine (sHeat h false Ha.out _).mono ?_
      rintro e w1 ⟨rfl, rfl⟩
      go_wp2
      go_ret
      exact ⟨rfl, 0, rfl⟩
    · have Ha := hid a
      rw [a] at hq
      clear a
      rcases b : amtB v with _ | _
      · have Hb := hid b
        clear b hq
        go_enter Tryd.func54, Tryd.ntmps54
        go_wp2_with fail
        refine (sHeat h true Ha.out _).mono ?_
        rintro e w1 ⟨rfl, rfl⟩
        go_wp2_with fail
        refine (sAmount_fq v Hv.out Hb.out _).mono ?_
        rintro e w1 ⟨rfl, m, rfl⟩
        go_wp2
        go_ret
        exact ⟨rfl, m, rfl⟩
      · have Hb := hid b
        rw [b] at hq
        simp only [Bool.true_and] at hq
        have hc : (FloatKind.f32.format.order v 1148846080 == some .lt || FloatKind.f32.format.order v 1148846080 == some .eq) = false := hq
        clear b hq
        go_enter Tryd.func54, Tryd.ntmps54
        go_wp2_with fail
        refine (sHeat h true Ha.out _).mono ?_
        rintro e w1 ⟨rfl, rfl⟩
        go_wp2_with fail
        refine (sAmount_t v Hb.out _).mono ?_
        rintro e w1 ⟨rfl, rfl⟩
        go_wp2
        go_ret
        exact ⟨rfl, 0, rfl⟩
  · exact (sAirAt_t h v hq w g o c0 c1).mono fun e w' ⟨a, b⟩ => ⟨a, 0, b ▸ rfl⟩

set_option maxRecDepth 100000 in
set_option maxHeartbeats 4000000 in
theorem sSounding (s : Value) (n : Nat) (x : Nat → Nat) (hn : n ≤ 1048576) (hx : W32 x) (w : World) (hs : Rd w s n x) (q : Bool) (hq : souB n x = q) :
    Calls Tryd.prog 67 #[s] w fun e w' => e = .returned (.bool q) ∧ Below w.heap.size w w' := by
  obtain ⟨p, cap, rfl, hc⟩ := hs
  have HC := hid hc
  have HW := hid hx
  have HQ := hid hq
  have HN := hid hn
  clear hc hx hq hn
  go_enter Tryd.func67, Tryd.ntmps67
  go_wp2_with fail
  go_loopw [3] (fun i wr => ∃ k : Nat, k ≤ n ∧ i = .int .i64 k ∧ Hid (∀ i, i < k → lvB x i = true) ∧ Hid (∀ i, i + 1 < k → upB x i = true) ∧ Hid (Below w.heap.size w wr)) (fun i _ => n - (intOf i).toNat)
  case atStart => exact ⟨0, by omega, rfl, hid (fun i h => by omega), hid (fun i h => by omega), hid (Below.refl _ _)⟩
  case round =>
    obtain ⟨k, hk, rfl, hF, hU, hb⟩ := hrel
    by_cases hlt : k < n
    · have HL := hid hlt
      have hk3 : (k : Int) < (n : Int) := by omega
      obtain ⟨b, o, rfl, hcell⟩ := HC.out (by omega)
      have hcw : ∀ j, j < 3 * n → wr.cell? ⟨b, o + j, none⟩ = some (.float .f32 (x j)) := fun j hj => by have h1 := hcell j hj; rw [hb.out.cell (block_lt_of_cell h1)]; exact h1
      have c0 := cell0 hcw (i := k) hlt
      have c1 := cell1 hcw (i := k) hlt
      have c2 := cell2 hcw (i := k) hlt
      have i1 := fun w => run_indexAt (P := Tryd.prog) (t := 58) (e := 108) Tryd.underlying58 info_lev (b := b) (o := o) (n := n) (cap := cap) (k := k) hlt w
      rcases h1 : hgtB (x (k * 3)) with _ | _
      · have H1 := hid h1
        have hfin : q = false := by
          rw [← HQ.out]
          unfold souB lvs
          rw [all_range_f (k := k) HL.out (by unfold lvB parB; rw [h1]; rfl)]; simp
        have H2 := hid (rfl : airB (x (k * 3 + 1)) (x (k * 3 + 2)) = airB (x (k * 3 + 1)) (x (k * 3 + 2)))
        clear h1 hcell hcw
        subst hfin
        go_wp2
        go_quiet ((first | (go_at_call 91; exact Calls.quiet_of (sHgtQ _ (HW.out _) _ H1.out _)) | (go_at_call 54; exact Calls.quiet_of (sAirAtQ _ _ (HW.out _) _ H2.out _ _ _ c1 c2))))
        clear c0 c1 c2 i1
        go_wp2
        go_ret
        exact ⟨rfl, below_drewN hb.out _⟩
      · have H1 := hid h1
        rcases h2 : airB (x (k * 3 + 1)) (x (k * 3 + 2)) with _ | _
        · have H2 := hid h2
          have hfin : q = false := by
            rw [← HQ.out]
            unfold souB lvs
            rw [all_range_f (k := k) HL.out (by unfold lvB parB; rw [h1, h2]; rfl)]; simp
          clear h1 h2 hcell hcw
          subst hfin
          go_wp2
          go_quiet ((first | (go_at_call 91; exact Calls.quiet_of (sHgtQ _ (HW.out _) _ H1.out _)) | (go_at_call 54; exact Calls.quiet_of (sAirAtQ _ _ (HW.out _) _ H2.out _ _ _ c1 c2))))
          clear c0 c1 c2 i1
          go_wp2
          go_ret
          exact ⟨rfl, below_drewN hb.out _⟩
        · have H2 := hid h2
          have HF := hid (fun i (hi : i < k + 1) => by
            rcases Nat.lt_or_ge i k with h | h
            · exact hF.out i h
            · rw [show i = k by omega]; exact parB_iff.2 ⟨h1, h2⟩ : ∀ i, i < k + 1 → lvB x i = true)
          clear h1 h2
          rcases Nat.eq_zero_or_pos k with hk0 | hk0
          · subst hk0
            simp only [Nat.zero_mul, Nat.add_zero, Nat.zero_add] at c0 c1 c2 i1 H1 H2
            have i1' : ∀ w, (Instr.indexAt 58 (.slice (some ⟨b, o, none⟩) n cap) (.int .i64 0)).run Tryd.prog w = .ok (.pointer (some ⟨b, o, none⟩)) w := by
              intro w
              have h9 := run_indexAt (P := Tryd.prog) (t := 58) (e := 108) Tryd.underlying58 info_lev (b := b) (o := o) (n := n) (cap := cap) (k := 0) hlt w
              simpa using h9
            clear hcell hcw i1
            go_wp2
            go_quiet ((first | (go_at_call 91; exact Calls.quiet_of (sHgtQ _ (HW.out _) _ H1.out _)) | (go_at_call 54; exact Calls.quiet_of (sAirAtQ _ _ (HW.out _) _ H2.out _ _ _ c1 c2))))
            clear c0 c1 c2
            go_wp2
            go_roundw
            case rel => exact ⟨1, by omega, by go_num, HF, hid (fun i h => by omega), hid (below_drewN hb.out _)⟩
            case measure => simp [intOf]; omega
          · obtain ⟨j, hj⟩ : ∃ j, k = j + 1 := ⟨k - 1, by omega⟩
            have d0 := cell0 hcw (i := j) (by omega)
            have hpos : (0 : Int) < (k : Int) := by omega
            have hn' := HN.out
            have hwr : IntKind.i64.wrap ((k : Int) - 1) = (k : Int) - 1 := by rw [IntKind.wrap_i64]; omega
            have i0 : ∀ w, (Instr.indexAt 58 (.slice (some ⟨b, o, none⟩) n cap) (.int .i64 ((k : Int) - 1))).run Tryd.prog w = .ok (.pointer (some ⟨b, o + j * 3, none⟩)) w := by
              intro w
              rw [show (k : Int) - 1 = (j : Int) by omega]
              exact run_indexAt (P := Tryd.prog) (t := 58) (e := 108) Tryd.underlying58 info_lev (b := b) (o := o) (n := n) (cap := cap) (k := j) (by omega) w
            clear hcell hcw
            rcases hu : upB x j with _ | _
            · have ho : (FloatKind.f32.format.order (x (j * 3)) (x (k * 3)) == some .lt) = false := by rw [hj]; exact hu
              have hfin : q = false := by
                rw [← HQ.out]
                unfold souB ups
                rw [all_range_f (k := j) (by have := HL.out; omega) hu]; simp
              clear hu
              replace hj := hid hj
              subst hfin
              go_wp2
              go_quiet ((first | (go_at_call 91; exact Calls.quiet_of (sHgtQ _ (HW.out _) _ H1.out _)) | (go_at_call 54; exact Calls.quiet_of (sAirAtQ _ _ (HW.out _) _ H2.out _ _ _ c1 c2))))
              clear c0 c1 c2 i1 i0 d0 ho
              go_wp2
              go_ret
              exact ⟨rfl, below_drewN hb.out _⟩
            · have ho : (FloatKind.f32.format.order (x (j * 3)) (x (k * 3)) == some .lt) = true := by rw [hj]; exact hu
              have HU := hid (fun i (hi : i + 1 < k + 1) => by
                rcases Nat.lt_or_ge i j with h | h
                · exact hU.out i (by omega)
                · rw [show i = j by omega]; exact hu : ∀ i, i + 1 < k + 1 → upB x i = true)
              clear hu
              replace hj := hid hj
              go_wp2
              go_quiet ((first | (go_at_call 91; exact Calls.quiet_of (sHgtQ _ (HW.out _) _ H1.out _)) | (go_at_call 54; exact Calls.quiet_of (sAirAtQ _ _ (HW.out _) _ H2.out _ _ _ c1 c2))))
              clear c0 c1 c2 i1 i0 d0 ho
              go_wp2
              go_roundw
              case rel => exact ⟨k + 1, by omega, by go_num, HF, HU, hid (below_drewN hb.out _)⟩
              case measure => simp [intOf]; omega
    · obtain rfl : k = n := by omega
      by_cases hd : 2 ≤ k ∧ k ≤ 32
      · have hfin : q = true := by
          rw [← HQ.out, souB_iff]
          exact ⟨hd.1, hd.2, hF.out, hU.out⟩
        subst hfin
        go_wp2_with fail
        refine (l00In_t k 2 32 (by omega) (by omega) _).mono ?_
        rintro e w1 ⟨rfl, rfl⟩
        go_wp2
        go_ret
        exact ⟨rfl, hb.out⟩
      · have hfin : q = false := by
          rw [← HQ.out]
          unfold souB
          rcases h : (decide (2 ≤ k) && decide (k ≤ 32)) with _ | _
          · simp
          · rw [Bool.and_eq_true, decide_eq_true_eq, decide_eq_true_eq] at h
            exact absurd h hd
        subst hfin
        go_wp2_with fail
        refine (l00In_f k 2 32 (by omega) _).mono ?_
        rintro e w1 ⟨rfl, rfl⟩
        go_wp2
        go_ret
        exact ⟨rfl, hb.out⟩

set_option maxRecDepth 100000 in
set_option maxHeartbeats 4000000 in
theorem iValidSounding (s : Value) (n : Nat) (x : Nat → Nat) (hn : n ≤ 1048576) (hx : W32 x) (w : World) (hs : Rd w s n x) (q : Bool) (hq : souB n x = q) :
    Calls Tryd.prog 70 #[s] w fun e w' => e = .returned (.bool q) ∧ Below w.heap.size w w' := by
  obtain ⟨p, cap, rfl, hc⟩ := hs
  have HC := hid hc
  have HX := hid hx
  have HQ := hid hq
  have HN := hid hn
  clear hc hx hq
  have bA := Boxed.new w 4 (.bool false)
  have hBA : Below w.heap.size w (w.alloc (.cells #[.bool false] 4)) := (Below.refl _ w).alloc (Nat.le_refl _) _
  refine (callsIn_wide (n := 9)).1 ?_
  refine callsIn_of_wp_marks Tryd.func70 rfl trivial ?_ rfl
  simp only [Tryd.ntmps70, List.size_toArray, List.length_cons, List.length_nil, Nat.reduceAdd, Nat.reduceSub, Array.replicate_succ, Array.replicate_zero, List.push_toArray, List.append_toArray, List.nil_append, List.cons_append]
  by_cases h2 : n < 2
  · have hfin : q = false := by
      rw [← HQ.out]; unfold souB
      rw [decide_eq_false (by omega)]; simp
    subst hfin
    have h2' : (n : Int) < 2 := by omega
    gi_wp2
    exact ⟨_, results_cell1 rfl _ _ ⟨w.heap.size, 0, none⟩ _ rfl (run_loadVar_one Tryd.underlying4 rfl bA.cell), rfl, hBA⟩
  by_cases h3 : 32 < n
  · have hfin : q = false := by
      rw [← HQ.out]; unfold souB
      rw [decide_eq_false (show ¬ n ≤ 32 by omega)]; simp
    subst hfin
    have h2' : ¬ (n : Int) < 2 := by omega
    have h3' : (n : Int) > 32 := by omega
    gi_wp2
    exact ⟨_, results_cell1 rfl _ _ ⟨w.heap.size, 0, none⟩ _ rfl (run_loadVar_one Tryd.underlying4 rfl bA.cell), rfl, hBA⟩
  have h2' : ¬ (n : Int) < 2 := by omega
  have h3' : ¬ (n : Int) > 32 := by omega
  gi_wp2
  gi_loopw [17] (fun i wr => ∃ k : Nat, k ≤ n ∧ i = .int .i64 k ∧ Hid (∀ i, i < k → lvB x i = true) ∧ Hid (Boxed wr w.heap.size 4 (.bool false)) ∧ Hid (Below w.heap.size w wr)) (fun i _ => n - (intOf i).toNat)
  case atStart => exact ⟨0, by omega, rfl, hid (fun i h => by omega), hid bA, hid hBA⟩
  case round =>
    obtain ⟨k, hk, rfl, hF, hbx, hb⟩ := hrel
    by_cases hlt : k < n
    · have HL := hid hlt
      have hk3 : (k : Int) < (n : Int) := by omega
      obtain ⟨b, o, rfl, hcell⟩ := HC.out (by omega)
      have hcw : ∀ j, j < 3 * n → wr.cell? ⟨b, o + j, none⟩ = some (.float .f32 (x j)) := fun j hj => by have h1 := hcell j hj; rw [hb.out.cell (block_lt_of_cell h1)]; exact h1
      have c0 := cell0 hcw (i := k) hlt
      have c1 := cell1 hcw (i := k) hlt
      have c2 := cell2 hcw (i := k) hlt
      have i1 := fun w => run_indexAt (P := Tryd.prog) (t := 58) (e := 108) Tryd.underlying58 info_lev (b := b) (o := o) (n := n) (cap := cap) (k := k) hlt w
      have l1 := run_loadAt_mid (P := Tryd.prog) wr b (o + k * 3) 108 _ _ (row3 hcw hlt) Tryd.underlying108 rfl info_lev
      have HV := fun w => iValidParcel (x (k * 3)) (x (k * 3 + 1)) (x (k * 3 + 2)) (HX.out _) (HX.out _) (lvB x k) rfl w
      clear hcell hcw
      rcases hl : lvB x k with _ | _
      · rw [hl] at HV
        have hfin : q = false := by
          rw [← HQ.out]; unfold souB lvs
          rw [all_range_f (k := k) HL.out hl]; simp
        subst hfin
        gi_wp2_with (refine ⟨trivial, ?_⟩; gi_at_call 93; refine (callsIn_wide.2 (HV _)).mono ?_; rintro e w' ⟨rfl, hb9⟩; have d1 : Boxed w' w.heap.size 4 (.bool false) := (hb9.block _ (hbx.out.alloc _).lt).trans (hbx.out.alloc _); have e1 := d1.cell; have e3 := d1.frozen)
        have b1 := d1.set (.bool false)
        exact ⟨_, results_cell1 rfl _ _ ⟨w.heap.size, 0, none⟩ _ rfl (run_loadVar_one Tryd.underlying4 rfl b1.cell), rfl, ((hb.out.alloc hb.out.size _).trans (hb9.mono (by have := hb.out.size; simp; omega))).setCell (p := ⟨w.heap.size, 0, none⟩) (Nat.le_refl _) _⟩
      · rw [hl] at HV
        have HF := hid (fun i (hi : i < k + 1) => by
          rcases Nat.lt_or_ge i k with h | h
          · exact hF.out i h
          · rw [show i = k by omega]; exact hl : ∀ i, i < k + 1 → lvB x i = true)
        clear hl
        gi_wp2_with (refine ⟨trivial, ?_⟩; gi_at_call 93; refine (callsIn_wide.2 (HV _)).mono ?_; rintro e w' ⟨rfl, hb9⟩; have d1 : Boxed w' w.heap.size 4 (.bool false) := (hb9.block _ (hbx.out.alloc _).lt).trans (hbx.out.alloc _))
        go_roundw
        case rel => exact ⟨k + 1, by omega, by go_num, HF, hid d1, hid ((hb.out.alloc hb.out.size _).trans (hb9.mono (by have := hb.out.size; simp; omega)))⟩
        case measure => simp [intOf]; omega
    · obtain rfl : k = n := by omega
      have hk3 : ¬ (k : Int) < (k : Int) := by omega
      gi_wp2_with (refine ⟨trivial, ?_⟩; gi_at_call 94; refine (callsIn_wide.2 (iNeighbours _ _ _ _)).mono ?_; rintro e w' ⟨rfl, rfl⟩)
      have bA := hbx.out.alloc (.cells #[.slice p k cap] 58)
      have bC := Boxed.new wr 58 (.slice p k cap)
      have hB0 : Below w.heap.size w (wr.alloc (.cells #[.slice p k cap] 58)) := hb.out.alloc hb.out.size _
      have hsz : (wr.alloc (.cells #[.slice p k cap] 58)).heap.size = wr.heap.size + 1 := by simp
      have hwr := hb.out.size
      obtain ⟨W0, hW0⟩ : ∃ W0, wr.alloc (.cells #[.slice p k cap] 58) = W0 := ⟨_, rfl⟩
      rw [hW0] at bA bC hB0 hsz ⊢
      clear hW0
      refine wpIn_rangeFunc_ownH (α := Fin (k - 1)) rfl (by decide) (gf := 117) (lb := #[.pointer (some ⟨wr.heap.size, 0, none⟩)]) rfl trivial (Go.Proofs.enters_of Tryd.func117 (by kernel_rfl) rfl)
        (neighbours_stops 8 wr.heap.size W0.heap.size p k cap x hn W0 (by omega) (Nat.le_refl _) bC.cell (fun hp => by
          obtain ⟨b, o, e, hk⟩ := HC.out hp
          have hb := block_lt_of_cell (hk 0 (by omega))
          exact ⟨b, o, e, by simp at hb; omega, fun j hj => (hB0.cell (p := ⟨b, o + j, none⟩) hb).trans (hk j hj)⟩)) belowK_t (belowK_b (Nat.le_refl _)) (Below.refl _ _) (fun _ => rfl)
        (fun pre W => (∀ i ∈ pre, upB x i.1 = true) ∧ Below W0.heap.size W0 W)
        (fun c pre W => (∃ z : List (Fin (k - 1)) × Fin (k - 1), (c = .ret ∧ pre = z.1 ++ [z.2] ∧ upB x z.2.1 = false) ∧ Boxed W w.heap.size 4 (.bool false)) ∧ Below w.heap.size w W)
        (OwnFrom.and (ownFrom_pure _ _) (ownFrom_below (Nat.le_refl _) (Nat.le_refl _)))
        (fun c => OwnFrom.and (fun s X Y row hs hg hr => by
          obtain ⟨z, h1, h3⟩ := hs
          exact ⟨z, h1, boxed_own _ _ (fun (_ : Unit) => _) () X Y row h3 hg (fun r e => (hr r e).2)⟩) (ownFrom_below (Nat.le_refl _) (by omega)))
        ⟨by simp, Below.refl _ _⟩
        (fun j a' W => ∃ Bx, W0.heap.size ≤ Bx ∧ W.heap[Bx]? = some (.cells #[.float .f32 (x (j.1 * 3)), .float .f32 (x (j.1 * 3 + 1)), .float .f32 (x (j.1 * 3 + 2)), .float .f32 (x ((j.1 + 1) * 3)), .float .f32 (x ((j.1 + 1) * 3 + 1)), .float .f32 (x ((j.1 + 1) * 3 + 2))] 132 (0, 0)) ∧ a' = { tmps := #[.slice p k cap, undef, .pointer (some ⟨w.heap.size, 0, none⟩), undef, u4, undef, .pointer (some ⟨Bx, 0, none⟩), .slice p k cap, .int .i64 (k : Int), .bool false, .bool false, .slice p k cap, .int .i64 (k : Int), .bool false, .bool false, .slice p k cap, .int .i64 (k : Int), .int .i64 (k : Int), .bool false, u19, u20, u21, u22, u23, u24, .slice p k cap, .func (.func 117) #[] #[.pointer (some ⟨wr.heap.size, 0, none⟩)], .int .i64 (j.1 : Int), .agg #[.float .f32 (x (j.1 * 3)), .float .f32 (x (j.1 * 3 + 1)), .float .f32 (x (j.1 * 3 + 2)), .float .f32 (x ((j.1 + 1) * 3)), .float .f32 (x ((j.1 + 1) * 3 + 1)), .float .f32 (x ((j.1 + 1) * 3 + 2))], undef, undef, undef, undef, undef, undef, undef], defers := [] })
        (fun j a' _ X Y row hs hg hr => by obtain ⟨Bx, e1, e2, e3⟩ := hs; exact ⟨Bx, e1, row_own Bx 132 (fun (_ : Unit) => _) () X Y row e2 hg (fun r e => (hr r e).2), e3⟩)
        ?assign ?body ?done ?stop
      case assign =>
        rintro l pre j W K ⟨hp, hB⟩ hK
        have hS := hB.size
        unfold encL
        gi_wp2
        exact hK _ _ ((KeepsOthers.alloc _ _).from _) ((Below.refl _ W).alloc (by omega) _) ⟨hp, hB.alloc (by omega) _⟩ ⟨W.heap.size, by omega, heap_alloc_new _ _, rfl⟩
      case body =>
        rintro l pre j a' W hl ⟨r', hr⟩ ⟨hp, hB⟩ ⟨Bx, hBx, bX, rfl⟩ hlt
        have hS := hB.size
        have b1 : Boxed W w.heap.size 4 (.bool false) := (hB.block _ bA.lt).trans bA
        have e1 := b1.cell
        have e3 := b1.frozen
        clear hr
        have g0 : W.cell? ⟨Bx, 0, none⟩ = some (.float .f32 (x (j.1 * 3))) := (cell_of_row W Bx 0 _ _ _ bX).trans rfl
        have g3 : W.cell? ⟨Bx, 3, none⟩ = some (.float .f32 (x ((j.1 + 1) * 3))) := (cell_of_row W Bx 3 _ _ _ bX).trans rfl
        have hge := up_ge (hF.out j.1 (by have := j.2; omega)) (hF.out (j.1 + 1) (by have := j.2; omega))
        rcases hu : upB x j.1 with _ | _
        · rw [hu] at hge
          have ho : (FloatKind.f32.format.order (x (j.1 * 3)) (x ((j.1 + 1) * 3)) == some .gt || FloatKind.f32.format.order (x (j.1 * 3)) (x ((j.1 + 1) * 3)) == some .eq) = true := hge
          clear hge
          gi_wp2
          exact ⟨(KeepsOthers.setCell _ _ _).from _, ⟨(pre, j), ⟨rfl, rfl, hu⟩, b1.set _⟩, (hB0.trans (hB.mono (by omega))).setCell (p := ⟨w.heap.size, 0, none⟩) (Nat.le_refl _) _⟩
        · rw [hu] at hge
          have ho : (FloatKind.f32.format.order (x (j.1 * 3)) (x ((j.1 + 1) * 3)) == some .gt || FloatKind.f32.format.order (x (j.1 * 3)) (x ((j.1 + 1) * 3)) == some .eq) = false := hge
          clear hge
          gi_wp2
          exact ⟨KeepsFrom.refl _ _, Below.refl _ _, fun i hi => (List.mem_append.1 hi).elim (hp i) (fun e => by simp at e; rw [e]; exact hu), hB⟩
      case done =>
        rintro D ys W hD rfl ⟨hp, hB⟩ hK
        have hS := hB.size
        have b1 : Boxed W w.heap.size 4 (.bool false) := (hB.block _ bA.lt).trans bA
        have e1 := b1.cell
        have e3 := b1.frozen
        have hfin : q = true := by
          rw [← HQ.out, souB_iff]
          exact ⟨by omega, by omega, hF.out, fun i hi => hp ⟨i, by omega⟩ (List.mem_finRange _)⟩
        subst hfin
        gi_wp2
        have hK' := (KeepsOthers.setCell W ⟨w.heap.size, 0, none⟩ (.bool true)).same D _ hK rfl
        have c1 := (b1.set (.bool true)).kept (grownBy_putObj' _ D (.deferred none)) (by simp; omega)
        refine ⟨by simp, .inl ⟨_, _, rfl, run_takeDeferred hK', ?_⟩⟩
        exact ⟨_, results_cell1 rfl _ _ ⟨w.heap.size, 0, none⟩ _ rfl (run_loadVar_one Tryd.underlying4 rfl c1.cell), rfl, ((hB0.trans (hB.mono (by omega))).setCell (p := ⟨w.heap.size, 0, none⟩) (Nat.le_refl _) _).trans (belowK_b (w := w) (Nat.le_refl _) _ D _ _ (by omega) hK' rfl rfl)⟩
      case stop =>
        rintro D c pre W hD hpre ⟨⟨⟨ini, last⟩, ⟨rfl, rfl, hl⟩, b1⟩, hB⟩ hK
        have hfin : q = false := by
          rw [← HQ.out]; unfold souB ups
          rw [all_range_f (k := last.1) last.2 hl]; simp
        subst hfin
        gi_wp2
        have c1 := b1.kept (grownBy_putObj' _ D (.deferred none)) (by simp; omega)
        refine ⟨by simp, .inl ⟨_, _, rfl, run_takeDeferred hK, ?_⟩⟩
        exact ⟨_, results_cell1 rfl _ _ ⟨w.heap.size, 0, none⟩ _ rfl (run_loadVar_one Tryd.underlying4 rfl c1.cell), rfl, hB.trans (belowK_b (w := w) (Nat.le_refl _) _ D _ _ (by omega) hK rfl rfl)⟩

def txLq (q : Bool) (x : Nat → Nat) (n : Nat) : ByteArray := if q = true then txL x n else ⟨#[]⟩

theorem join3 (A H V : ByteArray) (hA : A.size = 8) (hH : H.size = 8) (hV : V.size = 8) (g : Nat) (wr : World) (hb : wr.heap[g]? = some (.cells #[.string A, .string H, .string V] 9 (0, 0))) :
    Calls Tryd.prog 50 #[.slice (some ⟨g, 0, none⟩) 3 3, .string ⟨#[32]⟩] wr fun e w' => e = .returned (.string ((((A ++ ⟨#[32]⟩) ++ H) ++ ⟨#[32]⟩) ++ V)) ∧ Below wr.heap.size wr w' := by
  have hl : ([A, H, V] : List ByteArray).length = 3 := rfl
  have ht : ([A, H, V] : List ByteArray) = (List.range 3).map (fun i => if i = 0 then A else if i = 1 then H else V) := rfl
  have hs : ∀ i, (if i = 0 then A else if i = 1 then H else V : ByteArray).size = 8 := fun i => by split; exact hA; split; exact hH; exact hV
  have hr : rowB (fun i => if i = 0 then A else if i = 1 then H else V) 3 = (((A ++ ⟨#[32]⟩) ++ H) ++ ⟨#[32]⟩) ++ V := by
    show (((((⟨#[]⟩ ++ A) ++ ⟨#[32]⟩) ++ H) ++ ⟨#[32]⟩) ++ V) = _
    rw [nil_app]
  have hJ := shJoin g 0 3 [A, H, V] ⟨#[32]⟩ wr (fun j y hj => ?_) (lt_of_block hb) (by rw [hl]; decide) (by rw [hl]; decide) (by rw [ht, rowB_len]; exact Nat.le_trans (rowB_size hs 3) (by decide))
  · rw [ht, rowB_is, hr] at hJ
    exact hJ
  · rw [Nat.zero_add, cell_of_row wr g j _ _ _ hb]
    match j, hj with
    | 0, hj => simp at hj; subst hj; rfl
    | 1, hj => simp at hj; subst hj; rfl
    | 2, hj => simp at hj; subst hj; rfl

theorem wlen3 {a b : Nat} (h1 : a ≤ 29360128) (h2 : b = 26) : a + b ≤ 140737488355328 := by omega

theorem wlen4 {a b : Nat} (h1 : a ≤ 29360128) (h2 : b = 26) : a + b + (⟨#[10]⟩ : ByteArray).size ≤ 140737488355328 := by
  have : (⟨#[10]⟩ : ByteArray).size = 1 := rfl
  omega

theorem sz26 {A H V : ByteArray} (hA : A.size = 8) (hH : H.size = 8) (hV : V.size = 8) : ((((A ++ ⟨#[32]⟩) ++ H) ++ ⟨#[32]⟩) ++ V : ByteArray).size = 26 := by
  rw [ByteArray.size_append, ByteArray.size_append, ByteArray.size_append, ByteArray.size_append, hA, hH, hV]; rfl

set_option maxRecDepth 100000 in
set_option maxHeartbeats 2000000 in
theorem iSoundingText (s : Value) (n : Nat) (x : Nat → Nat) (hx : W32 x) (w : World) (hs : Rd w s n x) (hn : n ≤ 1048576) (q : Bool) (hq : souB n x = q) (ht : Tab64 w) :
    Calls Tryd.prog 38 #[s] w fun e w' => e = .returned (.string (txLq q x n)) ∧ Below w.heap.size w w' := by
  have HV := hid (fun w hs => iValidSounding s n x hn hx w hs q hq)
  have HS := hid hs
  obtain ⟨p, cap, rfl, hc⟩ := hs
  have HC := hid hc
  have HX := hid hx
  have HN := hid hn
  have HT := hid ht
  have k0 := hid (Kept.nil w)
  clear hc hx hn ht hq
  go_enter Tryd.func38, Tryd.ntmps38
  go_wp2_with fail
  refine (HV.out _ HS.out).mono ?_
  rintro e w1 ⟨rfl, hb⟩
  have k1 := hid (k0.out.stay hb)
  clear k0 hb HV HS
  cases q
  · go_wp2
    go_ret
    exact ⟨rfl, k1.out.1⟩
  · have bs : w.heap.size ≤ w1.heap.size := k1.out.size
    have k2 := hid (k1.out.push (#[.pointer none, .slice none 0 0] : Array Value) 97)
    have b0 : Hid (Go.Lib.IsBuilderF 97 5 w1.heap.size w1.heap.size (blB (txL x 0)) (w1.alloc (.cells (#[.pointer none, .slice none 0 0] : Array Value) 97))) := hid (bld_new (k2.out.at (x := (w1.heap.size, _, _)) in0))
    have q0 : Hid (Below w.heap.size w (w1.alloc (.cells (#[.pointer none, .slice none 0 0] : Array Value) 97)) ∧ w1.heap.size ≤ (w1.alloc (.cells (#[.pointer none, .slice none 0 0] : Array Value) 97)).heap.size) := hid ⟨k2.out.1, by simp⟩
    clear k1 k2
    go_wp2_with fail
    go_loopw [12] (fun i wr => ∃ k : Nat, k ≤ n ∧ i = .int .i64 (k : Int) ∧ Hid (Go.Lib.IsBuilderF 97 5 w1.heap.size w1.heap.size (blB (txL x k)) wr) ∧ Hid (Below w.heap.size w wr ∧ w1.heap.size ≤ wr.heap.size)) (fun i _ => n - (intOf i).toNat)
    case atStart => exact ⟨0, by omega, rfl, b0, q0⟩
    case round =>
      clear b0 q0
      obtain ⟨k, hk, rfl, h1, h2⟩ := hrel
      by_cases hlt : k < n
      · have HL := hid hlt
        have hk3 : (k : Int) < (n : Int) := by omega
        have hw9 := wr_kM hlt HN.out
        obtain ⟨b, o, rfl, hcell⟩ := HC.out (by omega)
        have R1 := hid (fun wq (hb : Below w.heap.size w wq) => row3 (w := wq) (n := n) (x := x) (b := b) (o := o) (fun j hj => by have h1 := hcell j hj; rw [hb.cell (block_lt_of_cell h1)]; exact h1) HL.out)
        have i1 := fun w => run_indexAt (P := Tryd.prog) (t := 58) (e := 108) Tryd.underlying58 info_lev3 (b := b) (o := o) (n := n) (cap := cap) (k := k) hlt w
        have zA := txN_size (x (k * 3))
        have zH := txN_size (x (k * 3 + 1))
        have zV := txN_size (x (k * 3 + 2))
        have zS : (txL x k).size ≤ 29360128 := le_28 (txL_size x k) hk HN.out
        have hA := hid (fun w t => iNumberText (x (k * 3)) (HX.out _) w t)
        have hH := hid (fun w t => iNumberText (x (k * 3 + 1)) (HX.out _) w t)
        have hV := hid (fun w t => iNumberText (x (k * 3 + 2)) (HX.out _) w t)
        have hM := hid (txL_next x k)
        rw [txV_is] at hM
        generalize txL x k = S at hM zS h1
        generalize txN (x (k * 3)) = A at hM zA hA
        generalize txN (x (k * 3 + 1)) = H at hM zH hH
        generalize txN (x (k * 3 + 2)) = V at hM zV hV
        have Z := hid (And.intro zS (And.intro zA (And.intro zH zV)))
        clear hcell hlt hk zS zA zH zV
        have kA := hid ((Kept.nil wr).push (#[.float .f32 0, .float .f32 0, .float .f32 0] : Array Value) 108)
        have fr := (Kept.nil wr).fresh
        have tok1 : True := trivial
        go_wp2_with (first | (have _t := tok1; refine store_row (by rfl) 108 _ _ (by rfl) (wr.heap.size) (#[.float .f32 (x (k * 3)), .float .f32 (x (k * 3 + 1)), .float .f32 (x (k * 3 + 2))]) (#[.float .f32 0, .float .f32 0, .float .f32 0]) (by rfl) (by rfl) kA.out info_lev3 (by simp) (by simp [Value.oneCell']) (Nat.le_refl _) fr ?_; intro w3 k3; replace k3 := hid k3; clear kA tok1) | (have _t := tok1; refine wpList_load_mid rfl 108 _ rfl b (o + k * 3) rfl _ _ (R1.out _ h2.out.1) Tryd.underlying108 rfl info_lev3 ?_))
        clear i1 R1 fr
        refine region_act (w0 := wr) (lk := [(wr.heap.size, #[.float .f32 (x (k * 3)), .float .f32 (x (k * 3 + 1)), .float .f32 (x (k * 3 + 2))], 108)]) (fun a0 a1 wq => ∃ g, a1 = (((((((((((((a0.put (some 16) (.pointer (some ⟨wr.heap.size, 0, none⟩))).put (some 17) (.float .f32 (x (k * 3)))).put (some 18) (.string A)).put (some 19) (.pointer (some ⟨wr.heap.size, 1, none⟩))).put (some 20) (.pointer (some ⟨wr.heap.size, 1, none⟩))).put (some 21) (.float .f32 (x (k * 3 + 1)))).put (some 22) (.string H)).put (some 23) (.pointer (some ⟨wr.heap.size, 1, none⟩))).put (some 24) (.pointer (some ⟨wr.heap.size, 2, none⟩))).put (some 25) (.float .f32 (x (k * 3 + 2)))).put (some 26) (.string V)).put (some 27) (.slice (some ⟨g, 0, none⟩) 3 3)).put (some 6) (.slice (some ⟨g, 0, none⟩) 3 3)) ∧ Kept wr ((g, #[.string A, .string H, .string V], 9) :: [(wr.heap.size, #[.float .f32 (x (k * 3)), .float .f32 (x (k * 3 + 1)), .float .f32 (x (k * 3 + 2))], 108)]) wq) 13 #[false, false, false, false, false, false, false, false, false, false, false, false, false] (by kernel_rfl) rfl rfl ?_ ?_
        · have kd := k3.out.drew
          clear k3
          generalize World.drew _ = wd at kd ⊢
          refine take_val 0 _ _ (.pointer (some ⟨wr.heap.size, 0, none⟩)) rfl (by rfl) (by kernel_rfl) (by kernel_rfl) (by kernel_rfl) (fun w => by unfold execOp; go_simp) rfl rfl kd ?_
          simp only [Act.put, List.setIfInBounds_toArray, List.set_cons_zero, List.set_cons_succ]
          refine take_cell 1 _ _ (.float .f32 (x (k * 3))) rfl (by rfl) (by kernel_rfl) (by kernel_rfl) (by kernel_rfl) (fun wq hS => by have hcell : wq.cell? ⟨wr.heap.size, 0, none⟩ = some (.float .f32 (x (k * 3))) := (cell_of_row _ (wr.heap.size) 0 _ _ _ (hS.at (x := (wr.heap.size, #[.float .f32 (x (k * 3)), .float .f32 (x (k * 3 + 1)), .float .f32 (x (k * 3 + 2))], 108)) in0)).trans rfl; clear hS; unfold execOp; go_simp) rfl rfl kd ?_
          simp only [Act.put, List.setIfInBounds_toArray, List.set_cons_zero, List.set_cons_succ]
          refine take_val 3 _ _ (.pointer (some ⟨wr.heap.size, 1, none⟩)) rfl (by rfl) (by kernel_rfl) (by kernel_rfl) (by kernel_rfl) (fun w => by unfold execOp; go_simp) rfl rfl kd ?_
          simp only [Act.put, List.setIfInBounds_toArray, List.set_cons_zero, List.set_cons_succ]
          refine take_val 4 _ _ (.pointer (some ⟨wr.heap.size, 1, none⟩)) rfl (by rfl) (by kernel_rfl) (by kernel_rfl) (by kernel_rfl) (fun w => by unfold execOp; go_simp) rfl rfl kd ?_
          simp only [Act.put, List.setIfInBounds_toArray, List.set_cons_zero, List.set_cons_succ]
          refine take_cell 5 _ _ (.float .f32 (x (k * 3 + 1))) rfl (by rfl) (by kernel_rfl) (by kernel_rfl) (by kernel_rfl) (fun wq hS => by have hcell : wq.cell? ⟨wr.heap.size, 1, none⟩ = some (.float .f32 (x (k * 3 + 1))) := (cell_of_row _ (wr.heap.size) 1 _ _ _ (hS.at (x := (wr.heap.size, #[.float .f32 (x (k * 3)), .float .f32 (x (k * 3 + 1)), .float .f32 (x (k * 3 + 2))], 108)) in0)).trans rfl; clear hS; unfold execOp; go_simp) rfl rfl kd ?_
          simp only [Act.put, List.setIfInBounds_toArray, List.set_cons_zero, List.set_cons_succ]
          refine take_val 7 _ _ (.pointer (some ⟨wr.heap.size, 1, none⟩)) rfl (by rfl) (by kernel_rfl) (by kernel_rfl) (by kernel_rfl) (fun w => by unfold execOp; go_simp) rfl rfl kd ?_
          simp only [Act.put, List.setIfInBounds_toArray, List.set_cons_zero, List.set_cons_succ]
          refine take_val 8 _ _ (.pointer (some ⟨wr.heap.size, 2, none⟩)) rfl (by rfl) (by kernel_rfl) (by kernel_rfl) (by kernel_rfl) (fun w => by unfold execOp; go_simp) rfl rfl kd ?_
          simp only [Act.put, List.setIfInBounds_toArray, List.set_cons_zero, List.set_cons_succ]
          refine take_cell 9 _ _ (.float .f32 (x (k * 3 + 2))) rfl (by rfl) (by kernel_rfl) (by kernel_rfl) (by kernel_rfl) (fun wq hS => by have hcell : wq.cell? ⟨wr.heap.size, 2, none⟩ = some (.float .f32 (x (k * 3 + 2))) := (cell_of_row _ (wr.heap.size) 2 _ _ _ (hS.at (x := (wr.heap.size, #[.float .f32 (x (k * 3)), .float .f32 (x (k * 3 + 1)), .float .f32 (x (k * 3 + 2))], 108)) in0)).trans rfl; clear hS; unfold execOp; go_simp) rfl rfl kd ?_
          simp only [Act.put, List.setIfInBounds_toArray, List.set_cons_zero, List.set_cons_succ]
          refine wpAnyH_ready (rs := [2]) (by kernel_rfl) (by simp) ?_
          refine callK 2 _ _ (.string A) kd rfl (by rfl) 13 #[.float .f32 (x (k * 3))] (fun w => by unfold execOp; go_simp) rfl rfl ?hc0 (fun w100 k100 => ?_) AllReadyH.nil
          case hc0 => exact hA.out _ (HT.out.stay (stp h2.out.1 (Nat.le_refl _) kd.1))
          refine ⟨k100, ?_⟩
          simp only [Act.put, List.setIfInBounds_toArray, List.set_cons_zero, List.set_cons_succ]
          refine wpAnyH_ready (rs := [6]) (by kernel_rfl) (by simp) ?_
          refine callK 6 _ _ (.string H) k100 rfl (by rfl) 13 #[.float .f32 (x (k * 3 + 1))] (fun w => by unfold execOp; go_simp) rfl rfl ?hc1 (fun w101 k101 => ?_) AllReadyH.nil
          case hc1 => exact hH.out _ (HT.out.stay (stp h2.out.1 (Nat.le_refl _) k100.1))
          refine ⟨k101, ?_⟩
          simp only [Act.put, List.setIfInBounds_toArray, List.set_cons_zero, List.set_cons_succ]
          refine wpAnyH_ready (rs := [10]) (by kernel_rfl) (by simp) ?_
          refine callK 10 _ _ (.string V) k101 rfl (by rfl) 13 #[.float .f32 (x (k * 3 + 2))] (fun w => by unfold execOp; go_simp) rfl rfl ?hc2 (fun w102 k102 => ?_) AllReadyH.nil
          case hc2 => exact hV.out _ (HT.out.stay (stp h2.out.1 (Nat.le_refl _) k101.1))
          refine ⟨k102, ?_⟩
          simp only [Act.put, List.setIfInBounds_toArray, List.set_cons_zero, List.set_cons_succ]
          refine wpAnyH_ready (rs := [11]) (by kernel_rfl) (by simp) ?_
          refine ready_val rfl (by rfl) (.slice (some ⟨w102.heap.size, 0, none⟩) 3 3) (w102.alloc (.cells #[.string A, .string H, .string V] 9)) (by unfold execOp; go_simp) ?_ AllReadyH.nil
          have kB := k102.push #[.string A, .string H, .string V] 9
          refine ⟨kB.tail, ?_⟩
          simp only [Act.put, List.setIfInBounds_toArray, List.set_cons_zero, List.set_cons_succ]
          refine take_val 12 _ _ (.slice (some ⟨w102.heap.size, 0, none⟩) 3 3) rfl (by rfl) (by kernel_rfl) (by kernel_rfl) (by kernel_rfl) (fun w => by rfl) rfl rfl kB.tail ?_
          simp only [Act.put, List.setIfInBounds_toArray, List.set_cons_zero, List.set_cons_succ]
          refine wpAnyH_done (by kernel_rfl) ?_ _
          exact ⟨rfl, w102.heap.size, rfl, kB⟩
        rintro a1 w5 ⟨g, rfl, k5⟩
        replace k5 := hid k5
        simp only [Act.put, List.setIfInBounds_toArray, List.set_cons_zero, List.set_cons_succ]
        go_wp2_with fail
        refine (join3 A H V Z.out.2.1 Z.out.2.2.1 Z.out.2.2.2 g _ (k5.out.at (x := (g, #[.string A, .string H, .string V], 9)) in0)).mono ?_
        rintro e w6 ⟨rfl, hb⟩
        have k6 := hid (k5.out.stay hb)
        clear k5 hb hA hH hV
        have U26 := sz26 Z.out.2.1 Z.out.2.2.1 Z.out.2.2.2
        generalize (((A ++ ⟨#[32]⟩) ++ H) ++ ⟨#[32]⟩) ++ V = U at hM U26 ⊢
        have Z2 := hid (And.intro Z.out.1 U26)
        clear Z U26
        have l4 : w1.heap.size ≤ w6.heap.size := Nat.le_trans h2.out.2 k6.out.1.size
        go_wp2_with fail
        refine (shWrite w1.heap.size w1.heap.size (blB S) U _ (bld_stay h1.out k6.out.1) (by rw [blB_len]; exact wlen3 Z2.out.1 Z2.out.2) l4).mono ?_
        rintro e w7 ⟨rfl, g7, hb7, -⟩
        have G7 := hid g7
        have HB7 := hid hb7
        have l7 : w1.heap.size ≤ w7.heap.size := Nat.le_trans l4 hb7.size
        clear g7 hb7
        go_wp2_with fail
        refine (shWrite w1.heap.size w1.heap.size (blB S ++ Go.Lib.strCells U) ⟨#[10]⟩ _ (.inr G7.out) (by rw [List.length_append, blB_len, Go.Lib.strCells_length]; exact wlen4 Z2.out.1 Z2.out.2) l7).mono ?_
        rintro e w8 ⟨rfl, g8, hb8, -⟩
        rw [blB_next, ← hM.out] at g8
        have G8 := hid g8
        have l8 : w1.heap.size ≤ w8.heap.size := Nat.le_trans l7 hb8.size
        have B8 := hid (And.intro (((stp h2.out.1 (Nat.le_refl _) k6.out.1).trans (HB7.out.mono bs)).trans (hb8.mono bs)) l8)
        clear g8 hb8 l4 l7 l8
        go_wp2_with fail
        go_roundw
        case rel => exact ⟨k + 1, HL.out, by go_num, hid (.inr G8.out), B8⟩
        case measure => first | exact ms_io HL.out | (rw [hw9]; exact ms_io HL.out)
      · obtain rfl : k = n := by omega
        have hk3 : ¬ (k : Int) < (k : Int) := by omega
        go_wp2_with fail
        refine (shString w1.heap.size w1.heap.size (txL x k).data.toList _ h1.out h2.out.2).mono ?_
        rintro e w2 ⟨rfl, -, hb, -⟩
        have B2 := hid (h2.out.1.trans (hb.mono bs))
        clear hb
        go_wp2
        go_ret
        refine ⟨?_, B2.out⟩
        rw [show txLq true x k = txL x k from if_pos rfl]
        generalize txL x k = S
        exact congrArg (fun s => Ending.returned (Value.string s)) (mk_list S)

set_option maxRecDepth 100000 in
set_option maxHeartbeats 1000000 in
theorem sSoundingText (s : Value) (n : Nat) (x : Nat → Nat) (hx : W32 x) (w : World) (hs : Rd w s n x) (hn : n ≤ 1048576) (q : Bool) (hq : souB n x = q) :
    Calls Tryd.prog 36 #[s] w fun e w' => e = .returned (.string (txLq q x n)) ∧ Below w.heap.size w w' := by
  have HV := hid (fun w hs => sSounding s n x hn hx w hs q hq)
  have HL := hid (fun w hs => sLText s n x hx w hs hn)
  have HS := hid hs
  have k0 := hid (Kept.nil w)
  clear hs hq hn hx
  go_enter Tryd.func36, Tryd.ntmps36
  go_wp2_with fail
  refine (HV.out _ HS.out).mono ?_
  rintro e w1 ⟨rfl, hb⟩
  have k1 := hid (k0.out.stay hb)
  have S1 := hid (HS.out.stay hb)
  clear k0 hb HS
  cases q
  · go_wp2
    go_ret
    exact ⟨rfl, k1.out.1⟩
  · go_wp2_with fail
    refine (HL.out _ S1.out).mono ?_
    rintro e w2 ⟨rfl, hb⟩
    have k2 := hid (k1.out.stay hb)
    clear k1 hb
    have he := hid (show txLq true x n = txL x n from if_pos rfl)
    generalize txL x n = S at he ⊢
    go_wp2
    go_ret
    exact ⟨congrArg (fun s => Ending.returned (Value.string s)) he.out.symm, k2.out.1⟩

set_option maxRecDepth 100000 in
set_option maxHeartbeats 1000000 in
theorem lawSoundingText (n : Nat) (x : Nat → Nat) (s : Value) (hx : ∀ k, x k < 4294967296) {w : World} (ht : Tab64 w) (hs : Rd w s n x) (hm : n ≤ maxLen) :
    Calls Tryd.prog 11 #[s] w fun e w' => e = .returned (.bool true) ∧ Below w.heap.size w w' := by
  obtain ⟨q, hq⟩ : ∃ q, souB n x = q := ⟨_, rfl⟩
  have HS := hid hs
  have HT := hid ht
  have HQ := hid hq
  have k0 := hid (Kept.nil w)
  obtain ⟨p, cap, rfl, _⟩ := hs
  have HM := hid hm
  have HX := hid hx
  clear hm ht hq hx
  by_cases hn : n ≤ 1048576
  · have HN := hid hn
    have hd : ¬ ((1048576 : Int) - (n : Int) < 0) := by omega
    clear hn
    go_enter Tryd.func11, Tryd.ntmps11
    go_wp2_with fail
    refine (szLevels_ok p n cap HN.out _).mono ?_
    rintro e u ⟨rfl, rfl⟩
    go_wp2_with fail
    refine (toLevels _ n x HX.out _ HS.out HN.out).mono ?_
    rintro e w1 ⟨g1, rfl, R1, hb⟩
    have k1 := hid (k0.out.stay hb)
    have S1 := hid R1
    clear k0 hb R1
    go_wp2_with fail
    refine (sSoundingText _ n x HX.out _ S1.out HN.out q HQ.out).mono ?_
    rintro e w2 ⟨rfl, hb⟩
    have k2 := hid (k1.out.stay hb)
    clear k1 hb S1
    go_wp2_with fail
    refine (toLevels _ n x HX.out _ (HS.out.stay k2.out.1) HN.out).mono ?_
    rintro e w3 ⟨g2, rfl, R2, hb⟩
    have k3 := hid (k2.out.stay hb)
    have S2 := hid R2
    clear k2 hb R2
    go_wp2_with fail
    refine (iSoundingText _ n x HX.out _ S2.out HN.out q HQ.out (HT.out.stay k3.out.1)).mono ?_
    rintro e w4 ⟨rfl, hb⟩
    have k4 := hid (k3.out.stay hb)
    have S3 := hid (S2.out.stay hb)
    clear k3 hb S2
    generalize txLq q x n = S
    go_wp2_with fail
    refine (toLevels _ n x HX.out _ (HS.out.stay k4.out.1) HN.out).mono ?_
    rintro e w5 ⟨g3, rfl, R3, hb⟩
    have k5 := hid (k4.out.stay hb)
    have S4 := hid (S3.out.stay hb)
    have S5 := hid R3
    clear k4 hb R3 S3
    go_wp2_with fail
    refine (eqLevels _ _ n x HX.out _ S4.out S5.out HN.out).mono ?_
    rintro e w6 ⟨rfl, hb⟩
    have k6 := hid (k5.out.stay hb)
    clear k5 hb
    go_wp2
    go_ret
    exact ⟨rfl, k6.out.1⟩
  · have HN := hid (show 1048576 < n by omega)
    clear hn
    go_enter Tryd.func11, Tryd.ntmps11
    go_wp2_with fail
    refine (szLevels_no p n cap HN.out HM.out _).mono ?_
    rintro e u ⟨rfl, rfl⟩
    go_wp2
    go_ret
    exact ⟨rfl, k0.out.1⟩
end Go.Proofs.YtjcdfgcnnnaooaaDoor

namespace Go.Proofs.YtjcdfgcnnnaooaaDoor.fnExactSoundingText
open Go.RowKit Go.Fl Go.ChangeShapes Go.WideShapes Go.ChangeAt

set_option maxHeartbeats 2000000 in
theorem closed : joinedFacts Tryd.prog 11 Tryd.f11 Rows.fnExactSoundingTextSpec Rows.fnExactSoundingTextRow = true := by
  unfold joinedFacts
  simp only [Bool.and_eq_true]
  exact ⟨⟨⟨⟨⟨⟨⟨⟨⟨⟨⟨⟨⟨⟨⟨⟨⟨⟨⟨⟨⟨⟨⟨⟨⟨⟨⟨⟨⟨⟨⟨(by as_aux_lemma => kernel_rfl),
    laid⟩,
    rowed⟩,
    (by as_aux_lemma => kernel_rfl)⟩,
    (by as_aux_lemma => kernel_rfl)⟩,
    (by as_aux_lemma => kernel_rfl)⟩,
    (by rw [no_stops]; rfl)⟩,
    (by as_aux_lemma => kernel_rfl)⟩,
    (by rw [no_knobs]; rfl)⟩,
    (by as_aux_lemma => kernel_rfl)⟩,
    (by as_aux_lemma => kernel_rfl)⟩,
    (by as_aux_lemma => kernel_rfl)⟩,
    (by as_aux_lemma => kernel_rfl)⟩,
    (by as_aux_lemma => kernel_rfl)⟩,
    (by as_aux_lemma => kernel_rfl)⟩,
    (by as_aux_lemma => kernel_rfl)⟩,
    (by as_aux_lemma => kernel_rfl)⟩,
    (by as_aux_lemma => kernel_rfl)⟩,
    (by as_aux_lemma => kernel_rfl)⟩,
    (by as_aux_lemma => kernel_rfl)⟩,
    (by as_aux_lemma => kernel_rfl)⟩,
    (by as_aux_lemma => kernel_rfl)⟩,
    (show (Rows.fnExactSoundingTextRow.plainKeys == Tryd.prog.plainKeys) = true by rw [plain_keys]; rfl)⟩,
    (by as_aux_lemma => kernel_rfl)⟩,
    stops_heard⟩,
    may_enter⟩,
    (show (Rows.fnExactSoundingTextRow.lifted == Tryd.prog.liftsFinal) = true by rw [lifts_final]; rfl)⟩,
    (show (Tryd.prog.make == some Rows.fnExactSoundingTextRow.make) = true by rw [made]; rfl)⟩,
    (by as_aux_lemma => kernel_rfl)⟩,
    (by as_aux_lemma => kernel_rfl)⟩,
    (by as_aux_lemma => kernel_rfl)⟩,
    (by as_aux_lemma => kernel_rfl)⟩

set_option maxRecDepth 100000 in
theorem lifted (os : Os) (started : os.Started) (H : Type) (enc : TypeId × Value → H) :
    ReturnsInHanded {} Tryd.checked os 11 .any (fun w args => (Rows.fnExactSoundingTextSpec.pre enc Tryd.prog Tryd.f11 Rows.fnExactSoundingTextRow.domain false w args ∧ laidMetH Tryd.prog Rows.fnExactSoundingTextRow.laid w) ∧ sizedMet enc Tryd.prog Tryd.f11 (OpenSpec.ofChange Rows.fnExactSoundingTextSpec) false w args) (Rows.fnExactSoundingTextSpec.post enc Tryd.prog Tryd.f11 false true false false) := by
  refine LawFrame.lifted_vars (C := Tryd.checked) (fn := Tryd.f11) (n := 1) (tb := 4) (laidL := Rows.fnExactSoundingTextRow.laid) started own (by kernel_rfl) Tryd.func11 laid ?_ rfl ?_ rfl Tryd.underlying4 ?_
    (ChangeSpec.witness_shaped (enc := enc) (C := Tryd.checked) (os := os) (X := fun w _ => laidMetH Tryd.prog Rows.fnExactSoundingTextRow.laid w) false (World.doorLaid Tryd.prog 400 os) #[.slice none 0 0] 8 rfl (World.shaped_of_RefB (by kernel_rfl) (by kernel_rfl)) (by kernel_rfl) (by kernel_rfl) (by kernel_rfl) (door_metT os _)) ?_
  · intro t ht
    simp only [Tryd.params11, List.mem_cons, List.not_mem_nil, or_false] at ht
    subst ht; exact rds
  · intro ds gs hd hg
    match ds, gs, hd, hg with
    | [d0], [], _, _ => rfl
  · intro W hL
    exact ⟨[], trivial⟩
  · intro W base args ds ps hval hn hT hL
    obtain ⟨v0, rfl⟩ : ∃ v0, args = #[v0] := arr1 hn
    have ht := tab_of hL
    simp only [Tryd.params11] at hT
    obtain ⟨n0, x0, R0, M0, X0⟩ := open_level Tryd.underlying55 Tryd.underlying111 Tryd.underlying39 Tryd.underlying22 ⟨rfl, rfl⟩ ⟨rfl, rfl⟩ ⟨rfl, rfl⟩ ⟨rfl, rfl⟩ cellsL cells2 cellsF (trodAll_head hT).choose_spec.choose_spec (open_sl Tryd.underlying55 (hval 0 55 v0 rfl rfl))
    exact lawSoundingText n0 x0 v0 X0 ht R0 M0

theorem over : Rows.fnExactSoundingTextRow.holds Tryd.pinned (OpenSpec.ofChange Rows.fnExactSoundingTextSpec) :=
  OpenClaim.holds_of_wide 11 Tryd.f11 rfl rfl rfl rfl rfl rfl rfl ⟨rfl, rfl, rfl, rfl, rfl⟩ rfl rfl rfl rfl rfl (by kernel_rfl) Tryd.func11 closed
    (of_decide_eq_true (by kernel_rfl)) (by unfold Func.isWrapper; rw [if_neg (by decide +kernel)]; exact ⟨rfl, rfl⟩)
    (fun os started H enc _ => lifted os started H enc)

theorem named : Tryd.prog.funcNamed "loop.example/g01224/laws.FnExactSoundingText" = some 11 := by kernel_rfl
theorem c_wf : Rows.fnExactSoundingTextRow.wfByText (OpenSpec.ofChange Rows.fnExactSoundingTextSpec) = true := by kernel_rfl
theorem c_main : Tryd.pinned.checked.prog.mainIs = some (true, "329017af1714b06bb681f9385b1a25610dfe8a3e677e6ff2a465e5caa2c575ff".toList) := by kernel_rfl
theorem c_looks : true = Tryd.pinned.checked.prog.looks [] := by kernel_rfl
theorem c_goes : false = Rows.fnExactSoundingTextRow.goesBy Tryd.pinned.checked.prog := by kernel_rfl
theorem proved : Rows.FnExactSoundingTextCardSaid :=
  Claim7.holds_tied_plain_at .later [] [.data, .data, .data] true (true, "329017af1714b06bb681f9385b1a25610dfe8a3e677e6ff2a465e5caa2c575ff") true
    over (fun _ h => by cases h) c_wf (fun _ h => by cases h) fnExactSoundingText_row_tie rfl ⟨rfl, rfl⟩ c_main rfl
    (fun f fn hf hfn => by
      obtain rfl : f = 11 := Option.some.inj (named.symm.trans hf) |>.symm
      obtain rfl : fn = Tryd.f11 := (Option.some.inj (Tryd.func11.symm.trans hfn)).symm
      exact ⟨c_looks, fun j t ht => by
        have hm := Array.mem_of_getElem? ht
        rw [Tryd.params11] at hm
        simp only [List.mem_toArray, List.mem_cons, List.not_mem_nil, or_false] at hm
        subst hm; exact (show Tryd.prog.wantsStandIn 55 = false by kernel_rfl)⟩)
    c_goes
#print axioms proved
end Go.Proofs.YtjcdfgcnnnaooaaDoor.fnExactSoundingText
