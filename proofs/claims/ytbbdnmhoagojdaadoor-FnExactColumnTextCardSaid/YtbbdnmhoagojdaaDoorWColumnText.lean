import Derived.Test.YtbbdnmhoagojdaaDoorEColumnText
import Derived.Test.YtbbdnmhoagojdaaDoorChecked
import Derived.Test.YtbbdnmhoagojdaaDoorRows
import Derived.Test.YtbbdnmhoagojdaaDoorCards
import Derived.Test.YtbbdnmhoagojdaaDoorTie
import Derived.Laws.FloatArith
import Derived.ProofKit
import Derived.WalkKit
import Derived.WalkLawsBesides
import Derived.WalkSpells
import Derived.Deep.RegionHeld3
import Derived.ChangeKeysEq
import Derived.Laws.BitsAllLaws
import Derived.Deep.MidRow
import Derived.Deep.WholeRow
import Derived.StillTailTactics
import Derived.Deep.Slices
import Derived.ChangeSame
import Derived.OrdersIn
import Derived.ControlIn
import Derived.RangeFuncSeq
import Derived.RangeFuncNested
import Derived.ArgAppend
import Derived.OwnWalkIn
import Derived.TacticsInMore
import Derived.Below
import Derived.Laws.AppendOwn
import Derived.Laws.ComplexArith
import Derived.Deep.Strs
import Derived.Laws.IdiomStrings
import Derived.Laws.Bits64b
import Derived.Deep.QuietTactic
import Derived.BigQuiet
import Derived.OpenShut
import Derived.Stop.LaidErr
import Derived.LaidMore
import Derived.Handed
import Derived.LaidHandle
import Derived.Stop.Joined
import Derived.MakeChecks
import Derived.Lib.LaidTab
import Derived.StillTail
import Derived.Shelf.Strings.OnBuilder
import Derived.Lib.Join
import Derived.RangeFuncLeaves
import Derived.RangeFuncBox
import Derived.MapKept
import Derived.Lib.ItoaNum
import Derived.Lib.ItoaLen
import Derived.Lib.ItoaMem
import Derived.Shelf.Strconv.Itoa4
import Derived.Lib.AppendIntMem
import Derived.Shelf.Strings.BuilderK
import Derived.HandedShaped
import Derived.Shelf.Vars
import Derived.Lay
import Derived.SevenTiedAt
/- The tied card of FnExactColumnText. -/
namespace Go.Proofs.YtbbdnmhoagojdaaDoor
open Go.RowKit Go.Fl

@[go_sem] theorem ext_f64bits (y : Nat) (w : World) : (callFunc 138 #[.float .f64 y]).run Tryd.prog w = .ok (.value (.int .u64 y)) w := by
  rw [run_callFunc_extern Tryd.func138 (by kernel_rfl) (by kernel_rfl) (by kernel_rfl) (e := Extern.MathFloatBits.float64bits) (by kernel_rfl)]
  rfl

@[go_sem] theorem ext_f64from (n : Int) (w : World) : (callFunc 144 #[.int .u64 n]).run Tryd.prog w = .ok (.value (.float .f64 n.toNat)) w := by
  rw [run_callFunc_extern Tryd.func144 (by kernel_rfl) (by kernel_rfl) (by kernel_rfl) (e := Extern.MathFloatBits.float64frombits) (by kernel_rfl)]
  rfl

theorem hid {p : Prop} (h : p) : Hid p := h

theorem clear_sign (y : Nat) (h : y < 18446744073709551616) : (bits BinOp.andNot IntKind.u64 (y : Int) 9223372036854775808).toNat = y % 9223372036854775808 := by
  rw [u64_andNot _ _ (by omega) (by omega) (by omega) (by omega)]
  rw [Int.toNat_natCast, Int.toNat_natCast]
  exact Nat.and_two_pow_sub_one_eq_mod y 63

theorem abs_f64 (y : Nat) (h : y < 18446744073709551616) (w : World) :
    Calls Tryd.prog 142 #[.float .f64 y] w fun e w' => e = .returned (.float .f64 (y % 9223372036854775808)) ∧ w = w' := by
  have hc := hid (clear_sign y h)
  clear h
  go_enter Tryd.func142, Tryd.ntmps142
  go_wp2
  go_ret
  exact ⟨by simp [hc.out], rfl⟩

theorem isNaN_f64 (y : Nat) (w : World) :
    Calls Tryd.prog 107 #[.float .f64 y] w fun e w' => e = .returned (.bool (FloatKind.f64.format.order y y != some .eq)) ∧ w = w' := by
  go_enter Tryd.func107, Tryd.ntmps107
  go_wp2
  go_ret
  exact ⟨rfl, rfl⟩

theorem isInf_f64 (y : Nat) (h : y < 18446744073709551616) (w : World) :
    Calls Tryd.prog 108 #[.float .f64 y, .int .i64 0] w fun e w' => e = .returned (.bool (FloatKind.f64.format.order (y % 9223372036854775808) 9218868437227405311 == some .gt)) ∧ w = w' := by
  have hc := hid h
  clear h
  go_enter Tryd.func108, Tryd.ntmps108
  go_wp2_with (go_at_call 142; refine (abs_f64 y hc.out _).mono ?_; rintro e w' ⟨rfl, rfl⟩)
  go_ret
  exact ⟨rfl, rfl⟩

theorem isFinite_t (x : Nat) (hx : x < 4294967296) (h : finB x = true) (w : World) :
    Calls Tryd.prog 61 #[.float .f32 x] w fun e w' => e = .returned (.bool true) ∧ w = w' := by
  rw [finB_iff] at h
  have hc := fun w => run_conv_wid (P := Tryd.prog) w 22 86 x hx Tryd.underlying22 Tryd.underlying86 h
  obtain ⟨a, b, m, e, hr⟩ := read_wid_fin hx h
  have hn : (FloatKind.f64.format.order (wid x) (wid x) != some .eq) = false := by
    show (D.order (wid x) (wid x) != some .eq) = false
    rw [order_self hr]; rfl
  have hi : (FloatKind.f64.format.order (wid x % 9223372036854775808) 9218868437227405311 == some .gt) = false := by
    show (D.order (wid x % 9223372036854775808) 9218868437227405311 == some .gt) = false
    rw [b, order_ltD a (by decide)]
    rw [DINF_val] at a
    have hle : wid (mg x) ≤ 9218868437227405311 := by omega
    rcases Nat.lt_or_eq_of_le hle with h' | h'
    · rw [Nat.compare_eq_lt.2 h']; rfl
    · rw [Nat.compare_eq_eq.2 h']; rfl
  have hw : wid x < 18446744073709551616 := D.write_lt _
  have Hn := hid hn
  have Hi := hid hi
  have Hw := hid hw
  clear hn hi hw hr a b h hx
  go_enter Tryd.func61, Tryd.ntmps61
  go_wp2_with (first | (go_at_call 107; refine (isNaN_f64 (wid x) _).mono ?_; rintro e w' ⟨rfl, rfl⟩; rw [Hn.out]) | (go_at_call 108; refine (isInf_f64 (wid x) Hw.out _).mono ?_; rintro e w' ⟨rfl, rfl⟩; rw [Hi.out]))
  go_ret
  exact ⟨rfl, rfl⟩

theorem isFinite_f (x : Nat) (hx : x < 4294967296) (h : finB x = false) (w : World) :
    Calls Tryd.prog 61 #[.float .f32 x] w fun e w' => e = .returned (.bool false) ∧ Below w.heap.size w w' := by
  rw [finB_iff'] at h
  rcases Nat.lt_or_eq_of_le h with h | h
  · obtain ⟨z, hc, h1, _⟩ := run_conv_nan (P := Tryd.prog) w 22 86 x Tryd.underlying22 Tryd.underlying86 h
    obtain ⟨s, t, hr⟩ := read_nanD h1
    have Hn := hid (show (FloatKind.f64.format.order z z != some .eq) = true by
      show (D.order z z != some .eq) = true
      rw [order_nan hr]; rfl)
    clear h h1 hr hx
    go_enter Tryd.func61, Tryd.ntmps61
    go_wp2_with (go_at_call 107; refine (isNaN_f64 z _).mono ?_; rintro e w' ⟨rfl, rfl⟩; rw [Hn.out])
    go_ret
    exact ⟨rfl, (Below.refl _ _).drew⟩
  · obtain ⟨z, hc, h1, h2⟩ := run_conv_inf (P := Tryd.prog) w 22 86 x hx Tryd.underlying22 Tryd.underlying86 h.symm
    have hr : D.read z = .infinity (decide (9223372036854775808 ≤ z)) := by rw [read_signD h2, h1, read_DINF]
    have Hn := hid (show (FloatKind.f64.format.order z z != some .eq) = false by
      show (D.order z z != some .eq) = false
      rw [order_inf hr]; rfl)
    have Hi := hid (show (FloatKind.f64.format.order (z % 9223372036854775808) 9218868437227405311 == some .gt) = true by
      rw [h1]; decide)
    have H2 := hid h2
    clear h h1 hr hx h2
    go_enter Tryd.func61, Tryd.ntmps61
    go_wp2_with (first | (go_at_call 107; refine (isNaN_f64 z _).mono ?_; rintro e w' ⟨rfl, rfl⟩; rw [Hn.out]) | (go_at_call 108; refine (isInf_f64 z H2.out _).mono ?_; rintro e w' ⟨rfl, rfl⟩; rw [Hi.out]))
    go_ret
    exact ⟨rfl, Below.refl _ _⟩

theorem signbit_f64 (y : Nat) (w : World) :
    Calls Tryd.prog 97 #[.float .f64 y] w fun e w' => e = .returned (.bool (decide (wrap64 (y : Int) < 0))) ∧ w = w' := by
  go_enter Tryd.func97, Tryd.ntmps97
  go_wp2
  go_ret
  exact ⟨rfl, rfl⟩

theorem and_sign (y : Nat) (h : y < 18446744073709551616) : (decide (wrap64 (y : Int) < 0)) = decide (9223372036854775808 ≤ y) := by
  unfold wrap64
  by_cases h' : 9223372036854775808 ≤ y
  · rw [decide_eq_true h']; simp; omega
  · rw [decide_eq_false h']; simp; omega

theorem isAmount_t (x : Nat) (h : amtB x = true) (w : World) :
    Calls Tryd.prog 48 #[.float .f32 x] w fun e w' => e = .returned (.bool true) ∧ w = w' := by
  have hf := amt_fin h
  rw [amtB_iff, INF_val] at h
  have hx : x < 4294967296 := by omega
  have hc := fun w => run_conv_wid (P := Tryd.prog) w 22 86 x hx Tryd.underlying22 Tryd.underlying86 (finB_iff.1 hf)
  have hw : wid x < 18446744073709551616 := D.write_lt _
  have Hs := hid (show (decide (wrap64 (wid x : Int) < 0)) = false by
    rw [and_sign _ hw]
    have := (wid_val (x := x) (by rw [INF_val]; omega)).1
    rw [DINF_val] at this
    simp; omega)
  have Hx := hid hx
  have Hf := hid hf
  clear h hf hx hw
  go_enter Tryd.func48, Tryd.ntmps48
  go_wp2_with (first | (go_at_call 61; refine (isFinite_t x Hx.out Hf.out _).mono ?_; rintro e w' ⟨rfl, rfl⟩) | (go_at_call 97; refine (signbit_f64 (wid x) _).mono ?_; rintro e w' ⟨rfl, rfl⟩; rw [Hs.out]))
  go_ret
  exact ⟨rfl, rfl⟩

theorem isAmount_f (x : Nat) (hx : x < 4294967296) (h : amtB x = false) (w : World) :
    Calls Tryd.prog 48 #[.float .f32 x] w fun e w' => e = .returned (.bool false) ∧ Below w.heap.size w w' := by
  rcases hf : finB x with _ | _
  · have Hx := hid hx
    have Hf := hid hf
    clear h hf hx
    go_enter Tryd.func48, Tryd.ntmps48
    go_wp2_with (go_at_call 61; refine (isFinite_f x Hx.out Hf.out _).mono ?_; rintro e w' ⟨rfl, hb⟩)
    go_ret
    exact ⟨rfl, hb⟩
  · have hc := fun w => run_conv_wid (P := Tryd.prog) w 22 86 x hx Tryd.underlying22 Tryd.underlying86 (finB_iff.1 hf)
    have hw : wid x < 18446744073709551616 := D.write_lt _
    have Hs := hid (show (decide (wrap64 (wid x : Int) < 0)) = true by
      rw [and_sign _ hw, wid_fin hx (finB_iff.1 hf)]
      rw [amtB_iff', INF_val] at h
      rw [finB_iff, INF_val] at hf
      unfold mg at hf ⊢
      rw [if_pos (by omega)]
      simp)
    have Hx := hid hx
    have Hf := hid hf
    clear h hf hx hw
    go_enter Tryd.func48, Tryd.ntmps48
    go_wp2_with (first | (go_at_call 61; refine (isFinite_t x Hx.out Hf.out _).mono ?_; rintro e w' ⟨rfl, rfl⟩) | (go_at_call 97; refine (signbit_f64 (wid x) _).mono ?_; rintro e w' ⟨rfl, rfl⟩; rw [Hs.out]))
    go_ret
    exact ⟨rfl, Below.refl _ _⟩

/-- The table of trailing zeros where the base asks it. -/
def Tab64 (w : World) : Prop := w.cell? ⟨8, 15, none⟩ = some (.int .u8 4)

theorem Tab64.stay {w w' : World} (h : Tab64 w) (hb : Below w.heap.size w w') : Tab64 w' := by
  unfold Tab64 at *
  rw [hb.cell (block_lt_of_cell h)]; exact h

set_option maxRecDepth 100000 in
set_option maxHeartbeats 1000000 in
theorem iZeros16 (w : World) (h : Tab64 w) : Calls Tryd.prog 176 #[.int .u64 16] w fun e w' => e = .returned (.int .i64 4) ∧ w' = w := by
  have c0 : w.cell? ⟨8, 15, none⟩ = some (.int .u8 4) := h
  have hq : IntKind.u64.wrap (bits BinOp.and IntKind.u64 16 (IntKind.u64.wrap (-16)) * 285870213051353865) / 288230376151711744 = 15 := by decide
  clear h
  go_enter Tryd.func176, Tryd.ntmps176
  go_wp2
  go_ret
  exact ⟨rfl, rfl⟩

theorem hx_bits (u : Nat) (h : u < 18446744073709551616) : bits BinOp.and IntKind.u64 (u : Int) 15 = ((u % 16 : Nat) : Int) := by
  rw [show (15 : Int) = ((15 : Nat) : Int) from rfl, bits_and_u64_nat u 15 h (by decide), Nat.and_two_pow_sub_one_eq_mod u 4]

theorem zero65 : Tryd.zeroCells222 = vls 65 (fun _ => .int .u8 0) := by rfl

theorem info_u8 : (Tryd.prog.info? 5).map (·.size) = some 1 := by kernel_rfl

theorem ix36 (d : Nat) (h : d < 16) (w : World) : (Instr.index 9 (.string ⟨#[48, 49, 50, 51, 52, 53, 54, 55, 56, 57, 97, 98, 99, 100, 101, 102, 103, 104, 105, 106, 107, 108, 109, 110, 111, 112, 113, 114, 115, 116, 117, 118, 119, 120, 121, 122]⟩) (.int .u64 (d : Int))).run Tryd.prog w = .ok (.int .u8 (hexN d : Int)) w :=
  index_hex .u64 Tryd.underlying9 (by decide) (by decide) d h w

set_option maxRecDepth 100000 in
set_option maxHeartbeats 1000000 in
theorem iPow16 (w : World) : Calls Tryd.prog 175 #[.int .i64 16] w fun e w' => e = .returned (.bool true) ∧ w' = w := by
  have hb : bits BinOp.and IntKind.i64 16 15 = 0 := by decide
  go_enter Tryd.func175, Tryd.ntmps175
  go_wp2
  go_ret
  exact ⟨rfl, rfl⟩

theorem hx_cv {n t m : Nat} {w w2 : World} (k2 : Kept w [(w.heap.size, vls 65 (hxW n 65 (t + 1)), 222)] w2) (h : m + (t + 1) = 65) :
    (convert 39 9 (.slice (some ⟨w.heap.size, m, none⟩) (t + 1) (t + 1))).run Tryd.prog w2 = .ok (.string ⟨(hexL n (t + 1)).toArray⟩) w2 := by
  have h1 := run_convert_bytes_back (P := Tryd.prog) w2 39 9 5 ⟨w.heap.size, m, none⟩ (t + 1) (hexL n (t + 1)) Tryd.underlying39 Tryd.underlying5 Tryd.underlying9 (fun j hj => by
    rw [hexL_length] at hj
    rw [Addr.add_mid, ← hxW_read n 65 (k := t + 1) (i := j) (by omega) hj, show 65 - (t + 1) + j = m + j by omega]
    exact (k2.v in0).cell (by omega))
  rwa [hexL_length] at h1

set_option maxRecDepth 100000 in
set_option maxHeartbeats 1000000 in
theorem iFormatBits (n : Nat) (hn : n < 4294967296) (w : World) (ht : Tab64 w) :
    Calls Tryd.prog 154 #[.slice none 0 0, .int .u64 (n : Int), .int .i64 16, .bool false, .bool false] w fun e w' =>
      (∃ k, 1 ≤ k ∧ k ≤ 8 ∧ n < 16 ^ k ∧ e = .returned (.tuple #[.slice none 0 0, .string ⟨(hexL n k).toArray⟩])) ∧ Below w.heap.size w w' := by
  have hT := hid (ht.stay ((Below.refl w.heap.size w).alloc (Nat.le_refl _) (.cells (vls 65 (fun _ => .int .u8 0)) 222)))
  have HN := hid hn
  clear ht hn
  have k0 := hid ((Kept.nil w).push (vls 65 fun _ => .int .u8 0) 222)
  go_enter Tryd.func154, Tryd.ntmps154
  go_wp2_with fail
  rw [zero65]
  refine (iPow16 _).mono ?_
  rintro e w1 ⟨rfl, rfl⟩
  go_wp2_with fail
  refine (iZeros16 _ hT.out).mono ?_
  rintro e w1 ⟨rfl, rfl⟩
  clear hT
  go_wp2_with fail
  have k1 : Hid (Kept w [(w.heap.size, vls 65 (hxW n 65 0), 222)] (w.alloc (.cells (vls 65 (fun _ => .int .u8 0)) 222))) := hid (k0.out.ext (fun i hi => (hxW_zero n 65 hi).symm))
  clear k0
  go_loopw [1, 13] (fun v i wr => ∃ t u j : Nat, t ≤ 7 ∧ j + t = 65 ∧ v = .int .u64 (u : Int) ∧ i = .int .i64 (j : Int) ∧ Hid (u = n / 16 ^ t) ∧ Hid (Kept w [(w.heap.size, vls 65 (hxW n 65 t), 222)] wr)) (fun v _ _ => (intOf v).toNat)
  case atStart => exact ⟨0, n, 65, by omega, rfl, rfl, rfl, hid (by simp), k1⟩
  case round =>
    clear k1
    obtain ⟨t, u, j, ht, hj, rfl, rfl, hu, h1⟩ := hrel
    obtain ⟨m, rfl⟩ : ∃ m, j = m + 1 := ⟨j - 1, by omega⟩
    have hm3 : (m : Int) < 65 := by omega
    have hm4 : wrap64 (m : Int) = (m : Int) := by unfold wrap64; omega
    by_cases hge : 16 ≤ u
    · have hg3 : (16 : Int) ≤ (u : Int) := by omega
      have hu64 : u < 18446744073709551616 := by
        have h1 := hu.out
        have h2 := HN.out
        have h3 := Nat.div_le_self n (16 ^ t)
        omega
      obtain ⟨d, hd⟩ : ∃ d, d = u % 16 := ⟨_, rfl⟩
      have hb : bits BinOp.and IntKind.u64 (u : Int) 15 = (d : Int) := by rw [hd]; exact hx_bits u hu64
      have hix := ix36 d (by rw [hd]; exact Nat.mod_lt _ (by decide))
      have HD := hid hd
      have HT := hid ht
      have HJ := hid hj
      have HG := hid hge
      have tok1 : True := trivial
      clear hge ht hj hu64 hd
      go_wp2_with (have _t := tok1; refine store_one (by rfl) 5 _ _ (by rfl) info_u8 (w.heap.size) m (.int .u8 (hexN d : Int)) (by rfl) (by rfl) rfl rfl h1.out (by omega) (by omega) ne0 ?_; intro w2 k2; rw [HD.out] at k2; replace k2 := hid (k2.ext (hx_st hu.out (by have := HJ.out; omega))); clear h1 tok1)
      go_roundw
      case rel => exact ⟨t + 1, u / 16, m, by have := hx_more HN.out (by rw [← hu.out]; exact HG.out); omega, by have := HJ.out; omega, by go_num, by go_num, hid (by rw [hu.out, hx_next]), k2⟩
      case measure => have := HG.out; simp [intOf]; omega
    · have hg3 : ¬ (16 : Int) ≤ (u : Int) := by omega
      have hix := ix36 u (by omega)
      have HJ := hid hj
      have hx2 : Hid (u < 16) := hid (by omega)
      have hk1 : m + (t + 1) = 65 := by omega
      have HT := hid ht
      have hal : Tryd.prog.arrayLen 222 = 65 := by kernel_rfl
      have hsl : ∀ W, (Instr.sliceAt 222 (.pointer (some ⟨w.heap.size, 0, none⟩)) (some (.int .i64 (m : Int))) none none).run Tryd.prog W = .ok (.slice (some ⟨w.heap.size, m, none⟩) (t + 1) (t + 1)) W := fun W => by
        rw [run_sliceAt_array_l W 222 ⟨w.heap.size, 0, none⟩ Tryd.underlying222 .i64 (m : Int) (by omega) (by rw [hal]; omega)]
        go_simp
        omega
      have tok1 : True := trivial
      have HK1 := hid hk1
      clear hge hj hk1 ht
      go_wp2_with (have _t := tok1; refine store_one (by rfl) 5 _ _ (by rfl) info_u8 (w.heap.size) m (.int .u8 (hexN u : Int)) (by rfl) (by rfl) rfl rfl h1.out (by omega) (by omega) ne0 ?_; intro w2 k2; replace k2 := hid (k2.ext (hx_st' hu.out hx2.out (by have := HJ.out; omega))); have hcv := hx_cv k2.out HK1.out; clear h1 tok1)
      go_ret2
      exact ⟨⟨t + 1, by omega, by have := HT.out; omega, hx_last (by rw [← hu.out]; exact hx2.out), rfl⟩, k2.out.1⟩

theorem wrU {c : Nat} (h : c < 1000) : IntKind.u64.wrap (c : Int) = (c : Int) := by rw [IntKind.wrap_u64]; omega

theorem and32 {c : Nat} (h : c < 1000) : bits BinOp.and IntKind.u64 (c : Int) 4294967295 = (c : Int) := by
  rw [show (4294967295 : Int) = ((4294967295 : Nat) : Int) from rfl, bits_and_u64_nat c _ (by omega) (by decide), Nat.and_two_pow_sub_one_eq_mod c 32]
  congr 1
  omega

set_option maxRecDepth 100000 in
set_option maxHeartbeats 1000000 in
theorem iMul1 (c : Nat) (hc : c < 1000) (w : World) : Calls Tryd.prog 156 #[.int .u64 1, .int .u64 (c : Int)] w fun e w' => e = .returned (.tuple #[.int .u64 0, .int .u64 (c : Int)]) ∧ w' = w := by
  have h1 : bits BinOp.and IntKind.u64 1 4294967295 = 1 := and32 (c := 1) (by omega)
  have h2 := and32 hc
  have h3 : (c : Int) / 4294967296 = 0 := by omega
  have h4 := wrU hc
  have h5 : bits BinOp.and IntKind.u64 0 4294967295 = 0 := and32 (c := 0) (by omega)
  clear hc
  go_enter Tryd.func156, Tryd.ntmps156
  go_wp2
  go_ret2
  exact ⟨rfl, rfl⟩

set_option maxRecDepth 100000 in
set_option maxHeartbeats 1000000 in
theorem iMul2 (c : Nat) (hc : c < 1000) (w : World) : Calls Tryd.prog 117 #[.int .u64 1, .int .u64 (c : Int)] w fun e w' => e = .returned (.tuple #[.int .u64 0, .int .u64 (c : Int)]) ∧ w' = w := by
  have HC := hid hc
  clear hc
  go_enter Tryd.func117, Tryd.ntmps117
  go_wp2_with fail
  refine (iMul1 c HC.out _).mono ?_
  rintro e w1 ⟨rfl, rfl⟩
  go_wp2
  go_ret2
  exact ⟨rfl, rfl⟩

set_option maxRecDepth 100000 in
set_option maxHeartbeats 1000000 in
theorem iHasPre (s : ByteArray) (h : 1 ≤ s.size) (b : Bool) (hb : ((s.extract 0 1).toList == [48]) = b) (w : World) : Calls Tryd.prog 157 #[.string s, .string ⟨#[48]⟩] w fun e w' => e = .returned (.bool b) ∧ w' = w := by
  have h1 : (1 : Int) ≤ (s.size : Int) := by omega
  go_enter Tryd.func157, Tryd.ntmps157
  go_wp2
  go_ret
  exact ⟨rfl, rfl⟩

set_option maxRecDepth 100000 in
set_option maxHeartbeats 1000000 in
theorem iHasPre2 (s : ByteArray) (h : 1 ≤ s.size) (b : Bool) (hb : ((s.extract 0 1).toList == [48]) = b) (w : World) : Calls Tryd.prog 118 #[.string s, .string ⟨#[48]⟩] w fun e w' => e = .returned (.bool b) ∧ w' = w := by
  have H := hid h
  have HB := hid hb
  clear h hb
  go_enter Tryd.func118, Tryd.ntmps118
  go_wp2_with fail
  refine (iHasPre s H.out b HB.out _).mono ?_
  rintro e w1 ⟨rfl, rfl⟩
  go_wp2
  go_ret
  exact ⟨rfl, rfl⟩

set_option maxRecDepth 100000 in
set_option maxHeartbeats 1000000 in
theorem iRep0 (w : World) : Calls Tryd.prog 69 #[.string ⟨#[48]⟩, .int .i64 0] w fun e w' => e = .returned (.string ⟨#[]⟩) ∧ w' = w := by
  go_enter Tryd.func69, Tryd.ntmps69
  go_wp2
  go_ret
  exact ⟨rfl, rfl⟩

set_option maxRecDepth 100000 in
set_option maxHeartbeats 1000000 in
theorem iRep1 (w : World) : Calls Tryd.prog 69 #[.string ⟨#[48]⟩, .int .i64 1] w fun e w' => e = .returned (.string ⟨#[48]⟩) ∧ w' = w := by
  go_enter Tryd.func69, Tryd.ntmps69
  go_wp2
  go_ret
  exact ⟨rfl, rfl⟩

def zs64 : ByteArray := ⟨#[48, 48, 48, 48, 48, 48, 48, 48, 48, 48, 48, 48, 48, 48, 48, 48, 48, 48, 48, 48, 48, 48, 48, 48, 48, 48, 48, 48, 48, 48, 48, 48, 48, 48, 48, 48, 48, 48, 48, 48, 48, 48, 48, 48, 48, 48, 48, 48, 48, 48, 48, 48, 48, 48, 48, 48, 48, 48, 48, 48, 48, 48, 48, 48]⟩

theorem rep_cut (c : Nat) (h : c ≤ 7) : zs64.extract 0 c = ⟨(List.replicate c 48).toArray⟩ := by
  have : ∀ c, c < 8 → zs64.extract 0 c = ⟨(List.replicate c 48).toArray⟩ := by decide +kernel
  exact this c (by omega)

set_option maxRecDepth 100000 in
set_option maxHeartbeats 1000000 in
theorem iRepN (c : Nat) (h2 : 2 ≤ c) (h7 : c ≤ 7) (w : World) : Calls Tryd.prog 69 #[.string ⟨#[48]⟩, .int .i64 (c : Int)] w fun e w' => e = .returned (.string ⟨(List.replicate c 48).toArray⟩) ∧ w' = w := by
  have a0 : ¬ (c : Int) = 0 := by omega
  have a1 : ¬ (c : Int) = 1 := by omega
  have a2 : ¬ (c : Int) < 0 := by omega
  have a3 := wrU (c := c) (by omega)
  have a4 : ¬ (9223372036854775807 : Int) < (c : Int) := by omega
  have a5 : wrap64 (c : Int) = (c : Int) := by unfold wrap64; omega
  have a6 : (c : Int) ≤ 64 := by omega
  have hv : ((ByteArray.mk #[48])[0]'(by decide)).toNat = 48 := rfl
  have H2 := hid h2
  have H7 := hid h7
  clear h2 h7
  go_enter Tryd.func69, Tryd.ntmps69
  go_wp2_with fail
  refine (iMul2 c (by have := H7.out; omega) _).mono ?_
  rintro e w1 ⟨rfl, rfl⟩
  go_wp2_with fail
  refine (iHasPre2 _ (by decide +kernel) false (by decide +kernel) _).mono ?_
  rintro e w1 ⟨rfl, rfl⟩
  go_wp2_with fail
  refine (iHasPre2 _ (by decide +kernel) false (by decide +kernel) _).mono ?_
  rintro e w1 ⟨rfl, rfl⟩
  go_wp2_with fail
  refine (iHasPre2 _ (by decide +kernel) true (by decide +kernel) _).mono ?_
  rintro e w1 ⟨rfl, rfl⟩
  go_wp2_with fail
  go_ret
  exact ⟨congrArg (fun s => Ending.returned (Value.string s)) (rep_cut c H7.out), rfl⟩

theorem iRep (c : Nat) (h : c ≤ 7) (w : World) : Calls Tryd.prog 69 #[.string ⟨#[48]⟩, .int .i64 (c : Int)] w fun e w' => e = .returned (.string ⟨(List.replicate c 48).toArray⟩) ∧ w' = w := by
  rcases Nat.lt_or_ge c 2 with h1 | h1
  · rcases Nat.lt_or_ge c 1 with h2 | h2
    · obtain rfl : c = 0 := by omega
      exact iRep0 w
    · obtain rfl : c = 1 := by omega
      exact iRep1 w
  · exact iRepN c h1 h w

set_option maxRecDepth 100000 in
set_option maxHeartbeats 1000000 in
theorem iFormatUint (n : Nat) (hn : n < 4294967296) (w : World) (ht : Tab64 w) :
    Calls Tryd.prog 115 #[.int .u64 (n : Int), .int .i64 16] w fun e w' =>
      (∃ k, 1 ≤ k ∧ k ≤ 8 ∧ n < 16 ^ k ∧ e = .returned (.string ⟨(hexL n k).toArray⟩)) ∧ Below w.heap.size w w' := by
  have hT := hid ht
  have HN := hid hn
  clear ht hn
  go_enter Tryd.func115, Tryd.ntmps115
  go_wp2_with fail
  refine (iFormatBits n HN.out _ hT.out).mono ?_
  rintro e w1 ⟨⟨k, h1, h2, h3, rfl⟩, hb⟩
  have HB := hid hb
  have H3 := hid h3
  clear hb h3
  go_wp2
  go_ret
  exact ⟨⟨k, h1, h2, H3.out, rfl⟩, HB.out⟩

set_option maxRecDepth 100000 in
set_option maxHeartbeats 1000000 in
theorem iFormatUint2 (n : Nat) (hn : n < 4294967296) (w : World) (ht : Tab64 w) :
    Calls Tryd.prog 67 #[.int .u64 (n : Int), .int .i64 16] w fun e w' =>
      (∃ k, 1 ≤ k ∧ k ≤ 8 ∧ n < 16 ^ k ∧ e = .returned (.string ⟨(hexL n k).toArray⟩)) ∧ Below w.heap.size w w' := by
  have hT := hid ht
  have HN := hid hn
  clear ht hn
  go_enter Tryd.func67, Tryd.ntmps67
  go_wp2_with fail
  refine (iFormatUint n HN.out _ hT.out).mono ?_
  rintro e w1 ⟨⟨k, h1, h2, h3, rfl⟩, hb⟩
  have HB := hid hb
  have H3 := hid h3
  clear hb h3
  go_wp2
  go_ret
  exact ⟨⟨k, h1, h2, H3.out, rfl⟩, HB.out⟩

theorem info_f32 : ∃ i, Tryd.prog.info? 22 = some i ∧ i.size = 1 := by
  have h : (Tryd.prog.info? 22).map (·.size) = some 1 := by kernel_rfl
  cases hi : Tryd.prog.info? 22 with
  | none => rw [hi] at h; cases h
  | some i => rw [hi] at h; exact ⟨i, rfl, Option.some.inj h⟩

theorem ix (T : TypeId) (hT : Tryd.prog.underlying T = some (.array 20 22)) (c : Nat → Nat) (k : Nat) (hk : k < 20) (w : World) :
    (Instr.index T (.agg (fls c)) (.int .i64 (k : Int))).run Tryd.prog w = .ok (.float .f32 (c k)) w := by
  obtain ⟨i, h1, h2⟩ := info_f32
  exact run_index_arr hT Tryd.underlying22 rfl h1 h2 _ _ hk _ (fls_get c hk) w

theorem info_arr : (Tryd.prog.info? 24).map (·.size) = some 20 := by kernel_rfl

set_option maxRecDepth 100000 in
theorem validSizes_t (c : Nat → Nat) (h : ∀ i, i < 20 → amtB (c i) = true) (w : World) :
    Calls Tryd.prog 102 #[.agg (fls c)] w fun e w' => e = .returned (.bool true) ∧ Below w.heap.size w w' := by
  have H := hid h
  clear h
  go_enter Tryd.func102, Tryd.ntmps102
  go_wp2_with (refine wpList_load_row rfl 24 _ rfl w.heap.size rfl 24 (fls c) (0, 0) _ (heap_alloc_new _ _) Tryd.underlying24 rfl (by rw [fls_size]; exact info_arr) ?_)
  go_loop [6] (fun i => ∃ k : Nat, k ≤ 20 ∧ i = .int .i64 k) (fun i => 20 - (intOf i).toNat)
  case atStart => exact ⟨0, by omega, rfl⟩
  case round =>
    obtain ⟨k, hk, rfl⟩ := hrel
    by_cases hlt : k < 20
    · have hix := ix 24 Tryd.underlying24 c k hlt
      go_wp2_with (go_at_call 48; refine (isAmount_t (c k) (H.out k hlt) _).mono ?_; rintro e w' ⟨rfl, rfl⟩)
      go_round
      case rel => exact ⟨k + 1, by omega, by go_num⟩
      case measure => simp [intOf]; omega
    · go_wp2
      go_ret
      exact ⟨rfl, (Below.refl _ _).alloc (Nat.le_refl _) _⟩

@[go_sem] theorem ext_f32bits (y : Nat) (w : World) : (callFunc 116 #[.float .f32 y]).run Tryd.prog w = .ok (.value (.int .u32 y)) w := by
  rw [run_callFunc_extern Tryd.func116 (by kernel_rfl) (by kernel_rfl) (by kernel_rfl) (e := Extern.MathFloatBits.float32bits) (by kernel_rfl)]
  rfl

theorem sFinite_t (x : Nat) (hx : x < 4294967296) (h : finB x = true) (w : World) :
    Calls Tryd.prog 141 #[.float .f32 x] w fun e w' => e = .returned (.bool true) ∧ w = w' := by
  have hr := fun w => run_float_arith (P := Tryd.prog) w .sub 22 .f32 x x 0 (sub_self_fin hx h)
  clear h hx
  go_enter Tryd.func141, Tryd.ntmps141
  go_wp2
  go_ret
  exact ⟨rfl, rfl⟩

theorem sFinite_f (x : Nat) (hx : x < 4294967296) (h : finB x = false) (w : World) :
    Calls Tryd.prog 141 #[.float .f32 x] w fun e w' => e = .returned (.bool false) ∧ Below w.heap.size w w' := by
  obtain ⟨z, hr, h1, _⟩ := run_arith_nan (P := Tryd.prog) w .sub (by simp) 22 x x (sub_self_none hx h)
  have Hn := hid (show (FloatKind.f32.format.order z 0 == some .eq) = false by
    show (S.order z 0 == some .eq) = false
    rw [order_nan32 h1]; rfl)
  clear h hx h1
  go_enter Tryd.func141, Tryd.ntmps141
  go_wp2
  go_ret
  exact ⟨by simp [Hn.out], (Below.refl _ _).drew⟩

theorem sAmount_t (x : Nat) (h : amtB x = true) (w : World) :
    Calls Tryd.prog 101 #[.float .f32 x] w fun e w' => e = .returned (.bool true) ∧ w = w' := by
  have hf := amt_fin h
  have h' := amtB_iff.1 h
  have hx : x < 4294967296 := by rw [INF_val] at h'; omega
  have Hx := hid hx
  have Hf := hid hf
  by_cases h0 : x = 0
  · subst h0
    clear h hf h' hx
    go_enter Tryd.func101, Tryd.ntmps101
    go_wp2_with (go_at_call 141; refine (sFinite_t 0 Hx.out Hf.out _).mono ?_; rintro e w' ⟨rfl, rfl⟩)
    go_ret
    exact ⟨rfl, rfl⟩
  · have hg : (FloatKind.f32.format.order x 0 == some .gt) = true := by
      show (S.order x 0 == some .gt) = true
      rw [order_zero_pos h', Nat.compare_eq_gt.2 (by omega)]; rfl
    clear h hf h' hx h0
    go_enter Tryd.func101, Tryd.ntmps101
    go_wp2_with (go_at_call 141; refine (sFinite_t x Hx.out Hf.out _).mono ?_; rintro e w' ⟨rfl, rfl⟩)
    go_ret
    exact ⟨rfl, rfl⟩

theorem sAmount_f (x : Nat) (hx : x < 4294967296) (h : amtB x = false) (w : World) :
    Calls Tryd.prog 101 #[.float .f32 x] w fun e w' => e = .returned (.bool false) ∧ Below w.heap.size w w' := by
  rcases hf : finB x with _ | _
  · have Hx := hid hx
    have Hf := hid hf
    clear h hf hx
    go_enter Tryd.func101, Tryd.ntmps101
    go_wp2_with (go_at_call 141; refine (sFinite_f x Hx.out Hf.out _).mono ?_; rintro e w' ⟨rfl, hb⟩)
    go_ret
    exact ⟨rfl, hb⟩
  · have hs : 2147483648 ≤ x := by
      rw [amtB_iff', INF_val] at h
      have := finB_iff.1 hf
      rw [INF_val] at this
      unfold mg at this
      omega
    have hg : (FloatKind.f32.format.order x 0 == some .gt) = false := order_neg_zero hx hf hs
    have hb : ((x : Int) == 0) = false := by simp; omega
    have Hx := hid hx
    have Hf := hid hf
    clear h hf hx hs
    go_enter Tryd.func101, Tryd.ntmps101
    go_wp2_with (go_at_call 141; refine (sFinite_t x Hx.out Hf.out _).mono ?_; rintro e w' ⟨rfl, rfl⟩)
    go_ret
    exact ⟨rfl, Below.refl _ _⟩

set_option maxRecDepth 100000 in
theorem validSizes_f (c : Nat → Nat) (hb : ∀ i, i < 20 → c i < 4294967296) (h : ¬ ∀ i, i < 20 → amtB (c i) = true) (w : World) :
    Calls Tryd.prog 102 #[.agg (fls c)] w fun e w' => e = .returned (.bool false) ∧ Below w.heap.size w w' := by
  have H := hid h
  have HB := hid hb
  clear h hb
  go_enter Tryd.func102, Tryd.ntmps102
  go_wp2_with (refine wpList_load_row rfl 24 _ rfl w.heap.size rfl 24 (fls c) (0, 0) _ (heap_alloc_new _ _) Tryd.underlying24 rfl (by rw [fls_size]; exact info_arr) ?_)
  go_loop [6] (fun i => ∃ k : Nat, k ≤ 20 ∧ Hid (∀ i, i < k → amtB (c i) = true) ∧ i = .int .i64 k) (fun i => 20 - (intOf i).toNat)
  case atStart => exact ⟨0, by omega, hid (fun i hi => by omega), rfl⟩
  case round =>
    obtain ⟨k, hk, HK, rfl⟩ := hrel
    by_cases hlt : k < 20
    · have hix := ix 24 Tryd.underlying24 c k hlt
      rcases hac : amtB (c k) with _ | _
      · have HA := hid hac
        clear hac
        go_wp2_with (go_at_call 48; refine (isAmount_f (c k) (HB.out k hlt) HA.out _).mono ?_; rintro e w' ⟨rfl, hb⟩)
        go_ret
        exact ⟨rfl, (((Below.refl _ _).alloc (Nat.le_refl _) _).trans (hb.mono (by simp)))⟩
      · have HA := hid hac
        clear hac
        go_wp2_with (go_at_call 48; refine (isAmount_t (c k) HA.out _).mono ?_; rintro e w' ⟨rfl, rfl⟩)
        go_round
        case rel =>
          refine ⟨k + 1, by omega, hid (fun i hi => ?_), by go_num⟩
          by_cases e : i = k
          · subst e; exact HA.out
          · exact HK.out i (by omega)
        case measure => simp [intOf]; omega
    · have hk20 : k = 20 := by omega
      exact (H.out (fun i hi => HK.out i (by omega))).elim

theorem info_a20 : (Tryd.prog.info? 23).map (·.size) = some 20 := by kernel_rfl

set_option maxRecDepth 100000 in
theorem toSizes (c : Nat → Nat) (w : World) :
    Calls Tryd.prog 124 #[.agg (fls c)] w fun e w' => e = .returned (.agg (fls c)) ∧ Below w.heap.size w w' := by
  have b0 : Below w.heap.size w (w.alloc (.cells (fls c) 23)) := (Below.refl _ _).alloc (Nat.le_refl _) _
  have a0 := hid (arrAt.new w c 23)
  go_enter Tryd.func124, Tryd.ntmps124
  go_wp2
  go_loopw [4] (fun i wr => ∃ k : Nat, k ≤ 20 ∧ i = .int .i64 k ∧ Hid (arrAt wr w.heap.size c 23) ∧ Hid (arrAt wr (w.heap.size + 1) (fun _ => 0) 24) ∧ Hid (arrAt wr (w.heap.size + 1 + 1) (cut c k) 24) ∧ Hid (Below w.heap.size w wr)) (fun i _ => 20 - (intOf i).toNat)
  case atStart =>
    refine ⟨0, by omega, rfl, hid ((a0.out.alloc _).alloc _), hid ?_, hid ?_, hid ((b0.alloc (by simp) _).alloc (by simp; omega) _)⟩
    · have := arrAt.new (w.alloc (.cells (fls c) 23)) (fun _ => 0) 24
      have e : (w.alloc (.cells (fls c) 23)).heap.size = w.heap.size + 1 := by simp
      rw [e] at this
      exact this.alloc _
    · have := arrAt.new ((w.alloc (.cells (fls c) 23)).alloc (.cells (fls fun _ => 0) 24)) (fun _ => 0) 24
      have e : ((w.alloc (.cells (fls c) 23)).alloc (.cells (fls fun _ => 0) 24)).heap.size = w.heap.size + 1 + 1 := by simp
      rw [e] at this
      exact this.ext (fun i _ => (cut_zero' c i).symm)
  case round =>
    obtain ⟨k, hk, rfl, h0, h1, h2, hb⟩ := hrel
    by_cases hlt : k < 20
    · have q0 := h0.out.cell hlt
      have q2 := h2.out.cell hlt
      have f2 := h2.out.frozen k
      go_wp2
      go_roundw
      case rel => exact ⟨k + 1, by omega, by go_num, hid (h0.out.setOther (by simp; omega) _), hid (h1.out.setOther (by simp) _), hid ((h2.out.set k (c k)).ext (fun i _ => cut_succ c k i)), hid (hb.out.setCell (by simp; omega) _)⟩
      case measure => simp [intOf]; omega
    · obtain rfl : k = 20 := by omega
      have h2' := hid (h2.out.ext (cut_all c))
      clear h2
      go_wp2_with (first | (refine wpList_load_row rfl 24 _ rfl (w.heap.size + 1 + 1) rfl 24 (fls c) (0, 0) _ h2'.out Tryd.underlying24 rfl (by rw [fls_size]; exact info_arr) ?_) | (refine wpList_store_row rfl 24 _ _ rfl (w.heap.size + 1) (fls c) rfl rfl 24 _ h1.out (by rw [fls_size]; exact info_arr) (by simp) (fls_one c) ?_))
      exact bodyPost_ret (results_cell_row rfl _ _ (w.heap.size + 1) 24 (fls c) (0, 0) _ rfl (h1.out.setRow c) Tryd.underlying24 rfl (by rw [fls_size]; exact info_arr)) rfl ⟨rfl, below_row hb.out (by omega) _⟩

def Amts (c : Nat → Nat) : Prop := ∀ i, i < 20 → amtB (c i) = true

theorem l00In_t (n a b : Int) (h1 : a ≤ n) (h2 : n ≤ b) (w : World) :
    Calls Tryd.prog 104 #[.int .i64 n, .int .i64 a, .int .i64 b] w fun e w' => e = .returned (.bool true) ∧ w = w' := by
  go_enter Tryd.func104, Tryd.ntmps104
  go_wp2
  go_ret
  exact ⟨by first | rfl | (simp; done) | (simp; omega), rfl⟩

theorem l00In_f (n a b : Int) (hn : ¬ (a ≤ n ∧ n ≤ b)) (w : World) :
    Calls Tryd.prog 104 #[.int .i64 n, .int .i64 a, .int .i64 b] w fun e w' => e = .returned (.bool false) ∧ w = w' := by
  by_cases h0 : a ≤ n
  · have h3 : b < n := by omega
    clear hn
    go_enter Tryd.func104, Tryd.ntmps104
    go_wp2
    go_ret
    exact ⟨by first | rfl | (simp; done) | (simp; omega), rfl⟩
  · have h3 : n < a := by omega
    have h4 : decide (a ≤ n) = false := by simp; omega
    clear hn h0
    go_enter Tryd.func104, Tryd.ntmps104
    go_wp2
    go_ret
    exact ⟨by simp, rfl⟩

theorem iBits (x : Nat) (hx : x < 4294967296) (w : World) :
    Calls Tryd.prog 68 #[.float .f32 x] w fun e w' => e = .returned (.int .u32 (nb x : Int)) ∧ Below w.heap.size w w' := by
  have hnb : nb x = if nanB x = true then 2143289344 else x := rfl
  rcases hn : nanB x with _ | _
  · have hle : mg x ≤ INF := by simpa [nanB] using hn
    rw [hn] at hnb
    have Hnb := hid hnb
    rcases Nat.lt_or_eq_of_le hle with h | h
    · have hc := fun w => run_conv_wid (P := Tryd.prog) w 22 86 x hx Tryd.underlying22 Tryd.underlying86 h
      obtain ⟨_, _, m, e, hr⟩ := read_wid_fin hx h
      have Hn := hid (show (FloatKind.f64.format.order (wid x) (wid x) != some .eq) = false by
        show (D.order (wid x) (wid x) != some .eq) = false
        rw [order_self hr]; rfl)
      clear hnb hn hle h hr hx
      go_enter Tryd.func68, Tryd.ntmps68
      go_wp2_with (go_at_call 107; refine (isNaN_f64 (wid x) _).mono ?_; rintro e w' ⟨rfl, rfl⟩; rw [Hn.out])
      go_ret
      exact ⟨by rw [Hnb.out]; simp, Below.refl _ _⟩
    · obtain ⟨z, hc, h1, h2⟩ := run_conv_inf (P := Tryd.prog) w 22 86 x hx Tryd.underlying22 Tryd.underlying86 h
      have hr : D.read z = .infinity (decide (9223372036854775808 ≤ z)) := by rw [read_signD h2, h1, read_DINF]
      have Hn := hid (show (FloatKind.f64.format.order z z != some .eq) = false by
        show (D.order z z != some .eq) = false
        rw [order_inf hr]; rfl)
      clear hnb hn hle h hr hx h1 h2
      go_enter Tryd.func68, Tryd.ntmps68
      go_wp2_with (go_at_call 107; refine (isNaN_f64 z _).mono ?_; rintro e w' ⟨rfl, rfl⟩; rw [Hn.out])
      go_ret
      exact ⟨by rw [Hnb.out]; simp, Below.refl _ _⟩
  · have h : INF < mg x := by simpa [nanB] using hn
    rw [hn] at hnb
    have Hnb := hid hnb
    obtain ⟨z, hc, h1, _⟩ := run_conv_nan (P := Tryd.prog) w 22 86 x Tryd.underlying22 Tryd.underlying86 h
    obtain ⟨s, t, hr⟩ := read_nanD h1
    have Hn := hid (show (FloatKind.f64.format.order z z != some .eq) = true by
      show (D.order z z != some .eq) = true
      rw [order_nan hr]; rfl)
    clear hnb hn h hr hx h1
    go_enter Tryd.func68, Tryd.ntmps68
    go_wp2_with (go_at_call 107; refine (isNaN_f64 z _).mono ?_; rintro e w' ⟨rfl, rfl⟩; rw [Hn.out])
    go_ret
    exact ⟨by rw [Hnb.out]; simp, (Below.refl _ _).drew⟩

theorem nb_lt {x : Nat} (h : x < 4294967296) : nb x < 4294967296 := by
  unfold nb; split
  · decide
  · exact h

theorem hex8 {n k : Nat} (h2 : k ≤ 8) (h3 : n < 16 ^ k) : List.replicate (8 - k) 48 ++ hexL n k = hexL n 8 := by
  have := hexL_zeros k n (8 - k) h3
  rw [show k + (8 - k) = 8 by omega] at this
  exact this.symm

/-- The text of a number. -/
def txN (x : Nat) : ByteArray := ⟨(hexL (nb x) 8).toArray⟩

theorem cat_hex {n k : Nat} (h2 : k ≤ 8) (h3 : n < 16 ^ k) : (⟨(List.replicate (8 - k) 48).toArray⟩ ++ ⟨(hexL n k).toArray⟩ : ByteArray) = ⟨(hexL n 8).toArray⟩ := by
  rw [← hex8 h2 h3]
  apply ByteArray.ext
  simp

set_option maxRecDepth 100000 in
set_option maxHeartbeats 1000000 in
theorem iNumberText (x : Nat) (hx : x < 4294967296) (w : World) (ht : Tab64 w) :
    Calls Tryd.prog 31 #[.float .f32 x] w fun e w' => e = .returned (.string (txN x)) ∧ Below w.heap.size w w' := by
  have HT := hid ht
  have HX := hid hx
  have hc : IntKind.u64.wrap (nb x : Int) = (nb x : Int) := by have := nb_lt hx; rw [IntKind.wrap_u64]; omega
  clear ht hx
  go_enter Tryd.func31, Tryd.ntmps31
  go_wp2_with fail
  refine (iBits x HX.out _).mono ?_
  rintro e w1 ⟨rfl, hb1⟩
  have T1 := hid (HT.out.stay hb1)
  have B1 := hid hb1
  clear hb1 HT
  go_wp2_with fail
  refine (iFormatUint2 (nb x) (nb_lt HX.out) _ T1.out).mono ?_
  rintro e w2 ⟨⟨k, h1, h2, h3, rfl⟩, hb2⟩
  have B2 := hid (((Kept.nil w).stay B1.out).stay hb2)
  have hl : (⟨(hexL (nb x) k).toArray⟩ : ByteArray).size = k := by show (hexL (nb x) k).toArray.size = k; simp [hexL_length]
  have hs : wrap64 (8 - (k : Int)) = ((8 - k : Nat) : Int) := by rw [show (8 : Int) - (k : Int) = ((8 - k : Nat) : Int) by omega]; unfold wrap64; omega
  have hs' : (8 : Int) - (k : Int) = ((8 - k : Nat) : Int) := by omega
  obtain ⟨m, hm⟩ : ∃ m, m = 8 - k := ⟨_, rfl⟩
  rw [← hm] at hs hs'
  have H2 := hid h2
  have H3 := hid h3
  have HM := hid hm
  have hm7 : Hid (m ≤ 7) := hid (by omega)
  have hwm : wrap64 (m : Int) = (m : Int) := by unfold wrap64; omega
  clear hb2 B1 h1 h2 h3 hm T1
  go_wp2_with fail
  refine (iRep m hm7.out _).mono ?_
  rintro e w3 ⟨rfl, rfl⟩
  go_wp2
  go_ret
  refine ⟨congrArg (fun s => Ending.returned (Value.string s)) ?_, B2.out.1⟩
  rw [HM.out]
  exact cat_hex H2.out H3.out

theorem ix16 (d : Nat) (h : d < 16) (w : World) : (Instr.index 9 (.string ⟨#[48, 49, 50, 51, 52, 53, 54, 55, 56, 57, 97, 98, 99, 100, 101, 102]⟩) (.int .u32 (d : Int))).run Tryd.prog w = .ok (.int .u8 (hexN d : Int)) w :=
  index_hex .u32 Tryd.underlying9 (by decide) (by decide) d h w

set_option maxRecDepth 100000 in
set_option maxHeartbeats 1000000 in
theorem sBits (x : Nat) (hx : x < 4294967296) (w : World) :
    Calls Tryd.prog 139 #[.float .f32 x] w fun e w' => e = .returned (.int .u32 (nb x : Int)) ∧ w' = w := by
  have n1 := neq_self x hx
  have hnb : nb x = if nanB x = true then 2143289344 else x := rfl
  rcases hn : nanB x with _ | _
  · rw [hn] at hnb n1
    rw [hnb]
    clear hnb hn
    go_enter Tryd.func139, Tryd.ntmps139
    go_wp2
    go_ret
    exact ⟨by simp, rfl⟩
  · rw [hn] at hnb n1
    rw [hnb]
    clear hnb hn
    go_enter Tryd.func139, Tryd.ntmps139
    go_wp2
    go_ret
    exact ⟨by simp, rfl⟩

theorem infoz_u8 : (Tryd.prog.info? 5).map (fun i => (i.zero, i.size, i.bytes)) = some (some (.int .u8 0), 1, 1) := by kernel_rfl

theorem sHex_cv {n : Nat} {w wr : World} (h : ∃ cs', LvV cs' 8 (hxW n 8 8) ∧ Kept w [(w.heap.size, cs', 5)] wr) :
    (convert 39 9 (.slice (some ⟨w.heap.size, 0, none⟩) 8 8)).run Tryd.prog wr = .ok (.string ⟨(hexL n 8).toArray⟩) wr := by
  obtain ⟨cs', a1, a2⟩ := h
  have h1 := run_convert_bytes_back (P := Tryd.prog) wr 39 9 5 ⟨w.heap.size, 0, none⟩ 8 (hexL n 8) Tryd.underlying39 Tryd.underlying5 Tryd.underlying9 (fun j hj => by
    rw [hexL_length] at hj
    rw [Addr.add_mid, ← hxW_read n 8 (k := 8) (i := j) (by omega) hj, show 8 - 8 + j = 0 + j by omega]
    exact a1.cell (a2.at (x := (w.heap.size, cs', 5)) in0) (by omega))
  rwa [hexL_length] at h1

set_option maxRecDepth 100000 in
set_option maxHeartbeats 1000000 in
theorem sHex (x : Nat) (hx : x < 4294967296) (w : World) :
    Calls Tryd.prog 121 #[.float .f32 x] w fun e w' => e = .returned (.string (txN x)) ∧ Below w.heap.size w w' := by
  have HN := hid (nb_lt hx)
  obtain ⟨cs0, hv0, hmk⟩ := run_makeV (P := Tryd.prog) (t := 39) (e := 5) Tryd.underlying39 (.int .u8 0) 1 rfl (by omega) infoz_u8 (n := 8) (by omega) w
  rw [show ((8 : Nat) : Int) = 8 from rfl] at hmk
  obtain ⟨n, hn⟩ : ∃ n, n = nb x := ⟨_, rfl⟩
  have h0 : Hid (∃ cs', LvV cs' 8 (hxW n 8 0) ∧ Kept w [(w.heap.size, cs', 5)] (w.alloc (.cells cs0 5))) := hid ⟨cs0, hv0.ext (fun i hi => (hxW_zero n 8 hi).symm), (Kept.nil w).push _ _⟩
  have hb := fun w => sBits x hx w
  rw [← hn] at HN
  have hq : txN x = ⟨(hexL n 8).toArray⟩ := by rw [hn]; rfl
  rw [hq]
  simp only [← hn] at hb
  have HB := hid hb
  clear hx hb hq hn hv0
  go_enter Tryd.func121, Tryd.ntmps121
  go_wp2_with fail
  refine (HB.out _).mono ?_
  rintro e w1 ⟨rfl, rfl⟩
  go_wp2_with fail
  clear hmk HB
  go_loopw [3, 5] (fun v i wr => ∃ t u j : Nat, j + t = 8 ∧ v = .int .u32 (u : Int) ∧ i = .int .i64 ((j : Int) - 1) ∧ Hid (u = n / 16 ^ t) ∧ Hid (∃ cs', LvV cs' 8 (hxW n 8 t) ∧ Kept w1 [(w1.heap.size, cs', 5)] wr)) (fun _ i _ => (intOf i + 1).toNat)
  case atStart => exact ⟨0, n, 8, rfl, rfl, rfl, hid (by simp), h0⟩
  case round =>
    clear h0
    obtain ⟨t, u, j, hj, rfl, rfl, hu, h1⟩ := hrel
    rcases j with _ | m
    · obtain rfl : t = 8 := by omega
      have hcv := sHex_cv h1.out
      have B := hid (h1.out.choose_spec.2.1)
      clear h1 hu hj
      go_wp2
      go_ret
      exact ⟨rfl, B.out⟩
    · obtain ⟨cs', a1, a2⟩ := h1.out
      have hm8 : m < 8 := by omega
      have hm3 : (m : Int) < 8 := by omega
      have hm4 : ((m + 1 : Nat) : Int) - 1 = (m : Int) := by omega
      rw [hm4]
      have hm5 : wrap64 ((m : Int) - 1) = (m : Int) - 1 := by unfold wrap64; omega
      obtain ⟨d, hd⟩ : ∃ d, d = u % 16 := ⟨_, rfl⟩
      obtain ⟨q, hq⟩ : ∃ q, q = u / 16 := ⟨_, rfl⟩
      have hu32 : u < 4294967296 := by
        have h1 := hu.out
        have h2 := HN.out
        have h3 := Nat.div_le_self n (16 ^ t)
        omega
      have hr1 : (u : Int) % 16 = (d : Int) := by omega
      have hr2 : Int.tmod (u : Int) 16 = (d : Int) := by rw [Int.tmod_eq_emod_of_nonneg (by omega)]; exact hr1
      have hr3 : (u : Int) / 16 = (q : Int) := by omega
      have hr4 : Int.tdiv (u : Int) 16 = (q : Int) := by rw [Int.tdiv_eq_ediv_of_nonneg (by omega)]; exact hr3
      have hr5 : IntKind.u32.wrap (d : Int) = (d : Int) := by rw [IntKind.wrap_u32]; omega
      have hr6 : IntKind.u32.wrap (q : Int) = (q : Int) := by rw [IntKind.wrap_u32]; omega
      have hix := ix16 d (by omega)
      have i2 := fun w0 => run_indexAt (P := Tryd.prog) (t := 39) (e := 5) Tryd.underlying39 info_u8 (b := w1.heap.size) (o := 0) (n := 8) (cap := 8) (k := m) hm8 w0
      simp only [Nat.zero_add, Nat.mul_one] at i2
      have A1 := hid a1
      have A2 := hid a2
      have HD := hid hd
      have HQ := hid hq
      have HJ := hid hj
      have HM := hid hm8
      clear h1 a1 a2 hd hq hu32 hj hm8
      have tok1 : True := trivial
      go_wp2_with (have _t := tok1; clear tok1; refine store_lv1 rfl 5 _ _ rfl info_u8 w1.heap.size m (.int .u8 (hexN d : Int)) rfl rfl rfl rfl A2.out A1.out HM.out (Nat.le_refl _) (by simp) (fun w2 k1 v1 => ?_); rw [HD.out] at v1; replace v1 := hid v1; replace k1 := hid k1; clear A1 A2)
      have b3 : Hid (∃ cs', LvV cs' 8 (hxW n 8 (t + 1)) ∧ Kept w1 [(w1.heap.size, cs', 5)] w2) := hid ⟨_, v1.out.ext (hx_up hu.out (by have := HJ.out; omega)), by rw [← HD.out]; exact k1.out⟩
      go_roundw
      case rel => exact ⟨t + 1, q, m, by have := HJ.out; omega, by go_num, by go_num, hid (by rw [HQ.out, hu.out, hx_next]), b3⟩
      case measure => simp [intOf]

theorem words_cons : ∀ (v : List Char) (r : List Char), (∀ c ∈ v, c ≠ Char.ofNat 32) → wordsSigns (v ++ Char.ofNat 32 :: r) = v :: wordsSigns r
  | [], r, _ => rfl
  | c :: v, r, h => by
    have ih := words_cons v r (fun x hx => h x (by simp [hx]))
    have hc : c ≠ Char.ofNat 32 := h c (by simp)
    show wordsSigns (c :: (v ++ Char.ofNat 32 :: r)) = _
    rw [wordsSigns.eq_3 _ _ (fun e => hc e), ih]

def w0 : List Nat := [104, 97, 114, 110, 101, 115, 115]

def w1 : List Nat := [54, 49, 56, 57, 55, 97, 48, 97, 53, 101, 97, 57, 57, 53, 50, 49, 52, 99, 53, 101, 49, 102, 97, 50, 102, 99, 57, 101, 99, 101, 54, 97, 50, 98, 50, 49, 57, 51, 101, 56, 49, 55, 102, 97, 55, 55, 98, 99, 48, 97, 50, 55, 97, 56, 100, 54, 49, 50, 101, 102, 55, 52, 53, 101]

def w2 : List Nat := [99, 117, 116]

def w3 : List Nat := [97, 116, 32, 108, 111, 111, 112, 46, 101, 120, 97, 109, 112, 108, 101, 47, 103, 48, 49, 50, 50, 52, 47, 108, 97, 119, 115, 46, 70, 110, 69, 120, 97, 99, 116, 82, 101, 97, 100, 83, 105, 122, 101, 115, 32, 108, 111, 111, 112, 46, 101, 120, 97, 109, 112, 108, 101, 47, 103, 48, 49, 50, 50, 52, 47, 108, 97, 119, 115, 46, 70, 110, 69, 120, 97, 99, 116, 82, 101, 97, 100, 65, 105, 114, 32, 108, 111, 111, 112, 46, 101, 120, 97, 109, 112, 108, 101, 47, 103, 48, 49, 50, 50, 52, 47, 108, 97, 119, 115, 46, 70, 110, 69, 120, 97, 99, 116, 82, 101, 97, 100, 75, 101, 114, 110, 101, 108, 32, 108, 111, 111, 112, 46, 101, 120, 97, 109, 112, 108, 101, 47, 103, 48, 49, 50, 50, 52, 47, 108, 97, 119, 115, 46, 70, 110, 67, 108, 97, 115, 115, 101, 115, 32, 108, 111, 111, 112, 46, 101, 120, 97, 109, 112, 108, 101, 47, 103, 48, 49, 50, 50, 52, 47, 108, 97, 119, 115, 46, 70, 110, 69, 120, 97, 99, 116, 67, 111, 108, 117, 109, 110, 84, 101, 120, 116, 32, 108, 111, 111, 112, 46, 101, 120, 97, 109, 112, 108, 101, 47, 103, 48, 49, 50, 50, 52, 47, 108, 97, 119, 115, 46, 70, 110, 69, 120, 97, 99, 116, 68, 101, 101, 100, 84, 101, 120, 116, 32, 108, 111, 111, 112, 46, 101, 120, 97, 109, 112, 108, 101, 47, 103, 48, 49, 50, 50, 52, 47, 108, 97, 119, 115, 46, 70, 110, 69, 120, 97, 99, 116, 82, 101, 97, 100, 68, 101, 101, 100, 32, 108, 111, 111, 112, 46, 101, 120, 97, 109, 112, 108, 101, 47, 103, 48, 49, 50, 50, 52, 47, 108, 97, 119, 115, 46, 70, 110, 69, 120, 97, 99, 116, 65, 99, 116, 84, 101, 120, 116]

def letters (l : List Nat) : List Char := l.map Char.ofNat

theorem head_reads : Tryd.prog.initOrder = String.ofList (letters w0 ++ Char.ofNat 32 :: (letters w1 ++ Char.ofNat 32 :: (letters w2 ++ Char.ofNat 32 :: letters w3))) := by kernel_rfl

theorem no_blank {l : List Nat} (h : l.all (fun n => Char.ofNat n != Char.ofNat 32) = true) : ∀ c ∈ letters l, c ≠ Char.ofNat 32 := by
  intro c hc
  obtain ⟨n, hn, rfl⟩ := List.mem_map.1 hc
  have := List.all_eq_true.1 h n hn
  simpa using this

theorem h0 : letters w0 = "harness".toList := by kernel_rfl

theorem h2 : letters w2 = "cut".toList := by kernel_rfl

theorem sums : isSumSigns (letters w1) = true := by kernel_rfl

theorem words : wordsSigns Tryd.prog.initOrder.toList = "harness".toList :: letters w1 :: "cut".toList :: wordsSigns (letters w3) := by
  rw [head_reads, String.toList_ofList, words_cons _ _ (no_blank (by decide +kernel)), words_cons _ _ (no_blank (by decide +kernel)), words_cons _ _ (no_blank (by decide +kernel)), h0, h2]

theorem behind : ∃ r, behindMainWord (wordsSigns Tryd.prog.initOrder.toList) = "cut".toList :: r := by
  refine ⟨wordsSigns (letters w3), ?_⟩
  rw [words]
  generalize wordsSigns (letters w3) = r
  have hs := sums
  generalize letters w1 = v at hs
  unfold behindMainWord
  simp [hs]

theorem not_later : Tryd.prog.laysLater = false := by kernel_rfl

theorem no_reflect : Tryd.prog.bearsReflect = false := by kernel_rfl

theorem no_doors : Tryd.prog.doorFits [] = true := by kernel_rfl

theorem strips (r : List (List Char)) : stripLifts liftWords ("cut".toList :: r) = ([], "cut".toList :: r) := by kernel_rfl

theorem may_enter_of (P : Program) (r : List (List Char)) (h : behindMainWord (wordsSigns P.initOrder.toList) = "cut".toList :: r) (h1 : P.laysLater = false) (h2 : P.bearsReflect = false) (h3 : P.doorFits [] = true) : P.mayEnter = true := by
  unfold Program.mayEnter
  rw [h]
  dsimp only
  rw [strips, h1, h2, h3]
  kernel_rfl

theorem lifts_final_of (P : Program) (r : List (List Char)) (h : behindMainWord (wordsSigns P.initOrder.toList) = "cut".toList :: r) : P.liftsFinal = false := by
  unfold Program.liftsFinal Program.headLifts
  rw [h]
  dsimp only
  rw [strips]
  kernel_rfl

theorem made_of (P : Program) (r : List (List Char)) (h : behindMainWord (wordsSigns P.initOrder.toList) = "cut".toList :: r) : P.make = some .cut := by
  unfold Program.make
  rw [h]
  kernel_rfl

theorem may_enter : Tryd.prog.mayEnter = true := let ⟨r, h⟩ := behind; may_enter_of _ r h not_later no_reflect no_doors

theorem lifts_final : Tryd.prog.liftsFinal = false := let ⟨r, h⟩ := behind; lifts_final_of _ r h

theorem made : Tryd.prog.make = some .cut := let ⟨r, h⟩ := behind; made_of _ r h

theorem laid : laidOutB Tryd.prog = true := by kernel_rfl

theorem rowed : mapsRowed Tryd.prog = true := by kernel_rfl

theorem no_stops : Tryd.prog.stops = [] := by kernel_rfl

theorem no_knobs : Tryd.prog.stopKnobs = [] := by kernel_rfl

theorem plain_keys : Tryd.prog.plainKeys = true := by kernel_rfl

theorem stops_heard : Tryd.prog.stopsHeard = true := by kernel_rfl

theorem arr1 {α : Type} {cs : Array α} (h : cs.size = 1) : ∃ c0, cs = #[c0] := by
  obtain ⟨l⟩ := cs
  match l, h with
  | [a], _ => exact ⟨a, rfl⟩

theorem own : ownKnob Tryd.prog.godebug = none := by kernel_rfl

theorem cells178 : Tryd.prog.cellsOf 57 = 178 := by kernel_rfl

theorem types178 : Tryd.prog.cellTypes Tryd.prog.depth 57 = some (List.replicate 177 22 ++ [2]) := by kernel_rfl

theorem rdc : Tryd.prog.readableRec 57 = true ∧ 57 < Tryd.prog.types.size := ⟨by kernel_rfl, of_decide_eq_true (by kernel_rfl)⟩

def tz64 : List Int := [0, 1, 56, 2, 57, 49, 28, 3, 61, 58, 42, 50, 38, 29, 17, 4, 62, 47, 59, 36, 45, 43, 51, 22, 53, 39, 33, 30, 24, 18, 12, 5, 63, 55, 48, 27, 60, 41, 37, 16, 46, 35, 44, 21, 52, 32, 23, 11, 54, 26, 40, 15, 34, 20, 31, 10, 25, 14, 19, 9, 13, 8, 7, 6]

theorem loose {P : Program} {f : FuncId} {args : Array Value} {w : World} {v : Value} (h : Calls P f args w fun e w' => e = .returned v ∧ w = w') : Calls P f args w fun e w' => e = .returned v ∧ Below w.heap.size w w' :=
  h.mono fun _ _ ⟨a, b⟩ => ⟨a, b ▸ Below.refl _ _⟩

theorem info_air : (Tryd.prog.info? 30).map (·.size) = some 2 := by kernel_rfl

theorem info_lair : (Tryd.prog.info? 54).map (·.size) = some 2 := by kernel_rfl

def rest1 (x : Nat) : Nat := fsub 1065353216 x

def mixed (c d : Nat → Nat) (x : Nat) : Nat → Nat := fun i => fadd (fmul (c i) (rest1 x)) (fmul (d i) x)

set_option maxRecDepth 100000 in
theorem toAir (h v : Nat) (w : World) :
    Calls Tryd.prog 125 #[.agg #[.float .f32 h, .float .f32 v]] w fun e w' => e = .returned (.agg #[.float .f32 h, .float .f32 v]) ∧ Below w.heap.size w w' := by
  have k0 : Hid (Kept w [(w.heap.size + 1, #[.float .f32 h, .float .f32 v], 30)] (((w.alloc (.cells #[.float .f32 h, .float .f32 v] 54)).alloc (.cells #[.float .f32 h, .float .f32 v] 30)).alloc (.cells #[.float .f32 h, .float .f32 v] 30))) := hid (((((Kept.nil w).push _ _).push _ _).push _ _).sub (by simp))
  go_enter Tryd.func125, Tryd.ntmps125
  go_wp2
  exact bodyPost_ret (results_cell_row rfl _ _ (w.heap.size + 1) 30 #[.float .f32 h, .float .f32 v] (0, 0) _ rfl (k0.out.at (x := (w.heap.size + 1, #[.float .f32 h, .float .f32 v], 30)) (by simp)) Tryd.underlying30 rfl info_air) rfl ⟨rfl, k0.out.1⟩

theorem iHeat (x : Nat) (q : Bool) (hq : heatB x = q) (w : World) :
    Calls Tryd.prog 100 #[.float .f32 x] w fun e w' => e = .returned (.bool q) ∧ w = w' := by
  have h1 : heatB x = ((FloatKind.f32.format.order x 3262119936 == some .gt || FloatKind.f32.format.order x 3262119936 == some .eq) && (FloatKind.f32.format.order x 1114636288 == some .lt || FloatKind.f32.format.order x 1114636288 == some .eq)) := rfl
  rw [h1] at hq
  clear h1
  rcases a : (FloatKind.f32.format.order x 3262119936 == some .gt || FloatKind.f32.format.order x 3262119936 == some .eq) with _ | _
  · rw [a] at hq
    simp only [Bool.false_and] at hq
    subst hq
    go_enter Tryd.func100, Tryd.ntmps100
    go_wp2
    go_ret
    exact ⟨rfl, rfl⟩
  · rw [a] at hq
    simp only [Bool.true_and] at hq
    cases q
    all_goals
      go_enter Tryd.func100, Tryd.ntmps100
      go_wp2
      go_ret
      exact ⟨rfl, rfl⟩

theorem sHeat (x : Nat) (q : Bool) (hq : heatB x = q) (w : World) :
    Calls Tryd.prog 140 #[.float .f32 x] w fun e w' => e = .returned (.bool q) ∧ w = w' := by
  have h1 : heatB x = ((FloatKind.f32.format.order x 3262119936 == some .gt || FloatKind.f32.format.order x 3262119936 == some .eq) && (FloatKind.f32.format.order x 1114636288 == some .lt || FloatKind.f32.format.order x 1114636288 == some .eq)) := rfl
  rw [h1] at hq
  clear h1
  rcases a : (FloatKind.f32.format.order x 3262119936 == some .gt || FloatKind.f32.format.order x 3262119936 == some .eq) with _ | _
  · rw [a] at hq
    simp only [Bool.false_and] at hq
    subst hq
    go_enter Tryd.func140, Tryd.ntmps140
    go_wp2
    go_ret
    exact ⟨rfl, rfl⟩
  · rw [a] at hq
    simp only [Bool.true_and] at hq
    cases q
    all_goals
      go_enter Tryd.func140, Tryd.ntmps140
      go_wp2
      go_ret
      exact ⟨rfl, rfl⟩

set_option maxRecDepth 100000 in
theorem iValidAir (h v : Nat) (hv : v < 4294967296) (q : Bool) (hq : airB h v = q) (w : World) :
    Calls Tryd.prog 51 #[.agg #[.float .f32 h, .float .f32 v]] w fun e w' => e = .returned (.bool q) ∧ Below w.heap.size w w' := by
  have b0 := boxed w (.cells #[.float .f32 h, .float .f32 v] 30)
  have Hv := hid hv
  have e1 : airB h v = (heatB h && amtB v && vapB v) := rfl
  rw [e1] at hq
  clear hv e1
  rcases a : heatB h with _ | _
  · have Ha := hid a
    rw [a] at hq
    simp only [Bool.false_and] at hq
    subst hq
    clear a
    go_enter Tryd.func51, Tryd.ntmps51
    go_wp2_with fail
    refine (iHeat h false Ha.out _).mono ?_
    rintro e w1 ⟨rfl, rfl⟩
    go_wp2
    go_ret
    exact ⟨rfl, b0⟩
  · have Ha := hid a
    rw [a] at hq
    clear a
    rcases b : amtB v with _ | _
    · have Hb := hid b
      rw [b] at hq
      simp only [Bool.and_false, Bool.false_and] at hq
      subst hq
      clear b
      go_enter Tryd.func51, Tryd.ntmps51
      go_wp2_with fail
      refine (iHeat h true Ha.out _).mono ?_
      rintro e w1 ⟨rfl, rfl⟩
      go_wp2_with fail
      refine (isAmount_f v Hv.out Hb.out _).mono ?_
      rintro e w1 ⟨rfl, hb1⟩
      go_wp2
      go_ret
      exact ⟨rfl, stp b0 (Nat.le_refl _) hb1⟩
    · have Hb := hid b
      rw [b] at hq
      simp only [Bool.true_and] at hq
      have hc : (FloatKind.f32.format.order v 1148846080 == some .lt || FloatKind.f32.format.order v 1148846080 == some .eq) = q := hq
      clear b hq
      cases q
      all_goals
        go_enter Tryd.func51, Tryd.ntmps51
        go_wp2_with fail
        refine (iHeat h true Ha.out _).mono ?_
        rintro e w1 ⟨rfl, rfl⟩
        go_wp2_with fail
        refine (isAmount_t v Hb.out _).mono ?_
        rintro e w1 ⟨rfl, rfl⟩
        go_wp2
        go_ret
        exact ⟨rfl, b0⟩

/-- The text of air. -/
def txA (h v : Nat) : ByteArray := ((⟨#[97, 105, 114, 32]⟩ ++ txN h) ++ ⟨#[32]⟩) ++ txN v

def txAq (q : Bool) (h v : Nat) : ByteArray := if q = true then txA h v else ⟨#[]⟩

theorem txN_size (x : Nat) : (txN x).size = 8 := by
  show (hexL (nb x) 8).toArray.size = 8
  simp [hexL_length]

set_option maxRecDepth 100000 in
set_option maxHeartbeats 1000000 in
theorem iAirText (h v : Nat) (hh : h < 4294967296) (hv : v < 4294967296) (q : Bool) (hq : airB h v = q) (w : World) (ht : Tab64 w) :
    Calls Tryd.prog 79 #[.agg #[.float .f32 h, .float .f32 v]] w fun e w' => e = .returned (.string (txAq q h v)) ∧ Below w.heap.size w w' := by
  have k0 := hid ((Kept.nil w).push (#[.float .f32 h, .float .f32 v] : Array Value) 30)
  have HT := hid ht
  have HH := hid hh
  have HV := hid hv
  have HQ := hid hq
  clear ht hh hv hq
  have z1 := txN_size h
  have z2 := txN_size v
  go_enter Tryd.func79, Tryd.ntmps79
  go_wp2_with (refine wpList_load_row rfl 30 _ rfl (w.heap.size) rfl 30 (#[.float .f32 h, .float .f32 v]) (0, 0) _ (k0.out.at (x := (w.heap.size, _, _)) in0) Tryd.underlying30 rfl (info_air) ?_)
  refine (iValidAir h v HV.out q HQ.out _).mono ?_
  rintro e w1 ⟨rfl, hb⟩
  have k1 := hid (k0.out.stay hb)
  clear k0 hb
  cases q
  · go_wp2
    go_ret
    exact ⟨rfl, k1.out.1⟩
  · go_wp2_with fail
    refine region_act (w0 := w) (lk := [(w.heap.size, #[.float .f32 h, .float .f32 v], 30)]) (fun a0 a1 wq => a1 = ((((((((((a0.put (some 6) (.pointer (some ⟨w.heap.size, 0, none⟩))).put (some 7) (.float .f32 h)).put (some 8) (.string (txN h))).put (some 9) (.string (⟨#[97, 105, 114, 32]⟩ ++ txN h))).put (some 10) (.string ((⟨#[97, 105, 114, 32]⟩ ++ txN h) ++ ⟨#[32]⟩))).put (some 11) (.pointer (some ⟨w.heap.size, 1, none⟩))).put (some 12) (.float .f32 v)).put (some 13) (.string (txN v))).put (some 14) (.string (((⟨#[97, 105, 114, 32]⟩ ++ txN h) ++ ⟨#[32]⟩) ++ txN v))).put (some 2) (.string (((⟨#[97, 105, 114, 32]⟩ ++ txN h) ++ ⟨#[32]⟩) ++ txN v))) ∧ Kept w [(w.heap.size, #[.float .f32 h, .float .f32 v], 30)] wq) 10 #[false, false, false, false, false, false, false, false, false, false] (by kernel_rfl) rfl rfl ?_ ?_
    · have kd := k1.out.drew
      clear k1
      generalize World.drew _ = wd at kd ⊢
      refine take_val 0 _ _ (.pointer (some ⟨w.heap.size, 0, none⟩)) rfl (by rfl) (by kernel_rfl) (by kernel_rfl) (by kernel_rfl) (fun w => by unfold execOp; go_simp) rfl rfl kd ?_
      simp only [Act.put, List.setIfInBounds_toArray, List.set_cons_zero, List.set_cons_succ]
      refine take_cell 1 _ _ (.float .f32 h) rfl (by rfl) (by kernel_rfl) (by kernel_rfl) (by kernel_rfl) (fun wq hS => by have hcell : wq.cell? ⟨w.heap.size, 0, none⟩ = some (.float .f32 h) := (cell_of_row _ (w.heap.size) 0 _ _ _ (hS.at (x := (w.heap.size, #[.float .f32 h, .float .f32 v], 30)) in0)).trans rfl; clear hS; unfold execOp; go_simp) rfl rfl kd ?_
      simp only [Act.put, List.setIfInBounds_toArray, List.set_cons_zero, List.set_cons_succ]
      refine take_val 5 _ _ (.pointer (some ⟨w.heap.size, 1, none⟩)) rfl (by rfl) (by kernel_rfl) (by kernel_rfl) (by kernel_rfl) (fun w => by unfold execOp; go_simp) rfl rfl kd ?_
      simp only [Act.put, List.setIfInBounds_toArray, List.set_cons_zero, List.set_cons_succ]
      refine take_cell 6 _ _ (.float .f32 v) rfl (by rfl) (by kernel_rfl) (by kernel_rfl) (by kernel_rfl) (fun wq hS => by have hcell : wq.cell? ⟨w.heap.size, 1, none⟩ = some (.float .f32 v) := (cell_of_row _ (w.heap.size) 1 _ _ _ (hS.at (x := (w.heap.size, #[.float .f32 h, .float .f32 v], 30)) in0)).trans rfl; clear hS; unfold execOp; go_simp) rfl rfl kd ?_
      simp only [Act.put, List.setIfInBounds_toArray, List.set_cons_zero, List.set_cons_succ]
      refine wpAnyH_ready (rs := [2]) (by kernel_rfl) (by simp) ?_
      refine callK 2 _ _ (.string (txN h)) kd rfl (by rfl) 31 #[.float .f32 h] (fun w => by unfold execOp; go_simp) rfl rfl ?hc1 (fun w101 k101 => ?_) AllReadyH.nil
      case hc1 => exact iNumberText h HH.out _ (HT.out.stay kd.1)
      refine ⟨k101, ?_⟩
      simp only [Act.put, List.setIfInBounds_toArray, List.set_cons_zero, List.set_cons_succ]
      refine take_val 3 _ _ (.string (⟨#[97, 105, 114, 32]⟩ ++ txN h)) rfl (by rfl) (by kernel_rfl) (by kernel_rfl) (by kernel_rfl) (fun w => by unfold execOp; go_simp) rfl rfl k101 ?_
      simp only [Act.put, List.setIfInBounds_toArray, List.set_cons_zero, List.set_cons_succ]
      refine take_val 4 _ _ (.string ((⟨#[97, 105, 114, 32]⟩ ++ txN h) ++ ⟨#[32]⟩)) rfl (by rfl) (by kernel_rfl) (by kernel_rfl) (by kernel_rfl) (fun w => by unfold execOp; go_simp) rfl rfl k101 ?_
      simp only [Act.put, List.setIfInBounds_toArray, List.set_cons_zero, List.set_cons_succ]
      refine wpAnyH_ready (rs := [7]) (by kernel_rfl) (by simp) ?_
      refine callK 7 _ _ (.string (txN v)) k101 rfl (by rfl) 31 #[.float .f32 v] (fun w => by unfold execOp; go_simp) rfl rfl ?hc2 (fun w102 k102 => ?_) AllReadyH.nil
      case hc2 => exact iNumberText v HV.out _ (HT.out.stay k101.1)
      refine ⟨k102, ?_⟩
      simp only [Act.put, List.setIfInBounds_toArray, List.set_cons_zero, List.set_cons_succ]
      refine take_val 8 _ _ (.string (((⟨#[97, 105, 114, 32]⟩ ++ txN h) ++ ⟨#[32]⟩) ++ txN v)) rfl (by rfl) (by kernel_rfl) (by kernel_rfl) (by kernel_rfl) (fun w => by unfold execOp; go_simp) rfl rfl k102 ?_
      simp only [Act.put, List.setIfInBounds_toArray, List.set_cons_zero, List.set_cons_succ]
      refine take_val 9 _ _ (.string (((⟨#[97, 105, 114, 32]⟩ ++ txN h) ++ ⟨#[32]⟩) ++ txN v)) rfl (by rfl) (by kernel_rfl) (by kernel_rfl) (by kernel_rfl) (fun w => by rfl) rfl rfl k102 ?_
      simp only [Act.put, List.setIfInBounds_toArray, List.set_cons_zero, List.set_cons_succ]
      refine wpAnyH_done (by kernel_rfl) ?_ _
      exact ⟨rfl, rfl, k102⟩
    rintro a1 wz ⟨rfl, kz⟩
    replace kz := hid kz
    simp only [Act.put, List.setIfInBounds_toArray, List.set_cons_zero, List.set_cons_succ]
    go_wp2_with fail
    go_ret
    exact ⟨rfl, kz.out.1⟩

def shl156_ren : Go.Shelf.Ren := ⟨fun | 156 => 128 | 165 => 119 | 166 => 76 | 169 => 80 | 240 => 126 | 241 => 158 | 276 => 160 | 277 => 177 | n => n, fun | 0 => 0 | 3 => 3 | 4 => 4 | 5 => 5 | 9 => 9 | 20 => 20 | 31 => 82 | 37 => 39 | 70 => 120 | 72 => 122 | 75 => 106 | 76 => 123 | 80 => 128 | 127 => 182 | 164 => 208 | n => n, fun | n => n⟩

theorem shl156 : Go.Proofs.Lays.n156 Tryd.prog shl156_ren := {
  mixed := by kernel_rfl
  f156 := Tryd.func128.trans (congrArg some (by kernel_rfl))
  f165 := Tryd.func119.trans (congrArg some (by kernel_rfl))
  f166 := Tryd.func76.trans (congrArg some (by kernel_rfl))
  f169 := Tryd.func80.trans (congrArg some (by kernel_rfl))
  f240 := Tryd.func126.trans (congrArg some (by kernel_rfl))
  f241 := Tryd.func158.trans (congrArg some (by kernel_rfl))
  f276 := Tryd.func160.trans (congrArg some (by kernel_rfl))
  f277 := Tryd.func177.trans (congrArg some (by kernel_rfl))
  t0 := Tryd.underlying0
  a0 := Tryd.isAgg0
  z0 := Tryd.sizeOf0
  v0 := Tryd.zeroValue0
  t3 := Tryd.underlying3
  a3 := Tryd.isAgg3
  z3 := Tryd.sizeOf3
  v3 := Tryd.zeroValue3
  t4 := Tryd.underlying4
  a4 := Tryd.isAgg4
  z4 := Tryd.sizeOf4
  v4 := Tryd.zeroValue4
  t9 := Tryd.underlying9
  a9 := Tryd.isAgg9
  z9 := Tryd.sizeOf9
  v9 := Tryd.zeroValue9
  t20 := Tryd.underlying20
  a20 := Tryd.isAgg20
  z20 := Tryd.sizeOf20
  v20 := Tryd.zeroValue20
  t31 := Tryd.underlying82
  a31 := Tryd.isAgg82
  z31 := Tryd.sizeOf82
  v31 := Tryd.zeroValue82
  t37 := Tryd.underlying39
  a37 := Tryd.isAgg39
  z37 := Tryd.sizeOf39
  v37 := Tryd.zeroValue39
  t70 := Tryd.underlying120
  a70 := Tryd.isAgg120
  z70 := Tryd.sizeOf120
  v70 := Tryd.zeroValue120
  t72 := Tryd.underlying122
  a72 := Tryd.isAgg122
  z72 := Tryd.sizeOf122
  v72 := Tryd.zeroValue122
  t75 := Tryd.underlying106
  a75 := Tryd.isAgg106
  z75 := Tryd.sizeOf106
  v75 := Tryd.zeroValue106
  t76 := Tryd.underlying123
  a76 := Tryd.isAgg123
  z76 := Tryd.sizeOf123
  v76 := Tryd.zeroValue123
  t127 := Tryd.underlying182
  a127 := Tryd.isAgg182
  z127 := Tryd.sizeOf182
  v127 := Tryd.zeroValue182
  t164 := Tryd.underlying208
  a164 := Tryd.isAgg208
  z164 := Tryd.sizeOf208
  v164 := Tryd.zeroValue208 }

theorem shlB156 : Go.Proofs.Builder.Extra Tryd.prog shl156_ren := {
  sizeBuilder := by kernel_rfl
  liesBuilder := by kernel_rfl
  t5 := Tryd.underlying5
  a5 := Tryd.isAgg5
  z5 := Tryd.sizeOf5
  v5 := Tryd.zeroValue5
  infoByte := by kernel_rfl
  cellsByte := by kernel_rfl
  sizeByte := by kernel_rfl
  neB5 := by decide }

theorem shl166 : Go.Proofs.Lays.n166 Tryd.prog shl156_ren := {
  mixed := by kernel_rfl
  f166 := Tryd.func76.trans (congrArg some (by kernel_rfl))
  f240 := Tryd.func126.trans (congrArg some (by kernel_rfl))
  f276 := Tryd.func160.trans (congrArg some (by kernel_rfl))
  t0 := Tryd.underlying0
  a0 := Tryd.isAgg0
  z0 := Tryd.sizeOf0
  v0 := Tryd.zeroValue0
  t3 := Tryd.underlying3
  a3 := Tryd.isAgg3
  z3 := Tryd.sizeOf3
  v3 := Tryd.zeroValue3
  t4 := Tryd.underlying4
  a4 := Tryd.isAgg4
  z4 := Tryd.sizeOf4
  v4 := Tryd.zeroValue4
  t9 := Tryd.underlying9
  a9 := Tryd.isAgg9
  z9 := Tryd.sizeOf9
  v9 := Tryd.zeroValue9
  t20 := Tryd.underlying20
  a20 := Tryd.isAgg20
  z20 := Tryd.sizeOf20
  v20 := Tryd.zeroValue20
  t37 := Tryd.underlying39
  a37 := Tryd.isAgg39
  z37 := Tryd.sizeOf39
  v37 := Tryd.zeroValue39
  t70 := Tryd.underlying120
  a70 := Tryd.isAgg120
  z70 := Tryd.sizeOf120
  v70 := Tryd.zeroValue120
  t72 := Tryd.underlying122
  a72 := Tryd.isAgg122
  z72 := Tryd.sizeOf122
  v72 := Tryd.zeroValue122
  t75 := Tryd.underlying106
  a75 := Tryd.isAgg106
  z75 := Tryd.sizeOf106
  v75 := Tryd.zeroValue106
  t164 := Tryd.underlying208
  a164 := Tryd.isAgg208
  z164 := Tryd.sizeOf208
  v164 := Tryd.zeroValue208 }

theorem shl169 : Go.Proofs.Lays.n169 Tryd.prog shl156_ren := {
  mixed := by kernel_rfl
  f169 := Tryd.func80.trans (congrArg some (by kernel_rfl))
  t0 := Tryd.underlying0
  a0 := Tryd.isAgg0
  z0 := Tryd.sizeOf0
  v0 := Tryd.zeroValue0
  t3 := Tryd.underlying3
  a3 := Tryd.isAgg3
  z3 := Tryd.sizeOf3
  v3 := Tryd.zeroValue3
  t9 := Tryd.underlying9
  a9 := Tryd.isAgg9
  z9 := Tryd.sizeOf9
  v9 := Tryd.zeroValue9
  t37 := Tryd.underlying39
  a37 := Tryd.isAgg39
  z37 := Tryd.sizeOf39
  v37 := Tryd.zeroValue39
  t70 := Tryd.underlying120
  a70 := Tryd.isAgg120
  z70 := Tryd.sizeOf120
  v70 := Tryd.zeroValue120
  t72 := Tryd.underlying122
  a72 := Tryd.isAgg122
  z72 := Tryd.sizeOf122
  v72 := Tryd.zeroValue122
  t127 := Tryd.underlying182
  a127 := Tryd.isAgg182
  z127 := Tryd.sizeOf182
  v127 := Tryd.zeroValue182 }

theorem shJoin (bk o c : Nat) (xs : List ByteArray) (sep : ByteArray) (w : World) (hcells : ∀ (j : Nat) x, xs[j]? = some x → w.cell? ⟨bk, o + j, none⟩ = some (.string x)) (hbk : bk < w.heap.size) (hN : xs.length ≤ 140737488355328) (hcap : xs.length ≤ c) (hlen : (Lib.join (xs.map (·.data.toList)) sep.data.toList).length ≤ 140737488355328) :
    Calls Tryd.prog 128 #[.slice (some ⟨bk, o, none⟩) xs.length c, .string sep] w fun e w' => e = .returned (.string ⟨(Lib.join (xs.map (·.data.toList)) sep.data.toList).toArray⟩) ∧ Below w.heap.size w w' := Any.strings_Join shl156 shlB156 bk o c xs sep w hcells hbk hN hcap hlen

set_option maxRecDepth 100000 in
theorem sAirAt_f (h v : Nat) (hv : v < 4294967296) (hq : airB h v = false) (w : World) (g o : Nat) (c0 : w.cell? ⟨g, o, none⟩ = some (.float .f32 h)) (c1 : w.cell? ⟨g, o + 1, none⟩ = some (.float .f32 v)) :
    Calls Tryd.prog 99 #[.pointer (some ⟨g, o, none⟩)] w fun e w' => e = .returned (.bool false) ∧ Below w.heap.size w w' := by
  have Hv := hid hv
  have e1 : airB h v = (heatB h && amtB v && vapB v) := rfl
  rw [e1] at hq
  clear hv e1
  rcases a : heatB h with _ | _
  · have Ha := hid a
    clear a hq
    go_enter Tryd.func99, Tryd.ntmps99
    go_wp2_with fail
    refine (sHeat h false Ha.out _).mono ?_
    rintro e w1 ⟨rfl, rfl⟩
    go_wp2
    go_ret
    exact ⟨rfl, Below.refl _ _⟩
  · have Ha := hid a
    rw [a] at hq
    clear a
    rcases b : amtB v with _ | _
    · have Hb := hid b
      clear b hq
      go_enter Tryd.func99, Tryd.ntmps99
      go_wp2_with fail
      refine (sHeat h true Ha.out _).mono ?_
      rintro e w1 ⟨rfl, rfl⟩
      go_wp2_with fail
      refine (sAmount_f v Hv.out Hb.out _).mono ?_
      rintro e w1 ⟨rfl, hb1⟩
      go_wp2
      go_ret
      exact ⟨rfl, hb1⟩
    · have Hb := hid b
      rw [b] at hq
      simp only [Bool.true_and] at hq
      have hc : (FloatKind.f32.format.order v 1148846080 == some .lt || FloatKind.f32.format.order v 1148846080 == some .eq) = false := hq
      clear b hq
      go_enter Tryd.func99, Tryd.ntmps99
      go_wp2_with fail
      refine (sHeat h true Ha.out _).mono ?_
      rintro e w1 ⟨rfl, rfl⟩
      go_wp2_with fail
      refine (sAmount_t v Hb.out _).mono ?_
      rintro e w1 ⟨rfl, rfl⟩
      go_wp2
      go_ret
      exact ⟨rfl, Below.refl _ _⟩

set_option maxRecDepth 100000 in
theorem sAirAt_t (h v : Nat) (hq : airB h v = true) (w : World) (g o : Nat) (c0 : w.cell? ⟨g, o, none⟩ = some (.float .f32 h)) (c1 : w.cell? ⟨g, o + 1, none⟩ = some (.float .f32 v)) :
    Calls Tryd.prog 99 #[.pointer (some ⟨g, o, none⟩)] w fun e w' => e = .returned (.bool true) ∧ w = w' := by
  obtain ⟨a, b, c⟩ := airB_iff.1 hq
  have hc : (FloatKind.f32.format.order v 1148846080 == some .lt || FloatKind.f32.format.order v 1148846080 == some .eq) = true := c
  have Ha := hid a
  have Hb := hid b
  clear a b c hq
  go_enter Tryd.func99, Tryd.ntmps99
  go_wp2_with fail
  refine (sHeat h true Ha.out _).mono ?_
  rintro e w1 ⟨rfl, rfl⟩
  go_wp2_with fail
  refine (sAmount_t v Hb.out _).mono ?_
  rintro e w1 ⟨rfl, rfl⟩
  go_wp2
  go_ret
  exact ⟨rfl, rfl⟩

theorem sAirAt (h v : Nat) (hv : v < 4294967296) (q : Bool) (hq : airB h v = q) (w : World) (g o : Nat) (c0 : w.cell? ⟨g, o, none⟩ = some (.float .f32 h)) (c1 : w.cell? ⟨g, o + 1, none⟩ = some (.float .f32 v)) :
    Calls Tryd.prog 99 #[.pointer (some ⟨g, o, none⟩)] w fun e w' => e = .returned (.bool q) ∧ Below w.heap.size w w' := by
  cases q
  · exact sAirAt_f h v hv hq w g o c0 c1
  · exact loose (sAirAt_t h v hq w g o c0 c1)

theorem info_f1 : (Tryd.prog.info? 22).map (·.size) = some 1 := by kernel_rfl

/-- The text of the first n numbers. -/
def txR (c : Nat → Nat) (n : Nat) : ByteArray := rowB (fun i => txN (c i)) n

theorem txR_size (c : Nat → Nat) (n : Nat) : (txR c n).size ≤ 9 * n := rowB_size (fun i => txN_size (c i)) n

theorem txR_zero (c : Nat → Nat) {k : Nat} (h : k = 0) : txR c k = ⟨#[]⟩ := by subst h; rfl

theorem txR_one (c : Nat → Nat) : txR c 1 = ⟨#[]⟩ ++ txN (c 0) := rfl

theorem txR_more (c : Nat → Nat) {n : Nat} (h : 0 < n) : txR c (n + 1) = (txR c n ++ ⟨#[32]⟩) ++ txN (c n) := by
  show (if n = 0 then _ else _) = _
  rw [if_neg (by omega)]; rfl

set_option maxRecDepth 100000 in
set_option maxHeartbeats 1000000 in
theorem sRow (s : Value) (n : Nat) (c : Nat → Nat) (hc : ∀ i, i < n → c i < 4294967296) (w : World) (hs : RdV w s n (flV c)) (hn : n ≤ 1000) :
    Calls Tryd.prog 159 #[s] w fun e w' => e = .returned (.string (txR c n)) ∧ Below w.heap.size w w' := by
  obtain ⟨p, cap, rfl, hcl⟩ := hs
  have HC := hid hc
  have HN := hid hn
  have HS := hid hcl
  clear hc hcl hn
  go_enter Tryd.func159, Tryd.ntmps159
  go_wp2_with fail
  go_loopw [3, 4] (fun v i wr => ∃ k : Nat, k ≤ n ∧ v = .string (txR c k) ∧ i = .int .i64 (k : Int) ∧ Hid (Below w.heap.size w wr)) (fun _ i _ => n - (intOf i).toNat)
  case atStart => exact ⟨0, by omega, rfl, rfl, hid (Below.refl _ _)⟩
  case round =>
    obtain ⟨k, hk, rfl, rfl, hb⟩ := hrel
    by_cases hlt : k < n
    · have HL := hid hlt
      have hk3 : (k : Int) < (n : Int) := by omega
      obtain ⟨b, o, rfl, hcell⟩ := HS.out (by omega)
      have c0 : wr.cell? ⟨b, o + k, none⟩ = some (.float .f32 (c k)) := by have h9 := hcell k hlt; rw [hb.out.cell (block_lt_of_cell h9)]; exact h9
      have i1 := fun w => run_indexAt (P := Tryd.prog) (t := 91) (e := 22) Tryd.underlying91 info_f1 (b := b) (o := o) (n := n) (cap := cap) (k := k) hlt w
      simp only [Nat.mul_one] at i1
      have z0 := txR_size c k
      have z1 : (txR c k).size ≤ 9000 := le_9k z0 hk HN.out
      have z2 := txN_size (c k)
      have hw9 : wrap64 ((k : Int) + 1) = (k : Int) + 1 := wr_k1 hlt HN.out
      clear hcell z0
      rcases Nat.eq_zero_or_pos k with h0 | h0
      · have h03 : ¬ (0 : Int) < (k : Int) := by omega
        have HP := hid h0
        clear h0
        rw [txR_zero c HP.out]
        go_wp2_with fail
        refine (sHex (c k) (HC.out k HL.out) _).mono ?_
        rintro e w1 ⟨rfl, hb1⟩
        have b2 := stp hb.out (Nat.le_refl _) hb1
        have B2 := hid b2
        clear b2 hb1 hb
        go_wp2_with fail
        go_roundw
        case rel => exact ⟨k + 1, HL.out, by rw [HP.out]; exact congrArg Value.string (txR_one c).symm, by go_num, B2⟩
        case measure => first | exact ms_io HL.out | (rw [hw9]; exact ms_io HL.out)
      · have h03 : (0 : Int) < (k : Int) := by omega
        have hX := fun w => sHex (c k) (HC.out k HL.out) w
        have hM := hid (txR_more c h0)
        generalize txR c k = S at hM z1 ⊢
        generalize txN (c k) = T at hX hM z2
        have HX := hid hX
        clear hX h0
        go_wp2_with fail
        refine (HX.out _).mono ?_
        rintro e w1 ⟨rfl, hb1⟩
        have b2 := stp hb.out (Nat.le_refl _) hb1
        have B2 := hid b2
        clear b2 hb1 hb
        go_wp2_with fail
        go_roundw
        case rel => exact ⟨k + 1, HL.out, congrArg Value.string hM.out.symm, by go_num, B2⟩
        case measure => first | exact ms_io HL.out | (rw [hw9]; exact ms_io HL.out)
    · obtain rfl : k = n := by omega
      have hk3 : ¬ (k : Int) < (k : Int) := by omega
      go_wp2
      go_ret
      exact ⟨rfl, hb.out⟩

def txSq (q : Bool) (c : Nat → Nat) : ByteArray := if q = true then txR c 20 else ⟨#[]⟩

def szB (c : Nat → Nat) : Bool := (List.range 20).all fun i => amtB (c i)

theorem szB_t {c : Nat → Nat} (h : szB c = true) : ∀ i, i < 20 → amtB (c i) = true := fun i hi => List.all_eq_true.1 h i (List.mem_range.2 hi)

theorem szB_f {c : Nat → Nat} (h : szB c = false) : ¬ ∀ i, i < 20 → amtB (c i) = true := fun k => by
  have : szB c = true := List.all_eq_true.2 fun i hi => k i (List.mem_range.1 hi)
  rw [this] at h; cases h

theorem iOkB (c : Nat → Nat) (hc : ∀ i, i < 20 → c i < 4294967296) (q : Bool) (hq : szB c = q) (w : World) :
    Calls Tryd.prog 102 #[.agg (fls c)] w fun e w' => e = .returned (.bool q) ∧ Below w.heap.size w w' := by
  cases q
  · exact validSizes_f c hc (szB_f hq) w
  · exact validSizes_t c (szB_t hq) w

theorem infoz_str : (Tryd.prog.info? 9).map (fun i => (i.zero, i.size, i.bytes)) = some (some (.string ⟨#[]⟩), 1, 16) := by kernel_rfl

theorem info_str1 : (Tryd.prog.info? 9).map (·.size) = some 1 := by kernel_rfl

/-- The words of sizes, up to k. -/
def wdsS (c : Nat → Nat) (k : Nat) : Nat → Value := mrV (fun _ => .string ⟨#[]⟩) (fun i => .string (txN (c i))) k

theorem join_words (c : Nat → Nat) (B : Nat) (wr : World) (cs : Array Value) (h : LvV cs 20 (wdsS c 20)) (hb : wr.heap[B]? = some (.cells cs 9 (0, 0))) :
    Calls Tryd.prog 128 #[.slice (some ⟨B, 0, none⟩) 20 20, .string ⟨#[32]⟩] wr fun e w' => e = .returned (.string (txR c 20)) ∧ Below wr.heap.size wr w' := by
  have hl : ((List.range 20).map fun i => txN (c i)).length = 20 := by simp
  have hJ := shJoin B 0 20 ((List.range 20).map fun i => txN (c i)) ⟨#[32]⟩ wr (fun j x hj => ?_) (lt_of_block hb) (by rw [hl]; decide) (by rw [hl]; decide) (by rw [rowB_len]; exact Nat.le_trans (txR_size c 20) (by decide))
  · rw [hl, rowB_is] at hJ
    exact hJ
  · have hj20 : j < 20 := by
      have := (List.getElem?_eq_some_iff.1 hj).1
      simpa using this
    have hx : x = txN (c j) := by
      simp [hj20] at hj
      exact hj.symm
    rw [Nat.zero_add, h.cell hb hj20, hx]
    unfold wdsS mrV
    rw [if_pos hj20]

set_option maxRecDepth 100000 in
set_option maxHeartbeats 1000000 in
theorem iSizesText (c : Nat → Nat) (hc : ∀ i, i < 20 → c i < 4294967296) (q : Bool) (hq : szB c = q) (w : World) (ht : Tab64 w) :
    Calls Tryd.prog 78 #[.agg (fls c)] w fun e w' => e = .returned (.string (txSq q c)) ∧ Below w.heap.size w w' := by
  have k0 := hid ((Kept.nil w).push (fls c) 24)
  have HT := hid ht
  have HC := hid hc
  have HQ := hid hq
  clear ht hc hq
  go_enter Tryd.func78, Tryd.ntmps78
  go_wp2_with (refine wpList_load_row rfl 24 _ rfl (w.heap.size) rfl 24 (fls c) (0, 0) _ (k0.out.at (x := (w.heap.size, fls c, 24)) in0) Tryd.underlying24 rfl (by rw [fls_size]; exact info_arr) ?_)
  refine (iOkB c HC.out q HQ.out _).mono ?_
  rintro e w1 ⟨rfl, hb⟩
  have k1 := hid (k0.out.stay hb)
  clear k0 hb
  cases q
  · go_wp2
    go_ret
    exact ⟨rfl, k1.out.1⟩
  · obtain ⟨cs0, hv0, hmk⟩ := run_makeW (P := Tryd.prog) (t := 82) (e := 9) Tryd.underlying82 (.string ⟨#[]⟩) 16 rfl (by omega) infoz_str (n := 20) (by omega) w1
    rw [show ((20 : Nat) : Int) = 20 from rfl] at hmk
    have bs : w.heap.size < w1.heap.size := k1.out.lt (x := (w.heap.size, fls c, 24)) in0
    have k2 := hid (k1.out.push cs0 9)
    have h0 : Hid (∃ cs', LvV cs' 20 (wdsS c 0) ∧ Kept w [(w1.heap.size, cs', 9), (w.heap.size, fls c, 24)] (w1.alloc (.cells cs0 9))) := hid ⟨cs0, by unfold wdsS; rw [mrV_zero]; exact hv0, k2.out⟩
    clear hv0 k1
    go_wp2_with (refine wpList_load_row rfl 24 _ rfl (w.heap.size) rfl 24 (fls c) (0, 0) _ (k2.out.at (x := (w.heap.size, fls c, 24)) in1) Tryd.underlying24 rfl (by rw [fls_size]; exact info_arr) ?_)
    clear hmk k2
    go_loopw [11] (fun i wr => ∃ k : Nat, k ≤ 20 ∧ i = .int .i64 (k : Int) ∧ Hid (∃ cs', LvV cs' 20 (wdsS c k) ∧ Kept w [(w1.heap.size, cs', 9), (w.heap.size, fls c, 24)] wr)) (fun i _ => 20 - (intOf i).toNat)
    case atStart => exact ⟨0, by omega, rfl, h0⟩
    case round =>
      clear h0
      obtain ⟨k, hk, rfl, h1⟩ := hrel
      by_cases hlt : k < 20
      · have HL := hid hlt
        have hk3 : (k : Int) < 20 := by omega
        have hw9 := wr_k1 hlt (by omega)
        have hix : ∀ w, (Instr.index 24 (.agg (fls c)) (.int .i64 (k : Int))).run Tryd.prog w = .ok (.float .f32 (c k)) w := ix 24 Tryd.underlying24 c k hlt
        have i2 := fun w0 => run_indexAt (P := Tryd.prog) (t := 82) (e := 9) Tryd.underlying82 info_str1 (b := w1.heap.size) (o := 0) (n := 20) (cap := 20) (k := k) hlt w0
        simp only [Nat.zero_add, Nat.mul_one] at i2
        obtain ⟨cs', a1, a2⟩ := h1.out
        have A1 := hid a1
        have A2 := hid a2
        clear h1 a1 a2
        go_wp2_with fail
        refine (iNumberText (c k) (HC.out k HL.out) _ (HT.out.stay A2.out.1)).mono ?_
        rintro e w2 ⟨rfl, hb⟩
        have A3 := hid (A2.out.stay hb)
        clear A2 hb
        have tok1 : True := trivial
        go_wp2_with (have _t := tok1; clear tok1; refine store_lv1 rfl 9 _ _ rfl info_str1 w1.heap.size k (.string (txN (c k))) rfl rfl rfl rfl A3.out A1.out HL.out (Nat.le_of_lt bs) (by simp; omega) (fun w3 k3 v3 => ?_); replace k3 := hid k3; replace v3 := hid v3; clear A1 A3)
        have b3 : Hid (∃ cs', LvV cs' 20 (wdsS c (k + 1)) ∧ Kept w [(w1.heap.size, cs', 9), (w.heap.size, fls c, 24)] w3) := hid ⟨_, by have := v3.out; unfold wdsS at this; rw [mrV_step (fun _ => .string ⟨#[]⟩) (fun i => .string (txN (c i))) k] at this; exact this, k3.out⟩
        go_roundw
        case rel => exact ⟨k + 1, HL.out, by go_num, b3⟩
        case measure => first | exact ms_io HL.out | (rw [hw9]; exact ms_io HL.out)
      · obtain rfl : k = 20 := by omega
        have hk3 : ¬ ((20 : Nat) : Int) < 20 := by omega
        obtain ⟨cs', a1, a2⟩ := h1.out
        have A1 := hid a1
        have A2 := hid a2
        clear h1 a1 a2
        go_wp2_with fail
        refine (join_words c w1.heap.size _ cs' A1.out (A2.out.at (x := (w1.heap.size, cs', 9)) in0)).mono ?_
        rintro e w2 ⟨rfl, hb⟩
        have A3 := hid (A2.out.stay hb)
        clear A2 hb
        go_wp2
        go_ret
        exact ⟨rfl, A3.out.1⟩

set_option maxRecDepth 100000 in
theorem sOkAt_t (c : Nat → Nat) (h : Amts c) (w : World) (g o : Nat) (hg : ∀ k, k < 20 → w.cell? ⟨g, o + k, none⟩ = some (.float .f32 (c k))) :
    Calls Tryd.prog 95 #[.pointer (some ⟨g, o, none⟩)] w fun e w' => e = .returned (.bool true) ∧ w = w' := by
  have H := hid h
  have HG := hid hg
  clear h hg
  go_enter Tryd.func95, Tryd.ntmps95
  go_wp2
  go_loop [3] (fun i => ∃ k : Nat, k ≤ 20 ∧ i = .int .i64 k) (fun i => 20 - (intOf i).toNat)
  case atStart => exact ⟨0, by omega, rfl⟩
  case round =>
    obtain ⟨k, hk, rfl⟩ := hrel
    by_cases hlt : k < 20
    · have hcell := HG.out k hlt
      go_wp2_with (go_at_call 101; refine (sAmount_t (c k) (H.out k hlt) _).mono ?_; rintro e w' ⟨rfl, rfl⟩)
      go_round
      case rel => exact ⟨k + 1, by omega, by go_num⟩
      case measure => simp [intOf]; omega
    · go_wp2
      go_ret
      exact ⟨rfl, rfl⟩

set_option maxRecDepth 100000 in
theorem sOkAt_f (c : Nat → Nat) (hb : ∀ i, i < 20 → c i < 4294967296) (h : ¬ Amts c) (w : World) (g o : Nat) (hg : ∀ k, k < 20 → w.cell? ⟨g, o + k, none⟩ = some (.float .f32 (c k))) :
    Calls Tryd.prog 95 #[.pointer (some ⟨g, o, none⟩)] w fun e w' => e = .returned (.bool false) ∧ Below w.heap.size w w' := by
  have H := hid h
  have HB := hid hb
  have HG := hid hg
  clear h hb hg
  go_enter Tryd.func95, Tryd.ntmps95
  go_wp2
  go_loop [3] (fun i => ∃ k : Nat, k ≤ 20 ∧ Hid (∀ i, i < k → amtB (c i) = true) ∧ i = .int .i64 k) (fun i => 20 - (intOf i).toNat)
  case atStart => exact ⟨0, by omega, hid (fun i hi => by omega), rfl⟩
  case round =>
    obtain ⟨k, hk, HK, rfl⟩ := hrel
    by_cases hlt : k < 20
    · have hcell := HG.out k hlt
      rcases hac : amtB (c k) with _ | _
      · have HA := hid hac
        clear hac
        go_wp2_with (go_at_call 101; refine (sAmount_f (c k) (HB.out k hlt) HA.out _).mono ?_; rintro e w' ⟨rfl, hb⟩)
        go_ret
        exact ⟨rfl, hb⟩
      · have HA := hid hac
        clear hac
        go_wp2_with (go_at_call 101; refine (sAmount_t (c k) HA.out _).mono ?_; rintro e w' ⟨rfl, rfl⟩)
        go_round
        case rel =>
          refine ⟨k + 1, by omega, hid (fun i hi => ?_), by go_num⟩
          by_cases e : i = k
          · subst e; exact HA.out
          · exact HK.out i (by omega)
        case measure => simp [intOf]; omega
    · have hk20 : k = 20 := by omega
      exact (H.out (fun i hi => HK.out i (by omega))).elim

set_option maxHeartbeats 1000000 in
set_option maxRecDepth 100000 in
theorem sColOk (c : Nat → Nat) (t : Int) (hb : ∀ i, i < 177 → c i < 4294967296) (q : Bool) (hq : q = true ↔ ColOk c t) (w : World) (g : Nat) (T : TypeId) (hg : vAt w g 178 (clw c t) T) :
    Calls Tryd.prog 71 #[.pointer (some ⟨g, 0, none⟩)] w fun e w' => e = .returned (.bool q) ∧ Below w.heap.size w w' := by
  have HB := hid hb
  have HQ := hid hq
  have HG := hid hg
  clear hb hq hg
  go_enter Tryd.func71, Tryd.ntmps71
  go_wp2_with fail
  go_loopw [3] (fun i wr => ∃ k : Nat, k ≤ 8 ∧ i = .int .i64 k ∧ Hid (UpOk c k) ∧ Hid (vAt wr g 178 (clw c t) T) ∧ Hid (Below w.heap.size w wr)) (fun i _ => 8 - (intOf i).toNat)
  case atStart => exact ⟨0, by omega, rfl, hid (.zero c), HG, hid (Below.refl _ _)⟩
  case round =>
    obtain ⟨k, hk, rfl, HK, h0, hb⟩ := hrel
    by_cases hlt : k < 8
    · have HL := hid hlt
      have hk3 : (k : Int) < 8 := by omega
      by_cases hv : Amts (rowK c k)
      · have HV := hid hv
        clear hv
        go_wp2_with fail
        refine (sOkAt_t (rowK c k) HV.out _ g (k * 20) (h0.out.cd HL.out)).mono ?_
        rintro e w1 ⟨rfl, rfl⟩
        rcases ha : airB (heC c k) (vaC c k) with _ | _
        · have hn := no_air hlt ha HQ.out
          subst hn
          have HA := hid ha
          clear ha
          go_wp2_with fail
          refine (sAirAt (heC c k) (vaC c k) (HB.out _ (by have := HL.out; omega)) false HA.out _ g (160 + k * 2) (h0.out.ch HL.out) (h0.out.cv HL.out)).mono ?_
          rintro e w1 ⟨rfl, hb1⟩
          go_wp2
          go_ret
          exact ⟨rfl, stp hb.out (Nat.le_refl _) hb1⟩
        · have HA := hid ha
          clear ha
          go_wp2_with fail
          refine (sAirAt_t (heC c k) (vaC c k) HA.out _ g (160 + k * 2) (h0.out.ch HL.out) (h0.out.cv HL.out)).mono ?_
          rintro e w1 ⟨rfl, rfl⟩
          go_wp2
          go_roundw
          case rel => exact ⟨k + 1, by omega, by go_num, hid (HK.out.step HV.out HA.out), h0, hb⟩
          case measure => simp [intOf]; omega
      · have hn := no_sz hlt hv HQ.out
        subst hn
        have HV := hid hv
        clear hv
        go_wp2_with fail
        refine (sOkAt_f (rowK c k) (fun i hi => HB.out _ (by have := HL.out; omega)) HV.out _ g (k * 20) (h0.out.cd HL.out)).mono ?_
        rintro e w1 ⟨rfl, hb1⟩
        go_wp2
        go_ret
        exact ⟨rfl, stp hb.out (Nat.le_refl _) hb1⟩
    · obtain rfl : k = 8 := by omega
      have q0 := h0.out.cf (i := 176) (by omega)
      have q1 := h0.out.ct
      rcases ha : amtB (c 176) with _ | _
      · have hn := no_gauge ha HQ.out
        subst hn
        have HA := hid ha
        clear ha
        go_wp2_with fail
        refine (sAmount_f (c 176) (HB.out _ (by omega)) HA.out _).mono ?_
        rintro e w1 ⟨rfl, hb1⟩
        go_wp2
        go_ret
        exact ⟨rfl, stp hb.out (Nat.le_refl _) hb1⟩
      · have hi := is_col HK.out ha HQ.out
        have HI := hid hi
        have HA := hid ha
        clear ha hi
        go_wp2_with fail
        refine (sAmount_t (c 176) HA.out _).mono ?_
        rintro e w1 ⟨rfl, rfl⟩
        go_wp2_with fail
        cases q
        · refine (l00In_f t 0 1000000000 (fun x => by cases HI.out.1 x) _).mono ?_
          rintro e w1 ⟨rfl, rfl⟩
          go_wp2
          go_ret
          exact ⟨rfl, hb.out⟩
        · refine (l00In_t t 0 1000000000 (HI.out.2 rfl).1 (HI.out.2 rfl).2 _).mono ?_
          rintro e w1 ⟨rfl, rfl⟩
          go_wp2
          go_ret
          exact ⟨rfl, hb.out⟩

theorem info_col : (Tryd.prog.info? 62).map (·.size) = some 178 := by kernel_rfl

set_option maxHeartbeats 1000000 in
set_option maxRecDepth 100000 in
theorem iValidColumn (c : Nat → Nat) (t : Int) (hb : ∀ i, i < 177 → c i < 4294967296) (q : Bool) (hq : q = true ↔ ColOk c t) (w : World) :
    Calls Tryd.prog 75 #[.agg (vls 178 (clw c t))] w fun e w' => e = .returned (.bool q) ∧ Below w.heap.size w w' := by
  have HB := hid hb
  have HQ := hid hq
  have A0 := hid (vAt.new w 178 (clw c t) 62)
  have b0 := boxed w (.cells (vls 178 (clw c t)) 62)
  clear hb hq
  go_enter Tryd.func75, Tryd.ntmps75
  go_wp2_with fail
  go_loopw [4] (fun i wr => ∃ k : Nat, k ≤ 8 ∧ i = .int .i64 k ∧ Hid (UpOk c k) ∧ Hid (vAt wr w.heap.size 178 (clw c t) 62) ∧ Hid (Below w.heap.size w wr)) (fun i _ => 8 - (intOf i).toNat)
  case atStart => exact ⟨0, by omega, rfl, hid (.zero c), A0, hid b0⟩
  case round =>
    clear A0 b0
    obtain ⟨k, hk, rfl, HK, h0, hb⟩ := hrel
    by_cases hlt : k < 8
    · have HL := hid hlt
      have hk3 : (k : Int) < 8 := by omega
      by_cases hv : Amts (rowK c k)
      · have HV := hid hv
        clear hv
        go_wp2_with (refine wpList_load_as (by rfl) 24 _ (by rfl) (w.heap.size) (k * 20) (by rfl) 178 (clw c t) 62 h0.out 20 (by omega) (fls (rowK c k)) (dr_is c t k HL.out) _ Tryd.underlying24 (by rfl) info_arr ?_)
        refine (validSizes_t (rowK c k) HV.out _).mono ?_
        rintro e w1 ⟨rfl, hb1⟩
        have h0 := hid (h0.out.stay hb1)
        have hb := hid (stp hb.out (Nat.le_refl _) hb1)
        rcases ha : airB (heC c k) (vaC c k) with _ | _
        · have hn := no_air hlt ha HQ.out
          subst hn
          have HA := hid ha
          clear ha
          go_wp2_with (refine wpList_load_as (by rfl) 30 _ (by rfl) (w.heap.size) (160 + k * 2) (by rfl) 178 (clw c t) 62 h0.out 2 (by omega) #[.float .f32 (heC c k), .float .f32 (vaC c k)] (part_air c t HL.out) _ Tryd.underlying30 (by rfl) info_air ?_)
          refine (iValidAir (heC c k) (vaC c k) (HB.out _ (by have := HL.out; omega)) false HA.out _).mono ?_
          rintro e w2 ⟨rfl, hb2⟩
          go_wp2
          go_ret
          exact ⟨rfl, stp hb.out (Nat.le_refl _) hb2⟩
        · have HA := hid ha
          clear ha
          go_wp2_with (refine wpList_load_as (by rfl) 30 _ (by rfl) (w.heap.size) (160 + k * 2) (by rfl) 178 (clw c t) 62 h0.out 2 (by omega) #[.float .f32 (heC c k), .float .f32 (vaC c k)] (part_air c t HL.out) _ Tryd.underlying30 (by rfl) info_air ?_)
          refine (iValidAir (heC c k) (vaC c k) (HB.out _ (by have := HL.out; omega)) true HA.out _).mono ?_
          rintro e w2 ⟨rfl, hb2⟩
          have h0 := hid (h0.out.stay hb2)
          have hb := hid (stp hb.out (Nat.le_refl _) hb2)
          go_wp2
          go_roundw
          case rel => exact ⟨k + 1, by omega, by go_num, hid (HK.out.step HV.out HA.out), h0, hb⟩
          case measure => simp [intOf]; omega
      · have hn := no_sz hlt hv HQ.out
        subst hn
        have HV := hid hv
        clear hv
        go_wp2_with (refine wpList_load_as (by rfl) 24 _ (by rfl) (w.heap.size) (k * 20) (by rfl) 178 (clw c t) 62 h0.out 20 (by omega) (fls (rowK c k)) (dr_is c t k HL.out) _ Tryd.underlying24 (by rfl) info_arr ?_)
        refine (validSizes_f (rowK c k) (fun i hi => HB.out _ (by have := HL.out; omega)) HV.out _).mono ?_
        rintro e w1 ⟨rfl, hb1⟩
        go_wp2
        go_ret
        exact ⟨rfl, stp hb.out (Nat.le_refl _) hb1⟩
    · obtain rfl : k = 8 := by omega
      have q0 := h0.out.cf (i := 176) (by omega)
      have q1 := h0.out.ct
      rcases ha : amtB (c 176) with _ | _
      · have hn := no_gauge ha HQ.out
        subst hn
        have HA := hid ha
        clear ha
        go_wp2_with fail
        refine (isAmount_f (c 176) (HB.out _ (by omega)) HA.out _).mono ?_
        rintro e w1 ⟨rfl, hb1⟩
        go_wp2
        go_ret
        exact ⟨rfl, stp hb.out (Nat.le_refl _) hb1⟩
      · have hi := is_col HK.out ha HQ.out
        have HI := hid hi
        have HA := hid ha
        clear ha hi
        go_wp2_with fail
        refine (isAmount_t (c 176) HA.out _).mono ?_
        rintro e w1 ⟨rfl, rfl⟩
        by_cases h1 : 0 ≤ t
        · by_cases h2 : t ≤ 1000000000
          · have hqt : q = true := HI.out.1 ⟨h1, h2⟩
            subst hqt
            go_wp2_with fail
            go_ret
            exact ⟨by simp, hb.out⟩
          · have hqt : q = false := by rw [← Bool.not_eq_true]; exact fun x => h2 (HI.out.2 x).2
            subst hqt
            go_wp2_with fail
            go_ret
            exact ⟨by simp [h2], hb.out⟩
        · have hqt : q = false := by rw [← Bool.not_eq_true]; exact fun x => h1 (HI.out.2 x).1
          subst hqt
          go_wp2_with fail
          go_ret
          exact ⟨by simp, hb.out⟩

/-- A digit's byte. -/
def bt (m : Nat) : UInt8 := UInt8.ofNat (48 + m)

theorem bt_nat {m : Nat} (h : m < 10) : ((bt m).toNat : Int) = 48 + (m : Int) := by
  unfold bt
  rw [UInt8.toNat_ofNat_of_lt' (show 48 + m < UInt8.size by have : UInt8.size = 256 := rfl; omega)]; omega

/-- A whole number's digits as a text. -/
def dcT (n : Nat) : ByteArray := ⟨(Go.Lib.decDigits n).toArray⟩

theorem dcT_small {n : Nat} (h : n < 10) : dcT n = ⟨#[bt n]⟩ := by unfold dcT; rw [Go.Lib.decDigits_one h]; rfl

theorem dcT_big {n : Nat} (h : ¬ n < 10) : dcT n = dcT (n / 10) ++ ⟨#[bt (n % 10)]⟩ := by
  unfold dcT bt
  rw [Go.Lib.decDigits, dif_neg h]
  apply ByteArray.ext
  rw [ByteArray.data_append]
  simp

theorem u8_w {r : Nat} (h : r < 10) : IntKind.u8.wrap (48 + (r : Int)) = 48 + (r : Int) := by
  have hx : r = 0 ∨ r = 1 ∨ r = 2 ∨ r = 3 ∨ r = 4 ∨ r = 5 ∨ r = 6 ∨ r = 7 ∨ r = 8 ∨ r = 9 := by omega
  rcases hx with rfl | rfl | rfl | rfl | rfl | rfl | rfl | rfl | rfl | rfl <;> rfl

/-- One byte's slice as a text. -/
theorem conv_one {m : Nat} (h : m < 10) (w : World) (b : Nat) (hb : w.heap[b]? = some (.cells #[.int .u8 (48 + (m : Int))] 5 (0, 0))) :
    (convert 39 9 (.slice (some ⟨b, 0, none⟩) 1 1)).run Tryd.prog w = .ok (.string ⟨#[bt m]⟩) w := by
  have h2 := run_convert_bytes_back (P := Tryd.prog) w 39 9 5 ⟨b, 0, none⟩ 1 [bt m] Tryd.underlying39 Tryd.underlying5 Tryd.underlying9 (fun j hj => by
    have : j = 0 := by simp at hj; omega
    subst this
    simp only [List.getElem_cons_zero, bt_nat h]
    exact (cell_of_row _ _ 0 _ _ _ hb).trans rfl)
  exact h2

theorem dcT_le (n : Nat) (h : n < 9223372036854775808) : (dcT n).size ≤ 21 := by
  have h2 := Go.Lib.itoa_length_le (n : Int) (by omega) (by omega)
  rw [Go.Lib.itoa_nonneg] at h2
  exact h2

set_option maxRecDepth 100000 in
theorem sDecimal_1 (n : Nat) (h : n < 10) (w : World) :
    Calls Tryd.prog 83 #[.int .i64 (n : Int)] w fun e w' => e = .returned (.string (dcT n)) ∧ Below w.heap.size w w' := by
  rw [dcT_small h]
  have hcv := conv_one h (w.alloc (.cells #[.int .u8 (48 + (n : Int))] 5)) w.heap.size (heap_alloc_new _ _)
  have k0 := hid ((Below.refl w.heap.size w).alloc (Nat.le_refl _) (.cells #[.int .u8 (48 + (n : Int))] 5))
  go_enter Tryd.func83, Tryd.ntmps83
  go_wp2
  go_ret
  exact ⟨rfl, k0.out⟩

set_option maxRecDepth 100000 in
theorem sDecimal_2 (n : Nat) (h : ¬ n < 10) (hn : n < 9223372036854775808) (w : World)
    (IH : Hid (∀ w, Calls Tryd.prog 83 #[.int .i64 ((n / 10 : Nat) : Int)] w fun e w' => e = .returned (.string (dcT (n / 10))) ∧ Below w.heap.size w w')) :
    Calls Tryd.prog 83 #[.int .i64 (n : Int)] w fun e w' => e = .returned (.string (dcT n)) ∧ Below w.heap.size w w' := by
  rw [dcT_big h]
  have hm : n % 10 < 10 := Nat.mod_lt _ (by decide)
  generalize hq : n / 10 = q at IH ⊢
  generalize hr : n % 10 = r at hm ⊢
  go_enter Tryd.func83, Tryd.ntmps83
  go_wp2_with fail
  have kd := hid ((Kept.nil w).drew)
  have HR := hid hm
  have hq1 : (n : Int).tdiv 10 = (q : Int) := by rw [← hq]; rfl
  have hr1 : (n : Int).tmod 10 = (r : Int) := by rw [← hr]; rfl
  have hw1 : IntKind.i64.wrap (q : Int) = (q : Int) := by rw [IntKind.wrap_i64]; omega
  have hw2 : IntKind.i64.wrap (48 + (r : Int)) = 48 + (r : Int) := by rw [IntKind.wrap_i64]; omega
  have hw3 : IntKind.u8.wrap (48 + (r : Int)) = 48 + (r : Int) := u8_w hm
  refine region_free (listed := #[false, false, false, false, false, false, false, false, false, false, false]) 11 (by kernel_rfl) rfl rfl ?_
  generalize w.drew = w2 at kd ⊢
  refine takeP_val (by intro c a d v w h; cases d <;> exact h) 0 (.int .i64 (n : Int)) rfl (by rfl) (by kernel_rfl) (by kernel_rfl) (by kernel_rfl) (fun w => by rfl) trivial ?_
  simp only [Act.put, List.setIfInBounds_toArray, List.set_cons_zero, List.set_cons_succ]
  refine takeP_val (by intro c a d v w h; cases d <;> exact h) 1 (.int .i64 (q : Int)) rfl (by rfl) (by kernel_rfl) (by kernel_rfl) (by kernel_rfl) (fun w => by unfold execOp; go_simp) trivial ?_
  simp only [Act.put, List.setIfInBounds_toArray, List.set_cons_zero, List.set_cons_succ]
  refine takeP_val (by intro c a d v w h; cases d <;> exact h) 3 (.int .i64 (n : Int)) rfl (by rfl) (by kernel_rfl) (by kernel_rfl) (by kernel_rfl) (fun w => by rfl) trivial ?_
  simp only [Act.put, List.setIfInBounds_toArray, List.set_cons_zero, List.set_cons_succ]
  refine takeP_val (by intro c a d v w h; cases d <;> exact h) 4 (.int .i64 (r : Int)) rfl (by rfl) (by kernel_rfl) (by kernel_rfl) (by kernel_rfl) (fun w => by unfold execOp; go_simp) trivial ?_
  simp only [Act.put, List.setIfInBounds_toArray, List.set_cons_zero, List.set_cons_succ]
  refine takeP_val (by intro c a d v w h; cases d <;> exact h) 5 (.int .i64 (48 + (r : Int))) rfl (by rfl) (by kernel_rfl) (by kernel_rfl) (by kernel_rfl) (fun w => by unfold execOp; go_simp) trivial ?_
  simp only [Act.put, List.setIfInBounds_toArray, List.set_cons_zero, List.set_cons_succ]
  refine takeP_val (by intro c a d v w h; cases d <;> exact h) 6 (.int .u8 (48 + (r : Int))) rfl (by rfl) (by kernel_rfl) (by kernel_rfl) (by kernel_rfl) (fun w => by unfold execOp; go_simp) trivial ?_
  simp only [Act.put, List.setIfInBounds_toArray, List.set_cons_zero, List.set_cons_succ]
  clear hq1 hr1 hw1 hw2 hw3
  refine wpAnyH_ready (rs := [2, 7]) (by kernel_rfl) (by simp) ?_
  refine callK 2 _ _ (.string (dcT q)) kd.out rfl (by rfl) 83 #[.int .i64 (q : Int)] (fun w => by unfold execOp; go_simp) rfl rfl (IH.out _) (fun w3 k3 => ⟨trivial, ?_⟩) ?_
  · refine wpAnyH_ready (rs := [7]) (by kernel_rfl) (by simp) ?_
    refine valQ 7 _ (.slice (some ⟨w3.heap.size, 0, none⟩) 1 1) (w3.alloc (.cells #[.int .u8 (48 + (r : Int))] 5)) rfl (by rfl) (by unfold execOp; go_simp) rfl ⟨trivial, ?_⟩ AllReadyH.nil
    have k4 := hid (k3.push #[.int .u8 (48 + (r : Int))] 5)
    simp only [Act.put, List.setIfInBounds_toArray, List.set_cons_zero, List.set_cons_succ]
    generalize hb : w3.heap.size = b
    rw [hb] at k4
    generalize w3.alloc (.cells #[.int .u8 (48 + (r : Int))] 5) = w4 at k4 ⊢
    refine wpAnyH_ready (rs := [8]) (by kernel_rfl) (by simp) ?_
    refine valQ 8 _ (.string ⟨#[bt r]⟩) w4 rfl (by rfl) (by have hcv := conv_one HR.out w4 b (k4.out.at (x := (b, #[.int .u8 (48 + (r : Int))], 5)) in0); unfold execOp; go_simp) rfl ⟨trivial, ?_⟩ AllReadyH.nil
    simp only [Act.put, List.setIfInBounds_toArray, List.set_cons_zero, List.set_cons_succ]
    refine takeP_val (by intro c a d v w h; cases d <;> exact h) 9 (.string (dcT q ++ ⟨#[bt r]⟩)) rfl (by rfl) (by kernel_rfl) (by kernel_rfl) (by kernel_rfl) (fun w => by have hz := dcT_le q (by omega); unfold execOp; go_simp; first | done | omega) trivial ?_
    simp only [Act.put, List.setIfInBounds_toArray, List.set_cons_zero, List.set_cons_succ]
    refine takeP_val (by intro c a d v w h; cases d <;> exact h) 10 (.string (dcT q ++ ⟨#[bt r]⟩)) rfl (by rfl) (by kernel_rfl) (by kernel_rfl) (by kernel_rfl) (fun w => by unfold execOp; go_simp) trivial ?_
    simp only [Act.put, List.setIfInBounds_toArray, List.set_cons_zero, List.set_cons_succ]
    refine wpAnyH_done (by kernel_rfl) ?_ _
    go_wp2_with fail
    go_ret
    exact ⟨rfl, k4.out.1⟩
  · refine valQ 7 _ (.slice (some ⟨w2.heap.size, 0, none⟩) 1 1) (w2.alloc (.cells #[.int .u8 (48 + (r : Int))] 5)) rfl (by rfl) (by unfold execOp; go_simp) rfl ⟨trivial, ?_⟩ AllReadyH.nil
    have k3 := hid (kd.out.push #[.int .u8 (48 + (r : Int))] 5)
    simp only [Act.put, List.setIfInBounds_toArray, List.set_cons_zero, List.set_cons_succ]
    generalize hb : w2.heap.size = b
    rw [hb] at k3
    generalize w2.alloc (.cells #[.int .u8 (48 + (r : Int))] 5) = w4 at k3 ⊢
    refine wpAnyH_ready (rs := [2, 8]) (by kernel_rfl) (by simp) ?_
    refine callK 2 _ _ (.string (dcT q)) k3.out rfl (by rfl) 83 #[.int .i64 (q : Int)] (fun w => by unfold execOp; go_simp) rfl rfl (IH.out _) (fun w5 k5 => ⟨trivial, ?_⟩) ?_
    · refine wpAnyH_ready (rs := [8]) (by kernel_rfl) (by simp) ?_
      refine valQ 8 _ (.string ⟨#[bt r]⟩) w5 rfl (by rfl) (by have hcv := conv_one HR.out w5 b (k5.at (x := (b, #[.int .u8 (48 + (r : Int))], 5)) in0); unfold execOp; go_simp) rfl ⟨trivial, ?_⟩ AllReadyH.nil
      simp only [Act.put, List.setIfInBounds_toArray, List.set_cons_zero, List.set_cons_succ]
      refine takeP_val (by intro c a d v w h; cases d <;> exact h) 9 (.string (dcT q ++ ⟨#[bt r]⟩)) rfl (by rfl) (by kernel_rfl) (by kernel_rfl) (by kernel_rfl) (fun w => by have hz := dcT_le q (by omega); unfold execOp; go_simp; first | done | omega) trivial ?_
      simp only [Act.put, List.setIfInBounds_toArray, List.set_cons_zero, List.set_cons_succ]
      refine takeP_val (by intro c a d v w h; cases d <;> exact h) 10 (.string (dcT q ++ ⟨#[bt r]⟩)) rfl (by rfl) (by kernel_rfl) (by kernel_rfl) (by kernel_rfl) (fun w => by unfold execOp; go_simp) trivial ?_
      simp only [Act.put, List.setIfInBounds_toArray, List.set_cons_zero, List.set_cons_succ]
      refine wpAnyH_done (by kernel_rfl) ?_ _
      go_wp2_with fail
      go_ret
      exact ⟨rfl, (hid k5).out.1⟩
    · refine valQ 8 _ (.string ⟨#[bt r]⟩) w4 rfl (by rfl) (by have hcv := conv_one HR.out w4 b (k3.out.at (x := (b, #[.int .u8 (48 + (r : Int))], 5)) in0); unfold execOp; go_simp) rfl ⟨trivial, ?_⟩ AllReadyH.nil
      refine wpAnyH_ready (rs := [2]) (by kernel_rfl) (by simp) ?_
      refine callK 2 _ _ (.string (dcT q)) k3.out rfl (by rfl) 83 #[.int .i64 (q : Int)] (fun w => by unfold execOp; go_simp) rfl rfl (IH.out _) (fun w6 k6 => ⟨trivial, ?_⟩) AllReadyH.nil
      simp only [Act.put, List.setIfInBounds_toArray, List.set_cons_zero, List.set_cons_succ]
      refine takeP_val (by intro c a d v w h; cases d <;> exact h) 9 (.string (dcT q ++ ⟨#[bt r]⟩)) rfl (by rfl) (by kernel_rfl) (by kernel_rfl) (by kernel_rfl) (fun w => by have hz := dcT_le q (by omega); unfold execOp; go_simp; first | done | omega) trivial ?_
      simp only [Act.put, List.setIfInBounds_toArray, List.set_cons_zero, List.set_cons_succ]
      refine takeP_val (by intro c a d v w h; cases d <;> exact h) 10 (.string (dcT q ++ ⟨#[bt r]⟩)) rfl (by rfl) (by kernel_rfl) (by kernel_rfl) (by kernel_rfl) (fun w => by unfold execOp; go_simp) trivial ?_
      simp only [Act.put, List.setIfInBounds_toArray, List.set_cons_zero, List.set_cons_succ]
      refine wpAnyH_done (by kernel_rfl) ?_ _
      go_wp2_with fail
      go_ret
      exact ⟨rfl, (hid k6).out.1⟩

theorem sDecimal (n : Nat) (hn : n < 9223372036854775808) : ∀ w : World, Calls Tryd.prog 83 #[.int .i64 (n : Int)] w fun e w' => e = .returned (.string (dcT n)) ∧ Below w.heap.size w w' := by
  induction n using Nat.strongRecOn with
  | _ n ih =>
    intro w
    by_cases h : n < 10
    · exact sDecimal_1 n h w
    · exact sDecimal_2 n h hn w (hid (fun w => ih (n / 10) (by omega) (by omega) w))

def shl173_ren : Go.Shelf.Ren := ⟨fun | 129 => 173 | 173 => 77 | 246 => 127 | 283 => 151 | 284 => 152 | 285 => 153 | 286 => 154 | 317 => 172 | 318 => 174 | 319 => 175 | 320 => 176 | 337 => 188 | 338 => 189 | n => n, fun | 0 => 0 | 2 => 2 | 3 => 3 | 4 => 4 | 5 => 5 | 9 => 9 | 20 => 20 | 37 => 39 | 46 => 171 | 51 => 110 | 53 => 104 | 171 => 198 | 173 => 201 | 212 => 221 | 213 => 222 | 232 => 238 | 233 => 239 | n => n, fun | 17 => 3 | 18 => 7 | 19 => 8 | n => n⟩

theorem shl173 : Go.Proofs.LaysM.n173 Tryd.prog shl173_ren := {
  mixed := by kernel_rfl
  f129 := Tryd.func173.trans (congrArg some (by kernel_rfl))
  f173 := Tryd.func77.trans (congrArg some (by kernel_rfl))
  f246 := Tryd.func127.trans (congrArg some (by kernel_rfl))
  f283 := Tryd.func151.trans (congrArg some (by kernel_rfl))
  f284 := Tryd.func152.trans (congrArg some (by kernel_rfl))
  f285 := Tryd.func153.trans (congrArg some (by kernel_rfl))
  f286 := Tryd.func154.trans (congrArg some (by kernel_rfl))
  f317 := Tryd.func172.trans (congrArg some (by kernel_rfl))
  f318 := Tryd.func174.trans (congrArg some (by kernel_rfl))
  f319 := Tryd.func175.trans (congrArg some (by kernel_rfl))
  f320 := Tryd.func176.trans (congrArg some (by kernel_rfl))
  f337 := Tryd.func188.trans (congrArg some (by kernel_rfl))
  f338 := Tryd.func189.trans (congrArg some (by kernel_rfl))
  t0 := Tryd.underlying0
  a0 := Tryd.isAgg0
  z0 := Tryd.sizeOf0
  v0 := Tryd.zeroValue0
  t2 := Tryd.underlying2
  a2 := Tryd.isAgg2
  z2 := Tryd.sizeOf2
  v2 := Tryd.zeroValue2
  t3 := Tryd.underlying3
  a3 := Tryd.isAgg3
  z3 := Tryd.sizeOf3
  v3 := Tryd.zeroValue3
  t4 := Tryd.underlying4
  a4 := Tryd.isAgg4
  z4 := Tryd.sizeOf4
  v4 := Tryd.zeroValue4
  t5 := Tryd.underlying5
  a5 := Tryd.isAgg5
  z5 := Tryd.sizeOf5
  v5 := Tryd.zeroValue5
  t9 := Tryd.underlying9
  a9 := Tryd.isAgg9
  z9 := Tryd.sizeOf9
  v9 := Tryd.zeroValue9
  t20 := Tryd.underlying20
  a20 := Tryd.isAgg20
  z20 := Tryd.sizeOf20
  v20 := Tryd.zeroValue20
  t37 := Tryd.underlying39
  a37 := Tryd.isAgg39
  z37 := Tryd.sizeOf39
  v37 := Tryd.zeroValue39
  t46 := Tryd.underlying171
  a46 := Tryd.isAgg171
  z46 := Tryd.sizeOf171
  v46 := Tryd.zeroValue171
  t51 := Tryd.underlying110
  a51 := Tryd.isAgg110
  z51 := Tryd.sizeOf110
  v51 := Tryd.zeroValue110
  t53 := Tryd.underlying104
  a53 := Tryd.isAgg104
  z53 := Tryd.sizeOf104
  v53 := Tryd.zeroValue104
  t171 := Tryd.underlying198
  a171 := Tryd.isAgg198
  z171 := Tryd.sizeOf198
  v171 := Tryd.zeroValue198
  t173 := Tryd.underlying201
  a173 := Tryd.isAgg201
  z173 := Tryd.sizeOf201
  v173 := Tryd.zeroValue201
  t212 := Tryd.underlying221
  a212 := Tryd.isAgg221
  z212 := Tryd.sizeOf221
  v212 := Tryd.zeroValue221
  t213 := Tryd.underlying222
  a213 := Tryd.isAgg222
  z213 := Tryd.sizeOf222
  t232 := Tryd.underlying238
  a232 := Tryd.isAgg238
  z232 := Tryd.sizeOf238
  v232 := Tryd.zeroValue238
  t233 := Tryd.underlying239
  a233 := Tryd.isAgg239
  z233 := Tryd.sizeOf239
  v233 := Tryd.zeroValue239
  g17 := by kernel_rfl
  g18 := by kernel_rfl
  g19 := by kernel_rfl
  i0 := by kernel_rfl
  i2 := by kernel_rfl
  i3 := by kernel_rfl
  i4 := by kernel_rfl
  i5 := by kernel_rfl
  i9 := by kernel_rfl
  i20 := by kernel_rfl
  i37 := by kernel_rfl
  i46 := by kernel_rfl
  i51 := by kernel_rfl
  i53 := by kernel_rfl
  i171 := by kernel_rfl
  i173 := by kernel_rfl
  i212 := by kernel_rfl
  i232 := by kernel_rfl
  i233 := by kernel_rfl
  m17 := by kernel_rfl
  m18 := by kernel_rfl
  m19 := by kernel_rfl }

/-- The library's table of tens is as it was. -/
def TabT (W : World) : Prop := Go.Lib.TabIs Tryd.prog W "internal/strconv.uint64pow10" .u64 Go.Lib.pow10Tab

theorem TabT.on {w w' : World} (h : TabT w) (hb : Below w.heap.size w w') : TabT w' := Go.Lib.tabBelow_of_tabIs h w' hb

theorem shFormat (n : Nat) (hn : n < 9223372036854775808) (w : World) (ht : TabT w) :
    Calls Tryd.prog 77 #[.int .i64 (n : Int), .int .i64 10] w fun e w' => e = .returned (.string (dcT n)) ∧ Below w.heap.size w w' :=
  (Any.strconv_FormatInt_10 shl173 (n : Int) (by omega) (by omega) w ht).mono (by
    rintro e w' ⟨rfl, k, os, rfl⟩
    exact ⟨by rw [Go.Lib.itoa_nonneg]; rfl, Go.Lib.below_grow _ _ (Nat.le_refl _) k os⟩)

set_option maxRecDepth 100000 in
set_option maxHeartbeats 1000000 in
theorem sTextO (c : Nat → Nat) (hc : ∀ i, i < 20 → c i < 4294967296) (w : World) (g o : Nat) (hg : ∀ k, k < 20 → w.cell? ⟨g, o + k, none⟩ = some (.float .f32 (c k))) :
    Calls Tryd.prog 122 #[.pointer (some ⟨g, o, none⟩)] w fun e w' => e = .returned (.string (txR c 20)) ∧ Below w.heap.size w w' := by
  have HC := hid hc
  have HR : Hid (RdV w (.slice (some ⟨g, o, none⟩) 20 20) 20 (flV c)) := hid ⟨some ⟨g, o, none⟩, 20, rfl, fun _ => ⟨g, o, rfl, fun k hk => hg k hk⟩⟩
  have c0 : w.cell? ⟨g, o, none⟩ = some (.float .f32 (c 0)) := hg 0 (by omega)
  clear hc hg
  go_enter Tryd.func122, Tryd.ntmps122
  go_wp2_with fail
  refine (sRow _ 20 c HC.out _ HR.out (by omega)).mono ?_
  rintro e w1 ⟨rfl, hb⟩
  have HB := hid hb
  clear hb
  go_wp2
  go_ret
  exact ⟨rfl, HB.out⟩

set_option maxRecDepth 100000 in
set_option maxHeartbeats 1000000 in
theorem sAirO (h v : Nat) (hh : h < 4294967296) (hv : v < 4294967296) (w : World) (g o : Nat) (l : List (Nat × Array Value × TypeId)) (hk : Kept w l w)
    (hg : ∀ wq, Kept w l wq → wq.cell? ⟨g, o, none⟩ = some (.float .f32 h) ∧ wq.cell? ⟨g, o + 1, none⟩ = some (.float .f32 v)) :
    Calls Tryd.prog 123 #[.pointer (some ⟨g, o, none⟩)] w fun e w' => e = .returned (.string (txA h v)) ∧ Below w.heap.size w w' := by
  have k1 := hid hk
  have HG := hid hg
  have HH := hid hh
  have HV := hid hv
  clear hh hv hg hk
  have z1 := txN_size h
  have z2 := txN_size v
  go_enter Tryd.func123, Tryd.ntmps123
  go_wp2_with fail
  refine region_act (w0 := w) (lk := l) (fun a0 a1 wq => a1 = ((((((((((((((a0.put (some 3) (.pointer (some ⟨g, o, none⟩))).put (some 4) (.pointer (some ⟨g, o, none⟩))).put (some 5) (.pointer (some ⟨g, o, none⟩))).put (some 6) (.float .f32 h)).put (some 7) (.string (txN h))).put (some 8) (.string (⟨#[97, 105, 114, 32]⟩ ++ txN h))).put (some 9) (.string ((⟨#[97, 105, 114, 32]⟩ ++ txN h) ++ ⟨#[32]⟩))).put (some 10) (.pointer (some ⟨g, o, none⟩))).put (some 11) (.pointer (some ⟨g, o, none⟩))).put (some 12) (.pointer (some ⟨g, o + 1, none⟩))).put (some 13) (.float .f32 v)).put (some 14) (.string (txN v))).put (some 15) (.string (((⟨#[97, 105, 114, 32]⟩ ++ txN h) ++ ⟨#[32]⟩) ++ txN v))).put (some 2) (.string (((⟨#[97, 105, 114, 32]⟩ ++ txN h) ++ ⟨#[32]⟩) ++ txN v))) ∧ Kept w l wq) 14 #[false, false, false, false, false, false, false, false, false, false, false, false, false, false] (by kernel_rfl) rfl rfl ?_ ?_
  · have kd := k1.out.drew
    clear k1
    generalize World.drew _ = wd at kd ⊢
    refine take_val 0 _ _ (.pointer (some ⟨g, o, none⟩)) rfl (by rfl) (by kernel_rfl) (by kernel_rfl) (by kernel_rfl) (fun w => by rfl) rfl rfl kd ?_
    simp only [Act.put, List.setIfInBounds_toArray, List.set_cons_zero, List.set_cons_succ]
    refine take_val 1 _ _ (.pointer (some ⟨g, o, none⟩)) rfl (by rfl) (by kernel_rfl) (by kernel_rfl) (by kernel_rfl) (fun w => by unfold execOp; go_simp) rfl rfl kd ?_
    simp only [Act.put, List.setIfInBounds_toArray, List.set_cons_zero, List.set_cons_succ]
    refine take_val 2 _ _ (.pointer (some ⟨g, o, none⟩)) rfl (by rfl) (by kernel_rfl) (by kernel_rfl) (by kernel_rfl) (fun w => by unfold execOp; go_simp) rfl rfl kd ?_
    simp only [Act.put, List.setIfInBounds_toArray, List.set_cons_zero, List.set_cons_succ]
    refine take_cell 3 _ _ (.float .f32 h) rfl (by rfl) (by kernel_rfl) (by kernel_rfl) (by kernel_rfl) (fun wq hS => by have hcell := (HG.out wq hS).1; clear hS; unfold execOp; go_simp) rfl rfl kd ?_
    simp only [Act.put, List.setIfInBounds_toArray, List.set_cons_zero, List.set_cons_succ]
    refine take_val 7 _ _ (.pointer (some ⟨g, o, none⟩)) rfl (by rfl) (by kernel_rfl) (by kernel_rfl) (by kernel_rfl) (fun w => by rfl) rfl rfl kd ?_
    simp only [Act.put, List.setIfInBounds_toArray, List.set_cons_zero, List.set_cons_succ]
    refine take_val 8 _ _ (.pointer (some ⟨g, o, none⟩)) rfl (by rfl) (by kernel_rfl) (by kernel_rfl) (by kernel_rfl) (fun w => by unfold execOp; go_simp) rfl rfl kd ?_
    simp only [Act.put, List.setIfInBounds_toArray, List.set_cons_zero, List.set_cons_succ]
    refine take_val 9 _ _ (.pointer (some ⟨g, o + 1, none⟩)) rfl (by rfl) (by kernel_rfl) (by kernel_rfl) (by kernel_rfl) (fun w => by unfold execOp; go_simp) rfl rfl kd ?_
    simp only [Act.put, List.setIfInBounds_toArray, List.set_cons_zero, List.set_cons_succ]
    refine take_cell 10 _ _ (.float .f32 v) rfl (by rfl) (by kernel_rfl) (by kernel_rfl) (by kernel_rfl) (fun wq hS => by have hcell := (HG.out wq hS).2; clear hS; unfold execOp; go_simp) rfl rfl kd ?_
    simp only [Act.put, List.setIfInBounds_toArray, List.set_cons_zero, List.set_cons_succ]
    refine wpAnyH_ready (rs := [4]) (by kernel_rfl) (by simp) ?_
    refine callK 4 _ _ (.string (txN h)) kd rfl (by rfl) 121 #[.float .f32 h] (fun w => by unfold execOp; go_simp) rfl rfl ?hc1 (fun w101 k101 => ?_) AllReadyH.nil
    case hc1 => exact sHex h HH.out _
    refine ⟨k101, ?_⟩
    simp only [Act.put, List.setIfInBounds_toArray, List.set_cons_zero, List.set_cons_succ]
    refine take_val 5 _ _ (.string (⟨#[97, 105, 114, 32]⟩ ++ txN h)) rfl (by rfl) (by kernel_rfl) (by kernel_rfl) (by kernel_rfl) (fun w => by unfold execOp; go_simp) rfl rfl k101 ?_
    simp only [Act.put, List.setIfInBounds_toArray, List.set_cons_zero, List.set_cons_succ]
    refine take_val 6 _ _ (.string ((⟨#[97, 105, 114, 32]⟩ ++ txN h) ++ ⟨#[32]⟩)) rfl (by rfl) (by kernel_rfl) (by kernel_rfl) (by kernel_rfl) (fun w => by unfold execOp; go_simp) rfl rfl k101 ?_
    simp only [Act.put, List.setIfInBounds_toArray, List.set_cons_zero, List.set_cons_succ]
    refine wpAnyH_ready (rs := [11]) (by kernel_rfl) (by simp) ?_
    refine callK 11 _ _ (.string (txN v)) k101 rfl (by rfl) 121 #[.float .f32 v] (fun w => by unfold execOp; go_simp) rfl rfl ?hc2 (fun w102 k102 => ?_) AllReadyH.nil
    case hc2 => exact sHex v HV.out _
    refine ⟨k102, ?_⟩
    simp only [Act.put, List.setIfInBounds_toArray, List.set_cons_zero, List.set_cons_succ]
    refine take_val 12 _ _ (.string (((⟨#[97, 105, 114, 32]⟩ ++ txN h) ++ ⟨#[32]⟩) ++ txN v)) rfl (by rfl) (by kernel_rfl) (by kernel_rfl) (by kernel_rfl) (fun w => by unfold execOp; go_simp) rfl rfl k102 ?_
    simp only [Act.put, List.setIfInBounds_toArray, List.set_cons_zero, List.set_cons_succ]
    refine take_val 13 _ _ (.string (((⟨#[97, 105, 114, 32]⟩ ++ txN h) ++ ⟨#[32]⟩) ++ txN v)) rfl (by rfl) (by kernel_rfl) (by kernel_rfl) (by kernel_rfl) (fun w => by rfl) rfl rfl k102 ?_
    simp only [Act.put, List.setIfInBounds_toArray, List.set_cons_zero, List.set_cons_succ]
    refine wpAnyH_done (by kernel_rfl) ?_ _
    exact ⟨rfl, rfl, k102⟩
  rintro a1 wz ⟨rfl, kz⟩
  replace kz := hid kz
  simp only [Act.put, List.setIfInBounds_toArray, List.set_cons_zero, List.set_cons_succ]
  go_wp2_with fail
  go_ret
  exact ⟨rfl, kz.out.1⟩

/-- The first line of a column's text. -/
def hdC (c : Nat → Nat) (n : Nat) : ByteArray := (((⟨#[99, 111, 108, 117, 109, 110, 32]⟩ ++ txN (c 176)) ++ ⟨#[32]⟩) ++ dcT n) ++ ⟨#[10]⟩

/-- The lines of a cell. -/
def lnC (c : Nat → Nat) (k : Nat) : ByteArray := ((txR (rowK c k) 20 ++ ⟨#[10]⟩) ++ txA (heC c k) (vaC c k)) ++ ⟨#[10]⟩

/-- A column's text as far as cell k. -/
def txC (c : Nat → Nat) (n : Nat) : Nat → ByteArray
  | 0 => hdC c n
  | k + 1 => txC c n k ++ lnC c k

theorem nl_size : (⟨#[10]⟩ : ByteArray).size = 1 := rfl

theorem bl_size : (⟨#[32]⟩ : ByteArray).size = 1 := rfl

theorem cw_size : (⟨#[99, 111, 108, 117, 109, 110, 32]⟩ : ByteArray).size = 7 := rfl

theorem aw_size : (⟨#[97, 105, 114, 32]⟩ : ByteArray).size = 4 := rfl

theorem txA_size (h v : Nat) : (txA h v).size = 21 := by
  unfold txA
  simp only [ByteArray.size_append, txN_size, bl_size, aw_size]

theorem lnC_le (c : Nat → Nat) (k : Nat) : (lnC c k).size ≤ 203 := by
  unfold lnC
  have h := txR_size (rowK c k) 20
  simp only [ByteArray.size_append, txA_size, nl_size]
  omega

theorem hdC_le (c : Nat → Nat) {n : Nat} (hn : n < 9223372036854775808) : (hdC c n).size ≤ 38 := by
  unfold hdC
  have h := dcT_le n hn
  simp only [ByteArray.size_append, txN_size, nl_size, bl_size, cw_size]
  clear hn
  omega

theorem txC_le (c : Nat → Nat) {n : Nat} (hn : n < 9223372036854775808) (k : Nat) : (txC c n k).size ≤ 38 + k * 203 := by
  induction k with
  | zero => exact hdC_le c hn
  | succ k ih =>
    have h := lnC_le c k
    unfold txC
    rw [ByteArray.size_append]
    clear hn
    omega

theorem le_big {x : ByteArray} {m : Nat} (h : x.size ≤ m) (hm : m ≤ 4000) : x.size ≤ 9223372036854775780 := Nat.le_trans h (Nat.le_trans hm (by decide))

theorem txC_big (c : Nat → Nat) {n : Nat} (hn : n < 9223372036854775808) {k : Nat} (hk : k < 8) : (txC c n k).size ≤ 4000 := Nat.le_trans (txC_le c hn k) (by clear hn; omega)

theorem txC_next (c : Nat → Nat) (n k : Nat) : txC c n (k + 1) = txC c n k ++ (((txR (rowK c k) 20 ++ ⟨#[10]⟩) ++ txA (heC c k) (vaC c k)) ++ ⟨#[10]⟩) := rfl

theorem wr_8 {k : Nat} (h : k < 8) : wrap64 ((k : Int) + 1) = (k : Int) + 1 := by unfold wrap64; omega

set_option maxRecDepth 100000 in
set_option maxHeartbeats 2000000 in
theorem sColTxt (c : Nat → Nat) (n : Nat) (hb : ∀ i, i < 177 → c i < 4294967296) (hn : n < 9223372036854775808) (w : World) (g : Nat) (T : TypeId) (hg : vAt w g 178 (clw c (n : Int)) T) :
    Calls Tryd.prog 72 #[.pointer (some ⟨g, 0, none⟩)] w fun e w' => e = .returned (.string (txC c n 8)) ∧ Below w.heap.size w w' := by
  have k1 : Hid (Kept w [(g, vls 178 (clw c (n : Int)), T)] w) := hid (keptG hg)
  have HC := hid hb
  have HZ := hid (fun k hk => txC_big c hn (k := k) hk)
  have HX := hid (fun w => sHex (c 176) (hb 176 (by omega)) w)
  have HN := hid (fun w => sDecimal n hn w)
  have z1 := txN_size (c 176)
  have z2 : (dcT n).size ≤ 9223372036854775780 := le_big (dcT_le n hn) (by decide)
  have z3 : (⟨#[99, 111, 108, 117, 109, 110, 32]⟩ ++ txN (c 176) ++ ⟨#[32]⟩ : ByteArray).size = 16 := by simp only [ByteArray.size_append, txN_size, bl_size, cw_size]
  have z4 : 16 + (dcT n).size ≤ 9223372036854775806 := Nat.le_trans (Nat.add_le_add_left (dcT_le n hn) 16) (by decide)
  have z5 : 16 + (dcT n).size ≤ 9223372036854775807 := Nat.le_trans (Nat.add_le_add_left (dcT_le n hn) 16) (by decide)
  have HH := hid (show hdC c n = (((⟨#[99, 111, 108, 117, 109, 110, 32]⟩ ++ txN (c 176)) ++ ⟨#[32]⟩) ++ dcT n) ++ ⟨#[10]⟩ from rfl)
  clear hb hn hg
  generalize txN (c 176) = X at HX HH z1 z3
  generalize dcT n = N at HN HH z2 z4 z5
  go_enter Tryd.func72, Tryd.ntmps72
  go_wp2_with fail
  refine region_act (w0 := w) (lk := [(g, vls 178 (clw c (n : Int)), T)]) (fun a0 a1 wq => a1 = (((((((((((((((a0.put (some 5) (.pointer (some ⟨g, 0, none⟩))).put (some 6) (.pointer (some ⟨g, 0, none⟩))).put (some 7) (.pointer (some ⟨g, 176, none⟩))).put (some 8) (.float .f32 (c 176))).put (some 9) (.string X)).put (some 10) (.string (⟨#[99, 111, 108, 117, 109, 110, 32]⟩ ++ X))).put (some 11) (.string ((⟨#[99, 111, 108, 117, 109, 110, 32]⟩ ++ X) ++ ⟨#[32]⟩))).put (some 12) (.pointer (some ⟨g, 0, none⟩))).put (some 13) (.pointer (some ⟨g, 0, none⟩))).put (some 14) (.pointer (some ⟨g, 177, none⟩))).put (some 15) (.int .i64 (n : Int))).put (some 16) (.string N)).put (some 17) (.string (((⟨#[99, 111, 108, 117, 109, 110, 32]⟩ ++ X) ++ ⟨#[32]⟩) ++ N))).put (some 18) (.string ((((⟨#[99, 111, 108, 117, 109, 110, 32]⟩ ++ X) ++ ⟨#[32]⟩) ++ N) ++ ⟨#[10]⟩))).put (some 3) (.string ((((⟨#[99, 111, 108, 117, 109, 110, 32]⟩ ++ X) ++ ⟨#[32]⟩) ++ N) ++ ⟨#[10]⟩))) ∧ Kept w [(g, vls 178 (clw c (n : Int)), T)] wq) 15 #[false, false, false, false, false, false, false, false, false, false, false, false, false, false, false] (by kernel_rfl) rfl rfl ?_ ?_
  · have kd := k1.out.drew
    clear k1
    generalize World.drew _ = wd at kd ⊢
    refine take_val 0 _ _ (.pointer (some ⟨g, 0, none⟩)) rfl (by rfl) (by kernel_rfl) (by kernel_rfl) (by kernel_rfl) (fun w => by rfl) rfl rfl kd ?_
    simp only [Act.put, List.setIfInBounds_toArray, List.set_cons_zero, List.set_cons_succ]
    refine take_val 1 _ _ (.pointer (some ⟨g, 0, none⟩)) rfl (by rfl) (by kernel_rfl) (by kernel_rfl) (by kernel_rfl) (fun w => by unfold execOp; go_simp) rfl rfl kd ?_
    simp only [Act.put, List.setIfInBounds_toArray, List.set_cons_zero, List.set_cons_succ]
    refine take_val 2 _ _ (.pointer (some ⟨g, 176, none⟩)) rfl (by rfl) (by kernel_rfl) (by kernel_rfl) (by kernel_rfl) (fun w => by unfold execOp; go_simp) rfl rfl kd ?_
    simp only [Act.put, List.setIfInBounds_toArray, List.set_cons_zero, List.set_cons_succ]
    refine take_cell 3 _ _ (.float .f32 (c 176)) rfl (by rfl) (by kernel_rfl) (by kernel_rfl) (by kernel_rfl) (fun wq hS => by have hv : vAt wq g 178 (clw c (n : Int)) T := hS.v in0; have hcell := hv.cf (i := 176) (by omega); clear hv; clear hS; unfold execOp; go_simp) rfl rfl kd ?_
    simp only [Act.put, List.setIfInBounds_toArray, List.set_cons_zero, List.set_cons_succ]
    refine take_val 7 _ _ (.pointer (some ⟨g, 0, none⟩)) rfl (by rfl) (by kernel_rfl) (by kernel_rfl) (by kernel_rfl) (fun w => by rfl) rfl rfl kd ?_
    simp only [Act.put, List.setIfInBounds_toArray, List.set_cons_zero, List.set_cons_succ]
    refine take_val 8 _ _ (.pointer (some ⟨g, 0, none⟩)) rfl (by rfl) (by kernel_rfl) (by kernel_rfl) (by kernel_rfl) (fun w => by unfold execOp; go_simp) rfl rfl kd ?_
    simp only [Act.put, List.setIfInBounds_toArray, List.set_cons_zero, List.set_cons_succ]
    refine take_val 9 _ _ (.pointer (some ⟨g, 177, none⟩)) rfl (by rfl) (by kernel_rfl) (by kernel_rfl) (by kernel_rfl) (fun w => by unfold execOp; go_simp) rfl rfl kd ?_
    simp only [Act.put, List.setIfInBounds_toArray, List.set_cons_zero, List.set_cons_succ]
    refine take_cell 10 _ _ (.int .i64 (n : Int)) rfl (by rfl) (by kernel_rfl) (by kernel_rfl) (by kernel_rfl) (fun wq hS => by have hv : vAt wq g 178 (clw c (n : Int)) T := hS.v in0; have hcell := hv.ct; clear hv; clear hS; unfold execOp; go_simp) rfl rfl kd ?_
    simp only [Act.put, List.setIfInBounds_toArray, List.set_cons_zero, List.set_cons_succ]
    refine wpAnyH_ready (rs := [4]) (by kernel_rfl) (by simp) ?_
    refine callK 4 _ _ (.string X) kd rfl (by rfl) 121 #[.float .f32 (c 176)] (fun w => by unfold execOp; go_simp) rfl rfl ?hc1 (fun w101 k101 => ?_) AllReadyH.nil
    case hc1 => exact HX.out _
    refine ⟨k101, ?_⟩
    simp only [Act.put, List.setIfInBounds_toArray, List.set_cons_zero, List.set_cons_succ]
    refine take_val 5 _ _ (.string (⟨#[99, 111, 108, 117, 109, 110, 32]⟩ ++ X)) rfl (by rfl) (by kernel_rfl) (by kernel_rfl) (by kernel_rfl) (fun w => by unfold execOp; go_simp) rfl rfl k101 ?_
    simp only [Act.put, List.setIfInBounds_toArray, List.set_cons_zero, List.set_cons_succ]
    refine take_val 6 _ _ (.string ((⟨#[99, 111, 108, 117, 109, 110, 32]⟩ ++ X) ++ ⟨#[32]⟩)) rfl (by rfl) (by kernel_rfl) (by kernel_rfl) (by kernel_rfl) (fun w => by unfold execOp; go_simp) rfl rfl k101 ?_
    simp only [Act.put, List.setIfInBounds_toArray, List.set_cons_zero, List.set_cons_succ]
    refine wpAnyH_ready (rs := [11]) (by kernel_rfl) (by simp) ?_
    refine callK 11 _ _ (.string N) k101 rfl (by rfl) 83 #[.int .i64 (n : Int)] (fun w => by unfold execOp; go_simp) rfl rfl ?hc2 (fun w102 k102 => ?_) AllReadyH.nil
    case hc2 => exact HN.out _
    refine ⟨k102, ?_⟩
    simp only [Act.put, List.setIfInBounds_toArray, List.set_cons_zero, List.set_cons_succ]
    refine take_val 12 _ _ (.string (((⟨#[99, 111, 108, 117, 109, 110, 32]⟩ ++ X) ++ ⟨#[32]⟩) ++ N)) rfl (by rfl) (by kernel_rfl) (by kernel_rfl) (by kernel_rfl) (fun w => by unfold execOp; go_simp) rfl rfl k102 ?_
    simp only [Act.put, List.setIfInBounds_toArray, List.set_cons_zero, List.set_cons_succ]
    refine take_val 13 _ _ (.string ((((⟨#[99, 111, 108, 117, 109, 110, 32]⟩ ++ X) ++ ⟨#[32]⟩) ++ N) ++ ⟨#[10]⟩)) rfl (by rfl) (by kernel_rfl) (by kernel_rfl) (by kernel_rfl) (fun w => by unfold execOp; go_simp) rfl rfl k102 ?_
    simp only [Act.put, List.setIfInBounds_toArray, List.set_cons_zero, List.set_cons_succ]
    refine take_val 14 _ _ (.string ((((⟨#[99, 111, 108, 117, 109, 110, 32]⟩ ++ X) ++ ⟨#[32]⟩) ++ N) ++ ⟨#[10]⟩)) rfl (by rfl) (by kernel_rfl) (by kernel_rfl) (by kernel_rfl) (fun w => by rfl) rfl rfl k102 ?_
    simp only [Act.put, List.setIfInBounds_toArray, List.set_cons_zero, List.set_cons_succ]
    refine wpAnyH_done (by kernel_rfl) ?_ _
    exact ⟨rfl, rfl, k102⟩
  rintro a1 wz ⟨rfl, kz⟩
  replace kz := hid kz
  simp only [Act.put, List.setIfInBounds_toArray, List.set_cons_zero, List.set_cons_succ]
  rw [← HH.out]
  clear HX HN z1 z2 z3 z4 z5 HH
  go_wp2_with fail
  go_loopw [3, 4] (fun s i wr => ∃ k : Nat, k ≤ 8 ∧ s = .string (txC c n k) ∧ i = .int .i64 (k : Int) ∧ Hid (Kept w [(g, vls 178 (clw c (n : Int)), T)] wr)) (fun _ i _ => 8 - (intOf i).toNat)
  case atStart => exact ⟨0, by omega, rfl, rfl, kz⟩
  case round =>
    clear kz
    obtain ⟨k, hk, rfl, rfl, k1⟩ := hrel
    by_cases hlt : k < 8
    · have HL := hid hlt
      have hk3 : (k : Int) < 8 := by omega
      have hw9 := wr_8 hlt
      have HR := hid (fun w' (h : Kept w [(g, vls 178 (clw c (n : Int)), T)] w') => sTextO (rowK c k) (fun i hi => HC.out _ (by have := HL.out; omega)) w' g (k * 20) ((show vAt w' g 178 (clw c (n : Int)) T from h.v in0).cd HL.out))
      have HA := hid (fun w' (h : Kept w [(g, vls 178 (clw c (n : Int)), T)] w') => sAirO (heC c k) (vaC c k) (HC.out _ (by have := HL.out; omega)) (HC.out _ (by have := HL.out; omega)) w' g (160 + k * 2) [(g, vls 178 (clw c (n : Int)), T)] ⟨Below.refl _ _, h.2⟩ (fun wq hq => ⟨(show vAt wq g 178 (clw c (n : Int)) T from hq.v in0).ch HL.out, (show vAt wq g 178 (clw c (n : Int)) T from hq.v in0).cv HL.out⟩))
      have HM := hid (txC_next c n k)
      have z0 : (txC c n k).size ≤ 9223372036854775780 := le_big (HZ.out k hlt) (by decide)
      have z0b := hid (HZ.out k hlt)
      have z1 : (txR (rowK c k) 20).size ≤ 9223372036854775780 := le_big (txR_size _ _) (by decide)
      have z1b := hid (txR_size (rowK c k) 20)
      have z2 := txA_size (heC c k) (vaC c k)
      generalize txR (rowK c k) 20 = D at HR HM z1 z1b
      generalize txA (heC c k) (vaC c k) = A at HA HM z2
      have d1 : D.size ≤ 9223372036854775806 := Nat.le_trans z1b.out (by decide)
      have d2 : D.size ≤ 9223372036854775785 := Nat.le_trans z1b.out (by decide)
      have d3 : D.size ≤ 9223372036854775784 := Nat.le_trans z1b.out (by decide)
      have d4 : (txC c n k).size + (D.size + 1 + 21 + 1) ≤ 9223372036854775807 := Nat.le_trans (Nat.add_le_add z0b.out (Nat.add_le_add_right z1b.out 23)) (by decide)
      clear z0 z1
      generalize txC c n k = S at HM d4 z0b ⊢
      clear hlt hk
      go_wp2_with fail
      refine region_act (w0 := w) (lk := [(g, vls 178 (clw c (n : Int)), T)]) (fun a0 a1 wq => a1 = ((((((((((((((((((a0.put (some 23) (.string S)).put (some 24) (.pointer (some ⟨g, 0, none⟩))).put (some 25) (.int .i64 (k : Int))).put (some 26) (.pointer (some ⟨g, 0, none⟩))).put (some 27) (.pointer (some ⟨g, 0, none⟩))).put (some 28) (.pointer (some ⟨g, k * 20, none⟩))).put (some 29) (.string D)).put (some 30) (.string (D ++ ⟨#[10]⟩))).put (some 31) (.pointer (some ⟨g, 0, none⟩))).put (some 32) (.int .i64 (k : Int))).put (some 33) (.pointer (some ⟨g, 0, none⟩))).put (some 34) (.pointer (some ⟨g, 160, none⟩))).put (some 35) (.pointer (some ⟨g, 160 + k * 2, none⟩))).put (some 36) (.string A)).put (some 37) (.string ((D ++ ⟨#[10]⟩) ++ A))).put (some 38) (.string (((D ++ ⟨#[10]⟩) ++ A) ++ ⟨#[10]⟩))).put (some 39) (.string (S ++ (((D ++ ⟨#[10]⟩) ++ A) ++ ⟨#[10]⟩)))).put (some 3) (.string (S ++ (((D ++ ⟨#[10]⟩) ++ A) ++ ⟨#[10]⟩)))) ∧ Kept w [(g, vls 178 (clw c (n : Int)), T)] wq) 18 #[false, false, false, false, false, false, false, false, false, false, false, false, false, false, false, false, false, false] (by kernel_rfl) rfl rfl ?_ ?_
      · have kd := k1.out.drew
        clear k1
        generalize World.drew _ = wd at kd ⊢
        refine take_val 0 _ _ (.string S) rfl (by rfl) (by kernel_rfl) (by kernel_rfl) (by kernel_rfl) (fun w => by rfl) rfl rfl kd ?_
        simp only [Act.put, List.setIfInBounds_toArray, List.set_cons_zero, List.set_cons_succ]
        refine take_val 1 _ _ (.pointer (some ⟨g, 0, none⟩)) rfl (by rfl) (by kernel_rfl) (by kernel_rfl) (by kernel_rfl) (fun w => by rfl) rfl rfl kd ?_
        simp only [Act.put, List.setIfInBounds_toArray, List.set_cons_zero, List.set_cons_succ]
        refine take_val 2 _ _ (.int .i64 (k : Int)) rfl (by rfl) (by kernel_rfl) (by kernel_rfl) (by kernel_rfl) (fun w => by rfl) rfl rfl kd ?_
        simp only [Act.put, List.setIfInBounds_toArray, List.set_cons_zero, List.set_cons_succ]
        refine take_val 3 _ _ (.pointer (some ⟨g, 0, none⟩)) rfl (by rfl) (by kernel_rfl) (by kernel_rfl) (by kernel_rfl) (fun w => by unfold execOp; go_simp) rfl rfl kd ?_
        simp only [Act.put, List.setIfInBounds_toArray, List.set_cons_zero, List.set_cons_succ]
        refine take_val 4 _ _ (.pointer (some ⟨g, 0, none⟩)) rfl (by rfl) (by kernel_rfl) (by kernel_rfl) (by kernel_rfl) (fun w => by unfold execOp; go_simp) rfl rfl kd ?_
        simp only [Act.put, List.setIfInBounds_toArray, List.set_cons_zero, List.set_cons_succ]
        refine take_val 5 _ _ (.pointer (some ⟨g, k * 20, none⟩)) rfl (by rfl) (by kernel_rfl) (by kernel_rfl) (by kernel_rfl) (fun w => by unfold execOp; go_simp) rfl rfl kd ?_
        simp only [Act.put, List.setIfInBounds_toArray, List.set_cons_zero, List.set_cons_succ]
        refine take_val 8 _ _ (.pointer (some ⟨g, 0, none⟩)) rfl (by rfl) (by kernel_rfl) (by kernel_rfl) (by kernel_rfl) (fun w => by rfl) rfl rfl kd ?_
        simp only [Act.put, List.setIfInBounds_toArray, List.set_cons_zero, List.set_cons_succ]
        refine take_val 9 _ _ (.int .i64 (k : Int)) rfl (by rfl) (by kernel_rfl) (by kernel_rfl) (by kernel_rfl) (fun w => by rfl) rfl rfl kd ?_
        simp only [Act.put, List.setIfInBounds_toArray, List.set_cons_zero, List.set_cons_succ]
        refine take_val 10 _ _ (.pointer (some ⟨g, 0, none⟩)) rfl (by rfl) (by kernel_rfl) (by kernel_rfl) (by kernel_rfl) (fun w => by unfold execOp; go_simp) rfl rfl kd ?_
        simp only [Act.put, List.setIfInBounds_toArray, List.set_cons_zero, List.set_cons_succ]
        refine take_val 11 _ _ (.pointer (some ⟨g, 160, none⟩)) rfl (by rfl) (by kernel_rfl) (by kernel_rfl) (by kernel_rfl) (fun w => by unfold execOp; go_simp) rfl rfl kd ?_
        simp only [Act.put, List.setIfInBounds_toArray, List.set_cons_zero, List.set_cons_succ]
        refine take_val 12 _ _ (.pointer (some ⟨g, 160 + k * 2, none⟩)) rfl (by rfl) (by kernel_rfl) (by kernel_rfl) (by kernel_rfl) (fun w => by unfold execOp; go_simp) rfl rfl kd ?_
        simp only [Act.put, List.setIfInBounds_toArray, List.set_cons_zero, List.set_cons_succ]
        refine wpAnyH_ready (rs := [6]) (by kernel_rfl) (by simp) ?_
        refine callK 6 _ _ (.string D) kd rfl (by rfl) 122 #[.pointer (some ⟨g, k * 20, none⟩)] (fun w => by unfold execOp; go_simp) rfl rfl ?hc1 (fun w101 k101 => ?_) AllReadyH.nil
        case hc1 => exact HR.out _ kd
        refine ⟨k101, ?_⟩
        simp only [Act.put, List.setIfInBounds_toArray, List.set_cons_zero, List.set_cons_succ]
        refine take_val 7 _ _ (.string (D ++ ⟨#[10]⟩)) rfl (by rfl) (by kernel_rfl) (by kernel_rfl) (by kernel_rfl) (fun w => by unfold execOp; go_simp) rfl rfl k101 ?_
        simp only [Act.put, List.setIfInBounds_toArray, List.set_cons_zero, List.set_cons_succ]
        refine wpAnyH_ready (rs := [13]) (by kernel_rfl) (by simp) ?_
        refine callK 13 _ _ (.string A) k101 rfl (by rfl) 123 #[.pointer (some ⟨g, 160 + k * 2, none⟩)] (fun w => by unfold execOp; go_simp) rfl rfl ?hc2 (fun w102 k102 => ?_) AllReadyH.nil
        case hc2 => exact HA.out _ k101
        refine ⟨k102, ?_⟩
        simp only [Act.put, List.setIfInBounds_toArray, List.set_cons_zero, List.set_cons_succ]
        refine take_val 14 _ _ (.string ((D ++ ⟨#[10]⟩) ++ A)) rfl (by rfl) (by kernel_rfl) (by kernel_rfl) (by kernel_rfl) (fun w => by unfold execOp; go_simp) rfl rfl k102 ?_
        simp only [Act.put, List.setIfInBounds_toArray, List.set_cons_zero, List.set_cons_succ]
        refine take_val 15 _ _ (.string (((D ++ ⟨#[10]⟩) ++ A) ++ ⟨#[10]⟩)) rfl (by rfl) (by kernel_rfl) (by kernel_rfl) (by kernel_rfl) (fun w => by unfold execOp; go_simp) rfl rfl k102 ?_
        simp only [Act.put, List.setIfInBounds_toArray, List.set_cons_zero, List.set_cons_succ]
        refine take_val 16 _ _ (.string (S ++ (((D ++ ⟨#[10]⟩) ++ A) ++ ⟨#[10]⟩))) rfl (by rfl) (by kernel_rfl) (by kernel_rfl) (by kernel_rfl) (fun w => by unfold execOp; go_simp) rfl rfl k102 ?_
        simp only [Act.put, List.setIfInBounds_toArray, List.set_cons_zero, List.set_cons_succ]
        refine take_val 17 _ _ (.string (S ++ (((D ++ ⟨#[10]⟩) ++ A) ++ ⟨#[10]⟩))) rfl (by rfl) (by kernel_rfl) (by kernel_rfl) (by kernel_rfl) (fun w => by rfl) rfl rfl k102 ?_
        simp only [Act.put, List.setIfInBounds_toArray, List.set_cons_zero, List.set_cons_succ]
        refine wpAnyH_done (by kernel_rfl) ?_ _
        exact ⟨rfl, rfl, k102⟩
      rintro a1 wz ⟨rfl, kz⟩
      replace kz := hid kz
      simp only [Act.put, List.setIfInBounds_toArray, List.set_cons_zero, List.set_cons_succ]
      go_wp2_with fail
      go_roundw
      case rel => exact ⟨k + 1, HL.out, congrArg Value.string HM.out.symm, by go_num, kz⟩
      case measure => first | exact ms_io HL.out | (rw [hw9]; exact ms_io HL.out)
    · obtain rfl : k = 8 := by omega
      clear hlt hk
      go_wp2
      go_ret
      exact ⟨rfl, k1.out.1⟩

theorem shWrite (B b : Nat) (bs : List Value) (s : ByteArray) (w : World) (h : Go.Lib.IsBuilderF 122 5 B b bs w) (hlen : bs.length + s.size ≤ 140737488355328) (hBw : B ≤ w.heap.size) :
    Calls Tryd.prog 76 #[.pointer (some ⟨b, 0, none⟩), .string s] w fun e w' => e = .returned (.tuple #[.int .i64 s.size, .nilIface]) ∧ (Go.Lib.BuilderAtF 122 5 B b (.pointer (some ⟨b, 0, none⟩)) (bs ++ Go.Lib.strCells s) w' ∧ Below B w w' ∧ Go.Lib.OthersKept 5 (some b) w w') := Go.Proofs.Any.Builder_WriteString_k shl166 shlB156 B b bs s w h hlen hBw

theorem shString (B b : Nat) (l : List UInt8) (w : World) (h : Go.Lib.IsBuilderF 122 5 B b (Go.Lib.byteCells l) w) (hBw : B ≤ w.heap.size) :
    Calls Tryd.prog 80 #[.pointer (some ⟨b, 0, none⟩)] w fun e w' => e = .returned (.string ⟨l.toArray⟩) ∧ (Go.Lib.IsBuilderF 122 5 B b (Go.Lib.byteCells l) w' ∧ Below B w w' ∧ Go.Lib.OthersKept 5 (some b) w w') := Go.Proofs.Any.Builder_String_any_k shl169 shlB156 B b l w h hBw

theorem bld_at {T e : TypeId} {B b : Nat} {p : Value} {bs : List Value} {a z : World} (h : Go.Lib.BuilderAtF T e B b p bs a) (k : Below a.heap.size a z) : Go.Lib.BuilderAtF T e B b p bs z := by
  obtain ⟨h1, v, h2, h3, h4⟩ := h
  refine ⟨h1, v, ?_, ?_, h4⟩
  · rw [k.block b (lt_of_block h2)]; exact h2
  · exact h3.kept (row := none) ⟨k.os, k.tape, k.output, k.size, fun i hi _ => k.block i hi⟩ (Classical.em _)

theorem bld_stay {T e : TypeId} {B b : Nat} {bs : List Value} {a z : World} (h : Go.Lib.IsBuilderF T e B b bs a) (k : Below a.heap.size a z) : Go.Lib.IsBuilderF T e B b bs z := by
  rcases h with h | h
  · exact .inl (bld_at h k)
  · exact .inr (bld_at h k)

theorem bld_new {T e : TypeId} {b : Nat} {w : World} (h : w.heap[b]? = some (.cells #[.pointer none, .slice none 0 0] T (0, 0))) : Go.Lib.IsBuilderF T e b b [] w :=
  .inl ⟨Nat.le_refl _, .slice none 0 0, h, World.ownsRowF_of (World.ownsRow_nil _ _ _ _), by simp [Value.ownBlock]⟩

@[go_sem] theorem zero_kern : Tryd.zeroCells35 = vls 400 (flw fun _ => 0) := by kernel_rfl

/-- The bytes that a builder holds. -/
def blB (b : ByteArray) : List Value := Go.Lib.byteCells b.data.toList

theorem blB_len (b : ByteArray) : (blB b).length = b.size := by unfold blB; rw [Go.Lib.byteCells_length]; rfl

theorem szB_of {c : Nat → Nat} (h : ∀ i, i < 20 → amtB (c i) = true) : szB c = true := List.all_eq_true.2 fun i hi => h i (List.mem_range.1 hi)

theorem blB_step (S U : ByteArray) : blB S ++ Go.Lib.strCells U = blB (S ++ U) := by
  unfold blB
  rw [Go.Lib.strCells_eq, ← Go.Lib.byteCells_append]
  congr 1

theorem blB_start (U : ByteArray) : [] ++ Go.Lib.strCells U = blB U := by
  unfold blB
  rw [Go.Lib.strCells_eq]; rfl

set_option maxRecDepth 100000 in
theorem iColText_no (c : Nat → Nat) (t : Int) (hb : ∀ i, i < 177 → c i < 4294967296) (h : ¬ ColOk c t) (w : World) :
    Calls Tryd.prog 36 #[.agg (vls 178 (clw c t))] w fun e w' => e = .returned (.string ⟨#[]⟩) ∧ Below w.heap.size w w' := by
  have HV := hid (fun w => iValidColumn c t hb false (by simp [h]) w)
  have k0 := hid ((Kept.nil w).push (vls 178 (clw c t)) 62)
  clear h hb
  go_enter Tryd.func36, Tryd.ntmps36
  go_wp2_with (refine wpList_load_row rfl 62 _ rfl w.heap.size rfl 62 (vls 178 (clw c t)) (0, 0) _ (k0.out.at (x := (w.heap.size, vls 178 (clw c t), 62)) in0) Tryd.underlying62 rfl (by rw [vls_size]; exact info_col) ?_)
  refine (HV.out _).mono ?_
  rintro e u1 ⟨rfl, b1⟩
  have k1 := hid (k0.out.stay b1)
  clear b1 k0
  go_wp2
  go_ret
  exact ⟨rfl, k1.out.1⟩

set_option maxRecDepth 100000 in
set_option maxHeartbeats 2000000 in
theorem iColText (c : Nat → Nat) (n : Nat) (hb : ∀ i, i < 177 → c i < 4294967296) (h : ColOk c (n : Int)) (hn : n < 9223372036854775808) (w : World) (ht : Tab64 w) (hT : TabT w) :
    Calls Tryd.prog 36 #[.agg (vls 178 (clw c (n : Int)))] w fun e w' => e = .returned (.string (txC c n 8)) ∧ Below w.heap.size w w' := by
  have HV := hid (fun w => iValidColumn c (n : Int) hb true (by simp [h]) w)
  have HOK := hid h
  have HC := hid hb
  have HT := hid ht
  have HU := hid hT
  have HZ := hid (fun k hk => txC_big c hn (k := k) hk)
  have HX := hid (fun w t => iNumberText (c 176) (hb 176 (by omega)) w t)
  have HN := hid (fun w t => shFormat n hn w t)
  have z1 := txN_size (c 176)
  have z4 : 16 + (dcT n).size ≤ 9223372036854775806 := Nat.le_trans (Nat.add_le_add_left (dcT_le n hn) 16) (by decide)
  have z5 : 16 + (dcT n).size ≤ 9223372036854775807 := Nat.le_trans (Nat.add_le_add_left (dcT_le n hn) 16) (by decide)
  have zH : Hid ((hdC c n).size ≤ 38) := hid (hdC_le c hn)
  have HH := hid (show hdC c n = (((⟨#[99, 111, 108, 117, 109, 110, 32]⟩ ++ txN (c 176)) ++ ⟨#[32]⟩) ++ dcT n) ++ ⟨#[10]⟩ from rfl)
  clear hb h hn ht hT
  generalize txN (c 176) = X at HX HH z1
  generalize dcT n = N at HN HH z4 z5
  have z3 : (⟨#[99, 111, 108, 117, 109, 110, 32]⟩ ++ X ++ ⟨#[32]⟩ : ByteArray).size = 16 := by simp only [ByteArray.size_append, z1, bl_size, cw_size]
  have k0 := hid ((Kept.nil w).push (vls 178 (clw c (n : Int))) 62)
  go_enter Tryd.func36, Tryd.ntmps36
  go_wp2_with (refine wpList_load_row rfl 62 _ rfl w.heap.size rfl 62 (vls 178 (clw c (n : Int))) (0, 0) _ (k0.out.at (x := (w.heap.size, vls 178 (clw c (n : Int)), 62)) in0) Tryd.underlying62 rfl (by rw [vls_size]; exact info_col) ?_)
  refine (HV.out _).mono ?_
  rintro e w1 ⟨rfl, b1⟩
  have k1 := hid (k0.out.stay b1)
  clear b1 k0 HV
  have bs : w.heap.size < w1.heap.size := k1.out.lt (x := (w.heap.size, vls 178 (clw c (n : Int)), 62)) in0
  have k2 := hid (k1.out.push (#[.pointer none, .slice none 0 0] : Array Value) 122)
  have b0 : Hid (Go.Lib.IsBuilderF 122 5 w1.heap.size w1.heap.size [] (w1.alloc (.cells (#[.pointer none, .slice none 0 0] : Array Value) 122))) := hid (bld_new (k2.out.at (x := (w1.heap.size, _, _)) in0))
  have k3 := hid (k2.out.sub (l' := [(w.heap.size, vls 178 (clw c (n : Int)), 62)]) (fun x hx => by have := List.mem_singleton.1 hx; subst this; exact in1))
  have k4 := hid (keptG (show vAt (w1.alloc (.cells (#[.pointer none, .slice none 0 0] : Array Value) 122)) w.heap.size 178 (clw c (n : Int)) 62 from k3.out.v in0))
  have l2 : Hid (w1.heap.size ≤ (w1.alloc (.cells (#[.pointer none, .slice none 0 0] : Array Value) 122)).heap.size) := hid (by simp)
  clear k1 k2
  go_wp2_with fail
  generalize w1.alloc (.cells (#[.pointer none, .slice none 0 0] : Array Value) 122) = w2 at b0 k3 k4 l2 ⊢
  refine region_free (listed := #[false, false, false, false, false, false, false, false, false, false, false]) 11 (by kernel_rfl) rfl rfl ?_
  have kd := k4.out.drew
  clear k4
  generalize World.drew _ = wd at kd ⊢
  refine late_goP (S := Kept w2 [(w.heap.size, vls 178 (clw c (n : Int)), 62)]) (f := 10) 10 [] #[false, false, false, false, false, false, false, false, false, false] (by kernel_rfl) (by kernel_rfl) rfl (by intro c a d v w h; cases d <;> exact h) (fun PB => ?_)
  refine takeP_val PB 0 (.pointer (some ⟨w.heap.size, 176, none⟩)) rfl (by rfl) (by kernel_rfl) (by kernel_rfl) (by kernel_rfl) (fun w => by unfold execOp; go_simp) kd ?_
  simp only [Act.put, List.setIfInBounds_toArray, List.set_cons_zero, List.set_cons_succ]
  refine takeP_cell PB 1 (.float .f32 (c 176)) rfl (by rfl) (by kernel_rfl) (by kernel_rfl) (by kernel_rfl) (fun wq hS => by have hv := (show vAt wq w.heap.size 178 (clw c (n : Int)) 62 from hS.v in0); have hcell := hv.cf (i := 176) (by omega); clear hv; clear hS; unfold execOp; go_simp) kd ?_
  simp only [Act.put, List.setIfInBounds_toArray, List.set_cons_zero, List.set_cons_succ]
  refine takeP_val PB 5 (.pointer (some ⟨w.heap.size, 177, none⟩)) rfl (by rfl) (by kernel_rfl) (by kernel_rfl) (by kernel_rfl) (fun w => by unfold execOp; go_simp) kd ?_
  simp only [Act.put, List.setIfInBounds_toArray, List.set_cons_zero, List.set_cons_succ]
  refine takeP_cell PB 6 (.int .i64 (n : Int)) rfl (by rfl) (by kernel_rfl) (by kernel_rfl) (by kernel_rfl) (fun wq hS => by have hv := (show vAt wq w.heap.size 178 (clw c (n : Int)) 62 from hS.v in0); have hcell := hv.ct; clear hv; clear hS; unfold execOp; go_simp) kd ?_
  simp only [Act.put, List.setIfInBounds_toArray, List.set_cons_zero, List.set_cons_succ]
  refine wpAnyH_ready (rs := [2]) (by kernel_rfl) (by simp) ?_
  refine callK 2 _ _ (.string X) kd rfl (by rfl) 31 #[.float .f32 (c 176)] (fun w => by unfold execOp; go_simp) rfl rfl ?hc1 (fun w101 k101 => ?_) AllReadyH.nil
  case hc1 => exact HX.out _ (HT.out.stay (stp k3.out.1 (Nat.le_refl _) kd.1))
  refine ⟨k101, ?_⟩
  simp only [Act.put, List.setIfInBounds_toArray, List.set_cons_zero, List.set_cons_succ]
  refine takeP_val PB 3 (.string (⟨#[99, 111, 108, 117, 109, 110, 32]⟩ ++ X)) rfl (by rfl) (by kernel_rfl) (by kernel_rfl) (by kernel_rfl) (fun w => by unfold execOp; go_simp) k101 ?_
  simp only [Act.put, List.setIfInBounds_toArray, List.set_cons_zero, List.set_cons_succ]
  refine takeP_val PB 4 (.string ((⟨#[99, 111, 108, 117, 109, 110, 32]⟩ ++ X) ++ ⟨#[32]⟩)) rfl (by rfl) (by kernel_rfl) (by kernel_rfl) (by kernel_rfl) (fun w => by unfold execOp; go_simp) k101 ?_
  simp only [Act.put, List.setIfInBounds_toArray, List.set_cons_zero, List.set_cons_succ]
  refine wpAnyH_ready (rs := [7]) (by kernel_rfl) (by simp) ?_
  refine callK 7 _ _ (.string N) k101 rfl (by rfl) 77 #[.int .i64 (n : Int), .int .i64 10] (fun w => by unfold execOp; go_simp) rfl rfl ?hc2 (fun w102 k102 => ?_) AllReadyH.nil
  case hc2 => exact HN.out _ (HU.out.on (stp k3.out.1 (Nat.le_refl _) k101.1))
  refine ⟨k102, ?_⟩
  simp only [Act.put, List.setIfInBounds_toArray, List.set_cons_zero, List.set_cons_succ]
  refine takeP_val PB 8 (.string (((⟨#[99, 111, 108, 117, 109, 110, 32]⟩ ++ X) ++ ⟨#[32]⟩) ++ N)) rfl (by rfl) (by kernel_rfl) (by kernel_rfl) (by kernel_rfl) (fun w => by unfold execOp; go_simp) k102 ?_
  simp only [Act.put, List.setIfInBounds_toArray, List.set_cons_zero, List.set_cons_succ]
  refine takeP_val PB 9 (.string ((((⟨#[99, 111, 108, 117, 109, 110, 32]⟩ ++ X) ++ ⟨#[32]⟩) ++ N) ++ ⟨#[10]⟩)) rfl (by rfl) (by kernel_rfl) (by kernel_rfl) (by kernel_rfl) (fun w => by unfold execOp; go_simp) k102 ?_
  simp only [Act.put, List.setIfInBounds_toArray, List.set_cons_zero, List.set_cons_succ]
  refine wpAnyH_done (by kernel_rfl) ?_ _
  clear PB
  have kz := hid k102
  show wpList _ _ _ [_] _ _
  rw [← HH.out]
  clear HX HN z1 z3 z4 z5 HH
  have l3 : w1.heap.size ≤ w102.heap.size := Nat.le_trans l2.out kz.out.1.size
  have bz := hid (bld_stay b0.out kz.out.1)
  have hv3 := hid (kz.out.1.block w.heap.size)
  go_wp2_with fail
  refine (shWrite w1.heap.size w1.heap.size [] (hdC c n) _ bz.out (by have := zH.out; simp only [List.length_nil]; omega) l3).mono ?_
  rintro e w7 ⟨rfl, g7, hb7, -⟩
  rw [blB_start] at g7
  have G7 := hid (show Go.Lib.IsBuilderF 122 5 w1.heap.size w1.heap.size (blB (txC c n 0)) w7 from .inr g7)
  have B7 := hid (show Below w.heap.size w w7 ∧ w1.heap.size ≤ w7.heap.size from ⟨(stp k3.out.1 (Nat.le_refl _) kz.out.1).trans (hb7.mono (Nat.le_of_lt bs)), Nat.le_trans l3 hb7.size⟩)
  have V7 : Hid (vAt w7 w.heap.size 178 (clw c (n : Int)) 62) := hid (by have h9 := (show vAt w102 w.heap.size 178 (clw c (n : Int)) 62 from kz.out.v in0); unfold vAt at h9 ⊢; rw [hb7.block _ bs]; exact h9)
  clear g7 hb7 l3 bz kz k3 b0 l2 hv3
  go_wp2_with fail
  go_loopw [19] (fun i wr => ∃ k : Nat, k ≤ 8 ∧ i = .int .i64 (k : Int) ∧ Hid (Go.Lib.IsBuilderF 122 5 w1.heap.size w1.heap.size (blB (txC c n k)) wr) ∧ Hid (Below w.heap.size w wr ∧ w1.heap.size ≤ wr.heap.size) ∧ Hid (vAt wr w.heap.size 178 (clw c (n : Int)) 62)) (fun i _ => 8 - (intOf i).toNat)
  case atStart => exact ⟨0, by omega, rfl, G7, B7, V7⟩
  case round =>
    clear G7 B7 V7 zH
    obtain ⟨k, hk, rfl, h1, h2, h3⟩ := hrel
    by_cases hlt : k < 8
    · have HL := hid hlt
      have hk3 : (k : Int) < 8 := by omega
      have hw9 := wr_8 hlt
      have k4 := hid (keptG h3.out)
      have HR := hid (fun w t => iSizesText (rowK c k) (fun i hi => HC.out _ (by have := HL.out; omega)) true (szB_of (HOK.out.sz k HL.out)) w t)
      have HA := hid (fun w t => iAirText (heC c k) (vaC c k) (HC.out _ (by have := HL.out; omega)) (HC.out _ (by have := HL.out; omega)) true (HOK.out.air k HL.out) w t)
      have HM := hid (txC_next c n k)
      have z0b := hid (HZ.out k hlt)
      have z1b := hid (txR_size (rowK c k) 20)
      have z2 := txA_size (heC c k) (vaC c k)
      have z2b := hid z2
      rw [show txSq true (rowK c k) = txR (rowK c k) 20 from if_pos rfl] at HR
      rw [show txAq true (heC c k) (vaC c k) = txA (heC c k) (vaC c k) from if_pos rfl] at HA
      generalize txR (rowK c k) 20 = D at HR HM z1b
      generalize txA (heC c k) (vaC c k) = A at HA HM z2 z2b
      have d1 : D.size ≤ 9223372036854775806 := Nat.le_trans z1b.out (by decide)
      have d2 : D.size ≤ 9223372036854775785 := Nat.le_trans z1b.out (by decide)
      have d3 : D.size ≤ 9223372036854775784 := Nat.le_trans z1b.out (by decide)
      generalize txC c n k = S at HM z0b h1 ⊢
      clear hlt hk
      go_wp2_with fail
      refine region_free (listed := #[false, false, false, false, false, false, false, false, false, false, false, false, false, false]) 14 (by kernel_rfl) rfl rfl ?_
      have kd := k4.out.drew
      clear k4
      generalize World.drew _ = wd at kd ⊢
      refine late_goP (S := Kept wr [(w.heap.size, vls 178 (clw c (n : Int)), 62)]) (f := 13) 13 [] #[false, false, false, false, false, false, false, false, false, false, false, false, false] (by kernel_rfl) (by kernel_rfl) rfl (by intro c a d v w h; cases d <;> exact h) (fun PB => ?_)
      refine takeP_val PB 0 (.int .i64 (k : Int)) rfl (by rfl) (by kernel_rfl) (by kernel_rfl) (by kernel_rfl) (fun w => by rfl) kd ?_
      simp only [Act.put, List.setIfInBounds_toArray, List.set_cons_zero, List.set_cons_succ]
      refine takeP_val PB 1 (.pointer (some ⟨w.heap.size, 0, none⟩)) rfl (by rfl) (by kernel_rfl) (by kernel_rfl) (by kernel_rfl) (fun w => by unfold execOp; go_simp) kd ?_
      simp only [Act.put, List.setIfInBounds_toArray, List.set_cons_zero, List.set_cons_succ]
      refine takeP_val PB 2 (.pointer (some ⟨w.heap.size, k * 20, none⟩)) rfl (by rfl) (by kernel_rfl) (by kernel_rfl) (by kernel_rfl) (fun w => by unfold execOp; go_simp) kd ?_
      simp only [Act.put, List.setIfInBounds_toArray, List.set_cons_zero, List.set_cons_succ]
      refine takeP_cell PB 3 (.agg (fls (rowK c k))) rfl (by rfl) (by kernel_rfl) (by kernel_rfl) (by kernel_rfl) (fun wq hS => run_load_as 24 _ w.heap.size (k * 20) 20 rfl (show vAt wq w.heap.size 178 (clw c (n : Int)) 62 from hS.v in0) (by have := HL.out; omega) (fls (rowK c k)) (dr_is c (n : Int) k HL.out) _ Tryd.underlying24 rfl info_arr) kd ?_
      simp only [Act.put, List.setIfInBounds_toArray, List.set_cons_zero, List.set_cons_succ]
      refine takeP_val PB 6 (.int .i64 (k : Int)) rfl (by rfl) (by kernel_rfl) (by kernel_rfl) (by kernel_rfl) (fun w => by rfl) kd ?_
      simp only [Act.put, List.setIfInBounds_toArray, List.set_cons_zero, List.set_cons_succ]
      refine takeP_val PB 7 (.pointer (some ⟨w.heap.size, 160, none⟩)) rfl (by rfl) (by kernel_rfl) (by kernel_rfl) (by kernel_rfl) (fun w => by unfold execOp; go_simp) kd ?_
      simp only [Act.put, List.setIfInBounds_toArray, List.set_cons_zero, List.set_cons_succ]
      refine takeP_val PB 8 (.pointer (some ⟨w.heap.size, 160 + k * 2, none⟩)) rfl (by rfl) (by kernel_rfl) (by kernel_rfl) (by kernel_rfl) (fun w => by unfold execOp; go_simp) kd ?_
      simp only [Act.put, List.setIfInBounds_toArray, List.set_cons_zero, List.set_cons_succ]
      refine takeP_cell PB 9 (.agg #[.float .f32 (heC c k), .float .f32 (vaC c k)]) rfl (by rfl) (by kernel_rfl) (by kernel_rfl) (by kernel_rfl) (fun wq hS => run_load_as 30 _ w.heap.size (160 + k * 2) 2 rfl (show vAt wq w.heap.size 178 (clw c (n : Int)) 62 from hS.v in0) (by have := HL.out; omega) (#[.float .f32 (heC c k), .float .f32 (vaC c k)]) (part_air c (n : Int) HL.out) _ Tryd.underlying30 rfl info_air) kd ?_
      simp only [Act.put, List.setIfInBounds_toArray, List.set_cons_zero, List.set_cons_succ]
      refine wpAnyH_ready (rs := [4]) (by kernel_rfl) (by simp) ?_
      refine callK 4 _ _ (.string D) kd rfl (by rfl) 78 #[.agg (fls (rowK c k))] (fun w => by unfold execOp; go_simp) rfl rfl ?hc1 (fun w101 k101 => ?_) AllReadyH.nil
      case hc1 => exact HR.out _ (HT.out.stay (stp h2.out.1 (Nat.le_refl _) kd.1))
      refine ⟨k101, ?_⟩
      simp only [Act.put, List.setIfInBounds_toArray, List.set_cons_zero, List.set_cons_succ]
      refine takeP_val PB 5 (.string (D ++ ⟨#[10]⟩)) rfl (by rfl) (by kernel_rfl) (by kernel_rfl) (by kernel_rfl) (fun w => by unfold execOp; go_simp) k101 ?_
      simp only [Act.put, List.setIfInBounds_toArray, List.set_cons_zero, List.set_cons_succ]
      refine wpAnyH_ready (rs := [10]) (by kernel_rfl) (by simp) ?_
      refine callK 10 _ _ (.string A) k101 rfl (by rfl) 79 #[.agg #[.float .f32 (heC c k), .float .f32 (vaC c k)]] (fun w => by unfold execOp; go_simp) rfl rfl ?hc2 (fun w102 k102 => ?_) AllReadyH.nil
      case hc2 => exact HA.out _ (HT.out.stay (stp h2.out.1 (Nat.le_refl _) k101.1))
      refine ⟨k102, ?_⟩
      simp only [Act.put, List.setIfInBounds_toArray, List.set_cons_zero, List.set_cons_succ]
      refine takeP_val PB 11 (.string ((D ++ ⟨#[10]⟩) ++ A)) rfl (by rfl) (by kernel_rfl) (by kernel_rfl) (by kernel_rfl) (fun w => by unfold execOp; go_simp) k102 ?_
      simp only [Act.put, List.setIfInBounds_toArray, List.set_cons_zero, List.set_cons_succ]
      refine takeP_val PB 12 (.string (((D ++ ⟨#[10]⟩) ++ A) ++ ⟨#[10]⟩)) rfl (by rfl) (by kernel_rfl) (by kernel_rfl) (by kernel_rfl) (fun w => by unfold execOp; go_simp) k102 ?_
      simp only [Act.put, List.setIfInBounds_toArray, List.set_cons_zero, List.set_cons_succ]
      refine wpAnyH_done (by kernel_rfl) ?_ _
      clear PB
      have kz := hid k102
      show wpList _ _ _ [_] _ _
      have z9 := hid (show (((D ++ ⟨#[10]⟩) ++ A) ++ ⟨#[10]⟩ : ByteArray).size ≤ 203 by simp only [ByteArray.size_append, nl_size, z2b.out]; have := z1b.out; omega)
      generalize ((D ++ ⟨#[10]⟩) ++ A) ++ ⟨#[10]⟩ = U at HM z9 ⊢
      have l3 : w1.heap.size ≤ w102.heap.size := Nat.le_trans h2.out.2 kz.out.1.size
      clear d1 d2 d3 z2 HR HA
      go_wp2_with fail
      refine (shWrite w1.heap.size w1.heap.size (blB S) U _ (bld_stay h1.out kz.out.1) (by rw [blB_len]; have := z9.out; have := z0b.out; omega) l3).mono ?_
      rintro e w7 ⟨rfl, g7, hb7, -⟩
      rw [blB_step, ← HM.out] at g7
      have G7 := hid (show Go.Lib.IsBuilderF 122 5 w1.heap.size w1.heap.size (blB (txC c n (k + 1))) w7 from .inr g7)
      have B7 := hid (show Below w.heap.size w w7 ∧ w1.heap.size ≤ w7.heap.size from ⟨(stp h2.out.1 (Nat.le_refl _) kz.out.1).trans (hb7.mono (Nat.le_of_lt bs)), Nat.le_trans l3 hb7.size⟩)
      have V7 : Hid (vAt w7 w.heap.size 178 (clw c (n : Int)) 62) := hid (by have h9 := (show vAt w102 w.heap.size 178 (clw c (n : Int)) 62 from kz.out.v in0); unfold vAt at h9 ⊢; rw [hb7.block _ bs]; exact h9)
      clear g7 hb7 l3 kz h1 h2 h3
      go_wp2_with fail
      go_roundw
      case rel => exact ⟨k + 1, HL.out, by go_num, G7, B7, V7⟩
      case measure => first | exact ms_io HL.out | (rw [hw9]; exact ms_io HL.out)
    · obtain rfl : k = 8 := by omega
      have hk3 : ¬ ((8 : Nat) : Int) < 8 := by omega
      clear hlt hk
      go_wp2_with fail
      refine (shString w1.heap.size w1.heap.size (txC c n 8).data.toList _ h1.out h2.out.2).mono ?_
      rintro e w2 ⟨rfl, -, hb, -⟩
      have B2 := hid (h2.out.1.trans (hb.mono (Nat.le_of_lt bs)))
      clear hb
      go_wp2
      go_ret
      refine ⟨?_, B2.out⟩
      generalize txC c n 8 = S
      exact congrArg (fun s => Ending.returned (Value.string s)) (mk_list S)

theorem info_ld : (Tryd.prog.info? 53).map (·.size) = some 160 := by kernel_rfl

theorem info_la : (Tryd.prog.info? 55).map (·.size) = some 16 := by kernel_rfl

theorem info_sz8 : (Tryd.prog.info? 59).map (·.size) = some 160 := by kernel_rfl

theorem info_air8 : (Tryd.prog.info? 60).map (·.size) = some 16 := by kernel_rfl

@[go_sem] theorem zero_sz8 : Tryd.zeroCells59 = vls 160 (flw fun _ => 0) := by kernel_rfl

@[go_sem] theorem zeros16 : (#[.float .f32 0, .float .f32 0, .float .f32 0, .float .f32 0, .float .f32 0, .float .f32 0, .float .f32 0, .float .f32 0, .float .f32 0, .float .f32 0, .float .f32 0, .float .f32 0, .float .f32 0, .float .f32 0, .float .f32 0, .float .f32 0] : Array Value) = vls 16 (flw fun _ => 0) := rfl

@[go_sem] theorem zero_col : Tryd.zeroCells62 = vls 178 (clw (fun _ => 0) 0) := by kernel_rfl

set_option maxRecDepth 100000 in
theorem toSizesA8 (c : Nat → Nat) (w : World) :
    Calls Tryd.prog 73 #[.agg (vls 160 (flw c))] w fun e w' => e = .returned (.agg (vls 160 (flw c))) ∧ Below w.heap.size w w' := by
  have A0 := hid (((vAt.new w 160 (flw c) 53).alloc (.cells (vls 160 (flw fun _ => 0)) 59)).alloc (.cells (vls 160 (flw fun _ => 0)) 59))
  have A1 := hid ((vAt.new1 w (.cells (vls 160 (flw c)) 53) 160 (flw fun _ => 0) 59).alloc (.cells (vls 160 (flw fun _ => 0)) 59))
  have A2 := hid (vAt.new2 w (.cells (vls 160 (flw c)) 53) (.cells (vls 160 (flw fun _ => 0)) 59) 160 (flw fun _ => 0) 59)
  have b0 := boxed3 w (.cells (vls 160 (flw c)) 53) (.cells (vls 160 (flw fun _ => 0)) 59) (.cells (vls 160 (flw fun _ => 0)) 59)
  go_enter Tryd.func73, Tryd.ntmps73
  go_wp2_with fail
  go_loopw [4] (fun i wr => ∃ k : Nat, k ≤ 8 ∧ i = .int .i64 k ∧ Hid (vAt wr w.heap.size 160 (flw c) 53) ∧ Hid (vAt wr (w.heap.size + 1) 160 (flw fun _ => 0) 59) ∧ Hid (vAt wr (w.heap.size + 1 + 1) 160 (flw (rowsP c (fun _ => 0) k)) 59) ∧ Hid (Below w.heap.size w wr)) (fun i _ => 8 - (intOf i).toNat)
  case atStart => exact ⟨0, by omega, rfl, A0, A1, hid (A2.out.ext fun i _ => by unfold flw; rw [rowsP_zero]), hid b0⟩
  case round =>
    obtain ⟨k, hk, rfl, h0, h1, h2, hb⟩ := hrel
    by_cases hlt : k < 8
    · go_wp2_with (refine wpList_load_as (by rfl) 23 _ (by rfl) w.heap.size (k * 20) (by rfl) 160 (flw c) 53 h0.out 20 (by omega) (fls (rowK c k)) (row_isN c k) _ Tryd.underlying23 (by rfl) info_a20 ?_)
      refine (toSizes (rowK c k) _).mono ?_
      rintro e w1 ⟨rfl, hb1⟩
      have g0 := hid (h0.out.stay hb1)
      have g1 := hid (h1.out.stay hb1)
      have g2 := hid (h2.out.stay hb1)
      have c1 := stp hb.out (Nat.le_refl _) hb1
      have n0 := hid (g0.out.setPartOther (k := w.heap.size + 1 + 1) (by omega) (k * 20) (fls (rowK c k)).toList)
      have n1 := hid (g1.out.setPartOther (k := w.heap.size + 1 + 1) (by omega) (k * 20) (fls (rowK c k)).toList)
      have n2 := hid g2.out.setRowN
      have nb := below_cells (g := w.heap.size + 1 + 1) (by omega) (fls (rowK c k)).toList (k * 20) c1
      clear h0 h1 h2 hb
      go_wp2_with (refine wpList_store_as (by rfl) 24 _ _ (by rfl) (w.heap.size + 1 + 1) (k * 20) (fls (rowK c k)) (by rfl) (by rfl) 160 (flw (rowsP c (fun _ => 0) k)) 59 g2.out 20 (fls_size _) (by omega) info_arr (fls_one _) ?_; intro w9 hw9; rw [← hw9] at n0 n1 n2 nb; clear hw9 g0 g1 g2)
      go_roundw
      case rel => exact ⟨k + 1, by omega, by go_num, n0, n1, n2, hid nb⟩
      case measure => simp [intOf]; omega
    · obtain rfl : k = 8 := by omega
      have h2' := hid (h2.out.ext (d := flw c) fun i hi => by unfold flw; rw [rowsP_all8 _ _ i hi])
      clear h2
      go_wp2_with (first | (refine wpList_load_row rfl 59 _ rfl (w.heap.size + 1 + 1) rfl 59 (vls 160 (flw c)) (0, 0) _ h2'.out Tryd.underlying59 rfl (by rw [vls_size]; exact info_sz8) ?_) | (refine wpList_store_row rfl 59 _ _ rfl (w.heap.size + 1) (vls 160 (flw c)) rfl rfl 59 _ h1.out (by rw [vls_size]; exact info_sz8) (by simp) (vls_one (flw_one c)) ?_))
      exact bodyPost_ret (results_cell_row rfl _ _ (w.heap.size + 1) 59 (vls 160 (flw c)) (0, 0) _ rfl (h1.out.setRow (flw c)) Tryd.underlying59 rfl (by rw [vls_size]; exact info_sz8)) rfl ⟨rfl, below_row hb.out (by omega) _⟩

set_option maxRecDepth 100000 in
theorem toAirA8 (c : Nat → Nat) (w : World) :
    Calls Tryd.prog 74 #[.agg (vls 16 (flw c))] w fun e w' => e = .returned (.agg (vls 16 (flw c))) ∧ Below w.heap.size w w' := by
  have A0 := hid (((vAt.new w 16 (flw c) 55).alloc (.cells (vls 16 (flw fun _ => 0)) 60)).alloc (.cells (vls 16 (flw fun _ => 0)) 60))
  have A1 := hid ((vAt.new1 w (.cells (vls 16 (flw c)) 55) 16 (flw fun _ => 0) 60).alloc (.cells (vls 16 (flw fun _ => 0)) 60))
  have A2 := hid (vAt.new2 w (.cells (vls 16 (flw c)) 55) (.cells (vls 16 (flw fun _ => 0)) 60) 16 (flw fun _ => 0) 60)
  have b0 := boxed3 w (.cells (vls 16 (flw c)) 55) (.cells (vls 16 (flw fun _ => 0)) 60) (.cells (vls 16 (flw fun _ => 0)) 60)
  go_enter Tryd.func74, Tryd.ntmps74
  go_wp2_with fail
  go_loopw [4] (fun i wr => ∃ k : Nat, k ≤ 8 ∧ i = .int .i64 k ∧ Hid (vAt wr w.heap.size 16 (flw c) 55) ∧ Hid (vAt wr (w.heap.size + 1) 16 (flw fun _ => 0) 60) ∧ Hid (vAt wr (w.heap.size + 1 + 1) 16 (flw (twosP c (fun _ => 0) k)) 60) ∧ Hid (Below w.heap.size w wr)) (fun i _ => 8 - (intOf i).toNat)
  case atStart => exact ⟨0, by omega, rfl, A0, A1, hid (A2.out.ext fun i _ => by unfold flw; rw [twosP_zero]), hid b0⟩
  case round =>
    obtain ⟨k, hk, rfl, h0, h1, h2, hb⟩ := hrel
    by_cases hlt : k < 8
    · go_wp2_with (refine wpList_load_as (by rfl) 54 _ (by rfl) w.heap.size (k * 2) (by rfl) 16 (flw c) 55 h0.out 2 (by omega) #[.float .f32 (c (k * 2)), .float .f32 (c (k * 2 + 1))] (two_is c k) _ Tryd.underlying54 (by rfl) info_lair ?_)
      refine (toAir (c (k * 2)) (c (k * 2 + 1)) _).mono ?_
      rintro e w1 ⟨rfl, hb1⟩
      have g0 := hid (h0.out.stay hb1)
      have g1 := hid (h1.out.stay hb1)
      have g2 := hid (h2.out.stay hb1)
      have c1 := stp hb.out (Nat.le_refl _) hb1
      have n0 := hid (g0.out.setPartOther (k := w.heap.size + 1 + 1) (by omega) (k * 2) (#[.float .f32 (c (k * 2)), .float .f32 (c (k * 2 + 1))] : Array Value).toList)
      have n1 := hid (g1.out.setPartOther (k := w.heap.size + 1 + 1) (by omega) (k * 2) (#[.float .f32 (c (k * 2)), .float .f32 (c (k * 2 + 1))] : Array Value).toList)
      have n2 := hid (show vAt (w1.setCells (w.heap.size + 1 + 1) (k * 2) (#[.float .f32 (c (k * 2)), .float .f32 (c (k * 2 + 1))] : Array Value).toList) (w.heap.size + 1 + 1) 16 (flw (twosP c (fun _ => 0) (k + 1))) 60 from g2.out.setTwo)
      have nb := below_cells (g := w.heap.size + 1 + 1) (by omega) (#[.float .f32 (c (k * 2)), .float .f32 (c (k * 2 + 1))] : Array Value).toList (k * 2) c1
      clear h0 h1 h2 hb
      go_wp2_with (refine wpList_store_as (by rfl) 30 _ _ (by rfl) (w.heap.size + 1 + 1) (k * 2) #[.float .f32 (c (k * 2)), .float .f32 (c (k * 2 + 1))] (by rfl) (by rfl) 16 (flw (twosP c (fun _ => 0) k)) 60 g2.out 2 rfl (by omega) info_air (two_one _ _) ?_; intro w9 hw9; rw [← hw9] at n0 n1 n2 nb; clear hw9 g0 g1 g2)
      go_roundw
      case rel => exact ⟨k + 1, by omega, by go_num, n0, n1, n2, hid nb⟩
      case measure => simp [intOf]; omega
    · obtain rfl : k = 8 := by omega
      have h2' := hid (h2.out.ext (d := flw c) fun i hi => by unfold flw; rw [twosP_all8 _ _ i hi])
      clear h2
      go_wp2_with (first | (refine wpList_load_row rfl 60 _ rfl (w.heap.size + 1 + 1) rfl 60 (vls 16 (flw c)) (0, 0) _ h2'.out Tryd.underlying60 rfl (by rw [vls_size]; exact info_air8) ?_) | (refine wpList_store_row rfl 60 _ _ rfl (w.heap.size + 1) (vls 16 (flw c)) rfl rfl 60 _ h1.out (by rw [vls_size]; exact info_air8) (by simp) (vls_one (flw_one c)) ?_))
      exact bodyPost_ret (results_cell_row rfl _ _ (w.heap.size + 1) 60 (vls 16 (flw c)) (0, 0) _ rfl (h1.out.setRow (flw c)) Tryd.underlying60 rfl (by rw [vls_size]; exact info_air8)) rfl ⟨rfl, below_row hb.out (by omega) _⟩

theorem info_f32c : (Tryd.prog.info? 22).map (·.size) = some 1 := by kernel_rfl

theorem info_i64c : (Tryd.prog.info? 2).map (·.size) = some 1 := by kernel_rfl

/-- A column with the droplets of one, the airs of one. -/
theorem col_parts (c : Nat → Nat) (t : Int) (i : Nat) (hi : i < 178) : updV (updV (updR (updR (clw (fun _ => 0) 0) 0 160 (flw c)) 160 16 (flw (airsC c))) 176 (.float .f32 (c 176))) 177 (.int .i64 t) i = clw c t i := by
  unfold updV updR clw flw airsC
  by_cases h1 : i = 177
  · simp [h1]
  · by_cases h2 : i = 176
    · simp [h2]
    · by_cases h3 : 160 ≤ i
      · rw [if_neg h1, if_neg h2, if_pos (by omega), if_neg h1, show 160 + (i - 160) = i by omega]
      · rw [if_neg h1, if_neg h2, if_neg (by omega), if_pos (by omega), if_neg h1]; rfl

set_option maxHeartbeats 1000000 in
set_option maxRecDepth 100000 in
theorem toColumn (c : Nat → Nat) (t : Int) (w : World) :
    Calls Tryd.prog 35 #[.agg (vls 178 (clw c t))] w fun e w' => e = .returned (.agg (vls 178 (clw c t))) ∧ Below w.heap.size w w' := by
  have k0 : Hid (Kept w [(w.heap.size + 1 + 1, vls 178 (clw (fun _ => 0) 0), 62), (w.heap.size + 1, vls 178 (clw (fun _ => 0) 0), 62), (w.heap.size, vls 178 (clw c t), 57)] (((w.alloc (.cells (vls 178 (clw c t)) 57)).alloc (.cells (vls 178 (clw (fun _ => 0) 0)) 62)).alloc (.cells (vls 178 (clw (fun _ => 0) 0)) 62))) := hid (((((Kept.nil w).push _ _).push _ _).push _ _).sub (by simp))
  go_enter Tryd.func35, Tryd.ntmps35
  go_wp2_with (refine load_cut (by rfl) 53 _ (by rfl) (w.heap.size) 0 160 (by rfl) (k0.out.v in2) (by omega) (vls 160 (flw c)) (drops_is c t) _ Tryd.underlying53 (by rfl) info_ld ?_)
  refine (toSizesA8 c _).mono ?_
  rintro e w1 ⟨rfl, hb1⟩
  have k1 := hid (k0.out.stay hb1)
  clear k0 hb1
  have tok1 : True := trivial
  go_wp2_with (first | (have _t := tok1; refine store_cut (by rfl) 59 _ _ (by rfl) (w.heap.size + 1 + 1) 0 160 (flw c) (vls 160 (flw c)) (by rfl) (by rfl) rfl info_sz8 (flw_one c) k1.out (by omega) (by omega) (neC (by omega) (neC (by omega) ne0)) ?_; intro w2 k2; replace k2 := hid k2; clear k1 tok1) | (refine load_cut (by rfl) 55 _ (by rfl) (w.heap.size) 160 16 (by rfl) (k2.out.v in2) (by omega) (vls 16 (flw (airsC c))) (airs_is c t) _ Tryd.underlying55 (by rfl) info_la ?_))
  refine (toAirA8 (airsC c) _).mono ?_
  rintro e w3 ⟨rfl, hb3⟩
  have k3 := hid (k2.out.stay hb3)
  clear k2 hb3
  have tok1 : True := trivial
  go_wp2_with (first
    | (have _t := k6; refine wpList_load_row rfl 62 _ rfl (w.heap.size + 1 + 1) rfl 62 (vls 178 (clw c t)) (0, 0) _ (k6.out.v in0) Tryd.underlying62 rfl (by rw [vls_size]; exact info_col) ?_)
    | (have _t := k6; refine wpList_store_row rfl 62 _ _ rfl (w.heap.size + 1) (vls 178 (clw c t)) rfl rfl 62 _ (k6.out.v in1) (by rw [vls_size]; exact info_col) (by simp) (vls_one (clw_one c t)) ?_)
    | (have _t := k5; refine load_one (by rfl) 2 _ (by rfl) (w.heap.size) 177 (by rfl) (k5.out.v in2) (by omega) (.int .i64 t) clw_t _ Tryd.underlying2 (by rfl) ?_)
    | (have _t := k5; refine store_one (by rfl) 2 _ _ (by rfl) info_i64c (w.heap.size + 1 + 1) 177 (.int .i64 t) (by rfl) (by rfl) rfl rfl k5.out (by omega) (by omega) (neC (by omega) (neC (by omega) ne0)) ?_; intro w6 k6; replace k6 := hid (k6.ext (col_parts c t)); clear k5)
    | (have _t := k4; refine load_one (by rfl) 22 _ (by rfl) (w.heap.size) 176 (by rfl) (k4.out.v in2) (by omega) (.float .f32 (c 176)) (clw_f (by omega)) _ Tryd.underlying22 (by rfl) ?_)
    | (have _t := k4; refine store_one (by rfl) 22 _ _ (by rfl) info_f32c (w.heap.size + 1 + 1) 176 (.float .f32 (c 176)) (by rfl) (by rfl) rfl rfl k4.out (by omega) (by omega) (neC (by omega) (neC (by omega) ne0)) ?_; intro w5 k5; replace k5 := hid k5; clear k4)
    | (have _t := tok1; refine store_cut (by rfl) 60 _ _ (by rfl) (w.heap.size + 1 + 1) 160 16 (flw (airsC c)) (vls 16 (flw (airsC c))) (by rfl) (by rfl) rfl info_air8 (flw_one _) k3.out (by omega) (by omega) (neC (by omega) (neC (by omega) ne0)) ?_; intro w4 k4; replace k4 := hid k4; clear k3 tok1))
  have k7 := Kept.v (B := w.heap.size + 1) (f := clw (fun _ => 0) 0) (T := 62) k6.out in1
  exact bodyPost_ret (results_cell_row rfl _ _ (w.heap.size + 1) 62 (vls 178 (clw c t)) (0, 0) _ rfl (k7.setRow (clw c t)) Tryd.underlying62 rfl (by rw [vls_size]; exact info_col)) rfl ⟨rfl, below_row k6.out.1 (by omega) _⟩

theorem info_lcolx : (Tryd.prog.info? 57).map (·.size) = some 178 := by kernel_rfl

theorem tick_nat {c : Nat → Nat} {t : Int} (h : ColOk c t) : ∃ n : Nat, t = (n : Int) ∧ n < 9223372036854775808 :=
  ⟨t.toNat, by have := h.t0; omega, Nat.lt_of_le_of_lt (show t.toNat ≤ 1000000000 by have := h.t1; omega) (by decide)⟩

set_option maxRecDepth 100000 in
theorem sColText_no (c : Nat → Nat) (t : Int) (hb : ∀ i, i < 177 → c i < 4294967296) (h : ¬ ColOk c t) (w : World) :
    Calls Tryd.prog 34 #[.agg (vls 178 (clw c t))] w fun e w' => e = .returned (.string ⟨#[]⟩) ∧ Below w.heap.size w w' := by
  have k0 := hid ((Kept.nil w).push (vls 178 (clw c t)) 62)
  have HB := hid hb
  have HQ := hid (show false = true ↔ ColOk c t by simp [h])
  clear h hb
  go_enter Tryd.func34, Tryd.ntmps34
  go_wp2_with fail
  refine (sColOk c t HB.out false HQ.out _ w.heap.size 62 (k0.out.v in0)).mono ?_
  rintro e u1 ⟨rfl, b1⟩
  have k1 := hid (k0.out.stay b1)
  clear b1 k0
  go_wp2
  go_ret
  exact ⟨rfl, k1.out.1⟩

set_option maxRecDepth 100000 in
set_option maxHeartbeats 1000000 in
theorem sColText (c : Nat → Nat) (n : Nat) (hb : ∀ i, i < 177 → c i < 4294967296) (h : ColOk c (n : Int)) (hn : n < 9223372036854775808) (w : World) :
    Calls Tryd.prog 34 #[.agg (vls 178 (clw c (n : Int)))] w fun e w' => e = .returned (.string (txC c n 8)) ∧ Below w.heap.size w w' := by
  have k0 := hid ((Kept.nil w).push (vls 178 (clw c (n : Int))) 62)
  have HB := hid hb
  have HQ := hid h
  have HN := hid (fun w g T hg => sColTxt c n hb hn w g T hg)
  clear h hb hn
  generalize txC c n 8 = S at HN ⊢
  go_enter Tryd.func34, Tryd.ntmps34
  go_wp2_with fail
  refine (sColOk c (n : Int) HB.out true ⟨fun _ => HQ.out, fun _ => rfl⟩ _ w.heap.size 62 (k0.out.v in0)).mono ?_
  rintro e u1 ⟨rfl, b1⟩
  have k1 := hid (k0.out.stay b1)
  clear b1 k0
  go_wp2_with fail
  refine (HN.out _ w.heap.size 62 (k1.out.v in0)).mono ?_
  rintro e u2 ⟨rfl, b2⟩
  have k2 := hid (k1.out.stay b2)
  clear b2 k1
  go_wp2
  go_ret
  exact ⟨rfl, k2.out.1⟩

set_option maxRecDepth 100000 in
theorem lawColumnText (c : Nat → Nat) (t : Int) (hb : ∀ i, i < 177 → c i < 4294967296) {w : World} (ht : Tab64 w ∧ TabT w) :
    Calls Tryd.prog 7 #[.agg (vls 178 (clw c t))] w fun e w' => e = .returned (.bool true) ∧ Below w.heap.size w w' := by
  obtain ⟨T, HI, HS⟩ : ∃ T : ByteArray, Hid (∀ w, Tab64 w → TabT w → Calls Tryd.prog 36 #[.agg (vls 178 (clw c t))] w fun e w' => e = .returned (.string T) ∧ Below w.heap.size w w') ∧ Hid (∀ w, Calls Tryd.prog 34 #[.agg (vls 178 (clw c t))] w fun e w' => e = .returned (.string T) ∧ Below w.heap.size w w') := by
    rcases Classical.em (ColOk c t) with h | h
    · obtain ⟨n, rfl, hn⟩ := tick_nat h
      exact ⟨txC c n 8, hid (fun w h1 h2 => iColText c n hb h hn w h1 h2), hid (fun w => sColText c n hb h hn w)⟩
    · exact ⟨⟨#[]⟩, hid (fun w _ _ => iColText_no c t hb h w), hid (fun w => sColText_no c t hb h w)⟩
  have HT := hid ht.1
  have HU := hid ht.2
  have k0 : Hid (Kept w [(w.heap.size, vls 178 (clw c t), 57)] (w.alloc (.cells (vls 178 (clw c t)) 57))) := hid (((Kept.nil w).push _ _).sub (by simp))
  clear ht hb
  go_enter Tryd.func7, Tryd.ntmps7
  go_wp2_with (refine wpList_load_row rfl 57 _ rfl w.heap.size rfl 57 (vls 178 (clw c t)) (0, 0) _ (k0.out.at (x := (w.heap.size, vls 178 (clw c t), 57)) in0) Tryd.underlying57 rfl (by rw [vls_size]; exact info_lcolx) ?_)
  refine (toColumn c t _).mono ?_
  rintro e u1 ⟨rfl, b1⟩
  have k1 := hid (k0.out.stay b1)
  clear b1 k0
  go_wp2_with fail
  refine (HS.out _).mono ?_
  rintro e u2 ⟨rfl, b2⟩
  have k2 := hid (k1.out.stay b2)
  clear b2 k1
  go_wp2_with (refine wpList_load_row rfl 57 _ rfl w.heap.size rfl 57 (vls 178 (clw c t)) (0, 0) _ (k2.out.at (x := (w.heap.size, vls 178 (clw c t), 57)) in0) Tryd.underlying57 rfl (by rw [vls_size]; exact info_lcolx) ?_)
  refine (toColumn c t _).mono ?_
  rintro e u3 ⟨rfl, b3⟩
  have k3 := hid (k2.out.stay b3)
  clear b3 k2
  go_wp2_with fail
  refine (HI.out _ (HT.out.stay k3.out.1) (HU.out.on k3.out.1)).mono ?_
  rintro e u4 ⟨rfl, b4⟩
  have k4 := hid (k3.out.stay b4)
  clear b4 k3
  go_wp2
  go_ret
  exact ⟨rfl, k4.out.1⟩

theorem tabs_of_col {W : World} (h : laidMetH Tryd.prog Rows.fnExactColumnTextRow.laid W) (_hsh : W.ShapedOpen Tryd.prog) : Tab64 W ∧ TabT W := by
  rw [MakeChecks.laidMetH_plain _ _ _ (by kernel_rfl)] at h
  have h2 : laidMet Tryd.prog (("math/bits.deBruijn64tab", Lib.tabData .u8 tz64) :: ("internal/strconv.uint64pow10", Go.Lib.tabData .u64 Go.Lib.pow10Tab) :: []) W := laidMet.tail h
  have hT := Lib.tabIs_of_head (g := 8) (t := 239) (e := 5) (by kernel_rfl) (by kernel_rfl) Tryd.underlying239 Tryd.underlying5 (by kernel_rfl) (by kernel_rfl) h2
  exact ⟨hT.cell (by kernel_rfl) 15 (by decide), Lib.tabIs_of_head (g := 3) (t := 221) (e := 104) (by kernel_rfl) (by kernel_rfl) Tryd.underlying221 Tryd.underlying104 (by kernel_rfl) (by kernel_rfl) (laidMet.tail h2)⟩

theorem wit_col (os : Os) (args : Array Value) : laidMetH Tryd.prog Rows.fnExactColumnTextRow.laid ((World.laidAll Tryd.prog os Rows.fnExactColumnTextRow.laid).forCall (fun _ _ => 0) ⟨#[], args, []⟩).memory := by
  rw [MakeChecks.laidMetH_plain _ _ _ (by kernel_rfl)]
  exact laidMet_laidAll _ (by kernel_rfl) (by kernel_rfl)
end Go.Proofs.YtbbdnmhoagojdaaDoor

namespace Go.Proofs.YtbbdnmhoagojdaaDoor.fnExactColumnText
open Go.RowKit Go.Fl Go.ChangeShapes Go.WideShapes Go.ChangeAt

set_option maxHeartbeats 2000000 in
theorem closed : joinedFacts Tryd.prog 7 Tryd.f7 Rows.fnExactColumnTextSpec Rows.fnExactColumnTextRow = true := by
  unfold joinedFacts
  simp only [Bool.and_eq_true]
  exact ⟨⟨⟨⟨⟨⟨⟨⟨⟨⟨⟨⟨⟨⟨⟨⟨⟨⟨⟨⟨⟨⟨⟨⟨⟨⟨⟨⟨⟨⟨⟨(by as_aux_lemma => kernel_rfl),
    laid⟩,
    rowed⟩,
    (by as_aux_lemma => kernel_rfl)⟩,
    (by as_aux_lemma => kernel_rfl)⟩,
    (by as_aux_lemma => kernel_rfl)⟩,
    (by rw [no_stops]; rfl)⟩,
    (by as_aux_lemma => kernel_rfl)⟩,
    (by rw [no_knobs]; rfl)⟩,
    (by as_aux_lemma => kernel_rfl)⟩,
    (by as_aux_lemma => kernel_rfl)⟩,
    (by as_aux_lemma => kernel_rfl)⟩,
    (by as_aux_lemma => kernel_rfl)⟩,
    (by as_aux_lemma => kernel_rfl)⟩,
    (by as_aux_lemma => kernel_rfl)⟩,
    (by as_aux_lemma => kernel_rfl)⟩,
    (by as_aux_lemma => kernel_rfl)⟩,
    (by as_aux_lemma => kernel_rfl)⟩,
    (by as_aux_lemma => kernel_rfl)⟩,
    (by as_aux_lemma => kernel_rfl)⟩,
    (by as_aux_lemma => kernel_rfl)⟩,
    (by as_aux_lemma => kernel_rfl)⟩,
    (show (Rows.fnExactColumnTextRow.plainKeys == Tryd.prog.plainKeys) = true by rw [plain_keys]; rfl)⟩,
    (by as_aux_lemma => kernel_rfl)⟩,
    stops_heard⟩,
    may_enter⟩,
    (show (Rows.fnExactColumnTextRow.lifted == Tryd.prog.liftsFinal) = true by rw [lifts_final]; rfl)⟩,
    (show (Tryd.prog.make == some Rows.fnExactColumnTextRow.make) = true by rw [made]; rfl)⟩,
    (by as_aux_lemma => kernel_rfl)⟩,
    (by as_aux_lemma => kernel_rfl)⟩,
    (by as_aux_lemma => kernel_rfl)⟩,
    (by as_aux_lemma => kernel_rfl)⟩

set_option maxRecDepth 100000 in
theorem lifted (os : Os) (started : os.Started) (H : Type) (enc : TypeId × Value → H) :
    ReturnsInHanded {} Tryd.checked os 7 .any (fun w args => (Rows.fnExactColumnTextSpec.pre enc Tryd.prog Tryd.f7 Rows.fnExactColumnTextRow.domain false w args ∧ laidMetH Tryd.prog Rows.fnExactColumnTextRow.laid w) ∧ sizedMet enc Tryd.prog Tryd.f7 (OpenSpec.ofChange Rows.fnExactColumnTextSpec) false w args) (Rows.fnExactColumnTextSpec.post enc Tryd.prog Tryd.f7 false true false false) := by
  refine LawFrame.lifted_shaped (C := Tryd.checked) (fn := Tryd.f7) (n := 1) (tb := 4) (laidL := Rows.fnExactColumnTextRow.laid) started own (by kernel_rfl) Tryd.func7 laid ?_ rfl ?_ rfl Tryd.underlying4 ?_
    (ChangeSpec.witness_shaped (enc := enc) (C := Tryd.checked) (os := os) (X := fun w _ => laidMetH Tryd.prog Rows.fnExactColumnTextRow.laid w) false (World.laidAll Tryd.prog os Rows.fnExactColumnTextRow.laid) #[.agg ((Array.replicate 177 (.float .f32 0)).push (.int .i64 0))] 8 (World.laidAll_os _ _ _) (World.shaped_of_ZipB (by kernel_rfl) (by kernel_rfl)) (by kernel_rfl) (by kernel_rfl) (by kernel_rfl) (wit_col os _)) ?_
  · intro t ht
    simp only [Tryd.params7, List.mem_cons, List.not_mem_nil, or_false] at ht
    subst ht; exact rdc
  · intro ds gs hd hg
    match ds, gs, hd, hg with
    | [d0], [], _, _ => rfl
  · intro W hL
    exact ⟨[], trivial⟩
  · intro W base args ds ps hval hn hT hL hsh
    obtain ⟨v0, rfl⟩ : ∃ v0, args = #[v0] := arr1 hn
    have ht := tabs_of_col hL hsh
    simp only [Tryd.params7] at hT
    obtain ⟨c0, n0, rfl, hb0, hi0⟩ := open_col Tryd.underlying57 rfl Tryd.underlying22 Tryd.underlying2 cells178 types178 (hval 0 57 v0 rfl rfl)
    exact lawColumnText c0 n0 hb0 ht

theorem over : Rows.fnExactColumnTextRow.holds Tryd.pinned (OpenSpec.ofChange Rows.fnExactColumnTextSpec) :=
  OpenClaim.holds_of_wide 7 Tryd.f7 rfl rfl rfl rfl rfl rfl rfl ⟨rfl, rfl, rfl, rfl, rfl⟩ rfl rfl rfl rfl rfl (by kernel_rfl) Tryd.func7 closed
    (of_decide_eq_true (by kernel_rfl)) (by unfold Func.isWrapper; rw [if_neg (by decide +kernel)]; exact ⟨rfl, rfl⟩)
    (fun os started H enc _ => lifted os started H enc)

theorem named : Tryd.prog.funcNamed "loop.example/g01224/laws.FnExactColumnText" = some 7 := by kernel_rfl
theorem c_wf : Rows.fnExactColumnTextRow.wfByText (OpenSpec.ofChange Rows.fnExactColumnTextSpec) = true := by kernel_rfl
theorem c_main : Tryd.pinned.checked.prog.mainIs = some (true, "61897a0a5ea995214c5e1fa2fc9ece6a2b2193e817fa77bc0a27a8d612ef745e".toList) := by kernel_rfl
theorem c_looks : true = Tryd.pinned.checked.prog.looks [] := by kernel_rfl
theorem c_goes : false = Rows.fnExactColumnTextRow.goesBy Tryd.pinned.checked.prog := by kernel_rfl
theorem proved : Rows.FnExactColumnTextCardSaid :=
  Claim7.holds_tied_plain_at .later [] [.data, .data, .data] true (true, "61897a0a5ea995214c5e1fa2fc9ece6a2b2193e817fa77bc0a27a8d612ef745e") true
    over (fun _ h => by cases h) c_wf (fun _ h => by cases h) fnExactColumnText_row_tie rfl ⟨rfl, rfl⟩ c_main rfl
    (fun f fn hf hfn => by
      obtain rfl : f = 7 := Option.some.inj (named.symm.trans hf) |>.symm
      obtain rfl : fn = Tryd.f7 := (Option.some.inj (Tryd.func7.symm.trans hfn)).symm
      exact ⟨c_looks, fun j t ht => by
        have hm := Array.mem_of_getElem? ht
        rw [Tryd.params7] at hm
        simp only [List.mem_toArray, List.mem_cons, List.not_mem_nil, or_false] at hm
        subst hm; exact (show Tryd.prog.wantsStandIn 57 = false by kernel_rfl)⟩)
    c_goes
#print axioms proved
end Go.Proofs.YtbbdnmhoagojdaaDoor.fnExactColumnText
