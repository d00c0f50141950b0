import Derived.Test.YtbbdnmhoagojdaaDoorEReadKernel
import Derived.Test.YtbbdnmhoagojdaaDoorChecked
import Derived.Test.YtbbdnmhoagojdaaDoorRows
import Derived.Test.YtbbdnmhoagojdaaDoorCards
import Derived.Test.YtbbdnmhoagojdaaDoorTie
import Derived.Laws.FloatArith
import Derived.ProofKit
import Derived.WalkKit
import Derived.WalkLawsBesides
import Derived.WalkSpells
import Derived.Deep.RegionHeld3
import Derived.ChangeKeysEq
import Derived.Laws.BitsAllLaws
import Derived.Deep.MidRow
import Derived.Deep.WholeRow
import Derived.StillTailTactics
import Derived.Deep.Slices
import Derived.ChangeSame
import Derived.OrdersIn
import Derived.ControlIn
import Derived.RangeFuncSeq
import Derived.RangeFuncNested
import Derived.ArgAppend
import Derived.OwnWalkIn
import Derived.TacticsInMore
import Derived.Below
import Derived.Laws.AppendOwn
import Derived.Laws.ComplexArith
import Derived.Deep.Strs
import Derived.Laws.IdiomStrings
import Derived.Laws.Bits64b
import Derived.Deep.QuietTactic
import Derived.BigQuiet
import Derived.OpenShut
import Derived.Stop.LaidErr
import Derived.LaidMore
import Derived.Handed
import Derived.LaidHandle
import Derived.Stop.Joined
import Derived.MakeChecks
import Derived.Lib.LaidTab
import Derived.StillTail
import Derived.Shelf.Strings.OnBuilder
import Derived.Lib.Join
import Derived.Shelf.Strings.BuilderK
import Derived.RangeFuncLeaves
import Derived.RangeFuncBox
import Derived.LoopNIn
import Derived.LoopIn
import Derived.Shelf.Abstract
import Derived.Lib.SplitLaws
import Derived.Lib.IndexLaws
import Derived.MapKept
import Derived.ScopeJumps
import Derived.Lib.ConvBytes
import Derived.Shelf.Strconv.SyntaxError
import Derived.Lib.IfaceEq
import Derived.Shelf.Strings.Split
import Derived.HandedShaped
import Derived.Shelf.Vars
import Derived.Lay
import Derived.ChangeMaps5
import Derived.SevenTiedAt
/- The tied card of FnExactReadKernel. -/
namespace Go.Proofs.YtbbdnmhoagojdaaDoor
open Go.RowKit Go.Fl

@[go_sem] theorem ext_f64bits (y : Nat) (w : World) : (callFunc 138 #[.float .f64 y]).run Tryd.prog w = .ok (.value (.int .u64 y)) w := by
  rw [run_callFunc_extern Tryd.func138 (by kernel_rfl) (by kernel_rfl) (by kernel_rfl) (e := Extern.MathFloatBits.float64bits) (by kernel_rfl)]
  rfl

@[go_sem] theorem ext_f64from (n : Int) (w : World) : (callFunc 144 #[.int .u64 n]).run Tryd.prog w = .ok (.value (.float .f64 n.toNat)) w := by
  rw [run_callFunc_extern Tryd.func144 (by kernel_rfl) (by kernel_rfl) (by kernel_rfl) (e := Extern.MathFloatBits.float64frombits) (by kernel_rfl)]
  rfl

theorem hid {p : Prop} (h : p) : Hid p := h

theorem clear_sign (y : Nat) (h : y < 18446744073709551616) : (bits BinOp.andNot IntKind.u64 (y : Int) 9223372036854775808).toNat = y % 9223372036854775808 := by
  rw [u64_andNot _ _ (by omega) (by omega) (by omega) (by omega)]
  rw [Int.toNat_natCast, Int.toNat_natCast]
  exact Nat.and_two_pow_sub_one_eq_mod y 63

theorem abs_f64 (y : Nat) (h : y < 18446744073709551616) (w : World) :
    Calls Tryd.prog 142 #[.float .f64 y] w fun e w' => e = .returned (.float .f64 (y % 9223372036854775808)) ∧ w = w' := by
  have hc := hid (clear_sign y h)
  clear h
  go_enter Tryd.func142, Tryd.ntmps142
  go_wp2
  go_ret
  exact ⟨by simp [hc.out], rfl⟩

theorem isNaN_f64 (y : Nat) (w : World) :
    Calls Tryd.prog 107 #[.float .f64 y] w fun e w' => e = .returned (.bool (FloatKind.f64.format.order y y != some .eq)) ∧ w = w' := by
  go_enter Tryd.func107, Tryd.ntmps107
  go_wp2
  go_ret
  exact ⟨rfl, rfl⟩

theorem isInf_f64 (y : Nat) (h : y < 18446744073709551616) (w : World) :
    Calls Tryd.prog 108 #[.float .f64 y, .int .i64 0] w fun e w' => e = .returned (.bool (FloatKind.f64.format.order (y % 9223372036854775808) 9218868437227405311 == some .gt)) ∧ w = w' := by
  have hc := hid h
  clear h
  go_enter Tryd.func108, Tryd.ntmps108
  go_wp2_with (go_at_call 142; refine (abs_f64 y hc.out _).mono ?_; rintro e w' ⟨rfl, rfl⟩)
  go_ret
  exact ⟨rfl, rfl⟩

theorem isFinite_t (x : Nat) (hx : x < 4294967296) (h : finB x = true) (w : World) :
    Calls Tryd.prog 61 #[.float .f32 x] w fun e w' => e = .returned (.bool true) ∧ w = w' := by
  rw [finB_iff] at h
  have hc := fun w => run_conv_wid (P := Tryd.prog) w 22 86 x hx Tryd.underlying22 Tryd.underlying86 h
  obtain ⟨a, b, m, e, hr⟩ := read_wid_fin hx h
  have hn : (FloatKind.f64.format.order (wid x) (wid x) != some .eq) = false := by
    show (D.order (wid x) (wid x) != some .eq) = false
    rw [order_self hr]; rfl
  have hi : (FloatKind.f64.format.order (wid x % 9223372036854775808) 9218868437227405311 == some .gt) = false := by
    show (D.order (wid x % 9223372036854775808) 9218868437227405311 == some .gt) = false
    rw [b, order_ltD a (by decide)]
    rw [DINF_val] at a
    have hle : wid (mg x) ≤ 9218868437227405311 := by omega
    rcases Nat.lt_or_eq_of_le hle with h' | h'
    · rw [Nat.compare_eq_lt.2 h']; rfl
    · rw [Nat.compare_eq_eq.2 h']; rfl
  have hw : wid x < 18446744073709551616 := D.write_lt _
  have Hn := hid hn
  have Hi := hid hi
  have Hw := hid hw
  clear hn hi hw hr a b h hx
  go_enter Tryd.func61, Tryd.ntmps61
  go_wp2_with (first | (go_at_call 107; refine (isNaN_f64 (wid x) _).mono ?_; rintro e w' ⟨rfl, rfl⟩; rw [Hn.out]) | (go_at_call 108; refine (isInf_f64 (wid x) Hw.out _).mono ?_; rintro e w' ⟨rfl, rfl⟩; rw [Hi.out]))
  go_ret
  exact ⟨rfl, rfl⟩

theorem isFinite_f (x : Nat) (hx : x < 4294967296) (h : finB x = false) (w : World) :
    Calls Tryd.prog 61 #[.float .f32 x] w fun e w' => e = .returned (.bool false) ∧ Below w.heap.size w w' := by
  rw [finB_iff'] at h
  rcases Nat.lt_or_eq_of_le h with h | h
  · obtain ⟨z, hc, h1, _⟩ := run_conv_nan (P := Tryd.prog) w 22 86 x Tryd.underlying22 Tryd.underlying86 h
    obtain ⟨s, t, hr⟩ := read_nanD h1
    have Hn := hid (show (FloatKind.f64.format.order z z != some .eq) = true by
      show (D.order z z != some .eq) = true
      rw [order_nan hr]; rfl)
    clear h h1 hr hx
    go_enter Tryd.func61, Tryd.ntmps61
    go_wp2_with (go_at_call 107; refine (isNaN_f64 z _).mono ?_; rintro e w' ⟨rfl, rfl⟩; rw [Hn.out])
    go_ret
    exact ⟨rfl, (Below.refl _ _).drew⟩
  · obtain ⟨z, hc, h1, h2⟩ := run_conv_inf (P := Tryd.prog) w 22 86 x hx Tryd.underlying22 Tryd.underlying86 h.symm
    have hr : D.read z = .infinity (decide (9223372036854775808 ≤ z)) := by rw [read_signD h2, h1, read_DINF]
    have Hn := hid (show (FloatKind.f64.format.order z z != some .eq) = false by
      show (D.order z z != some .eq) = false
      rw [order_inf hr]; rfl)
    have Hi := hid (show (FloatKind.f64.format.order (z % 9223372036854775808) 9218868437227405311 == some .gt) = true by
      rw [h1]; decide)
    have H2 := hid h2
    clear h h1 hr hx h2
    go_enter Tryd.func61, Tryd.ntmps61
    go_wp2_with (first | (go_at_call 107; refine (isNaN_f64 z _).mono ?_; rintro e w' ⟨rfl, rfl⟩; rw [Hn.out]) | (go_at_call 108; refine (isInf_f64 z H2.out _).mono ?_; rintro e w' ⟨rfl, rfl⟩; rw [Hi.out]))
    go_ret
    exact ⟨rfl, Below.refl _ _⟩

theorem signbit_f64 (y : Nat) (w : World) :
    Calls Tryd.prog 97 #[.float .f64 y] w fun e w' => e = .returned (.bool (decide (wrap64 (y : Int) < 0))) ∧ w = w' := by
  go_enter Tryd.func97, Tryd.ntmps97
  go_wp2
  go_ret
  exact ⟨rfl, rfl⟩

theorem and_sign (y : Nat) (h : y < 18446744073709551616) : (decide (wrap64 (y : Int) < 0)) = decide (9223372036854775808 ≤ y) := by
  unfold wrap64
  by_cases h' : 9223372036854775808 ≤ y
  · rw [decide_eq_true h']; simp; omega
  · rw [decide_eq_false h']; simp; omega

theorem isAmount_t (x : Nat) (h : amtB x = true) (w : World) :
    Calls Tryd.prog 48 #[.float .f32 x] w fun e w' => e = .returned (.bool true) ∧ w = w' := by
  have hf := amt_fin h
  rw [amtB_iff, INF_val] at h
  have hx : x < 4294967296 := by omega
  have hc := fun w => run_conv_wid (P := Tryd.prog) w 22 86 x hx Tryd.underlying22 Tryd.underlying86 (finB_iff.1 hf)
  have hw : wid x < 18446744073709551616 := D.write_lt _
  have Hs := hid (show (decide (wrap64 (wid x : Int) < 0)) = false by
    rw [and_sign _ hw]
    have := (wid_val (x := x) (by rw [INF_val]; omega)).1
    rw [DINF_val] at this
    simp; omega)
  have Hx := hid hx
  have Hf := hid hf
  clear h hf hx hw
  go_enter Tryd.func48, Tryd.ntmps48
  go_wp2_with (first | (go_at_call 61; refine (isFinite_t x Hx.out Hf.out _).mono ?_; rintro e w' ⟨rfl, rfl⟩) | (go_at_call 97; refine (signbit_f64 (wid x) _).mono ?_; rintro e w' ⟨rfl, rfl⟩; rw [Hs.out]))
  go_ret
  exact ⟨rfl, rfl⟩

theorem isAmount_f (x : Nat) (hx : x < 4294967296) (h : amtB x = false) (w : World) :
    Calls Tryd.prog 48 #[.float .f32 x] w fun e w' => e = .returned (.bool false) ∧ Below w.heap.size w w' := by
  rcases hf : finB x with _ | _
  · have Hx := hid hx
    have Hf := hid hf
    clear h hf hx
    go_enter Tryd.func48, Tryd.ntmps48
    go_wp2_with (go_at_call 61; refine (isFinite_f x Hx.out Hf.out _).mono ?_; rintro e w' ⟨rfl, hb⟩)
    go_ret
    exact ⟨rfl, hb⟩
  · have hc := fun w => run_conv_wid (P := Tryd.prog) w 22 86 x hx Tryd.underlying22 Tryd.underlying86 (finB_iff.1 hf)
    have hw : wid x < 18446744073709551616 := D.write_lt _
    have Hs := hid (show (decide (wrap64 (wid x : Int) < 0)) = true by
      rw [and_sign _ hw, wid_fin hx (finB_iff.1 hf)]
      rw [amtB_iff', INF_val] at h
      rw [finB_iff, INF_val] at hf
      unfold mg at hf ⊢
      rw [if_pos (by omega)]
      simp)
    have Hx := hid hx
    have Hf := hid hf
    clear h hf hx hw
    go_enter Tryd.func48, Tryd.ntmps48
    go_wp2_with (first | (go_at_call 61; refine (isFinite_t x Hx.out Hf.out _).mono ?_; rintro e w' ⟨rfl, rfl⟩) | (go_at_call 97; refine (signbit_f64 (wid x) _).mono ?_; rintro e w' ⟨rfl, rfl⟩; rw [Hs.out]))
    go_ret
    exact ⟨rfl, Below.refl _ _⟩

/-- The table of trailing zeros where the base asks it. -/
def Tab64 (w : World) : Prop := w.cell? ⟨8, 15, none⟩ = some (.int .u8 4)

theorem Tab64.stay {w w' : World} (h : Tab64 w) (hb : Below w.heap.size w w') : Tab64 w' := by
  unfold Tab64 at *
  rw [hb.cell (block_lt_of_cell h)]; exact h

set_option maxRecDepth 100000 in
set_option maxHeartbeats 1000000 in
theorem iZeros16 (w : World) (h : Tab64 w) : Calls Tryd.prog 176 #[.int .u64 16] w fun e w' => e = .returned (.int .i64 4) ∧ w' = w := by
  have c0 : w.cell? ⟨8, 15, none⟩ = some (.int .u8 4) := h
  have hq : IntKind.u64.wrap (bits BinOp.and IntKind.u64 16 (IntKind.u64.wrap (-16)) * 285870213051353865) / 288230376151711744 = 15 := by decide
  clear h
  go_enter Tryd.func176, Tryd.ntmps176
  go_wp2
  go_ret
  exact ⟨rfl, rfl⟩

theorem hx_bits (u : Nat) (h : u < 18446744073709551616) : bits BinOp.and IntKind.u64 (u : Int) 15 = ((u % 16 : Nat) : Int) := by
  rw [show (15 : Int) = ((15 : Nat) : Int) from rfl, bits_and_u64_nat u 15 h (by decide), Nat.and_two_pow_sub_one_eq_mod u 4]

theorem zero65 : Tryd.zeroCells222 = vls 65 (fun _ => .int .u8 0) := by rfl

theorem info_u8 : (Tryd.prog.info? 5).map (·.size) = some 1 := by kernel_rfl

theorem ix36 (d : Nat) (h : d < 16) (w : World) : (Instr.index 9 (.string ⟨#[48, 49, 50, 51, 52, 53, 54, 55, 56, 57, 97, 98, 99, 100, 101, 102, 103, 104, 105, 106, 107, 108, 109, 110, 111, 112, 113, 114, 115, 116, 117, 118, 119, 120, 121, 122]⟩) (.int .u64 (d : Int))).run Tryd.prog w = .ok (.int .u8 (hexN d : Int)) w :=
  index_hex .u64 Tryd.underlying9 (by decide) (by decide) d h w

set_option maxRecDepth 100000 in
set_option maxHeartbeats 1000000 in
theorem iPow16 (w : World) : Calls Tryd.prog 175 #[.int .i64 16] w fun e w' => e = .returned (.bool true) ∧ w' = w := by
  have hb : bits BinOp.and IntKind.i64 16 15 = 0 := by decide
  go_enter Tryd.func175, Tryd.ntmps175
  go_wp2
  go_ret
  exact ⟨rfl, rfl⟩

theorem hx_cv {n t m : Nat} {w w2 : World} (k2 : Kept w [(w.heap.size, vls 65 (hxW n 65 (t + 1)), 222)] w2) (h : m + (t + 1) = 65) :
    (convert 39 9 (.slice (some ⟨w.heap.size, m, none⟩) (t + 1) (t + 1))).run Tryd.prog w2 = .ok (.string ⟨(hexL n (t + 1)).toArray⟩) w2 := by
  have h1 := run_convert_bytes_back (P := Tryd.prog) w2 39 9 5 ⟨w.heap.size, m, none⟩ (t + 1) (hexL n (t + 1)) Tryd.underlying39 Tryd.underlying5 Tryd.underlying9 (fun j hj => by
    rw [hexL_length] at hj
    rw [Addr.add_mid, ← hxW_read n 65 (k := t + 1) (i := j) (by omega) hj, show 65 - (t + 1) + j = m + j by omega]
    exact (k2.v in0).cell (by omega))
  rwa [hexL_length] at h1

set_option maxRecDepth 100000 in
set_option maxHeartbeats 1000000 in
theorem iFormatBits (n : Nat) (hn : n < 4294967296) (w : World) (ht : Tab64 w) :
    Calls Tryd.prog 154 #[.slice none 0 0, .int .u64 (n : Int), .int .i64 16, .bool false, .bool false] w fun e w' =>
      (∃ k, 1 ≤ k ∧ k ≤ 8 ∧ n < 16 ^ k ∧ e = .returned (.tuple #[.slice none 0 0, .string ⟨(hexL n k).toArray⟩])) ∧ Below w.heap.size w w' := by
  have hT := hid (ht.stay ((Below.refl w.heap.size w).alloc (Nat.le_refl _) (.cells (vls 65 (fun _ => .int .u8 0)) 222)))
  have HN := hid hn
  clear ht hn
  have k0 := hid ((Kept.nil w).push (vls 65 fun _ => .int .u8 0) 222)
  go_enter Tryd.func154, Tryd.ntmps154
  go_wp2_with fail
  rw [zero65]
  refine (iPow16 _).mono ?_
  rintro e w1 ⟨rfl, rfl⟩
  go_wp2_with fail
  refine (iZeros16 _ hT.out).mono ?_
  rintro e w1 ⟨rfl, rfl⟩
  clear hT
  go_wp2_with fail
  have k1 : Hid (Kept w [(w.heap.size, vls 65 (hxW n 65 0), 222)] (w.alloc (.cells (vls 65 (fun _ => .int .u8 0)) 222))) := hid (k0.out.ext (fun i hi => (hxW_zero n 65 hi).symm))
  clear k0
  go_loopw [1, 13] (fun v i wr => ∃ t u j : Nat, t ≤ 7 ∧ j + t = 65 ∧ v = .int .u64 (u : Int) ∧ i = .int .i64 (j : Int) ∧ Hid (u = n / 16 ^ t) ∧ Hid (Kept w [(w.heap.size, vls 65 (hxW n 65 t), 222)] wr)) (fun v _ _ => (intOf v).toNat)
  case atStart => exact ⟨0, n, 65, by omega, rfl, rfl, rfl, hid (by simp), k1⟩
  case round =>
    clear k1
    obtain ⟨t, u, j, ht, hj, rfl, rfl, hu, h1⟩ := hrel
    obtain ⟨m, rfl⟩ : ∃ m, j = m + 1 := ⟨j - 1, by omega⟩
    have hm3 : (m : Int) < 65 := by omega
    have hm4 : wrap64 (m : Int) = (m : Int) := by unfold wrap64; omega
    by_cases hge : 16 ≤ u
    · have hg3 : (16 : Int) ≤ (u : Int) := by omega
      have hu64 : u < 18446744073709551616 := by
        have h1 := hu.out
        have h2 := HN.out
        have h3 := Nat.div_le_self n (16 ^ t)
        omega
      obtain ⟨d, hd⟩ : ∃ d, d = u % 16 := ⟨_, rfl⟩
      have hb : bits BinOp.and IntKind.u64 (u : Int) 15 = (d : Int) := by rw [hd]; exact hx_bits u hu64
      have hix := ix36 d (by rw [hd]; exact Nat.mod_lt _ (by decide))
      have HD := hid hd
      have HT := hid ht
      have HJ := hid hj
      have HG := hid hge
      have tok1 : True := trivial
      clear hge ht hj hu64 hd
      go_wp2_with (have _t := tok1; refine store_one (by rfl) 5 _ _ (by rfl) info_u8 (w.heap.size) m (.int .u8 (hexN d : Int)) (by rfl) (by rfl) rfl rfl h1.out (by omega) (by omega) ne0 ?_; intro w2 k2; rw [HD.out] at k2; replace k2 := hid (k2.ext (hx_st hu.out (by have := HJ.out; omega))); clear h1 tok1)
      go_roundw
      case rel => exact ⟨t + 1, u / 16, m, by have := hx_more HN.out (by rw [← hu.out]; exact HG.out); omega, by have := HJ.out; omega, by go_num, by go_num, hid (by rw [hu.out, hx_next]), k2⟩
      case measure => have := HG.out; simp [intOf]; omega
    · have hg3 : ¬ (16 : Int) ≤ (u : Int) := by omega
      have hix := ix36 u (by omega)
      have HJ := hid hj
      have hx2 : Hid (u < 16) := hid (by omega)
      have hk1 : m + (t + 1) = 65 := by omega
      have HT := hid ht
      have hal : Tryd.prog.arrayLen 222 = 65 := by kernel_rfl
      have hsl : ∀ W, (Instr.sliceAt 222 (.pointer (some ⟨w.heap.size, 0, none⟩)) (some (.int .i64 (m : Int))) none none).run Tryd.prog W = .ok (.slice (some ⟨w.heap.size, m, none⟩) (t + 1) (t + 1)) W := fun W => by
        rw [run_sliceAt_array_l W 222 ⟨w.heap.size, 0, none⟩ Tryd.underlying222 .i64 (m : Int) (by omega) (by rw [hal]; omega)]
        go_simp
        omega
      have tok1 : True := trivial
      have HK1 := hid hk1
      clear hge hj hk1 ht
      go_wp2_with (have _t := tok1; refine store_one (by rfl) 5 _ _ (by rfl) info_u8 (w.heap.size) m (.int .u8 (hexN u : Int)) (by rfl) (by rfl) rfl rfl h1.out (by omega) (by omega) ne0 ?_; intro w2 k2; replace k2 := hid (k2.ext (hx_st' hu.out hx2.out (by have := HJ.out; omega))); have hcv := hx_cv k2.out HK1.out; clear h1 tok1)
      go_ret2
      exact ⟨⟨t + 1, by omega, by have := HT.out; omega, hx_last (by rw [← hu.out]; exact hx2.out), rfl⟩, k2.out.1⟩

theorem wrU {c : Nat} (h : c < 1000) : IntKind.u64.wrap (c : Int) = (c : Int) := by rw [IntKind.wrap_u64]; omega

theorem and32 {c : Nat} (h : c < 1000) : bits BinOp.and IntKind.u64 (c : Int) 4294967295 = (c : Int) := by
  rw [show (4294967295 : Int) = ((4294967295 : Nat) : Int) from rfl, bits_and_u64_nat c _ (by omega) (by decide), Nat.and_two_pow_sub_one_eq_mod c 32]
  congr 1
  omega

set_option maxRecDepth 100000 in
set_option maxHeartbeats 1000000 in
theorem iMul1 (c : Nat) (hc : c < 1000) (w : World) : Calls Tryd.prog 156 #[.int .u64 1, .int .u64 (c : Int)] w fun e w' => e = .returned (.tuple #[.int .u64 0, .int .u64 (c : Int)]) ∧ w' = w := by
  have h1 : bits BinOp.and IntKind.u64 1 4294967295 = 1 := and32 (c := 1) (by omega)
  have h2 := and32 hc
  have h3 : (c : Int) / 4294967296 = 0 := by omega
  have h4 := wrU hc
  have h5 : bits BinOp.and IntKind.u64 0 4294967295 = 0 := and32 (c := 0) (by omega)
  clear hc
  go_enter Tryd.func156, Tryd.ntmps156
  go_wp2
  go_ret2
  exact ⟨rfl, rfl⟩

set_option maxRecDepth 100000 in
set_option maxHeartbeats 1000000 in
theorem iMul2 (c : Nat) (hc : c < 1000) (w : World) : Calls Tryd.prog 117 #[.int .u64 1, .int .u64 (c : Int)] w fun e w' => e = .returned (.tuple #[.int .u64 0, .int .u64 (c : Int)]) ∧ w' = w := by
  have HC := hid hc
  clear hc
  go_enter Tryd.func117, Tryd.ntmps117
  go_wp2_with fail
  refine (iMul1 c HC.out _).mono ?_
  rintro e w1 ⟨rfl, rfl⟩
  go_wp2
  go_ret2
  exact ⟨rfl, rfl⟩

set_option maxRecDepth 100000 in
set_option maxHeartbeats 1000000 in
theorem iHasPre (s : ByteArray) (h : 1 ≤ s.size) (b : Bool) (hb : ((s.extract 0 1).toList == [48]) = b) (w : World) : Calls Tryd.prog 157 #[.string s, .string ⟨#[48]⟩] w fun e w' => e = .returned (.bool b) ∧ w' = w := by
  have h1 : (1 : Int) ≤ (s.size : Int) := by omega
  go_enter Tryd.func157, Tryd.ntmps157
  go_wp2
  go_ret
  exact ⟨rfl, rfl⟩

set_option maxRecDepth 100000 in
set_option maxHeartbeats 1000000 in
theorem iHasPre2 (s : ByteArray) (h : 1 ≤ s.size) (b : Bool) (hb : ((s.extract 0 1).toList == [48]) = b) (w : World) : Calls Tryd.prog 118 #[.string s, .string ⟨#[48]⟩] w fun e w' => e = .returned (.bool b) ∧ w' = w := by
  have H := hid h
  have HB := hid hb
  clear h hb
  go_enter Tryd.func118, Tryd.ntmps118
  go_wp2_with fail
  refine (iHasPre s H.out b HB.out _).mono ?_
  rintro e w1 ⟨rfl, rfl⟩
  go_wp2
  go_ret
  exact ⟨rfl, rfl⟩

set_option maxRecDepth 100000 in
set_option maxHeartbeats 1000000 in
theorem iRep0 (w : World) : Calls Tryd.prog 69 #[.string ⟨#[48]⟩, .int .i64 0] w fun e w' => e = .returned (.string ⟨#[]⟩) ∧ w' = w := by
  go_enter Tryd.func69, Tryd.ntmps69
  go_wp2
  go_ret
  exact ⟨rfl, rfl⟩

set_option maxRecDepth 100000 in
set_option maxHeartbeats 1000000 in
theorem iRep1 (w : World) : Calls Tryd.prog 69 #[.string ⟨#[48]⟩, .int .i64 1] w fun e w' => e = .returned (.string ⟨#[48]⟩) ∧ w' = w := by
  go_enter Tryd.func69, Tryd.ntmps69
  go_wp2
  go_ret
  exact ⟨rfl, rfl⟩

def zs64 : ByteArray := ⟨#[48, 48, 48, 48, 48, 48, 48, 48, 48, 48, 48, 48, 48, 48, 48, 48, 48, 48, 48, 48, 48, 48, 48, 48, 48, 48, 48, 48, 48, 48, 48, 48, 48, 48, 48, 48, 48, 48, 48, 48, 48, 48, 48, 48, 48, 48, 48, 48, 48, 48, 48, 48, 48, 48, 48, 48, 48, 48, 48, 48, 48, 48, 48, 48]⟩

theorem rep_cut (c : Nat) (h : c ≤ 7) : zs64.extract 0 c = ⟨(List.replicate c 48).toArray⟩ := by
  have : ∀ c, c < 8 → zs64.extract 0 c = ⟨(List.replicate c 48).toArray⟩ := by decide +kernel
  exact this c (by omega)

set_option maxRecDepth 100000 in
set_option maxHeartbeats 1000000 in
theorem iRepN (c : Nat) (h2 : 2 ≤ c) (h7 : c ≤ 7) (w : World) : Calls Tryd.prog 69 #[.string ⟨#[48]⟩, .int .i64 (c : Int)] w fun e w' => e = .returned (.string ⟨(List.replicate c 48).toArray⟩) ∧ w' = w := by
  have a0 : ¬ (c : Int) = 0 := by omega
  have a1 : ¬ (c : Int) = 1 := by omega
  have a2 : ¬ (c : Int) < 0 := by omega
  have a3 := wrU (c := c) (by omega)
  have a4 : ¬ (9223372036854775807 : Int) < (c : Int) := by omega
  have a5 : wrap64 (c : Int) = (c : Int) := by unfold wrap64; omega
  have a6 : (c : Int) ≤ 64 := by omega
  have hv : ((ByteArray.mk #[48])[0]'(by decide)).toNat = 48 := rfl
  have H2 := hid h2
  have H7 := hid h7
  clear h2 h7
  go_enter Tryd.func69, Tryd.ntmps69
  go_wp2_with fail
  refine (iMul2 c (by have := H7.out; omega) _).mono ?_
  rintro e w1 ⟨rfl, rfl⟩
  go_wp2_with fail
  refine (iHasPre2 _ (by decide +kernel) false (by decide +kernel) _).mono ?_
  rintro e w1 ⟨rfl, rfl⟩
  go_wp2_with fail
  refine (iHasPre2 _ (by decide +kernel) false (by decide +kernel) _).mono ?_
  rintro e w1 ⟨rfl, rfl⟩
  go_wp2_with fail
  refine (iHasPre2 _ (by decide +kernel) true (by decide +kernel) _).mono ?_
  rintro e w1 ⟨rfl, rfl⟩
  go_wp2_with fail
  go_ret
  exact ⟨congrArg (fun s => Ending.returned (Value.string s)) (rep_cut c H7.out), rfl⟩

theorem iRep (c : Nat) (h : c ≤ 7) (w : World) : Calls Tryd.prog 69 #[.string ⟨#[48]⟩, .int .i64 (c : Int)] w fun e w' => e = .returned (.string ⟨(List.replicate c 48).toArray⟩) ∧ w' = w := by
  rcases Nat.lt_or_ge c 2 with h1 | h1
  · rcases Nat.lt_or_ge c 1 with h2 | h2
    · obtain rfl : c = 0 := by omega
      exact iRep0 w
    · obtain rfl : c = 1 := by omega
      exact iRep1 w
  · exact iRepN c h1 h w

set_option maxRecDepth 100000 in
set_option maxHeartbeats 1000000 in
theorem iFormatUint (n : Nat) (hn : n < 4294967296) (w : World) (ht : Tab64 w) :
    Calls Tryd.prog 115 #[.int .u64 (n : Int), .int .i64 16] w fun e w' =>
      (∃ k, 1 ≤ k ∧ k ≤ 8 ∧ n < 16 ^ k ∧ e = .returned (.string ⟨(hexL n k).toArray⟩)) ∧ Below w.heap.size w w' := by
  have hT := hid ht
  have HN := hid hn
  clear ht hn
  go_enter Tryd.func115, Tryd.ntmps115
  go_wp2_with fail
  refine (iFormatBits n HN.out _ hT.out).mono ?_
  rintro e w1 ⟨⟨k, h1, h2, h3, rfl⟩, hb⟩
  have HB := hid hb
  have H3 := hid h3
  clear hb h3
  go_wp2
  go_ret
  exact ⟨⟨k, h1, h2, H3.out, rfl⟩, HB.out⟩

set_option maxRecDepth 100000 in
set_option maxHeartbeats 1000000 in
theorem iFormatUint2 (n : Nat) (hn : n < 4294967296) (w : World) (ht : Tab64 w) :
    Calls Tryd.prog 67 #[.int .u64 (n : Int), .int .i64 16] w fun e w' =>
      (∃ k, 1 ≤ k ∧ k ≤ 8 ∧ n < 16 ^ k ∧ e = .returned (.string ⟨(hexL n k).toArray⟩)) ∧ Below w.heap.size w w' := by
  have hT := hid ht
  have HN := hid hn
  clear ht hn
  go_enter Tryd.func67, Tryd.ntmps67
  go_wp2_with fail
  refine (iFormatUint n HN.out _ hT.out).mono ?_
  rintro e w1 ⟨⟨k, h1, h2, h3, rfl⟩, hb⟩
  have HB := hid hb
  have H3 := hid h3
  clear hb h3
  go_wp2
  go_ret
  exact ⟨⟨k, h1, h2, H3.out, rfl⟩, HB.out⟩

theorem info_f32 : ∃ i, Tryd.prog.info? 22 = some i ∧ i.size = 1 := by
  have h : (Tryd.prog.info? 22).map (·.size) = some 1 := by kernel_rfl
  cases hi : Tryd.prog.info? 22 with
  | none => rw [hi] at h; cases h
  | some i => rw [hi] at h; exact ⟨i, rfl, Option.some.inj h⟩

theorem ix (T : TypeId) (hT : Tryd.prog.underlying T = some (.array 20 22)) (c : Nat → Nat) (k : Nat) (hk : k < 20) (w : World) :
    (Instr.index T (.agg (fls c)) (.int .i64 (k : Int))).run Tryd.prog w = .ok (.float .f32 (c k)) w := by
  obtain ⟨i, h1, h2⟩ := info_f32
  exact run_index_arr hT Tryd.underlying22 rfl h1 h2 _ _ hk _ (fls_get c hk) w

theorem info_arr : (Tryd.prog.info? 24).map (·.size) = some 20 := by kernel_rfl

set_option maxRecDepth 100000 in
theorem validSizes_t (c : Nat → Nat) (h : ∀ i, i < 20 → amtB (c i) = true) (w : World) :
    Calls Tryd.prog 102 #[.agg (fls c)] w fun e w' => e = .returned (.bool true) ∧ Below w.heap.size w w' := by
  have H := hid h
  clear h
  go_enter Tryd.func102, Tryd.ntmps102
  go_wp2_with (refine wpList_load_row rfl 24 _ rfl w.heap.size rfl 24 (fls c) (0, 0) _ (heap_alloc_new _ _) Tryd.underlying24 rfl (by rw [fls_size]; exact info_arr) ?_)
  go_loop [6] (fun i => ∃ k : Nat, k ≤ 20 ∧ i = .int .i64 k) (fun i => 20 - (intOf i).toNat)
  case atStart => exact ⟨0, by omega, rfl⟩
  case round =>
    obtain ⟨k, hk, rfl⟩ := hrel
    by_cases hlt : k < 20
    · have hix := ix 24 Tryd.underlying24 c k hlt
      go_wp2_with (go_at_call 48; refine (isAmount_t (c k) (H.out k hlt) _).mono ?_; rintro e w' ⟨rfl, rfl⟩)
      go_round
      case rel => exact ⟨k + 1, by omega, by go_num⟩
      case measure => simp [intOf]; omega
    · go_wp2
      go_ret
      exact ⟨rfl, (Below.refl _ _).alloc (Nat.le_refl _) _⟩

@[go_sem] theorem ext_f32bits (y : Nat) (w : World) : (callFunc 116 #[.float .f32 y]).run Tryd.prog w = .ok (.value (.int .u32 y)) w := by
  rw [run_callFunc_extern Tryd.func116 (by kernel_rfl) (by kernel_rfl) (by kernel_rfl) (e := Extern.MathFloatBits.float32bits) (by kernel_rfl)]
  rfl

theorem sFinite_t (x : Nat) (hx : x < 4294967296) (h : finB x = true) (w : World) :
    Calls Tryd.prog 141 #[.float .f32 x] w fun e w' => e = .returned (.bool true) ∧ w = w' := by
  have hr := fun w => run_float_arith (P := Tryd.prog) w .sub 22 .f32 x x 0 (sub_self_fin hx h)
  clear h hx
  go_enter Tryd.func141, Tryd.ntmps141
  go_wp2
  go_ret
  exact ⟨rfl, rfl⟩

theorem sAmount_t (x : Nat) (h : amtB x = true) (w : World) :
    Calls Tryd.prog 101 #[.float .f32 x] w fun e w' => e = .returned (.bool true) ∧ w = w' := by
  have hf := amt_fin h
  have h' := amtB_iff.1 h
  have hx : x < 4294967296 := by rw [INF_val] at h'; omega
  have Hx := hid hx
  have Hf := hid hf
  by_cases h0 : x = 0
  · subst h0
    clear h hf h' hx
    go_enter Tryd.func101, Tryd.ntmps101
    go_wp2_with (go_at_call 141; refine (sFinite_t 0 Hx.out Hf.out _).mono ?_; rintro e w' ⟨rfl, rfl⟩)
    go_ret
    exact ⟨rfl, rfl⟩
  · have hg : (FloatKind.f32.format.order x 0 == some .gt) = true := by
      show (S.order x 0 == some .gt) = true
      rw [order_zero_pos h', Nat.compare_eq_gt.2 (by omega)]; rfl
    clear h hf h' hx h0
    go_enter Tryd.func101, Tryd.ntmps101
    go_wp2_with (go_at_call 141; refine (sFinite_t x Hx.out Hf.out _).mono ?_; rintro e w' ⟨rfl, rfl⟩)
    go_ret
    exact ⟨rfl, rfl⟩

set_option maxRecDepth 100000 in
theorem validSizes_f (c : Nat → Nat) (hb : ∀ i, i < 20 → c i < 4294967296) (h : ¬ ∀ i, i < 20 → amtB (c i) = true) (w : World) :
    Calls Tryd.prog 102 #[.agg (fls c)] w fun e w' => e = .returned (.bool false) ∧ Below w.heap.size w w' := by
  have H := hid h
  have HB := hid hb
  clear h hb
  go_enter Tryd.func102, Tryd.ntmps102
  go_wp2_with (refine wpList_load_row rfl 24 _ rfl w.heap.size rfl 24 (fls c) (0, 0) _ (heap_alloc_new _ _) Tryd.underlying24 rfl (by rw [fls_size]; exact info_arr) ?_)
  go_loop [6] (fun i => ∃ k : Nat, k ≤ 20 ∧ Hid (∀ i, i < k → amtB (c i) = true) ∧ i = .int .i64 k) (fun i => 20 - (intOf i).toNat)
  case atStart => exact ⟨0, by omega, hid (fun i hi => by omega), rfl⟩
  case round =>
    obtain ⟨k, hk, HK, rfl⟩ := hrel
    by_cases hlt : k < 20
    · have hix := ix 24 Tryd.underlying24 c k hlt
      rcases hac : amtB (c k) with _ | _
      · have HA := hid hac
        clear hac
        go_wp2_with (go_at_call 48; refine (isAmount_f (c k) (HB.out k hlt) HA.out _).mono ?_; rintro e w' ⟨rfl, hb⟩)
        go_ret
        exact ⟨rfl, (((Below.refl _ _).alloc (Nat.le_refl _) _).trans (hb.mono (by simp)))⟩
      · have HA := hid hac
        clear hac
        go_wp2_with (go_at_call 48; refine (isAmount_t (c k) HA.out _).mono ?_; rintro e w' ⟨rfl, rfl⟩)
        go_round
        case rel =>
          refine ⟨k + 1, by omega, hid (fun i hi => ?_), by go_num⟩
          by_cases e : i = k
          · subst e; exact HA.out
          · exact HK.out i (by omega)
        case measure => simp [intOf]; omega
    · have hk20 : k = 20 := by omega
      exact (H.out (fun i hi => HK.out i (by omega))).elim

theorem info_a20 : (Tryd.prog.info? 23).map (·.size) = some 20 := by kernel_rfl

theorem div_one_some {y m : Nat} {s : Bool} {e : Int} (h : D.read y = .number s m e) : ∃ q, floatBits .quo .f64 4607182418800017408 y = some q := by
  have h1 : D.read 4607182418800017408 = .number false 4503599627370496 (-52) := by decide
  show ∃ q, D.div 4607182418800017408 y = some q
  unfold Ieee.Format.div
  rw [h, h1]
  simp only [Ieee.Datum.quotient]
  by_cases hm : m = 0
  · rw [if_pos hm]; exact ⟨_, rfl⟩
  · rw [if_neg hm]; exact ⟨_, rfl⟩

set_option maxRecDepth 100000 in
theorem sameFloat (x : Nat) (hx : x < 4294967296) (h : finB x = true) (w : World) :
    Calls Tryd.prog 49 #[.float .f64 (wid x), .float .f64 (wid x)] w fun e w' => e = .returned (.bool true) ∧ w = w' := by
  obtain ⟨a, b, m, e, hr⟩ := read_wid_fin hx (finB_iff.1 h)
  have hn : (FloatKind.f64.format.order (wid x) (wid x) != some .eq) = false := by
    show (D.order (wid x) (wid x) != some .eq) = false
    rw [order_self hr]; rfl
  have hq : (FloatKind.f64.format.order (wid x) (wid x) == some .eq) = true := by
    show (D.order (wid x) (wid x) == some .eq) = true
    rw [order_self hr]; rfl
  obtain ⟨q, hd⟩ := div_one_some hr
  have hdiv := fun w => run_float_arith (P := Tryd.prog) w .quo 86 .f64 4607182418800017408 (wid x) q hd
  clear hd hr a b h hx
  rcases hz : (FloatKind.f64.format.order (wid x) 0 == some .eq) with _ | _
  · go_enter Tryd.func49, Tryd.ntmps49
    go_wp2
    go_ret
    exact ⟨by simp, rfl⟩
  · go_enter Tryd.func49, Tryd.ntmps49
    go_wp2
    go_ret
    exact ⟨by simp, rfl⟩

theorem back {P : Program} {f : FuncId} {args : Array Value} {w : World} {v : Value} (h : Calls P f args w fun e w' => e = .returned v ∧ w = w') : Calls P f args w fun e w' => e = .returned v ∧ w' = w :=
  h.mono fun _ _ ⟨a, b⟩ => ⟨a, b.symm⟩

def Amts (c : Nat → Nat) : Prop := ∀ i, i < 20 → amtB (c i) = true

theorem iBits (x : Nat) (hx : x < 4294967296) (w : World) :
    Calls Tryd.prog 68 #[.float .f32 x] w fun e w' => e = .returned (.int .u32 (nb x : Int)) ∧ Below w.heap.size w w' := by
  have hnb : nb x = if nanB x = true then 2143289344 else x := rfl
  rcases hn : nanB x with _ | _
  · have hle : mg x ≤ INF := by simpa [nanB] using hn
    rw [hn] at hnb
    have Hnb := hid hnb
    rcases Nat.lt_or_eq_of_le hle with h | h
    · have hc := fun w => run_conv_wid (P := Tryd.prog) w 22 86 x hx Tryd.underlying22 Tryd.underlying86 h
      obtain ⟨_, _, m, e, hr⟩ := read_wid_fin hx h
      have Hn := hid (show (FloatKind.f64.format.order (wid x) (wid x) != some .eq) = false by
        show (D.order (wid x) (wid x) != some .eq) = false
        rw [order_self hr]; rfl)
      clear hnb hn hle h hr hx
      go_enter Tryd.func68, Tryd.ntmps68
      go_wp2_with (go_at_call 107; refine (isNaN_f64 (wid x) _).mono ?_; rintro e w' ⟨rfl, rfl⟩; rw [Hn.out])
      go_ret
      exact ⟨by rw [Hnb.out]; simp, Below.refl _ _⟩
    · obtain ⟨z, hc, h1, h2⟩ := run_conv_inf (P := Tryd.prog) w 22 86 x hx Tryd.underlying22 Tryd.underlying86 h
      have hr : D.read z = .infinity (decide (9223372036854775808 ≤ z)) := by rw [read_signD h2, h1, read_DINF]
      have Hn := hid (show (FloatKind.f64.format.order z z != some .eq) = false by
        show (D.order z z != some .eq) = false
        rw [order_inf hr]; rfl)
      clear hnb hn hle h hr hx h1 h2
      go_enter Tryd.func68, Tryd.ntmps68
      go_wp2_with (go_at_call 107; refine (isNaN_f64 z _).mono ?_; rintro e w' ⟨rfl, rfl⟩; rw [Hn.out])
      go_ret
      exact ⟨by rw [Hnb.out]; simp, Below.refl _ _⟩
  · have h : INF < mg x := by simpa [nanB] using hn
    rw [hn] at hnb
    have Hnb := hid hnb
    obtain ⟨z, hc, h1, _⟩ := run_conv_nan (P := Tryd.prog) w 22 86 x Tryd.underlying22 Tryd.underlying86 h
    obtain ⟨s, t, hr⟩ := read_nanD h1
    have Hn := hid (show (FloatKind.f64.format.order z z != some .eq) = true by
      show (D.order z z != some .eq) = true
      rw [order_nan hr]; rfl)
    clear hnb hn h hr hx h1
    go_enter Tryd.func68, Tryd.ntmps68
    go_wp2_with (go_at_call 107; refine (isNaN_f64 z _).mono ?_; rintro e w' ⟨rfl, rfl⟩; rw [Hn.out])
    go_ret
    exact ⟨by rw [Hnb.out]; simp, (Below.refl _ _).drew⟩

theorem nb_lt {x : Nat} (h : x < 4294967296) : nb x < 4294967296 := by
  unfold nb; split
  · decide
  · exact h

theorem hex8 {n k : Nat} (h2 : k ≤ 8) (h3 : n < 16 ^ k) : List.replicate (8 - k) 48 ++ hexL n k = hexL n 8 := by
  have := hexL_zeros k n (8 - k) h3
  rw [show k + (8 - k) = 8 by omega] at this
  exact this.symm

/-- The text of a number. -/
def txN (x : Nat) : ByteArray := ⟨(hexL (nb x) 8).toArray⟩

theorem cat_hex {n k : Nat} (h2 : k ≤ 8) (h3 : n < 16 ^ k) : (⟨(List.replicate (8 - k) 48).toArray⟩ ++ ⟨(hexL n k).toArray⟩ : ByteArray) = ⟨(hexL n 8).toArray⟩ := by
  rw [← hex8 h2 h3]
  apply ByteArray.ext
  simp

set_option maxRecDepth 100000 in
set_option maxHeartbeats 1000000 in
theorem iNumberText (x : Nat) (hx : x < 4294967296) (w : World) (ht : Tab64 w) :
    Calls Tryd.prog 31 #[.float .f32 x] w fun e w' => e = .returned (.string (txN x)) ∧ Below w.heap.size w w' := by
  have HT := hid ht
  have HX := hid hx
  have hc : IntKind.u64.wrap (nb x : Int) = (nb x : Int) := by have := nb_lt hx; rw [IntKind.wrap_u64]; omega
  clear ht hx
  go_enter Tryd.func31, Tryd.ntmps31
  go_wp2_with fail
  refine (iBits x HX.out _).mono ?_
  rintro e w1 ⟨rfl, hb1⟩
  have T1 := hid (HT.out.stay hb1)
  have B1 := hid hb1
  clear hb1 HT
  go_wp2_with fail
  refine (iFormatUint2 (nb x) (nb_lt HX.out) _ T1.out).mono ?_
  rintro e w2 ⟨⟨k, h1, h2, h3, rfl⟩, hb2⟩
  have B2 := hid (((Kept.nil w).stay B1.out).stay hb2)
  have hl : (⟨(hexL (nb x) k).toArray⟩ : ByteArray).size = k := by show (hexL (nb x) k).toArray.size = k; simp [hexL_length]
  have hs : wrap64 (8 - (k : Int)) = ((8 - k : Nat) : Int) := by rw [show (8 : Int) - (k : Int) = ((8 - k : Nat) : Int) by omega]; unfold wrap64; omega
  have hs' : (8 : Int) - (k : Int) = ((8 - k : Nat) : Int) := by omega
  obtain ⟨m, hm⟩ : ∃ m, m = 8 - k := ⟨_, rfl⟩
  rw [← hm] at hs hs'
  have H2 := hid h2
  have H3 := hid h3
  have HM := hid hm
  have hm7 : Hid (m ≤ 7) := hid (by omega)
  have hwm : wrap64 (m : Int) = (m : Int) := by unfold wrap64; omega
  clear hb2 B1 h1 h2 h3 hm T1
  go_wp2_with fail
  refine (iRep m hm7.out _).mono ?_
  rintro e w3 ⟨rfl, rfl⟩
  go_wp2
  go_ret
  refine ⟨congrArg (fun s => Ending.returned (Value.string s)) ?_, B2.out.1⟩
  rw [HM.out]
  exact cat_hex H2.out H3.out

set_option maxRecDepth 100000 in
set_option maxHeartbeats 1000000 in
theorem sBits (x : Nat) (hx : x < 4294967296) (w : World) :
    Calls Tryd.prog 139 #[.float .f32 x] w fun e w' => e = .returned (.int .u32 (nb x : Int)) ∧ w' = w := by
  have n1 := neq_self x hx
  have hnb : nb x = if nanB x = true then 2143289344 else x := rfl
  rcases hn : nanB x with _ | _
  · rw [hn] at hnb n1
    rw [hnb]
    clear hnb hn
    go_enter Tryd.func139, Tryd.ntmps139
    go_wp2
    go_ret
    exact ⟨by simp, rfl⟩
  · rw [hn] at hnb n1
    rw [hnb]
    clear hnb hn
    go_enter Tryd.func139, Tryd.ntmps139
    go_wp2
    go_ret
    exact ⟨by simp, rfl⟩

theorem words_cons : ∀ (v : List Char) (r : List Char), (∀ c ∈ v, c ≠ Char.ofNat 32) → wordsSigns (v ++ Char.ofNat 32 :: r) = v :: wordsSigns r
  | [], r, _ => rfl
  | c :: v, r, h => by
    have ih := words_cons v r (fun x hx => h x (by simp [hx]))
    have hc : c ≠ Char.ofNat 32 := h c (by simp)
    show wordsSigns (c :: (v ++ Char.ofNat 32 :: r)) = _
    rw [wordsSigns.eq_3 _ _ (fun e => hc e), ih]

def w0 : List Nat := [104, 97, 114, 110, 101, 115, 115]

def w1 : List Nat := [54, 49, 56, 57, 55, 97, 48, 97, 53, 101, 97, 57, 57, 53, 50, 49, 52, 99, 53, 101, 49, 102, 97, 50, 102, 99, 57, 101, 99, 101, 54, 97, 50, 98, 50, 49, 57, 51, 101, 56, 49, 55, 102, 97, 55, 55, 98, 99, 48, 97, 50, 55, 97, 56, 100, 54, 49, 50, 101, 102, 55, 52, 53, 101]

def w2 : List Nat := [99, 117, 116]

def w3 : List Nat := [97, 116, 32, 108, 111, 111, 112, 46, 101, 120, 97, 109, 112, 108, 101, 47, 103, 48, 49, 50, 50, 52, 47, 108, 97, 119, 115, 46, 70, 110, 69, 120, 97, 99, 116, 82, 101, 97, 100, 83, 105, 122, 101, 115, 32, 108, 111, 111, 112, 46, 101, 120, 97, 109, 112, 108, 101, 47, 103, 48, 49, 50, 50, 52, 47, 108, 97, 119, 115, 46, 70, 110, 69, 120, 97, 99, 116, 82, 101, 97, 100, 65, 105, 114, 32, 108, 111, 111, 112, 46, 101, 120, 97, 109, 112, 108, 101, 47, 103, 48, 49, 50, 50, 52, 47, 108, 97, 119, 115, 46, 70, 110, 69, 120, 97, 99, 116, 82, 101, 97, 100, 75, 101, 114, 110, 101, 108, 32, 108, 111, 111, 112, 46, 101, 120, 97, 109, 112, 108, 101, 47, 103, 48, 49, 50, 50, 52, 47, 108, 97, 119, 115, 46, 70, 110, 67, 108, 97, 115, 115, 101, 115, 32, 108, 111, 111, 112, 46, 101, 120, 97, 109, 112, 108, 101, 47, 103, 48, 49, 50, 50, 52, 47, 108, 97, 119, 115, 46, 70, 110, 69, 120, 97, 99, 116, 67, 111, 108, 117, 109, 110, 84, 101, 120, 116, 32, 108, 111, 111, 112, 46, 101, 120, 97, 109, 112, 108, 101, 47, 103, 48, 49, 50, 50, 52, 47, 108, 97, 119, 115, 46, 70, 110, 69, 120, 97, 99, 116, 68, 101, 101, 100, 84, 101, 120, 116, 32, 108, 111, 111, 112, 46, 101, 120, 97, 109, 112, 108, 101, 47, 103, 48, 49, 50, 50, 52, 47, 108, 97, 119, 115, 46, 70, 110, 69, 120, 97, 99, 116, 82, 101, 97, 100, 68, 101, 101, 100, 32, 108, 111, 111, 112, 46, 101, 120, 97, 109, 112, 108, 101, 47, 103, 48, 49, 50, 50, 52, 47, 108, 97, 119, 115, 46, 70, 110, 69, 120, 97, 99, 116, 65, 99, 116, 84, 101, 120, 116]

def letters (l : List Nat) : List Char := l.map Char.ofNat

theorem head_reads : Tryd.prog.initOrder = String.ofList (letters w0 ++ Char.ofNat 32 :: (letters w1 ++ Char.ofNat 32 :: (letters w2 ++ Char.ofNat 32 :: letters w3))) := by kernel_rfl

theorem no_blank {l : List Nat} (h : l.all (fun n => Char.ofNat n != Char.ofNat 32) = true) : ∀ c ∈ letters l, c ≠ Char.ofNat 32 := by
  intro c hc
  obtain ⟨n, hn, rfl⟩ := List.mem_map.1 hc
  have := List.all_eq_true.1 h n hn
  simpa using this

theorem h0 : letters w0 = "harness".toList := by kernel_rfl

theorem h2 : letters w2 = "cut".toList := by kernel_rfl

theorem sums : isSumSigns (letters w1) = true := by kernel_rfl

theorem words : wordsSigns Tryd.prog.initOrder.toList = "harness".toList :: letters w1 :: "cut".toList :: wordsSigns (letters w3) := by
  rw [head_reads, String.toList_ofList, words_cons _ _ (no_blank (by decide +kernel)), words_cons _ _ (no_blank (by decide +kernel)), words_cons _ _ (no_blank (by decide +kernel)), h0, h2]

theorem behind : ∃ r, behindMainWord (wordsSigns Tryd.prog.initOrder.toList) = "cut".toList :: r := by
  refine ⟨wordsSigns (letters w3), ?_⟩
  rw [words]
  generalize wordsSigns (letters w3) = r
  have hs := sums
  generalize letters w1 = v at hs
  unfold behindMainWord
  simp [hs]

theorem not_later : Tryd.prog.laysLater = false := by kernel_rfl

theorem no_reflect : Tryd.prog.bearsReflect = false := by kernel_rfl

theorem no_doors : Tryd.prog.doorFits [] = true := by kernel_rfl

theorem strips (r : List (List Char)) : stripLifts liftWords ("cut".toList :: r) = ([], "cut".toList :: r) := by kernel_rfl

theorem may_enter_of (P : Program) (r : List (List Char)) (h : behindMainWord (wordsSigns P.initOrder.toList) = "cut".toList :: r) (h1 : P.laysLater = false) (h2 : P.bearsReflect = false) (h3 : P.doorFits [] = true) : P.mayEnter = true := by
  unfold Program.mayEnter
  rw [h]
  dsimp only
  rw [strips, h1, h2, h3]
  kernel_rfl

theorem lifts_final_of (P : Program) (r : List (List Char)) (h : behindMainWord (wordsSigns P.initOrder.toList) = "cut".toList :: r) : P.liftsFinal = false := by
  unfold Program.liftsFinal Program.headLifts
  rw [h]
  dsimp only
  rw [strips]
  kernel_rfl

theorem made_of (P : Program) (r : List (List Char)) (h : behindMainWord (wordsSigns P.initOrder.toList) = "cut".toList :: r) : P.make = some .cut := by
  unfold Program.make
  rw [h]
  kernel_rfl

theorem may_enter : Tryd.prog.mayEnter = true := let ⟨r, h⟩ := behind; may_enter_of _ r h not_later no_reflect no_doors

theorem lifts_final : Tryd.prog.liftsFinal = false := let ⟨r, h⟩ := behind; lifts_final_of _ r h

theorem made : Tryd.prog.make = some .cut := let ⟨r, h⟩ := behind; made_of _ r h

theorem laid : laidOutB Tryd.prog = true := by kernel_rfl

theorem rowed : mapsRowed Tryd.prog = true := by kernel_rfl

theorem no_stops : Tryd.prog.stops = [] := by kernel_rfl

theorem no_knobs : Tryd.prog.stopKnobs = [] := by kernel_rfl

theorem plain_keys : Tryd.prog.plainKeys = true := by kernel_rfl

theorem stops_heard : Tryd.prog.stopsHeard = true := by kernel_rfl

theorem arr1 {α : Type} {cs : Array α} (h : cs.size = 1) : ∃ c0, cs = #[c0] := by
  obtain ⟨l⟩ := cs
  match l, h with
  | [a], _ => exact ⟨a, rfl⟩

theorem own : ownKnob Tryd.prog.godebug = none := by kernel_rfl

def tz64 : List Int := [0, 1, 56, 2, 57, 49, 28, 3, 61, 58, 42, 50, 38, 29, 17, 4, 62, 47, 59, 36, 45, 43, 51, 22, 53, 39, 33, 30, 24, 18, 12, 5, 63, 55, 48, 27, 60, 41, 37, 16, 46, 35, 44, 21, 52, 32, 23, 11, 54, 26, 40, 15, 34, 20, 31, 10, 25, 14, 19, 9, 13, 8, 7, 6]

/-- A whole array stored: the world behind it under a name of its own. -/
theorem store_abs {P : Program} {ops : Array Oper} {rest : List Oper} {o : Oper} {a : Act} {w : World} {Q : Exit → Act → World → Prop} (hgd : o.guard = none) (ty : TypeId) (x y : Operand) (ho : o.op = .store ty x y)
    (g : Nat) (d : Nat → Nat) (hx : a.eval x = .pointer (some ⟨g, 0, none⟩)) (hy : a.eval y = .agg (fls d)) (t : TypeId) (old : Nat → Nat) (hg : arrAt w g old t) (hi : (P.info? ty).map (·.size) = some 20)
    (h : ∀ w', w' = w.setRow g (fls d) → wpList P ops Q rest (a.put o.dst undef) w') : wpList P ops Q (o :: rest) a w :=
  wpList_store_row hgd ty x y ho g (fls d) hx hy t (fls old) hg (by rw [fls_size]; exact hi) (by simp) (fls_one d) (h _ rfl)

def rest1 (x : Nat) : Nat := fsub 1065353216 x

def mixed (c d : Nat → Nat) (x : Nat) : Nat → Nat := fun i => fadd (fmul (c i) (rest1 x)) (fmul (d i) x)

theorem infoz_f32 : (Tryd.prog.info? 22).map (fun i => (i.zero, i.size, i.bytes)) = some (some (.float .f32 0), 1, 4) := by kernel_rfl

theorem info_f1 : (Tryd.prog.info? 22).map (·.size) = some 1 := by kernel_rfl

/-- A slice of n words that a call made. -/
def MadeF (n : Nat) (x : Nat → Nat) (w : World) (v : Value) (w' : World) : Prop := ∃ B cs cap, v = .slice (some ⟨B, 0, none⟩) n cap ∧ w.heap.size ≤ B ∧ LvV cs n (flV x) ∧ Kept w [(B, cs, 22)] w'

def szB (c : Nat → Nat) : Bool := (List.range 20).all fun i => amtB (c i)

set_option maxRecDepth 100000 in
theorem eqA20 (c : Nat → Nat) (hb : ∀ i, i < 20 → c i < 4294967296) (h : ∀ i, i < 20 → finB (c i) = true) (w : World) :
    Calls Tryd.prog 56 #[.agg (fls c), .agg (fls c)] w fun e w' => e = .returned (.bool true) ∧ Below w.heap.size w w' := by
  have b0 : Below w.heap.size w (w.alloc (.cells (fls c) 23)) := (Below.refl _ _).alloc (Nat.le_refl _) _
  have a0 := hid (arrAt.new w c 23)
  have H := hid h
  have HB := hid hb
  clear h hb
  go_enter Tryd.func56, Tryd.ntmps56
  go_wp2
  go_loopw [5] (fun i wr => ∃ k : Nat, k ≤ 20 ∧ i = .int .i64 k ∧ Hid (arrAt wr w.heap.size c 23) ∧ Hid (arrAt wr (w.heap.size + 1) c 23) ∧ Hid (Below w.heap.size w wr)) (fun i _ => 20 - (intOf i).toNat)
  case atStart =>
    refine ⟨0, by omega, rfl, hid (a0.out.alloc _), hid ?_, hid (b0.alloc (by simp) _)⟩
    have := arrAt.new (w.alloc (.cells (fls c) 23)) c 23
    have e : (w.alloc (.cells (fls c) 23)).heap.size = w.heap.size + 1 := by simp
    rw [e] at this
    exact this
  case round =>
    obtain ⟨k, hk, rfl, h0, h1, hb⟩ := hrel
    by_cases hlt : k < 20
    · have q0 := h0.out.cell hlt
      have q1 := h1.out.cell hlt
      have hc := fun w => run_conv_wid (P := Tryd.prog) w 22 86 (c k) (HB.out k hlt) Tryd.underlying22 Tryd.underlying86 (finB_iff.1 (H.out k hlt))
      go_wp2
      go_quiet ((go_at_call 49; exact Calls.quiet_of_same (back (sameFloat (c k) (HB.out k hlt) (H.out k hlt) _))))
      go_wp2
      go_roundw
      case rel => exact ⟨k + 1, by omega, by go_num, h0, h1, hid (below_drewN hb.out _)⟩
      case measure => simp [intOf]; omega
    · go_wp2
      go_ret
      exact ⟨rfl, hb.out⟩

theorem info_kern : (Tryd.prog.info? 35).map (·.size) = some 400 := by kernel_rfl

@[go_sem] theorem zero_kern : Tryd.zeroCells35 = vls 400 (flw fun _ => 0) := by kernel_rfl

set_option maxRecDepth 100000 in
theorem eqKernel (c : Nat → Nat) (hb : ∀ i, i < 400 → c i < 4294967296) (h : ∀ i, i < 400 → finB (c i) = true) (w : World) :
    Calls Tryd.prog 19 #[.agg (vls 400 (flw c)), .agg (vls 400 (flw c))] w fun e w' => e = .returned (.bool true) ∧ Below w.heap.size w w' := by
  have A0 := hid ((vAt.new w 400 (flw c) 35).alloc (.cells (vls 400 (flw c)) 35))
  have A1 := hid (vAt.new1 w (.cells (vls 400 (flw c)) 35) 400 (flw c) 35)
  have b0 := boxed2 w (.cells (vls 400 (flw c)) 35) (.cells (vls 400 (flw c)) 35)
  have H := hid h
  have HB := hid hb
  clear h hb
  go_enter Tryd.func19, Tryd.ntmps19
  go_wp2_with fail
  go_loopw [5] (fun i wr => ∃ k : Nat, k ≤ 20 ∧ i = .int .i64 k ∧ Hid (vAt wr w.heap.size 400 (flw c) 35) ∧ Hid (vAt wr (w.heap.size + 1) 400 (flw c) 35) ∧ Hid (Below w.heap.size w wr)) (fun i _ => 20 - (intOf i).toNat)
  case atStart => exact ⟨0, by omega, rfl, A0, A1, hid b0⟩
  case round =>
    obtain ⟨k, hk, rfl, h0, h1, hb⟩ := hrel
    by_cases hlt : k < 20
    · have hk3 : (k : Int) < 20 := by omega
      go_wp2_with fail
      have h0 := hid h0.out.drew
      have h1 := hid h1.out.drew
      have hb := hid hb.out.drew
      refine wp_region_still_tail 6 (by kernel_rfl) (by kernel_rfl) ?_
      change wpStill _ _ wr.drew (fun a' => wpList _ _ _ _ a' wr.drew) _ _
      simp only [List.take_succ_cons, List.take_zero, List.drop_succ_cons, List.drop_zero]
      generalize wr.drew = w2 at h0 h1 hb ⊢
      still_step
      still_step
      refine still_load rfl 23 _ rfl _ rfl _ (h0.out.krowAt (k := k) hlt Tryd.underlying23 rfl info_a20) ?_
      simp only [Act.put, List.setIfInBounds_toArray, List.set_cons_zero, List.set_cons_succ]
      still_step
      still_step
      refine still_load rfl 23 _ rfl _ rfl _ (h1.out.krowAt (k := k) hlt Tryd.underlying23 rfl info_a20) ?_
      refine wpStill_nil ?_
      go_wp2_with fail
      refine (eqA20 (rowK c k) (fun i hi => HB.out _ (by omega)) (fun i hi => H.out _ (by omega)) _).mono ?_
      rintro e w3 ⟨rfl, hb3⟩
      have h0 := hid (h0.out.stay hb3)
      have h1 := hid (h1.out.stay hb3)
      have hb := stp hb.out (Nat.le_refl _) hb3
      go_wp2
      go_roundw
      case rel => exact ⟨k + 1, by omega, by go_num, h0, h1, hid hb⟩
      case measure => simp [intOf]; omega
    · go_wp2
      go_ret
      exact ⟨rfl, hb.out⟩

theorem sFinite_fq (x : Nat) (hx : x < 4294967296) (h : finB x = false) (w : World) :
    Calls Tryd.prog 141 #[.float .f32 x] w fun e w' => e = .returned (.bool false) ∧ ∃ m, w' = w.drewN m := by
  obtain ⟨z, hr, h1, _⟩ := run_arith_nan (P := Tryd.prog) w .sub (by simp) 22 x x (sub_self_none hx h)
  have Hn := hid (show (FloatKind.f32.format.order z 0 == some .eq) = false by
    show (S.order z 0 == some .eq) = false
    rw [order_nan32 h1]; rfl)
  clear h hx h1
  go_enter Tryd.func141, Tryd.ntmps141
  go_wp2
  go_ret
  exact ⟨by simp [Hn.out], 1, rfl⟩

theorem sAmount_fq (x : Nat) (hx : x < 4294967296) (h : amtB x = false) (w : World) :
    Calls Tryd.prog 101 #[.float .f32 x] w fun e w' => e = .returned (.bool false) ∧ ∃ m, w' = w.drewN m := by
  rcases hf : finB x with _ | _
  · have Hx := hid hx
    have Hf := hid hf
    clear h hf hx
    go_enter Tryd.func101, Tryd.ntmps101
    go_wp2_with (go_at_call 141; refine (sFinite_fq x Hx.out Hf.out _).mono ?_; rintro e w' ⟨rfl, hb⟩)
    go_ret
    exact ⟨rfl, hb⟩
  · have hs : 2147483648 ≤ x := by
      rw [amtB_iff', INF_val] at h
      have := finB_iff.1 hf
      rw [INF_val] at this
      unfold mg at this
      omega
    have hg : (FloatKind.f32.format.order x 0 == some .gt) = false := order_neg_zero hx hf hs
    have hb : ((x : Int) == 0) = false := by simp; omega
    have Hx := hid hx
    have Hf := hid hf
    clear h hf hx hs
    go_enter Tryd.func101, Tryd.ntmps101
    go_wp2_with (go_at_call 141; refine (sFinite_t x Hx.out Hf.out _).mono ?_; rintro e w' ⟨rfl, rfl⟩)
    go_ret
    exact ⟨rfl, 0, rfl⟩

/-- A kernel is valid. -/
def KOk (c : Nat → Nat) : Prop := AmtK c ∧ Sym c

set_option maxHeartbeats 1000000 in
set_option maxRecDepth 100000 in
theorem sKOk (c : Nat → Nat) (hb : ∀ i, i < 400 → c i < 4294967296) (q : Bool) (hq : q = true ↔ KOk c) (w : World) (g : Nat) (T : TypeId) (hg : vAt w g 400 (flw c) T) :
    Calls Tryd.prog 54 #[.pointer (some ⟨g, 0, none⟩)] w fun e w' => e = .returned (.bool q) ∧ Below w.heap.size w w' := by
  have HB := hid hb
  have HQ := hid hq
  have HG := hid hg
  clear hb hq hg
  go_enter Tryd.func54, Tryd.ntmps54
  go_wp2_with fail
  go_loopw [3] (fun i wr => ∃ k : Nat, k ≤ 20 ∧ i = .int .i64 k ∧ Hid (∀ i j, i < k → j < 20 → amtB (c (i * 20 + j)) = true ∧ (FloatKind.f32.format.order (c (i * 20 + j)) (c (j * 20 + i)) != some .eq) = false) ∧ Hid (vAt wr g 400 (flw c) T) ∧ Hid (Below w.heap.size w wr)) (fun i _ => 20 - (intOf i).toNat)
  case atStart => exact ⟨0, by omega, rfl, hid (fun i j hi => by omega), HG, hid (Below.refl _ _)⟩
  case round =>
    obtain ⟨k, hk, rfl, hA, h0, hb⟩ := hrel
    by_cases hlt : k < 20
    · have HK := hid hlt
      have hk3 : (k : Int) < 20 := by omega
      go_wp2_with fail
      go_loopw [4] (fun i wr => ∃ j : Nat, j ≤ 20 ∧ i = .int .i64 j ∧ Hid (∀ i, i < j → amtB (c (k * 20 + i)) = true ∧ (FloatKind.f32.format.order (c (k * 20 + i)) (c (i * 20 + k)) != some .eq) = false) ∧ Hid (vAt wr g 400 (flw c) T) ∧ Hid (Below w.heap.size w wr)) (fun i _ => 20 - (intOf i).toNat)
      case atStart => exact ⟨0, by omega, rfl, hid (fun i hi => by omega), h0, hb⟩
      case round =>
        clear h0 hb
        obtain ⟨j, hj, rfl, hR, h0, hb⟩ := hrel
        by_cases hlj : j < 20
        · have HJ := hid hlj
          have hj3 : (j : Int) < 20 := by omega
          have q0 := h0.out.fcell (k := k * 20 + j) (by omega)
          have q1 := h0.out.fcell (k := j * 20 + k) (by omega)
          have hx := HB.out (k * 20 + j) (by omega)
          rcases ha : amtB (c (k * 20 + j)) with _ | _
          · have HA := hid ha
            have HX := hid hx
            have hnq : q = false := by
              rw [← Bool.not_eq_true]
              intro ht
              have := (HQ.out.1 ht).1 (k * 20 + j) (by have := HK.out; have := HJ.out; omega)
              rw [ha] at this; cases this
            subst hnq
            clear ha hx
            go_wp2_with fail
            go_quiet ((go_at_call 101; exact Calls.quiet_of (sAmount_fq (c (k * 20 + j)) HX.out HA.out _)))
            go_wp2
            go_ret
            exact ⟨rfl, below_drewN hb.out _⟩
          · have HA := hid ha
            rcases ho : (FloatKind.f32.format.order (c (k * 20 + j)) (c (j * 20 + k)) != some .eq) with _ | _
            · have HR2 : Hid (∀ i, i < j + 1 → amtB (c (k * 20 + i)) = true ∧ (FloatKind.f32.format.order (c (k * 20 + i)) (c (i * 20 + k)) != some .eq) = false) := hid (all_step hR.out ⟨ha, ho⟩)
              clear ha hx
              go_wp2_with fail
              go_quiet ((go_at_call 101; exact Calls.quiet_of_same (back (sAmount_t (c (k * 20 + j)) HA.out _))))
              go_wp2
              go_roundw
              case rel => exact ⟨j + 1, by omega, by go_num, HR2, h0, hid (below_drewN hb.out _)⟩
              case measure => simp [intOf]; omega
            · have hnq : q = false := by
                rw [← Bool.not_eq_true]
                intro ht
                have hs := (HQ.out.1 ht).2 k j HK.out HJ.out
                have h1 := feq_amt ha (hs ▸ ha)
                rw [decide_eq_true hs] at h1
                have h2 : (!(FloatKind.f32.format.order (c (k * 20 + j)) (c (j * 20 + k)) == some .eq)) = true := ho
                rw [show (FloatKind.f32.format.order (c (k * 20 + j)) (c (j * 20 + k)) == some .eq) = true from h1] at h2
                cases h2
              subst hnq
              clear ha hx
              go_wp2_with fail
              go_quiet ((go_at_call 101; exact Calls.quiet_of_same (back (sAmount_t (c (k * 20 + j)) HA.out _))))
              go_wp2
              go_ret
              exact ⟨rfl, below_drewN hb.out _⟩
        · obtain rfl : j = 20 := by omega
          have HA2 : Hid (∀ i j, i < k + 1 → j < 20 → amtB (c (i * 20 + j)) = true ∧ (FloatKind.f32.format.order (c (i * 20 + j)) (c (j * 20 + i)) != some .eq) = false) := hid fun i j hi hj => by
            rcases Nat.lt_or_eq_of_le (Nat.le_of_lt_succ hi) with h | h
            · exact hA.out i j h hj
            · rw [h]; exact hR.out j hj
          go_wp2
          go_roundw
          case rel => exact ⟨k + 1, by omega, by go_num, HA2, h0, hb⟩
          case measure => simp [intOf]; omega
    · obtain rfl : k = 20 := by omega
      have hqt : q = true := HQ.out.2 ⟨fun n hn => by
        have := (hA.out (n / 20) (n % 20) (by omega) (by omega)).1
        rwa [show n / 20 * 20 + n % 20 = n by omega] at this, fun i j hi hj => by
        have h1 := feq_amt (hA.out i j hi hj).1 (hA.out j i hj hi).1
        have h2 : (!(FloatKind.f32.format.order (c (i * 20 + j)) (c (j * 20 + i)) == some .eq)) = false := (hA.out i j hi hj).2
        by_cases e : c (i * 20 + j) = c (j * 20 + i)
        · exact e
        · rw [decide_eq_false e] at h1
          rw [show (FloatKind.f32.format.order (c (i * 20 + j)) (c (j * 20 + i)) == some .eq) = false from h1] at h2
          cases h2⟩
      subst hqt
      go_wp2
      go_ret
      exact ⟨rfl, hb.out⟩

theorem ixk (c : Nat → Nat) (k : Nat) (hk : k < 20) (w : World) :
    (Instr.index 35 (.agg (vls 400 (flw c))) (.int .i64 (k : Int))).run Tryd.prog w = .ok (.agg (fls (rowK c k))) w :=
  run_index_row Tryd.underlying35 Tryd.underlying23 rfl info_a20 400 (flw c) k hk (by omega) w

theorem ixr (c : Nat → Nat) (k : Nat) (hk : k < 20) (w : World) :
    (Instr.index 23 (.agg (fls c)) (.int .i64 (k : Int))).run Tryd.prog w = .ok (.float .f32 (c k)) w := ix 23 Tryd.underlying23 c k hk w

set_option maxHeartbeats 1000000 in
set_option maxRecDepth 100000 in
theorem iTransposed (c : Nat → Nat) (w : World) :
    Calls Tryd.prog 103 #[.agg (vls 400 (flw c))] w fun e w' => e = .returned (.agg (vls 400 (flw (trK c)))) ∧ Below w.heap.size w w' := by
  have A0 := hid (((vAt.new w 400 (flw c) 35).alloc (.cells (vls 400 (flw fun _ => 0)) 35)).alloc (.cells (vls 400 (flw fun _ => 0)) 35))
  have A1 := hid ((vAt.new1 w (.cells (vls 400 (flw c)) 35) 400 (flw fun _ => 0) 35).alloc (.cells (vls 400 (flw fun _ => 0)) 35))
  have A2 := hid (vAt.new2 w (.cells (vls 400 (flw c)) 35) (.cells (vls 400 (flw fun _ => 0)) 35) 400 (flw fun _ => 0) 35)
  have b0 := boxed3 w (.cells (vls 400 (flw c)) 35) (.cells (vls 400 (flw fun _ => 0)) 35) (.cells (vls 400 (flw fun _ => 0)) 35)
  go_enter Tryd.func103, Tryd.ntmps103
  go_wp2_with (refine wpList_load_row rfl 35 _ rfl (w.heap.size) rfl 35 (vls 400 (flw c)) (0, 0) _ A0.out Tryd.underlying35 rfl (by rw [vls_size]; exact info_kern) ?_)
  go_loopw [9] (fun i wr => ∃ k : Nat, k ≤ 20 ∧ i = .int .i64 k ∧ Hid (vAt wr (w.heap.size + 1 + 1) 400 (flw (trP c k 0)) 35) ∧ Hid (vAt wr (w.heap.size + 1) 400 (flw fun _ => 0) 35) ∧ Hid (Below w.heap.size w wr)) (fun i _ => 20 - (intOf i).toNat)
  case atStart => exact ⟨0, by omega, rfl, hid (A2.out.ext fun i _ => by unfold flw; rw [trP_zero]), A1, hid b0⟩
  case round =>
    obtain ⟨k, hk, rfl, g2, g1, hb⟩ := hrel
    by_cases hlt : k < 20
    · have HK := hid hlt
      have hk3 : (k : Int) < 20 := by omega
      have hix := ixk c k hlt
      have hs := hb.out.size
      have N0 := hid (arrAt.new wr (fun _ => 0) 23)
      have P0 := hid (N0.out.setRow (rowK c k))
      have n2 := hid ((g2.out.alloc (.cells (fls fun _ => 0) 23)).setRowOther (k := wr.heap.size) (Nat.ne_of_lt g2.out.lt) (fls (rowK c k)))
      have n1 := hid ((g1.out.alloc (.cells (fls fun _ => 0) 23)).setRowOther (k := wr.heap.size) (Nat.ne_of_lt g1.out.lt) (fls (rowK c k)))
      have nb := below_row (hb.out.alloc hb.out.size (.cells (fls fun _ => 0) 23)) hb.out.size (g := wr.heap.size) (fls (rowK c k))
      clear A0 A1 A2
      have tok1 : True := trivial
      go_wp2_with (first | (have _t := P1; refine wpList_load_row rfl 23 _ rfl (wr.heap.size) rfl 23 (fls (rowK c k)) (0, 0) _ P1.out Tryd.underlying23 rfl (by rw [fls_size]; exact info_a20) ?_) | (have _t := tok1; refine store_abs rfl 23 _ _ rfl wr.heap.size (rowK c k) rfl rfl 23 _ N0.out info_a20 ?_; intro w9 hw9; rw [← hw9] at P0 n2 n1 nb; clear hw9 N0 g1 g2 hb tok1; have P1 := hid P0.out))
      clear hix
      go_loopw [14] (fun i wr2 => ∃ j : Nat, j ≤ 20 ∧ i = .int .i64 j ∧ Hid (vAt wr2 (w.heap.size + 1 + 1) 400 (flw (trP c k j)) 35) ∧ Hid (vAt wr2 (w.heap.size + 1) 400 (flw fun _ => 0) 35) ∧ Hid (Below w.heap.size w wr2)) (fun i _ => 20 - (intOf i).toNat)
      case atStart => exact ⟨0, by omega, rfl, n2, n1, hid nb⟩
      case round =>
        clear n2 n1 nb P0 P1
        obtain ⟨j, hj, rfl, g2, g1, hb⟩ := hrel
        by_cases hlj : j < 20
        · have HJ := hid hlj
          have hj3 : (j : Int) < 20 := by omega
          have hix := ixr (rowK c k) j hlj
          have q2 := g2.out.cell (k := j * 20 + k) (by omega)
          have f2 := g2.out.frozen (j * 20 + k)
          have n2 := hid ((g2.out.fset (j * 20 + k) (rowK c k j)).ext (d := flw (trP c k (j + 1))) fun n _ => by unfold flw; rw [show rowK c k j = c (k * 20 + j) from rfl, trP_set c HK.out HJ.out])
          have n1 := hid (g1.out.setOther (a := ⟨w.heap.size + 1 + 1, j * 20 + k, none⟩) (by simp) (.float .f32 (rowK c k j)))
          have nb := hb.out.setCell (p := ⟨w.heap.size + 1 + 1, j * 20 + k, none⟩) (by simp; omega) (.float .f32 (rowK c k j))
          clear g2 g1 hb
          go_wp2
          go_roundw
          case rel => exact ⟨j + 1, by omega, by go_num, n2, n1, hid nb⟩
          case measure => simp [intOf]; omega
        · obtain rfl : j = 20 := by omega
          have n2 := hid (g2.out.ext (d := flw (trP c (k + 1) 0)) fun n hn => by unfold flw; rw [trP_next c k n hn])
          clear g2
          go_wp2
          go_roundw
          case rel => exact ⟨k + 1, by omega, by go_num, n2, g1, hb⟩
          case measure => simp [intOf]; omega
    · obtain rfl : k = 20 := by omega
      have n2 := hid (g2.out.ext (d := flw (trK c)) fun n _ => by unfold flw; rw [trP_all])
      clear g2
      go_wp2_with (first | (refine wpList_load_row rfl 35 _ rfl (w.heap.size + 1 + 1) rfl 35 (vls 400 (flw (trK c))) (0, 0) _ n2.out Tryd.underlying35 rfl (by rw [vls_size]; exact info_kern) ?_) | (refine wpList_store_row rfl 35 _ _ rfl (w.heap.size + 1) (vls 400 (flw (trK c))) rfl rfl 35 _ g1.out (by rw [vls_size]; exact info_kern) (by simp) (vls_one (flw_one _)) ?_))
      exact bodyPost_ret (results_cell_row rfl _ _ (w.heap.size + 1) 35 (vls 400 (flw (trK c))) (0, 0) _ rfl (g1.out.setRow (flw (trK c))) Tryd.underlying35 rfl (by rw [vls_size]; exact info_kern)) rfl ⟨rfl, below_row hb.out (by omega) _⟩

theorem eq_kern (c d : Nat → Nat) (w : World) : (binOp .eql 35 (.agg (vls 400 (flw c))) (.agg (vls 400 (flw d)))).run Tryd.prog w = .ok (.bool (eqK c d)) w := by
  have hR : (Tryd.prog.info? 23).map (·.size) = some 20 := info_a20
  cases hi : Tryd.prog.info? 23 with
  | none => rw [hi] at hR; cases hR
  | some iR =>
    rw [hi] at hR
    obtain ⟨iE, h1, _⟩ := info_f32
    exact run_eq_kernels Tryd.underlying35 Tryd.underlying23 Tryd.underlying22 hi (by simpa using hR) h1 (by kernel_rfl) (by kernel_rfl) c d w

theorem run_trans (a : Act) (p : Tmp) (v : Value) (hx : a.eval (.tmp p) = v) (d : Option Tmp) (ats : Array TypeId) (t : TypeId) (ps : String) (af : Array Edge) (gd : Option (Nat × Bool)) (w : World) :
    (execOp a.eval ⟨d, .call { callee := .value (.func 103), args := #[.tmp p], argTypes := ats }, t, ps, af, gd⟩).run Tryd.prog w = .ok (.enter 103 #[v]) w := by
  have hx' : a.tmps[p]?.getD undef = v := by rw [← hx]; simp [Act.eval]
  clear hx
  unfold execOp
  go_simp

set_option maxHeartbeats 1000000 in
set_option maxRecDepth 100000 in
theorem iValidKernel (c : Nat → Nat) (hb : ∀ i, i < 400 → c i < 4294967296) (q : Bool) (hq : q = true ↔ KOk c) (w : World) :
    Calls Tryd.prog 55 #[.agg (vls 400 (flw c))] w fun e w' => e = .returned (.bool q) ∧ Below w.heap.size w w' := by
  have A0 := hid (vAt.new w 400 (flw c) 35)
  have b0 := boxed w (.cells (vls 400 (flw c)) 35)
  have HB := hid hb
  have HQ := hid hq
  clear hb hq
  go_enter Tryd.func55, Tryd.ntmps55
  go_wp2_with (refine wpList_load_row rfl 35 _ rfl (w.heap.size) rfl 35 (vls 400 (flw c)) (0, 0) _ A0.out Tryd.underlying35 rfl (by rw [vls_size]; exact info_kern) ?_)
  go_loopw [6] (fun i wr => ∃ k : Nat, k ≤ 20 ∧ i = .int .i64 k ∧ Hid (∀ n, n < k * 20 → amtB (c n) = true) ∧ Hid (vAt wr w.heap.size 400 (flw c) 35) ∧ Hid (Below w.heap.size w wr)) (fun i _ => 20 - (intOf i).toNat)
  case atStart => exact ⟨0, by omega, rfl, hid (fun n hn => by omega), A0, hid b0⟩
  case round =>
    obtain ⟨k, hk, rfl, hA, g0, hb⟩ := hrel
    by_cases hlt : k < 20
    · have HK := hid hlt
      have hk3 : (k : Int) < 20 := by omega
      have hix := ixk c k hlt
      have N0 := hid (arrAt.new wr (fun _ => 0) 23)
      have P0 := hid (N0.out.setRow (rowK c k))
      have n0 := hid ((g0.out.alloc (.cells (fls fun _ => 0) 23)).setRowOther (k := wr.heap.size) (Nat.ne_of_lt g0.out.lt) (fls (rowK c k)))
      have nb := below_row (hb.out.alloc hb.out.size (.cells (fls fun _ => 0) 23)) hb.out.size (g := wr.heap.size) (fls (rowK c k))
      clear A0 b0
      have tok1 : True := trivial
      go_wp2_with (first | (have _t := P1; refine wpList_load_row rfl 23 _ rfl (wr.heap.size) rfl 23 (fls (rowK c k)) (0, 0) _ P1.out Tryd.underlying23 rfl (by rw [fls_size]; exact info_a20) ?_) | (have _t := tok1; refine store_abs rfl 23 _ _ rfl wr.heap.size (rowK c k) rfl rfl 23 _ N0.out info_a20 ?_; intro w9 hw9; rw [← hw9] at P0 n0 nb; clear hw9 N0 g0 hb tok1; have P1 := hid P0.out))
      by_cases hv : Amts (rowK c k)
      · have HA2 : Hid (∀ n, n < (k + 1) * 20 → amtB (c n) = true) := hid fun n hn => by
          by_cases h : n < k * 20
          · exact hA.out n h
          · have := hv (n - k * 20) (by omega)
            unfold rowK at this
            rwa [show k * 20 + (n - k * 20) = n by omega] at this
        refine (validSizes_t (rowK c k) hv _).mono ?_
        rintro e w3 ⟨rfl, hb3⟩
        have n0 := hid (n0.out.stay hb3)
        have nb := stp nb (Nat.le_refl _) hb3
        clear hv hix P0 P1
        go_wp2
        go_roundw
        case rel => exact ⟨k + 1, by omega, by go_num, HA2, n0, hid nb⟩
        case measure => simp [intOf]; omega
      · have hnq : q = false := by
          rw [← Bool.not_eq_true]
          intro ht
          exact hv fun i hi => (HQ.out.1 ht).1 (k * 20 + i) (by have := HK.out; omega)
        subst hnq
        refine (validSizes_f (rowK c k) (fun i hi => HB.out _ (by have := HK.out; omega)) hv _).mono ?_
        rintro e w3 ⟨rfl, hb3⟩
        have nb := stp nb (Nat.le_refl _) hb3
        clear hv hix P0 P1
        go_wp2
        go_ret
        exact ⟨rfl, nb⟩
    · obtain rfl : k = 20 := by omega
      have hall : AmtK c := hA.out
      have hqe : eqK c (trK c) = q := by
        have h1 := eqK_sym hall
        cases q
        · rw [← Bool.not_eq_true]
          intro ht
          have := HQ.out.2 ⟨hall, h1.1 ht⟩
          cases this
        · exact h1.2 (HQ.out.1 rfl).2
      have HE := hid hqe
      have k0 : Hid (Kept w [(w.heap.size, vls 400 (flw c), 35)] wr) := hid ⟨hb.out, fun x hx => by rw [List.mem_singleton.1 hx]; exact g0.out⟩
      clear hall hqe A0 b0 g0 hb hA
      go_wp2_with fail
      refine region_kept (w0 := w) (l := [(w.heap.size, vls 400 (flw c), 35)]) 5 #[false, false, false, false, false] (by kernel_rfl) rfl rfl ?_
      have kd := k0.out.drew
      clear k0
      generalize wr.drew = wd at kd ⊢
      refine take_load 0 _ _ rfl (by rfl) (by kernel_rfl) (by kernel_rfl) (by kernel_rfl) 35 _ rfl w.heap.size (vls 400 (flw c)) 35 (by rfl) (by simp) _ Tryd.underlying35 rfl (by rw [vls_size]; exact info_kern) rfl rfl kd ?_
      refine take_load 1 _ _ rfl (by rfl) (by kernel_rfl) (by kernel_rfl) (by kernel_rfl) 35 _ rfl w.heap.size (vls 400 (flw c)) 35 (by rfl) (by simp) _ Tryd.underlying35 rfl (by rw [vls_size]; exact info_kern) rfl rfl kd ?_
      simp only [Act.put, List.setIfInBounds_toArray, List.set_cons_zero, List.set_cons_succ]
      refine wpAnyH_ready (rs := [2]) (by kernel_rfl) (by simp) ?_
      refine callK 2 _ _ (.agg (vls 400 (flw (trK c)))) kd rfl (by rfl) 103 #[.agg (vls 400 (flw c))] (fun w => run_trans _ 14 _ (by rfl) _ _ _ _ _ _ w) rfl rfl ?hc (fun w1 k1 => ?_) AllReadyH.nil
      case hc => exact iTransposed c _
      refine ⟨k1, ?_⟩
      simp only [Act.put, List.setIfInBounds_toArray, List.set_cons_zero, List.set_cons_succ]
      refine take_val 3 _ _ (.bool (eqK c (trK c))) rfl (by rfl) (by kernel_rfl) (by kernel_rfl) (by kernel_rfl) (fun w => run_binop_val _ _ _ _ (by rfl) (by rfl) (run_eqGuard_agg _ _ _ _ _ _ _ (by kernel_rfl)) (eq_kern _ _ w)) rfl rfl k1 ?_
      refine take_val 4 _ _ (.bool (eqK c (trK c))) rfl (by rfl) (by kernel_rfl) (by kernel_rfl) (by kernel_rfl) (fun w => by rfl) rfl rfl k1 ?_
      refine wpAnyH_done (by kernel_rfl) (NoPanic.normal ?_) _
      simp only [Act.put, List.setIfInBounds_toArray, List.set_cons_zero, List.set_cons_succ]
      rw [HE.out]
      go_wp2
      go_ret
      exact ⟨rfl, k1.1⟩

@[go_sem] theorem semAtSome (l : Nat) (ρ : Operand → Value) (o : Oper) (h : ∀ c, o.op ≠ .defer c) : Oper.semAt (some l) ρ o = execOp ρ o := Oper.semAt_some l ρ o h

@[go_sem] theorem ext_f32from (n : Int) (w : World) : (callFunc 66 #[.int .u32 n]).run Tryd.prog w = .ok (.value (.float .f32 n.toNat)) w := by
  rw [run_callFunc_extern Tryd.func66 (by kernel_rfl) (by kernel_rfl) (by kernel_rfl) (e := Extern.MathFloatBits.float32frombits) (by kernel_rfl)]
  rfl

theorem eqb_dec (a b : Nat) : ((a : Int) == (b : Int)) = decide (a = b) := by
  by_cases h : a = b
  · subst h; simp
  · rw [decide_eq_false h]; simp; omega

theorem w32 {x : Nat} (h : x < 4294967296) : IntKind.u32.wrap (x : Int) = (x : Int) := by rw [IntKind.wrap_u32]; omega

set_option maxRecDepth 100000 in
set_option maxHeartbeats 1000000 in
theorem sRead_len (s : ByteArray) (hl : s.size ≠ 8) (w : World) :
    Calls Tryd.prog 98 #[.string s] w fun e w' => e = .returned (.tuple #[.float .f32 0, .bool false]) ∧ w' = w := by
  have h1 : ¬ ((s.size : Int) = 8) := by omega
  clear hl
  go_enter Tryd.func98, Tryd.ntmps98
  go_wp2
  go_ret2
  exact ⟨rfl, rfl⟩

set_option maxRecDepth 100000 in
set_option maxHeartbeats 2000000 in
theorem sRead8 (s : ByteArray) (hl : s.size = 8) (R : Value) (h1 : HexTo s 8 → R = .tuple #[.float .f32 (valT s 8), .bool (decide (nb (valT s 8) = valT s 8))]) (h0 : ¬ HexTo s 8 → R = .tuple #[.float .f32 0, .bool false]) (w : World) :
    Calls Tryd.prog 98 #[.string s] w fun e w' => e = .returned R ∧ w' = w := by
  have HL := hid hl
  have H1 := hid h1
  have H0 := hid h0
  have hs8 : ((s.size : Int) = 8) := by omega
  clear h1 h0 hl
  go_enter Tryd.func98, Tryd.ntmps98
  go_wp2_with fail
  go_loopw [4, 5] (fun v i wr => ∃ k : Nat, k ≤ 8 ∧ v = .int .u32 (valT s k : Int) ∧ i = .int .i64 (k : Int) ∧ Hid (HexTo s k) ∧ wr = w) (fun _ i _ => 8 - (intOf i).toNat)
  case atStart => exact ⟨0, by omega, rfl, rfl, hid (fun i hi => absurd hi (Nat.not_lt_zero i)), rfl⟩
  case round =>
    clear hs8
    obtain ⟨k, hk, rfl, rfl, hh, rfl⟩ := hrel
    by_cases hlt : k < 8
    · have HK := hid hlt
      have hk3 : (k : Int) < 8 := by omega
      have hw9 := wr_k1 hlt (by omega)
      have hix := index_byte (P := Tryd.prog) (s := s) Tryd.underlying9 k (by rw [HL.out]; exact hlt)
      have v28 := valT_28 hh.out (show k ≤ 7 by omega)
      have b256 := byT_lt s k
      have hnx := hid (fun d (hd : digB (byT s k) = d) => show valT s (k + 1) = valT s k * 16 + d by rw [← hd]; rfl)
      obtain ⟨b, hb⟩ : ∃ b, b = byT s k := ⟨_, rfl⟩
      obtain ⟨v, hv⟩ : ∃ v, v = valT s k := ⟨_, rfl⟩
      rw [← hb] at hix b256 hnx
      rw [← hv] at v28 hnx ⊢
      have HB := hid hb
      have m1 : IntKind.u32.wrap ((v : Int) * 16) = (v : Int) * 16 := by rw [IntKind.wrap_u32]; omega
      clear hb hv hk hlt
      by_cases c1 : 48 ≤ b ∧ b ≤ 57
      · have f1 : (48 : Int) ≤ (b : Int) := by omega
        have f2 : (b : Int) ≤ 57 := by omega
        obtain ⟨d, hd⟩ : ∃ d, b = 48 + d := ⟨b - 48, by omega⟩
        have f3 : (b : Int) - 48 = (d : Int) := by omega
        have f4 : IntKind.u8.wrap (d : Int) = (d : Int) := by rw [IntKind.wrap_u8]; omega
        have f5 := w32 (x := d) (by omega)
        have f6 : IntKind.u32.wrap ((v : Int) * 16 + (d : Int)) = (v : Int) * 16 + (d : Int) := by rw [IntKind.wrap_u32]; omega
        have hx := hid (hexB_digit c1.1 c1.2)
        have HD := hid hd
        clear c1 hd b256 v28
        go_wp2_with fail
        go_roundw
        case rel => exact ⟨k + 1, HK.out, by rw [hnx.out d (by rw [hx.out.2, HD.out]; omega)]; go_num, by go_num, hid (hh.out.next (by rw [← HB.out]; exact hx.out.1)), by first | trivial | rfl⟩
        case measure => first | exact ms_io HK.out | (rw [hw9]; exact ms_io HK.out)
      · by_cases c2 : 97 ≤ b ∧ b ≤ 102
        · have f1 : (48 : Int) ≤ (b : Int) := by omega
          have f2 : ¬ (b : Int) ≤ 57 := by omega
          have f7 : (97 : Int) ≤ (b : Int) := by omega
          have f8 : (b : Int) ≤ 102 := by omega
          obtain ⟨d, hd⟩ : ∃ d, b = 97 + d := ⟨b - 97, by omega⟩
          have f3 : (b : Int) - 97 = (d : Int) := by omega
          have f4 : IntKind.u8.wrap (d : Int) = (d : Int) := by rw [IntKind.wrap_u8]; omega
          have f5 := w32 (x := d) (by omega)
          have f6 : IntKind.u32.wrap ((v : Int) * 16 + (d : Int)) = (v : Int) * 16 + (d : Int) := by rw [IntKind.wrap_u32]; omega
          have f9 : IntKind.u32.wrap ((v : Int) * 16 + (d : Int) + 10) = (v : Int) * 16 + (d : Int) + 10 := by rw [IntKind.wrap_u32]; omega
          have hx := hid (hexB_letter c2.1 c2.2)
          have HD := hid hd
          clear c1 c2 hd b256 v28
          go_wp2_with fail
          go_roundw
          case rel => exact ⟨k + 1, HK.out, by rw [hnx.out (d + 10) (by rw [hx.out.2, HD.out]; omega)]; go_num, by go_num, hid (hh.out.next (by rw [← HB.out]; exact hx.out.1)), by first | trivial | rfl⟩
          case measure => first | exact ms_io HK.out | (rw [hw9]; exact ms_io HK.out)
        · have hR := H0.out (fun h => by have := h k HK.out; rw [← HB.out, hexB_not c1 c2] at this; cases this)
          subst hR
          rcases Nat.lt_or_ge b 48 with a1 | a1
          · have f1 : ¬ (48 : Int) ≤ (b : Int) := by omega
            have f7 : ¬ (97 : Int) ≤ (b : Int) := by omega
            clear c1 c2 b256 v28 a1
            go_wp2
            go_ret2
            exact ⟨rfl, rfl⟩
          · have f1 : (48 : Int) ≤ (b : Int) := by omega
            have f2 : ¬ (b : Int) ≤ 57 := by omega
            rcases Nat.lt_or_ge b 97 with a2 | a2
            · have f7 : ¬ (97 : Int) ≤ (b : Int) := by omega
              clear c1 c2 b256 v28 a1 a2
              go_wp2
              go_ret2
              exact ⟨rfl, rfl⟩
            · have f7 : (97 : Int) ≤ (b : Int) := by omega
              have f8 : ¬ (b : Int) ≤ 102 := by omega
              clear c1 c2 b256 v28 a1 a2
              go_wp2
              go_ret2
              exact ⟨rfl, rfl⟩
    · obtain rfl : k = 8 := by omega
      have hk3 : ¬ ((8 : Nat) : Int) < 8 := by omega
      have hR := H1.out hh.out
      have v8 : valT s 8 < 4294967296 := valT_lt 8 hh.out
      clear H1 H0
      generalize valT s 8 = v at v8 hR ⊢
      subst hR
      have V8 := hid v8
      have he : ((nb v : Int) == (v : Int)) = decide (nb v = v) := eqb_dec (nb v) v
      clear v8
      have hn9 : (v : Int).toNat = v := Int.toNat_natCast v
      go_wp2_with fail
      refine (sBits v V8.out _).mono ?_
      rintro e w1 ⟨rfl, rfl⟩
      go_wp2
      go_ret2
      exact ⟨rfl, rfl⟩

theorem infoz_st : (Tryd.prog.info? 9).map (fun i => (i.zero, i.size, i.bytes)) = some (some (.string ⟨#[]⟩), 1, 16) := by kernel_rfl

theorem infos_st : (Tryd.prog.info? 9).map (·.size) = some 1 := by kernel_rfl

/-- Piece i of a text that is cut at a byte. -/
def pcV (c : UInt8) (s : ByteArray) (i : Nat) : Value := .string (pcB c s i)

/-- A new slice of n texts. -/
def MadeS (n : Nat) (x : Nat → Value) (w : World) (v : Value) (w' : World) : Prop := ∃ B cs cap, v = .slice (some ⟨B, 0, none⟩) n cap ∧ w.heap.size ≤ B ∧ LvV cs n x ∧ Kept w [(B, cs, 9)] w'

theorem cutP (s : ByteArray) {g k : Nat} (h1 : g ≤ k) (h2 : k ≤ s.size) (w : World) : (Instr.slice 9 (.string s) (some (.int .i64 (g : Int))) (some (.int .i64 (k : Int))) none).run Tryd.prog w = .ok (.string (s.extract g k)) w := by
  rw [run_slice_string w 9 s .i64 .i64 (g : Int) (k : Int) Tryd.underlying9 (by omega) (by omega) (by omega)]
  simp only [Int.toNat_natCast]

theorem cutE (s : ByteArray) {g : Nat} (h1 : g ≤ s.size) (w : World) : (Instr.slice 9 (.string s) (some (.int .i64 (g : Int))) none none).run Tryd.prog w = .ok (.string (s.extract g s.size)) w := by
  rw [run_slice_string_from_if w 9 s .i64 (g : Int) Tryd.underlying9, if_pos ⟨by omega, by omega⟩]
  simp only [Int.toNat_natCast]

theorem wr_kT {k n : Nat} (h : k < n) (hn : n ≤ 1048577) : wrap64 ((k : Int) + 1) = (k : Int) + 1 := by unfold wrap64; omega

set_option maxRecDepth 100000 in
set_option maxHeartbeats 1000000 in
theorem sSplit (s : ByteArray) (c : UInt8) (hs : s.size ≤ 1048576) (w : World) :
    Calls Tryd.prog 52 #[.string s, .int .u8 (c.toNat : Int)] w fun e w' => ∃ v, e = .returned v ∧ MadeS (pcN c s) (pcV c s) w v w' := by
  have HS := hid hs
  have k0 : Hid ((w.alloc (.cells #[] 9)).ownsRow w.heap.size 9 1 (.slice (some ⟨w.heap.size, 0, none⟩) 0 0) 0 (wdv (pcV c s) 0)) := hid (World.ownsRow_made w #[] 0 (Nat.le_refl _) (by decide) rfl)
  have b1 : Hid (Below w.heap.size w (w.alloc (.cells #[] 9))) := hid ((Below.refl w.heap.size w).alloc (Nat.le_refl _) (.cells #[] 9))
  have HP : ∀ i, Hid (pcV c s i = .string (pcB c s i)) := fun i => hid rfl
  obtain ⟨n, hn⟩ : ∃ n, n = c.toNat := ⟨_, rfl⟩
  rw [← hn]
  have HN := hid hn
  clear hs hn
  go_enter Tryd.func52, Tryd.ntmps52
  go_wp2_with fail
  go_loopw [5, 6, 7] (fun v f i wr => ∃ k g m : Nat, k ≤ s.size ∧ g ≤ k ∧ m ≤ k ∧ f = .int .i64 (g : Int) ∧ i = .int .i64 (k : Int) ∧ Hid (NoC c s g k) ∧ Hid (LeftP c s g m) ∧ Hid (wr.ownsRow w.heap.size 9 1 v m (wdv (pcV c s) m)) ∧ Hid (Below w.heap.size w wr)) (fun _ _ i _ => s.size - (intOf i).toNat)
  case atStart => exact ⟨0, 0, 0, by omega, by omega, by omega, rfl, rfl, hid (NoC.zero c s 0), hid (LeftP.zero c s), k0, b1⟩
  case round =>
    obtain ⟨k, g, m, hk, hg, hm, rfl, rfl, hnc, hlf, hO, hB⟩ := hrel
    clear k0 b1
    by_cases hlt : k < s.size
    · have HK := hid hlt
      have HG := hid hg
      have HM := hid hm
      have hk3 : (k : Int) < (s.size : Int) := by omega
      have hix := index_byte (P := Tryd.prog) (s := s) Tryd.underlying9 k hlt
      have hw9 := wr_kT hlt (Nat.le_trans HS.out (by decide))
      have hcut := cutP s hg hk
      by_cases hbc : byT s k = c.toNat
      · obtain ⟨p1, p2⟩ := hlf.out.hit hg hlt hnc.out hbc
        have P1 := hid p1
        have P2 := hid p2
        have N2 := hid (NoC.zero c s (k + 1))
        rw [hbc, ← HN.out] at hix
        clear p1 p2 hbc hnc hlf hlt hk hg hm
        have tok1 : True := trivial
        go_wp2_with (first | (have _t := tok1; clear tok1; refine append_oneW (w0 := w) rfl _ _ 82 rfl 9 Tryd.underlying82 (.string ⟨#[]⟩) 16 rfl (by omega) infoz_st _ m (pcV c s) rfl (hO.out.alloc _) (hB.out.alloc hB.out.size _) (wr.heap.size) (.string (s.extract g k)) (by rw [(HP m).out, P1.out]) rfl rfl (heap_alloc_new _ _) (by have := HM.out; have := HK.out; have := HS.out; omega) (fun v9 w9 O9 B9 => ?_); replace O9 := hid O9; replace B9 := hid B9))
        go_roundw
        case rel => exact ⟨k + 1, k + 1, m + 1, HK.out, Nat.le_refl _, by have := HM.out; omega, by go_num, by go_num, N2, P2, O9, B9⟩
        case measure => first | exact ms_io HK.out | (rw [hw9]; exact ms_io HK.out)
      · have N2 := hid (hnc.out.next hbc)
        rw [HN.out] 
        have hne : ((byT s k : Int) == (c.toNat : Int)) = false := beq_eq_false_iff_ne.2 (by omega)
        generalize byT s k = b at hix hne
        clear hbc hnc hlt hk hg hm
        go_wp2_with fail
        go_roundw
        case rel => exact ⟨k + 1, g, m, HK.out, by have := HG.out; omega, by have := HM.out; omega, rfl, by go_num, N2, hlf, hO, hB⟩
        case measure => first | exact ms_io HK.out | (rw [hw9]; exact ms_io HK.out)
    · obtain rfl : k = s.size := by omega
      have hk3 : ¬ (s.size : Int) < (s.size : Int) := by omega
      obtain ⟨p1, p2⟩ := hlf.out.last hnc.out
      have P1 := hid p1
      have P2 := hid p2
      have HM := hid hm
      have hcut := cutE s hg
      clear p1 p2 hnc hlf hk hg hm hlt
      have tok1 : True := trivial
      go_wp2_with (first | (have _t := tok1; clear tok1; refine append_oneW (w0 := w) rfl _ _ 82 rfl 9 Tryd.underlying82 (.string ⟨#[]⟩) 16 rfl (by omega) infoz_st _ m (pcV c s) rfl (hO.out.alloc _) (hB.out.alloc hB.out.size _) (wr.heap.size) (.string (s.extract g s.size)) (by rw [(HP m).out, P1.out]) rfl rfl (heap_alloc_new _ _) (by have := HM.out; have := HS.out; omega) (fun v9 w9 O9 B9 => ?_); replace O9 := hid O9; replace B9 := hid B9))
      obtain ⟨B, cs, cap, rfl, hB1, L1, K1⟩ := own_keptV (Nat.succ_pos m) O9.out B9.out
      have E := hid (show MadeS (pcN c s) (pcV c s) w (.slice (some ⟨B, 0, none⟩) (m + 1 : Nat) cap) w9 from ⟨B, cs, cap, by rw [P2.out], hB1, by rw [P2.out]; exact L1, K1⟩)
      clear hB1 L1 K1 O9 B9
      go_wp2
      go_ret
      exact ⟨_, rfl, E.out⟩

/-- Whether a text is that of a number, and the number. -/
def okN (s : ByteArray) : Bool := decide (s.size = 8) && (List.range 8).all (fun i => isHexB (byT s i)) && decide (nb (valT s 8) = valT s 8)

def vaN (s : ByteArray) : Nat := if okN s = true then valT s 8 else 0

theorem okN_t {s : ByteArray} (hl : s.size = 8) (hx : HexTo s 8) (hn : nb (valT s 8) = valT s 8) : okN s = true := by
  unfold okN
  rw [decide_eq_true hl, decide_eq_true hn, all_rangeN.2 hx]; rfl

theorem okN_len {s : ByteArray} (hl : s.size ≠ 8) : okN s = false := by
  unfold okN
  rw [decide_eq_false hl]; rfl

theorem okN_hex {s : ByteArray} (hx : ¬ HexTo s 8) : okN s = false := by
  have : (List.range 8).all (fun i => isHexB (byT s i)) = false := by
    cases e : (List.range 8).all (fun i => isHexB (byT s i))
    · rfl
    · exact absurd (all_rangeN.1 e) hx
  unfold okN
  rw [this, Bool.and_false]; rfl

theorem okN_nb {s : ByteArray} (hn : nb (valT s 8) ≠ valT s 8) : okN s = false := by
  unfold okN
  rw [decide_eq_false hn, Bool.and_false]

theorem okN_hexB {s : ByteArray} (h : okN s = true) : s.size = 8 ∧ HexTo s 8 ∧ nb (valT s 8) = valT s 8 := by
  unfold okN at h
  simp only [Bool.and_eq_true, decide_eq_true_eq] at h
  exact ⟨h.1.1, all_rangeN.1 h.1.2, h.2⟩

theorem vaN_lt (s : ByteArray) : vaN s < 4294967296 := by
  unfold vaN
  cases h : okN s
  · show (if (false : Bool) = true then valT s 8 else 0) < 4294967296
    rw [if_neg Bool.false_ne_true]; decide
  · exact valT_lt 8 (okN_hexB h).2.1

theorem rdS (s : ByteArray) : ∃ a, a < 4294967296 ∧ (okN s = true → a = vaN s) ∧
    ∀ W, Calls Tryd.prog 98 #[.string s] W fun e w' => e = .returned (.tuple #[.float .f32 a, .bool (okN s)]) ∧ w' = W := by
  by_cases hl : s.size = 8
  · by_cases hx : HexTo s 8
    · refine ⟨valT s 8, valT_lt 8 hx, (fun h => by unfold vaN; rw [if_pos h]), fun W => ?_⟩
      have := sRead8 s hl (.tuple #[.float .f32 (valT s 8), .bool (okN s)]) (fun _ => by
        by_cases hn : nb (valT s 8) = valT s 8
        · rw [okN_t hl hx hn, decide_eq_true hn]
        · rw [okN_nb hn, decide_eq_false hn]) (fun h => absurd hx h) W
      exact this
    · refine ⟨0, by decide, (fun h => by rw [okN_hex hx] at h; cases h), fun W => ?_⟩
      exact sRead8 s hl _ (fun h => absurd h hx) (fun _ => by rw [okN_hex hx]) W
  · refine ⟨0, by decide, (fun h => by rw [okN_len hl] at h; cases h), fun W => ?_⟩
    rw [okN_len hl]
    exact sRead_len s hl W

set_option maxRecDepth 100000 in
set_option maxHeartbeats 1000000 in
theorem sNumbers (v : Value) (n : Nat) (t : Nat → ByteArray) (w : World) (hs : RdV w v n (fun i => .string (t i))) (h0 : 0 < n) (hn : n ≤ 1048577) (q : Bool) (hq : allN (fun i => okN (t i)) n = q) :
    Calls Tryd.prog 53 #[v] w fun e w' => ∃ r, e = .returned (.tuple #[r, .bool q]) ∧ Below w.heap.size w w' ∧ (q = true → MadeF n (fun i => vaN (t i)) w r w') := by
  obtain ⟨p, cap, rfl, hcl⟩ := hs
  obtain ⟨b, o, rfl, hcell⟩ := hcl h0
  have HC := hid hcell
  have H0 := hid h0
  have HN := hid hn
  have HQ := hid hq
  have k0 : Hid ((w.alloc (.cells #[] 22)).ownsRow w.heap.size 22 1 (.slice (some ⟨w.heap.size, 0, none⟩) 0 0) 0 (wdv (flV fun i => vaN (t i)) 0)) := hid (World.ownsRow_made w #[] 0 (Nat.le_refl _) (by decide) rfl)
  have b1 : Hid (Below w.heap.size w (w.alloc (.cells #[] 22))) := hid ((Below.refl w.heap.size w).alloc (Nat.le_refl _) (.cells #[] 22))
  have RS : ∀ i, Hid (∃ a, a < 4294967296 ∧ (okN (t i) = true → a = vaN (t i)) ∧
    ∀ W, Calls Tryd.prog 98 #[.string (t i)] W fun e w' => e = .returned (.tuple #[.float .f32 a, .bool (okN (t i))]) ∧ w' = W) := fun i => hid (rdS (t i))
  have HP : ∀ i, Hid (flV (fun i => vaN (t i)) i = .float .f32 (vaN (t i))) := fun i => hid rfl
  clear hcl hcell h0 hn hq
  go_enter Tryd.func53, Tryd.ntmps53
  go_wp2_with fail
  go_loopw [4, 5] (fun x i wr => ∃ k : Nat, k ≤ n ∧ i = .int .i64 (k : Int) ∧ Hid (∀ j, j < k → okN (t j) = true) ∧ Hid (wr.ownsRow w.heap.size 22 1 x k (wdv (flV fun i => vaN (t i)) k)) ∧ Hid (Below w.heap.size w wr)) (fun _ i _ => n - (intOf i).toNat)
  case atStart => exact ⟨0, by omega, rfl, hid (fun j hj => absurd hj (Nat.not_lt_zero j)), k0, b1⟩
  case round =>
    obtain ⟨k, hk, rfl, hall, hO, hB⟩ := hrel
    clear k0 b1
    by_cases hlt : k < n
    · have HK := hid hlt
      have hk3 : (k : Int) < (n : Int) := by omega
      have c0 : wr.cell? ⟨b, o + k, none⟩ = some (.string (t k)) := by have h9 := HC.out k hlt; rw [hB.out.cell (block_lt_of_cell h9)]; exact h9
      have i1 := fun w => run_indexAt (P := Tryd.prog) (t := 82) (e := 9) Tryd.underlying82 infos_st (b := b) (o := o) (n := n) (cap := cap) (k := k) hlt w
      simp only [Nat.mul_one] at i1
      have hw9 := wr_kT hlt HN.out
      obtain ⟨a, ha, hav, hR⟩ := (RS k).out
      have HR := hid hR
      have HA := hid hav
      clear hR hav ha hk hlt
      cases ho : okN (t k)
      · have hqf : q = false := by rw [← HQ.out]; exact allN_at HK.out ho
        subst hqf
        rw [ho] at HR
        clear ho
        go_wp2_with fail
        refine (HR.out _).mono ?_
        rintro e w1 ⟨rfl, rfl⟩
        have B2 := hid (hB.out.alloc hB.out.size (.cells #[] 22))
        go_wp2
        go_ret2
        first | exact ⟨_, rfl, B2.out, fun h => by cases h⟩ | exact ⟨⟨_, rfl⟩, B2.out, fun h => by cases h⟩
      · have hv := HA.out ho
        subst hv
        have AL := hid (to_next hall.out ho)
        rw [ho] at HR
        clear ho HA hall
        go_wp2_with fail
        refine (HR.out _).mono ?_
        rintro e w1 ⟨rfl, rfl⟩
        have tok1 : True := trivial
        go_wp2_with (first | (have _t := tok1; clear tok1; refine append_one (w0 := w) rfl _ _ 91 rfl 22 Tryd.underlying91 (.float .f32 0) 4 rfl (by omega) infoz_f32 _ k (flV fun i => vaN (t i)) rfl (hO.out.alloc _) (hB.out.alloc hB.out.size _) (w1.heap.size) (.float .f32 (vaN (t k))) (HP k).out rfl rfl (heap_alloc_new _ _) (by have := HK.out; have := HN.out; omega) (fun v9 w9 O9 B9 => ?_); replace O9 := hid O9; replace B9 := hid B9))
        go_roundw
        case rel => exact ⟨k + 1, HK.out, by go_num, AL, O9, B9⟩
        case measure => first | exact ms_io HK.out | (rw [hw9]; exact ms_io HK.out)
    · obtain rfl : k = n := by omega
      have hk3 : ¬ (k : Int) < (k : Int) := by omega
      have hqt : q = true := by rw [← HQ.out]; exact allN_t.2 hall.out
      subst hqt
      obtain ⟨B, cs, cap2, rfl, hB1, L1, K1⟩ := own_keptV H0.out hO.out hB.out
      have E := hid (show MadeF k (fun i => vaN (t i)) w (.slice (some ⟨B, 0, none⟩) k cap2) wr from ⟨B, cs, cap2, rfl, hB1, L1, K1⟩)
      have B2 := hB
      clear hB1 L1 K1 hO hB
      go_wp2
      go_ret2
      exact ⟨_, rfl, B2.out, E.out⟩

/-- Whether a text is that of sizes, and the sizes. -/
def vaZ (s : ByteArray) (i : Nat) : Nat := vaN (pcB 32 s i)

def okZ (s : ByteArray) : Bool := decide (pcN 32 s = 20) && allN (fun i => okN (pcB 32 s i)) 20 && szB (vaZ s)

theorem pcN_pos (c : UInt8) (s : ByteArray) : 0 < pcN c s := by rw [pcN_is]; omega

theorem okZ_len {s : ByteArray} (h : pcN 32 s ≠ 20) : okZ s = false := by unfold okZ; rw [decide_eq_false h]; rfl

theorem split32 (s : ByteArray) (hs : s.size ≤ 1048576) (w : World) : Calls Tryd.prog 52 #[.string s, .int .u8 32] w fun e w' => ∃ v, e = .returned v ∧ MadeS (pcN 32 s) (pcV 32 s) w v w' := sSplit s 32 hs w

/-- What is read: the sizes, or none. -/
def rdZ (s : ByteArray) : Nat → Nat := if okZ s = true then vaZ s else fun _ => 0

def cdZ (s : ByteArray) : Int := if okZ s = true then 0 else 5

set_option maxRecDepth 100000 in
set_option maxHeartbeats 1000000 in
theorem iLower (b l : Nat) (h : bits BinOp.or IntKind.u8 (b : Int) 32 = (l : Int)) (w : World) :
    Calls Tryd.prog 145 #[.int .u8 (b : Int)] w fun e w' => e = .returned (.int .u8 (l : Int)) ∧ w' = w := by
  go_enter Tryd.func145, Tryd.ntmps145
  go_wp2
  go_ret
  exact ⟨rfl, rfl⟩

/-- The bit of small letters set. -/
def lowB (b : Nat) : Nat := b ||| 32

theorem low_tab : ((List.range 256).all fun b => decide (bits BinOp.or IntKind.u8 (b : Int) 32 = (lowB b : Int)) && decide (lowB b < 256)) = true := by decide +kernel

theorem low_is {b : Nat} (h : b < 256) : bits BinOp.or IntKind.u8 (b : Int) 32 = (lowB b : Int) ∧ lowB b < 256 := by
  have := List.all_eq_true.1 low_tab b (List.mem_range.2 h)
  simpa using this

/-- What the program takes for a digit (capital letters too), and its value. -/
def isPB (b : Nat) : Bool := decide (48 ≤ b ∧ b ≤ 57) || decide (97 ≤ lowB b ∧ lowB b ≤ 102)

def digP (b : Nat) : Nat := if b ≤ 57 then b - 48 else lowB b - 87

def valP (s : ByteArray) : Nat → Nat
  | 0 => 0
  | k + 1 => valP s k * 16 + digP (byT s k)

def PTo (s : ByteArray) (k : Nat) : Prop := ∀ i, i < k → isPB (byT s i) = true

theorem isP_tab : ((List.range 256).all fun b => !isPB b || decide (digP b < 16)) = true := by decide +kernel

theorem digP_lt {b : Nat} (hb : b < 256) (h : isPB b = true) : digP b < 16 := by
  have := List.all_eq_true.1 isP_tab b (List.mem_range.2 hb)
  rw [h] at this
  simpa using this

theorem valP_lt {s : ByteArray} : ∀ k, PTo s k → valP s k < 16 ^ k
  | 0, _ => Nat.zero_lt_one
  | k + 1, h => by
    have ih := valP_lt (s := s) k (fun i hi => h i (by omega))
    have hd := digP_lt (byT_lt s k) (h k (by omega))
    show valP s k * 16 + digP (byT s k) < 16 ^ (k + 1)
    rw [Nat.pow_succ]
    omega

theorem valP_28 {s : ByteArray} {k : Nat} (h : PTo s k) (hk : k ≤ 7) : valP s k < 268435456 := Nat.lt_of_lt_of_le (valP_lt k h) (pow16_8 hk)

theorem PTo.next {s : ByteArray} {k : Nat} (h : PTo s k) (hb : isPB (byT s k) = true) : PTo s (k + 1) := fun i hi => by
  by_cases e : i = k
  · subst e; exact hb
  · exact h i (by omega)

theorem pB_digit {b : Nat} (h1 : 48 ≤ b) (h2 : b ≤ 57) : isPB b = true ∧ digP b = b - 48 := by
  refine ⟨?_, if_pos h2⟩
  unfold isPB; rw [decide_eq_true ⟨h1, h2⟩]; rfl

theorem pB_letter {b : Nat} (h0 : ¬ (48 ≤ b ∧ b ≤ 57)) (h1 : 97 ≤ lowB b) (h2 : lowB b ≤ 102) : isPB b = true ∧ digP b = lowB b - 87 := by
  constructor
  · unfold isPB; rw [decide_eq_true (p := 97 ≤ lowB b ∧ lowB b ≤ 102) ⟨h1, h2⟩, Bool.or_true]
  · refine if_neg (fun h => ?_)
    have : lowB b < 97 := by
      have hb : b < 48 := by omega
      have t : ((List.range 48).all fun b => decide (lowB b < 97)) = true := by decide +kernel
      simpa using List.all_eq_true.1 t b (List.mem_range.2 hb)
    omega

theorem pB_not {b : Nat} (h1 : ¬ (48 ≤ b ∧ b ≤ 57)) (h2 : ¬ (97 ≤ lowB b ∧ lowB b ≤ 102)) : isPB b = false := by
  unfold isPB; rw [decide_eq_false h1, decide_eq_false h2]; rfl

/-- What internal/strconv.ParseUint gives. -/
def puV (ok : Bool) (v : Nat) : Value := .tuple #[.int .u64 (if ok = true then v else 0), if ok = true then .nilIface else .iface 192 (.int .i64 2)]

set_option maxRecDepth 100000 in
set_option maxHeartbeats 4000000 in
theorem iPU (s : ByteArray) (hl : s.size = 8) (R : Value) (h1 : PTo s 8 → R = puV true (valP s 8)) (h0 : ¬ PTo s 8 → R = puV false 0) (w : World) :
    Calls Tryd.prog 113 #[.string s, .int .i64 16, .int .i64 32] w fun e w' => e = .returned R ∧ w' = Lib.bytesWorld w 5 s := by
  have HL := hid hl
  have H1 := hid h1
  have H0 := hid h0
  have hemp : s.toList.isEmpty = false := by
    rw [← decide_eq_emptyBytes]
    exact decide_eq_false (fun h => by rw [h] at hl; cases hl)
  have hcv := Lib.run_convert_string_bytes (P := Tryd.prog) w 9 39 5 s (u := .string) Tryd.underlying9 Tryd.underlying39 Tryd.underlying5
  have hB : ∀ j, j < 8 → (Lib.bytesWorld w 5 s).cell? ⟨w.heap.size, j, none⟩ = some (.int .u8 (byT s j : Int)) := fun j hj => Lib.bytesWorld_cell w 5 s j (by omega)
  obtain ⟨W1, hW1⟩ : ∃ W1, W1 = Lib.bytesWorld w 5 s := ⟨_, rfl⟩
  rw [← hW1] at hcv hB ⊢
  clear hW1
  have HB0 := hid hB
  have hmv : IntKind.u64.wrap (4294967296 - 1) = 4294967295 := by
    rw [IntKind.wrap_u64]
    decide
  have hs8 : (s.size : Int) = 8 := by omega
  have e103 : ∀ args w, (callFunc 145 args).run Tryd.prog w = .ok (.enter 145 args) w := enters_of Tryd.func145 (by kernel_rfl) rfl
  rw [hl] at hcv
  clear h1 h0 hB hl
  go_enter Tryd.func113, Tryd.ntmps113
  go_wp2
  go_loop [12, 13, 101] (fun vu vn vi => ∃ (k : Nat) (a : Int), k ≤ 8 ∧ vu = .bool false ∧ vn = .int .u64 a ∧ vi = .int .i64 (k : Int) ∧ Hid (PTo s k) ∧ Hid (a = (valP s k : Int))) (fun _ _ vi => 8 - (intOf vi).toNat)
  case atStart => exact ⟨0, 0, by omega, rfl, rfl, rfl, hid (fun i hi => absurd hi (Nat.not_lt_zero i)), hid rfl⟩
  case round =>
    clear hcv hmv hs8 hemp
    obtain ⟨k, a, hk, rfl, rfl, rfl, hh, ha0⟩ := hrel
    have ha := ha0.out
    clear ha0
    by_cases hlt : k < 8
    · have HK := hid hlt
      have hk3 : (k : Int) < 8 := by omega
      have hc := HB0.out k hlt
      have v28 := valP_28 hh.out (show k ≤ 7 by omega)
      have b256 := byT_lt s k
      have hnx := hid (fun d (hd : digP (byT s k) = d) => show valP s (k + 1) = valP s k * 16 + d by rw [← hd]; rfl)
      obtain ⟨b, hb⟩ : ∃ b, b = byT s k := ⟨_, rfl⟩
      rw [← hb] at hc b256 hnx
      have HB := hid hb
      have hlow := low_is b256
      obtain ⟨l, hl⟩ : ∃ l, l = lowB b := ⟨_, rfl⟩
      rw [← hl] at hlow
      have HLW := hid hl
      have il := iLower b l hlow.1
      have l256 := hlow.2
      have A0 : 0 ≤ a := by omega
      have A1 : a < 268435456 := by omega
      have hcut : a < 1152921504606846976 := by omega
      have m1 : IntKind.u64.wrap (a * 16) = a * 16 := by rw [IntKind.wrap_u64]; omega
      have HA := hid ha
      clear hb hk hlt hl hlow ha v28
      by_cases c1 : 48 ≤ b ∧ b ≤ 57
      · have f1 : (48 : Int) ≤ (b : Int) := by omega
        have f2 : (b : Int) ≤ 57 := by omega
        have f0 : ¬ (b : Int) = 95 := by omega
        obtain ⟨d, hd⟩ : ∃ d : Int, d = (b : Int) - 48 := ⟨_, rfl⟩
        have f3 : (b : Int) - 48 = d := hd.symm
        have d0 : 0 ≤ d := by omega
        have d1 : d < 16 := by omega
        have f4 : IntKind.u8.wrap d = d := by rw [IntKind.wrap_u8]; omega
        have f5 : IntKind.u64.wrap d = d := by rw [IntKind.wrap_u64]; omega
        have f6 : IntKind.u64.wrap (a * 16 + d) = a * 16 + d := by rw [IntKind.wrap_u64]; omega
        have f8 : ¬ (a * 16 + d < a * 16) := by omega
        have f9 : ¬ ((4294967295 : Int) < a * 16 + d) := by omega
        have hx := hid (pB_digit c1.1 c1.2)
        have HN : Hid (a * 16 + d = (valP s (k + 1) : Int)) := hid (by
          have e1 := HA.out
          have e2 := hnx.out (b - 48) hx.out.2
          omega)
        have hd9 : ¬ (16 : Int) ≤ d := by omega
        clear c1 hd b256 l256 il A0 A1
        go_wp2
        exact ⟨⟨k + 1, a * 16 + d, HK.out, rfl, rfl, by go_num, hid (hh.out.next (by rw [← HB.out]; exact hx.out.1)), HN⟩, by have := HK.out; simp [intOf]; omega⟩
      · by_cases c2 : 97 ≤ l ∧ l ≤ 102
        · have f0 : ¬ (b : Int) = 95 := fun h => by
            have hb : b = 95 := by omega
            have e1 := HLW.out
            rw [hb] at e1
            have : lowB 95 = 127 := by decide
            omega
          have g1 : (97 : Int) ≤ (l : Int) := by omega
          have g2 : (l : Int) ≤ 122 := by omega
          obtain ⟨e0, he⟩ : ∃ e0 : Int, e0 = (l : Int) - 97 := ⟨_, rfl⟩
          have f3 : (l : Int) - 97 = e0 := he.symm
          have f4 : IntKind.u8.wrap e0 = e0 := by rw [IntKind.wrap_u8]; omega
          obtain ⟨d, hd⟩ : ∃ d : Int, d = e0 + 10 := ⟨_, rfl⟩
          have f4b : IntKind.u8.wrap (e0 + 10) = d := by rw [IntKind.wrap_u8]; omega
          have d0 : 0 ≤ d := by omega
          have d1 : d < 16 := by omega
          have hd9 : ¬ (16 : Int) ≤ d := by omega
          have f5 : IntKind.u64.wrap d = d := by rw [IntKind.wrap_u64]; omega
          have f6 : IntKind.u64.wrap (a * 16 + d) = a * 16 + d := by rw [IntKind.wrap_u64]; omega
          have f8 : ¬ (a * 16 + d < a * 16) := by omega
          have f9 : ¬ ((4294967295 : Int) < a * 16 + d) := by omega
          have hx := hid (pB_letter c1 (by rw [← HLW.out]; exact c2.1) (by rw [← HLW.out]; exact c2.2))
          have HN : Hid (a * 16 + d = (valP s (k + 1) : Int)) := hid (by
            have e1 := HA.out
            have e2 := hnx.out (lowB b - 87) hx.out.2
            have e3 := HLW.out
            omega)
          by_cases c3 : 48 ≤ b
          · have q1 : (48 : Int) ≤ (b : Int) := by omega
            have q2 : ¬ (b : Int) ≤ 57 := by omega
            clear c1 c2 c3 hd he b256 l256 A0 A1 d0 d1
            go_wp2_with (go_at_fn 145; refine (il _).mono ?_; rintro e w' ⟨rfl, rfl⟩)
            exact ⟨⟨k + 1, a * 16 + d, HK.out, rfl, rfl, by go_num, hid (hh.out.next (by rw [← HB.out]; exact hx.out.1)), HN⟩, by have := HK.out; simp [intOf]; omega⟩
          · have q1 : ¬ (48 : Int) ≤ (b : Int) := by omega
            clear c1 c2 c3 hd he b256 l256 A0 A1 d0 d1
            go_wp2_with (go_at_fn 145; refine (il _).mono ?_; rintro e w' ⟨rfl, rfl⟩)
            exact ⟨⟨k + 1, a * 16 + d, HK.out, rfl, rfl, by go_num, hid (hh.out.next (by rw [← HB.out]; exact hx.out.1)), HN⟩, by have := HK.out; simp [intOf]; omega⟩
        · have hR := H0.out (fun h => by have := h k HK.out; rw [← HB.out, pB_not c1 (by rw [← HLW.out]; exact c2)] at this; cases this)
          unfold puV at hR
          simp only [Bool.false_eq_true, if_false] at hR
          subst hR
          by_cases c9 : b = 95
          · have f0 : (b : Int) = 95 := by omega
            have hl9 : l = 127 := by rw [HLW.out, c9]; decide
            have g9 : (l : Int) = 127 := by omega
            rw [f0, g9] at il
            rw [f0] at hc
            clear c1 c2 c9 hl9 g9 f0 b256 l256 A0 A1
            go_wp2_with (go_at_fn 145; refine (il _).mono ?_; rintro e w' ⟨rfl, rfl⟩)
            go_ret2
            exact ⟨rfl, rfl⟩
          · have f0 : ¬ (b : Int) = 95 := by omega
            rcases (show l < 97 ∨ (103 ≤ l ∧ l ≤ 122) ∨ 123 ≤ l by omega) with a1 | a1 | a1
            · have g1 : ¬ (97 : Int) ≤ (l : Int) := by omega
              rcases (show b < 48 ∨ 48 ≤ b by omega) with a2 | a2
              · have q1 : ¬ (48 : Int) ≤ (b : Int) := by omega
                clear c1 c2 c9 a1 a2 b256 l256 A0 A1
                go_wp2_with (go_at_fn 145; refine (il _).mono ?_; rintro e w' ⟨rfl, rfl⟩)
                go_ret2
                exact ⟨rfl, rfl⟩
              · have q1 : (48 : Int) ≤ (b : Int) := by omega
                have q2 : ¬ (b : Int) ≤ 57 := by omega
                clear c1 c2 c9 a1 a2 b256 l256 A0 A1
                go_wp2_with (go_at_fn 145; refine (il _).mono ?_; rintro e w' ⟨rfl, rfl⟩)
                go_ret2
                exact ⟨rfl, rfl⟩
            · have g1 : (97 : Int) ≤ (l : Int) := by omega
              have g2 : (l : Int) ≤ 122 := by omega
              obtain ⟨e0, he⟩ : ∃ e0 : Int, e0 = (l : Int) - 97 := ⟨_, rfl⟩
              have f3 : (l : Int) - 97 = e0 := he.symm
              have f4 : IntKind.u8.wrap e0 = e0 := by rw [IntKind.wrap_u8]; omega
              obtain ⟨d, hd⟩ : ∃ d : Int, d = e0 + 10 := ⟨_, rfl⟩
              have f4b : IntKind.u8.wrap (e0 + 10) = d := by rw [IntKind.wrap_u8]; omega
              have hd9 : (16 : Int) ≤ d := by omega
              rcases (show b < 48 ∨ 48 ≤ b by omega) with a2 | a2
              · have q1 : ¬ (48 : Int) ≤ (b : Int) := by omega
                clear c1 c2 c9 a1 a2 b256 l256 A0 A1 hd he
                go_wp2_with (go_at_fn 145; refine (il _).mono ?_; rintro e w' ⟨rfl, rfl⟩)
                go_ret2
                exact ⟨rfl, rfl⟩
              · have q1 : (48 : Int) ≤ (b : Int) := by omega
                have q2 : ¬ (b : Int) ≤ 57 := by omega
                clear c1 c2 c9 a1 a2 b256 l256 A0 A1 hd he
                go_wp2_with (go_at_fn 145; refine (il _).mono ?_; rintro e w' ⟨rfl, rfl⟩)
                go_ret2
                exact ⟨rfl, rfl⟩
            · have g1 : (97 : Int) ≤ (l : Int) := by omega
              have g2 : ¬ (l : Int) ≤ 122 := by omega
              rcases (show b < 48 ∨ 48 ≤ b by omega) with a2 | a2
              · have q1 : ¬ (48 : Int) ≤ (b : Int) := by omega
                clear c1 c2 c9 a1 a2 b256 l256 A0 A1
                go_wp2_with (go_at_fn 145; refine (il _).mono ?_; rintro e w' ⟨rfl, rfl⟩)
                go_ret2
                exact ⟨rfl, rfl⟩
              · have q1 : (48 : Int) ≤ (b : Int) := by omega
                have q2 : ¬ (b : Int) ≤ 57 := by omega
                clear c1 c2 c9 a1 a2 b256 l256 A0 A1
                go_wp2_with (go_at_fn 145; refine (il _).mono ?_; rintro e w' ⟨rfl, rfl⟩)
                go_ret2
                exact ⟨rfl, rfl⟩
    · obtain rfl : k = 8 := by omega
      have hk3 : ¬ ((8 : Nat) : Int) < 8 := by omega
      have hR := H1.out hh.out
      unfold puV at hR
      simp only [if_true] at hR
      rw [← ha] at hR
      subst hR
      clear H1 H0 ha
      go_wp2
      go_ret2
      exact ⟨rfl, rfl⟩

set_option maxRecDepth 100000 in
set_option maxHeartbeats 1000000 in
theorem iPUok (s : ByteArray) (hl : s.size = 8) (hp : PTo s 8) (w : World) :
    Calls Tryd.prog 65 #[.string s, .int .i64 16, .int .i64 32] w fun e w' => e = .returned (.tuple #[.int .u64 (valP s 8 : Int), .nilIface]) ∧ w' = Lib.bytesWorld w 5 s := by
  have IP := hid (fun w => iPU s hl (puV true (valP s 8)) (fun _ => rfl) (fun h => absurd hp h) w)
  unfold puV at IP
  simp only [if_true] at IP
  obtain ⟨v, hv⟩ : ∃ v, v = valP s 8 := ⟨_, rfl⟩
  rw [← hv] at IP ⊢
  clear hv hp hl
  obtain ⟨a, ha⟩ : ∃ a : Int, a = (v : Int) := ⟨_, rfl⟩
  rw [← ha] at IP ⊢
  clear ha
  go_enter Tryd.func65, Tryd.ntmps65
  go_wp2_with fail
  refine (IP.out _).mono ?_
  rintro e w1 ⟨rfl, rfl⟩
  go_wp2
  go_ret2
  exact ⟨rfl, rfl⟩

set_option maxRecDepth 100000 in
set_option maxHeartbeats 1000000 in
/-- A text that is no number: the error of toError, whose contract is asked for. -/
theorem iPUbad (s : ByteArray) (hl : s.size = 8) (hp : ¬ PTo s 8) (E : World → Prop) (w : World)
    (hE : Calls Tryd.prog 114 #[.string ⟨#[80, 97, 114, 115, 101, 85, 105, 110, 116]⟩, .string s, .int .i64 16, .int .i64 32, .iface 192 (.int .i64 2)] (Lib.bytesWorld w 5 s) fun e w' => ∃ N, e = .returned (.iface 194 (.pointer (some ⟨N, 0, none⟩))) ∧ E w') :
    Calls Tryd.prog 65 #[.string s, .int .i64 16, .int .i64 32] w fun e w' => ∃ N, e = .returned (.tuple #[.int .u64 0, .iface 194 (.pointer (some ⟨N, 0, none⟩))]) ∧ E w' := by
  have IP := hid (fun w => iPU s hl (puV false 0) (fun h => absurd h hp) (fun _ => rfl) w)
  unfold puV at IP
  simp only [Bool.false_eq_true, if_false] at IP
  have HE := hid hE
  clear hp hl hE
  go_enter Tryd.func65, Tryd.ntmps65
  go_wp2_with fail
  refine (IP.out _).mono ?_
  rintro e w1 ⟨rfl, rfl⟩
  go_wp2_with fail
  refine HE.out.mono ?_
  rintro e w2 ⟨N, rfl, h2⟩
  go_wp2
  go_ret2
  exact ⟨N, rfl, h2⟩

def shlE_ren : Go.Shelf.Ren := ⟨fun | 279 => 147 | 316 => 169 | n => n, fun | 0 => 0 | 3 => 3 | 4 => 4 | 5 => 5 | 9 => 9 | 37 => 39 | 75 => 106 | 80 => 128 | 127 => 182 | 168 => 194 | 210 => 217 | n => n, fun | 15 => 1 | n => n⟩

theorem shlE : Go.Proofs.LaysM.n279 Tryd.prog shlE_ren := {
  mixed := by kernel_rfl
  f279 := Tryd.func147.trans (congrArg some (by kernel_rfl))
  f316 := Tryd.func169.trans (congrArg some (by kernel_rfl))
  t0 := Tryd.underlying0
  a0 := Tryd.isAgg0
  z0 := Tryd.sizeOf0
  v0 := Tryd.zeroValue0
  t3 := Tryd.underlying3
  a3 := Tryd.isAgg3
  z3 := Tryd.sizeOf3
  v3 := Tryd.zeroValue3
  t4 := Tryd.underlying4
  a4 := Tryd.isAgg4
  z4 := Tryd.sizeOf4
  v4 := Tryd.zeroValue4
  t9 := Tryd.underlying9
  a9 := Tryd.isAgg9
  z9 := Tryd.sizeOf9
  v9 := Tryd.zeroValue9
  t37 := Tryd.underlying39
  a37 := Tryd.isAgg39
  z37 := Tryd.sizeOf39
  v37 := Tryd.zeroValue39
  t75 := Tryd.underlying106
  a75 := Tryd.isAgg106
  z75 := Tryd.sizeOf106
  v75 := Tryd.zeroValue106
  t127 := Tryd.underlying182
  a127 := Tryd.isAgg182
  z127 := Tryd.sizeOf182
  v127 := Tryd.zeroValue182
  t168 := Tryd.underlying194
  a168 := Tryd.isAgg194
  z168 := Tryd.sizeOf194
  v168 := Tryd.zeroValue194
  t210 := Tryd.underlying217
  a210 := Tryd.isAgg217
  z210 := Tryd.sizeOf217
  v210 := Tryd.zeroValue217
  g15 := by kernel_rfl
  t5 := Tryd.underlying5
  a5 := Tryd.isAgg5
  z5 := Tryd.sizeOf5
  v5 := Tryd.zeroValue5
  t80 := Tryd.underlying128
  a80 := Tryd.isAgg128
  z80 := Tryd.sizeOf128
  v80 := Tryd.zeroValue128
  i0 := by kernel_rfl
  i3 := by kernel_rfl
  i4 := by kernel_rfl
  i5 := by kernel_rfl
  i9 := by kernel_rfl
  i37 := by kernel_rfl
  i75 := by kernel_rfl
  i80 := by kernel_rfl
  i127 := by kernel_rfl
  i168 := by kernel_rfl
  i210 := by kernel_rfl
  m15 := by kernel_rfl }

set_option maxRecDepth 100000 in
set_option maxHeartbeats 1000000 in
theorem iToError (fn s : ByteArray) (ev : Value) (w : World) (hlim : s.size ≤ 281474976710656) (hv : w.cell? ⟨1, 0, none⟩ = some ev) (hev : ev = .nilIface ∨ ∃ te pe, ev = .iface te pe) :
    Calls Tryd.prog 114 #[.string fn, .string s, .int .i64 16, .int .i64 32, .iface 192 (.int .i64 2)] w fun e w' => ∃ N, e = .returned (.iface 194 (.pointer (some ⟨N, 0, none⟩))) ∧ Below w.heap.size w w' := by
  have heq : ∀ W, (binOp .eql 106 (.iface 192 (.int .i64 2)) (.iface 192 (.int .i64 2))).run Tryd.prog W = .ok (.bool true) W := fun W => Lib.run_eql_iface_int W 2 2 Tryd.underlying106 (by kernel_rfl) Tryd.underlying192
  have HS := hid (Any.strconv_syntaxError shlE fn s ev)
  have HV := hid hv
  have HE := hid hev
  have HM := hid hlim
  clear hv hev hlim
  go_enter Tryd.func114, Tryd.ntmps114
  go_wp2_with fail
  refine (HS.out _ HM.out HV.out HE.out).mono ?_
  rintro e w2 ⟨N, rfl, h1, h2, h3⟩
  go_wp2
  go_ret
  exact ⟨N, rfl, h3⟩

set_option maxRecDepth 100000 in
set_option maxHeartbeats 1000000 in
theorem iReadLen (s : ByteArray) (hl : s.size ≠ 8) (w : World) :
    Calls Tryd.prog 30 #[.string s] w fun e w' => e = .returned (.tuple #[.float .f32 0, .int .i64 5]) ∧ Below w.heap.size w w' := by
  have h1 : ¬ ((s.size : Int) = 8) := by omega
  clear hl
  go_enter Tryd.func30, Tryd.ntmps30
  go_wp2
  go_ret2
  exact ⟨rfl, Below.refl _ _⟩

set_option maxRecDepth 100000 in
set_option maxHeartbeats 1000000 in
theorem iReadBad (s : ByteArray) (hl : s.size = 8) (hp : ¬ PTo s 8) (ev : Value) (w : World) (hv : w.cell? ⟨1, 0, none⟩ = some ev) (hev : ev = .nilIface ∨ ∃ te pe, ev = .iface te pe) :
    Calls Tryd.prog 30 #[.string s] w fun e w' => e = .returned (.tuple #[.float .f32 0, .int .i64 5]) ∧ Below w.heap.size w w' := by
  have h1 : ((s.size : Int) = 8) := by omega
  have hs : 1 < w.heap.size := Lib.lt_of_cell hv
  have hb := Lib.bytesWorld_below w 5 s
  have hv2 : (Lib.bytesWorld w 5 s).cell? ⟨1, 0, none⟩ = some ev := (Lib.bytesWorld_old w 5 s ⟨1, 0, none⟩ hs).trans hv
  have HP := hid (iPUbad s hl hp (fun w' => Below w.heap.size w w') w ((iToError ⟨#[80, 97, 114, 115, 101, 85, 105, 110, 116]⟩ s ev (Lib.bytesWorld w 5 s) (by omega) hv2 hev).mono (by
    rintro e w' ⟨N, rfl, k⟩
    exact ⟨N, rfl, hb.trans (k.mono hb.size)⟩)))
  clear hl hp hv hev hs hb hv2
  go_enter Tryd.func30, Tryd.ntmps30
  go_wp2_with fail
  refine HP.out.mono ?_
  rintro e w2 ⟨N, rfl, h2⟩
  go_wp2
  go_ret2
  exact ⟨rfl, h2⟩

theorem bytes_beq (a b : ByteArray) : (a.toList == b.toList) = decide (a = b) := by
  by_cases h : a = b
  · subst h; simp
  · rw [decide_eq_false h]
    refine beq_eq_false_iff_ne.2 (fun k => h ?_)
    rw [Lib.toList_data, Lib.toList_data] at k
    exact ByteArray.ext (Array.toList_inj.1 k)

set_option maxRecDepth 100000 in
set_option maxHeartbeats 1000000 in
theorem iRead8 (s : ByteArray) (hl : s.size = 8) (hp : PTo s 8) (q : Bool) (hq : decide (txN (valP s 8) = s) = q) (w : World) (ht : Tab64 w) :
    Calls Tryd.prog 30 #[.string s] w fun e w' => e = .returned (.tuple #[.float .f32 (if q = true then valP s 8 else 0), .int .i64 (if q = true then 0 else 5)]) ∧ Below w.heap.size w w' := by
  have h1 : ((s.size : Int) = 8) := by omega
  have hb := Lib.bytesWorld_below w 5 s
  have HP := hid (iPUok s hl hp w)
  have v32 : valP s 8 < 4294967296 := valP_lt 8 hp
  obtain ⟨v, hv⟩ : ∃ v, v = valP s 8 := ⟨_, rfl⟩
  rw [← hv] at HP v32 hq ⊢
  have HT := hid (ht.stay hb)
  have HN := hid (fun W hW => iNumberText v v32 W hW)
  have HQ := hid hq
  have cv : IntKind.u32.wrap (v : Int) = (v : Int) := w32 v32
  have hn9 : (v : Int).toNat = v := Int.toNat_natCast v
  have Hb := hid hb
  clear hl hp ht hv v32 hq hb
  go_enter Tryd.func30, Tryd.ntmps30
  go_wp2_with fail
  refine HP.out.mono ?_
  rintro e w2 ⟨rfl, rfl⟩
  go_wp2_with fail
  refine (HN.out _ HT.out).mono ?_
  rintro e w3 ⟨rfl, k3⟩
  have K := hid (Hb.out.trans (k3.mono Hb.out.size))
  clear k3
  have hE := HQ.out
  clear HQ
  cases q
  · have hE2 : ((txN v).toList == s.toList) = false := (bytes_beq _ _).trans hE
    clear hE
    go_wp2
    go_ret2
    exact ⟨rfl, K.out⟩
  · have hE2 : ((txN v).toList == s.toList) = true := (bytes_beq _ _).trans hE
    clear hE
    go_wp2
    go_ret2
    exact ⟨rfl, K.out⟩

theorem hexP_tab : ((List.range 256).all fun b => !isHexB b || (isPB b && decide (digP b = digB b) && decide (hexN (digB b) = b))) = true := by decide +kernel

theorem hexP {b : Nat} (hb : b < 256) (h : isHexB b = true) : isPB b = true ∧ digP b = digB b ∧ hexN (digB b) = b := by
  have := List.all_eq_true.1 hexP_tab b (List.mem_range.2 hb)
  rw [h] at this
  simpa [and_assoc] using this

theorem hexN_tab : ((List.range 16).all fun d => isHexB (hexN d) && decide (digB (hexN d) = d)) = true := by decide +kernel

theorem hexN_is {d : Nat} (h : d < 16) : isHexB (hexN d) = true ∧ digB (hexN d) = d := by
  have := List.all_eq_true.1 hexN_tab d (List.mem_range.2 h)
  simpa using this

theorem hex_P {s : ByteArray} : ∀ k, HexTo s k → PTo s k ∧ valP s k = valT s k
  | 0, _ => ⟨fun i h => absurd h (Nat.not_lt_zero i), rfl⟩
  | k + 1, h => by
    have ih := hex_P k (fun i hi => h i (by omega))
    have hx := hexP (byT_lt s k) (h k (by omega))
    refine ⟨ih.1.next hx.1, ?_⟩
    show valP s k * 16 + digP (byT s k) = valT s k * 16 + digB (byT s k)
    rw [ih.2, hx.2.1]

theorem byT_tx {n : Nat} {s : ByteArray} (h : (⟨(hexL n 8).toArray⟩ : ByteArray) = s) {i : Nat} (hi : i < 8) : byT s i = hexN (n / 16 ^ (7 - i) % 16) := by
  subst h
  unfold byT
  show ((hexL n 8).toArray.toList.getD i 0).toNat = _
  rw [List.getD_eq_getElem?_getD, List.toList_toArray, hexL_get 8 n i hi]
  show (hexD (n / 16 ^ (8 - 1 - i) % 16)).toNat = _
  rw [hexD_nat (Nat.mod_lt _ (by decide)), show 8 - 1 - i = 7 - i by omega]

theorem tx_hex {n : Nat} {s : ByteArray} (hn : n < 4294967296) (h : (⟨(hexL n 8).toArray⟩ : ByteArray) = s) : HexTo s 8 ∧ valT s 8 = n := by
  have hd : ∀ i, i < 8 → isHexB (byT s i) = true ∧ digB (byT s i) = n / 16 ^ (7 - i) % 16 := fun i hi => by
    rw [byT_tx h hi]
    exact hexN_is (Nat.mod_lt _ (by decide))
  refine ⟨fun i hi => (hd i hi).1, ?_⟩
  have go : ∀ k, k ≤ 8 → valT s k = n / 16 ^ (8 - k) := by
    intro k
    induction k with
    | zero => intro _; show 0 = n / 16 ^ 8; rw [Nat.div_eq_of_lt]; exact hn
    | succ k ih =>
      intro hk
      show valT s k * 16 + digB (byT s k) = _
      rw [ih (by omega), (hd k (by omega)).2, show 8 - k = (7 - k) + 1 by omega, show 8 - (k + 1) = 7 - k by omega, Nat.pow_succ, ← Nat.div_div_eq_div_mul]
      omega
  have := go 8 (Nat.le_refl _)
  simpa using this

theorem valT_div {s : ByteArray} {k : Nat} : ∀ j, HexTo s (k + j) → valT s (k + j) / 16 ^ j = valT s k
  | 0, _ => by simp
  | j + 1, h => by
    have ih := valT_div (s := s) (k := k) j (fun i hi => h i (by omega))
    have hd := digB_lt (h (k + j) (by omega))
    show (valT s (k + j) * 16 + digB (byT s (k + j))) / 16 ^ (j + 1) = _
    rw [Nat.pow_succ, Nat.mul_comm (16 ^ j) 16, ← Nat.div_div_eq_div_mul, show (valT s (k + j) * 16 + digB (byT s (k + j))) / 16 = valT s (k + j) by omega, ih]

theorem hex_tx {s : ByteArray} (hl : s.size = 8) (h : HexTo s 8) : (⟨(hexL (valT s 8) 8).toArray⟩ : ByteArray) = s := by
  have hsz : s.data.toList.length = 8 := by simpa using hl
  have key : hexL (valT s 8) 8 = s.data.toList := by
    refine List.ext_getElem? fun i => ?_
    by_cases hi : i < 8
    · rw [hexL_get 8 _ i hi, List.getElem?_eq_getElem (by omega)]
      have hx := h i hi
      have hdv : valT s 8 / 16 ^ (8 - 1 - i) = valT s (i + 1) := by
        have := valT_div (s := s) (k := i + 1) (7 - i) (by rw [show i + 1 + (7 - i) = 8 by omega]; exact h)
        rw [show i + 1 + (7 - i) = 8 by omega] at this
        rw [show 8 - 1 - i = 7 - i by omega]; exact this
      have hd := digB_lt hx
      have hm : valT s (i + 1) % 16 = digB (byT s i) := by
        show (valT s i * 16 + digB (byT s i)) % 16 = _
        omega
      rw [hdv, hm]
      unfold hexD
      rw [(hexP (byT_lt s i) hx).2.2]
      unfold byT
      rw [List.getD_eq_getElem?_getD, List.getElem?_eq_getElem (by omega)]
      simp
    · rw [List.getElem?_eq_none (by rw [hexL_length]; omega), List.getElem?_eq_none (by omega)]
  rw [key]

/-- What reading a number gives, and whether it is one. -/
theorem rd_same {s : ByteArray} (hl : s.size = 8) (hp : PTo s 8) : txN (valP s 8) = s ↔ HexTo s 8 ∧ nb (valT s 8) = valT s 8 := by
  have v32 : valP s 8 < 4294967296 := valP_lt 8 hp
  constructor
  · intro h
    have h2 := tx_hex (nb_lt v32) h
    have h3 := (hex_P 8 h2.1).2
    refine ⟨h2.1, ?_⟩
    rw [← h3]
    rw [← h3] at h2
    exact h2.2.symm
  · rintro ⟨h1, h2⟩
    unfold txN
    rw [(hex_P 8 h1).2, h2]
    exact hex_tx hl h1

def shl146_ren : Go.Shelf.Ren := ⟨fun | 138 => 136 | 143 => 137 | 146 => 47 | 195 => 165 | 197 => 166 | 217 => 183 | 218 => 167 | 219 => 168 | 221 => 96 | 224 => 185 | 225 => 184 | 260 => 182 | 266 => 193 | 267 => 186 | 268 => 135 | 314 => 194 | n => n, fun | 0 => 0 | 3 => 3 | 4 => 4 | 5 => 5 | 9 => 9 | 21 => 21 | 31 => 82 | 46 => 171 | 51 => 110 | 105 => 212 | 119 => 233 | 138 => 235 | 139 => 236 | 146 => 203 | n => n, fun | 1 => 4 | 3 => 5 | 4 => 6 | n => n⟩

theorem shl146 : Go.Proofs.Lays.n146 Tryd.prog shl146_ren := {
  mixed := by kernel_rfl
  f138 := Tryd.func136.trans (congrArg some (by kernel_rfl))
  f143 := Tryd.func137.trans (congrArg some (by kernel_rfl))
  f146 := Tryd.func47.trans (congrArg some (by kernel_rfl))
  f195 := Tryd.func165.trans (congrArg some (by kernel_rfl))
  f197 := Tryd.func166.trans (congrArg some (by kernel_rfl))
  f217 := Tryd.func183.trans (congrArg some (by kernel_rfl))
  f218 := Tryd.func167.trans (congrArg some (by kernel_rfl))
  f219 := Tryd.func168.trans (congrArg some (by kernel_rfl))
  f221 := Tryd.func96.trans (congrArg some (by kernel_rfl))
  f224 := Tryd.func185.trans (congrArg some (by kernel_rfl))
  f225 := Tryd.func184.trans (congrArg some (by kernel_rfl))
  f260 := Tryd.func182.trans (congrArg some (by kernel_rfl))
  f266 := Tryd.func193.trans (congrArg some (by kernel_rfl))
  f267 := Tryd.func186.trans (congrArg some (by kernel_rfl))
  f268 := Tryd.func135.trans (congrArg some (by kernel_rfl))
  f314 := Tryd.func194.trans (congrArg some (by kernel_rfl))
  t0 := Tryd.underlying0
  a0 := Tryd.isAgg0
  z0 := Tryd.sizeOf0
  v0 := Tryd.zeroValue0
  t3 := Tryd.underlying3
  a3 := Tryd.isAgg3
  z3 := Tryd.sizeOf3
  v3 := Tryd.zeroValue3
  t4 := Tryd.underlying4
  a4 := Tryd.isAgg4
  z4 := Tryd.sizeOf4
  v4 := Tryd.zeroValue4
  t5 := Tryd.underlying5
  a5 := Tryd.isAgg5
  z5 := Tryd.sizeOf5
  v5 := Tryd.zeroValue5
  t9 := Tryd.underlying9
  a9 := Tryd.isAgg9
  z9 := Tryd.sizeOf9
  v9 := Tryd.zeroValue9
  t21 := Tryd.underlying21
  a21 := Tryd.isAgg21
  z21 := Tryd.sizeOf21
  v21 := Tryd.zeroValue21
  t31 := Tryd.underlying82
  a31 := Tryd.isAgg82
  z31 := Tryd.sizeOf82
  v31 := Tryd.zeroValue82
  t46 := Tryd.underlying171
  a46 := Tryd.isAgg171
  z46 := Tryd.sizeOf171
  v46 := Tryd.zeroValue171
  t51 := Tryd.underlying110
  a51 := Tryd.isAgg110
  z51 := Tryd.sizeOf110
  v51 := Tryd.zeroValue110
  t105 := Tryd.underlying212
  a105 := Tryd.isAgg212
  z105 := Tryd.sizeOf212
  v105 := Tryd.zeroValue212
  t119 := Tryd.underlying233
  a119 := Tryd.isAgg233
  z119 := Tryd.sizeOf233
  t138 := Tryd.underlying235
  a138 := Tryd.isAgg235
  z138 := Tryd.sizeOf235
  v138 := Tryd.zeroValue235
  t139 := Tryd.underlying236
  a139 := Tryd.isAgg236
  z139 := Tryd.sizeOf236
  v139 := Tryd.zeroValue236
  t146 := Tryd.underlying203
  a146 := Tryd.isAgg203
  z146 := Tryd.sizeOf203
  v146 := Tryd.zeroValue203
  g1 := by kernel_rfl
  g3 := by kernel_rfl
  g4 := by kernel_rfl }

theorem hi146 : (Tryd.prog.info? (shl146_ren.t 9)).map (fun i => (i.zero, i.size, i.bytes)) = some (some (.string ByteArray.empty), 1, 16) := by kernel_rfl

theorem shSplit (s sep : ByteArray) (m : Int) (w : World) (hs : s.size < 4294967281) (hm : w.cell? ⟨4, 0, none⟩ = some (.int .i64 m)) (h1 : 1 ≤ sep.size) :
    Calls Tryd.prog 47 #[.string s, .string sep] w fun e w' =>
      e = .returned (.slice (some ⟨w.heap.size, 0, none⟩) (Lib.countB s sep + 1) (Lib.countB s sep + 1)) ∧ w' = w.alloc (.cells ((Lib.splitB sep 0 (Lib.countB s sep) s).map Value.string).toArray 9) := Any.strings_Split shl146 hi146 s sep m w hs hm h1

/-- The pieces of a text that is cut at a byte, by the program. -/
theorem iSplit (s : ByteArray) (c : UInt8) (m : Int) (w : World) (hs : s.size ≤ 1048576) (hm : w.cell? ⟨4, 0, none⟩ = some (.int .i64 m)) :
    Calls Tryd.prog 47 #[.string s, .string ⟨#[c]⟩] w fun e w' => ∃ v, e = .returned v ∧ MadeS (pcN c s) (pcV c s) w v w' := by
  refine (shSplit s ⟨#[c]⟩ m w (by omega) hm (Nat.le_refl _)).mono ?_
  rintro e w' ⟨rfl, rfl⟩
  have hn : ((Lib.splitB ⟨#[c]⟩ 0 (Lib.countB s ⟨#[c]⟩) s).map Value.string).toArray.size = pcN c s := by simp [pcN, spB]
  refine ⟨_, rfl, w.heap.size, _, _, by rw [pcN_is], Nat.le_refl _, ⟨by rw [hn]; exact Nat.le_refl _, fun k hk => ?_⟩, (Kept.nil w).push _ _⟩
  have hk2 : k < (spB c s).length := hk
  rw [List.getElem?_toArray, List.getElem?_map]
  show Option.map Value.string ((spB c s)[k]?) = some (pcV c s k)
  unfold pcV pcB
  rw [List.getD_eq_getElem?_getD, List.getElem?_eq_getElem hk2]
  rfl

/-- What the library's variables must hold: the table's cell, the error, a number. -/
def Lng (w : World) : Prop := Tab64 w ∧ (∃ ev, w.cell? ⟨1, 0, none⟩ = some ev ∧ (ev = .nilIface ∨ ∃ te pe, ev = .iface te pe)) ∧ ∃ m, w.cell? ⟨4, 0, none⟩ = some (.int .i64 m)

theorem Lng.stay {w w' : World} (h : Lng w) (k : Below w.heap.size w w') : Lng w' := by
  obtain ⟨h1, ⟨ev, h2, h3⟩, m, h4⟩ := h
  exact ⟨h1.stay k, ⟨ev, by rw [k.cell (block_lt_of_cell h2)]; exact h2, h3⟩, m, by rw [k.cell (block_lt_of_cell h4)]; exact h4⟩

def cdN (s : ByteArray) : Int := if okN s = true then 0 else 5

theorem rdI (s : ByteArray) (W : World) (hL : Lng W) :
    Calls Tryd.prog 30 #[.string s] W fun e w' => e = .returned (.tuple #[.float .f32 (vaN s), .int .i64 (cdN s)]) ∧ Below W.heap.size W w' := by
  obtain ⟨hT, ⟨ev, hv, hev⟩, -⟩ := hL
  have no : okN s = false → vaN s = 0 ∧ cdN s = 5 := fun h => by unfold vaN cdN; rw [h]; exact ⟨rfl, rfl⟩
  by_cases hl : s.size = 8
  · by_cases hx : HexTo s 8
    · have hp := (hex_P 8 hx).1
      have he := (hex_P 8 hx).2
      have hr := rd_same hl hp
      by_cases hn : nb (valT s 8) = valT s 8
      · have ho := okN_t hl hx hn
        have := iRead8 s hl hp true (decide_eq_true (hr.2 ⟨hx, hn⟩)) W hT
        rw [he] at this
        have e1 : vaN s = valT s 8 := by unfold vaN; rw [if_pos ho]
        have e2 : cdN s = 0 := by unfold cdN; rw [if_pos ho]
        rw [e1, e2]
        simpa only [if_true] using this
      · obtain ⟨e1, e2⟩ := no (okN_nb hn)
        rw [e1, e2]
        have := iRead8 s hl hp false (decide_eq_false (fun h => hn (hr.1 h).2)) W hT
        simpa only [Bool.false_eq_true, if_false] using this
    · obtain ⟨e1, e2⟩ := no (okN_hex hx)
      rw [e1, e2]
      by_cases hp : PTo s 8
      · have := iRead8 s hl hp false (decide_eq_false (fun h => hx ((rd_same hl hp).1 h).1)) W hT
        simpa only [Bool.false_eq_true, if_false] using this
      · exact iReadBad s hl hp ev W hv hev
  · obtain ⟨e1, e2⟩ := no (okN_len hl)
    rw [e1, e2]
    exact iReadLen s hl W

theorem okZ_bad {s : ByteArray} {k : Nat} (hk : k < 20) (h : okN (pcB 32 s k) = false) : okZ s = false := by
  unfold okZ
  rw [allN_at (p := fun i => okN (pcB 32 s i)) hk h, Bool.and_false]; rfl

theorem okZ_amt {s : ByteArray} {k : Nat} (hk : k < 20) (h : amtB (vaZ s k) = false) : okZ s = false := by
  unfold okZ szB
  rw [show (List.range 20).all (fun i => amtB (vaZ s i)) = false from allN_at (p := fun i => amtB (vaZ s i)) hk h, Bool.and_false]

theorem okZ_all {s : ByteArray} (hn : pcN 32 s = 20) (h : ∀ i, i < 20 → okN (pcB 32 s i) = true) (h2 : ∀ i, i < 20 → amtB (vaZ s i) = true) : okZ s = true := by
  unfold okZ szB
  rw [decide_eq_true hn, allN_t.2 h, show (List.range 20).all (fun i => amtB (vaZ s i)) = true from allN_t.2 h2]; rfl

theorem isplit32 (s : ByteArray) (hs : s.size ≤ 1048576) (w : World) (hL : Lng w) : Calls Tryd.prog 47 #[.string s, .string ⟨#[32]⟩] w fun e w' => ∃ v, e = .returned v ∧ MadeS (pcN 32 s) (pcV 32 s) w v w' := by
  obtain ⟨-, -, m, hm⟩ := hL
  exact iSplit s 32 m w hs hm

set_option maxRecDepth 100000 in
set_option maxHeartbeats 1000000 in
theorem iReadSizes (s : ByteArray) (hs : s.size ≤ 1048576) (w : World) (hL : Lng w) :
    Calls Tryd.prog 12 #[.string s] w fun e w' => e = .returned (.tuple #[.agg (fls (rdZ s)), .int .i64 (cdZ s)]) ∧ Below w.heap.size w w' := by
  have k0 := hid ((Kept.nil w).push (fls fun _ => 0) 24)
  have HL := hid hL
  have HSP := hid (fun W hW => isplit32 s hs W hW)
  obtain ⟨r, hr⟩ : ∃ r, r = rdZ s := ⟨_, rfl⟩
  obtain ⟨q, hq⟩ : ∃ q, q = cdZ s := ⟨_, rfl⟩
  have H1 := hid (show okZ s = true → r = vaZ s ∧ q = 0 from fun h => by rw [hr, hq]; unfold rdZ cdZ; rw [if_pos h, if_pos h]; exact ⟨rfl, rfl⟩)
  have H0 := hid (show okZ s = false → r = (fun _ => 0) ∧ q = 5 from fun h => by rw [hr, hq]; unfold rdZ cdZ; rw [h]; exact ⟨rfl, rfl⟩)
  have HZ3 := hid (okZ_len (s := s))
  have HG := hid (okZ_all (s := s))
  have HV := hid (fun i => vaN_lt (pcB 32 s i))
  have HP : ∀ i, Hid (pcV 32 s i = .string (pcB 32 s i)) := fun i => hid rfl
  obtain ⟨n, hn⟩ : ∃ n, n = pcN 32 s := ⟨_, rfl⟩
  rw [← hn] at HSP HZ3 HG
  rw [← hr, ← hq]
  clear hr hq hs hL hn
  go_enter Tryd.func12, Tryd.ntmps12
  go_wp2_with fail
  refine (HSP.out _ (HL.out.stay k0.out.1)).mono ?_
  rintro e w1 ⟨v, rfl, B1, cs1, cap1, rfl, hB1, L1, K1⟩
  have k1 := hid (k0.out.join K1)
  have HL1 := hid L1
  have hlt : w.heap.size < w1.heap.size := k1.out.lt in1
  have hlt1 : B1 < w1.heap.size := K1.lt in0
  clear k0 HSP hB1 L1 K1
  by_cases hn : n = 20
  · subst hn
    have k3 : Hid (Kept w [(w1.heap.size, fls fun _ => 0, 24), (B1, cs1, 9), (w.heap.size, fls fun _ => 0, 24)] (w1.alloc (.cells (fls fun _ => 0) 24))) := hid (k1.out.push (fls fun _ => 0) 24)
    have b0 : Hid (∃ cs, cs.size = 20 ∧ LvV cs 20 (mrV (flV fun _ => 0) (flV (vaZ s)) 0) ∧ Kept w [(w1.heap.size, cs, 24), (B1, cs1, 9), (w.heap.size, fls fun _ => 0, 24)] (w1.alloc (.cells (fls fun _ => 0) 24))) := hid ⟨_, fls_size _, by rw [mrV_zero]; exact lvV_fls _, k3.out⟩
    clear k3 k1 HZ3
    go_wp2_with fail
    go_loopw [18] (fun i wr => ∃ k : Nat, k ≤ 20 ∧ i = .int .i64 (k : Int) ∧ Hid (∀ j, j < k → okN (pcB 32 s j) = true) ∧ Hid (∀ j, j < k → amtB (vaZ s j) = true) ∧ Hid (∃ cs, cs.size = 20 ∧ LvV cs 20 (mrV (flV fun _ => 0) (flV (vaZ s)) k) ∧ Kept w [(w1.heap.size, cs, 24), (B1, cs1, 9), (w.heap.size, fls fun _ => 0, 24)] wr)) (fun i _ => 20 - (intOf i).toNat)
    case atStart => exact ⟨0, by omega, rfl, hid (fun j hj => absurd hj (Nat.not_lt_zero j)), hid (fun j hj => absurd hj (Nat.not_lt_zero j)), b0⟩
    case round =>
      clear b0
      obtain ⟨k, hk, rfl, o1, o2, h1⟩ := hrel
      obtain ⟨cs, a0, a1, a2⟩ := h1.out
      by_cases hlt2 : k < 20
      · have HK := hid hlt2
        have A0 := hid a0
        have A1 := hid a1
        have A2 := hid a2
        have hk3 : (k : Int) < 20 := by omega
        have hw9 := wr_k1 hlt2 (by omega)
        have c0 : wr.cell? ⟨B1, k, none⟩ = some (.string (pcB 32 s k)) := HL1.out.cell (a2.at (x := (B1, cs1, 9)) in1) hlt2
        have i1 := fun w => run_indexAt (P := Tryd.prog) (t := 82) (e := 9) Tryd.underlying82 infos_st (b := B1) (o := 0) (n := 20) (cap := cap1) (k := k) hlt2 w
        simp only [Nat.zero_add, Nat.mul_one] at i1
        have HR := hid (fun W hW => rdI (pcB 32 s k) W hW)
        have B0 : Hid (okN (pcB 32 s k) = false → okZ s = false) := hid (okZ_bad hlt2)
        have B2 : Hid (amtB (vaZ s k) = false → okZ s = false) := hid (okZ_amt hlt2)
        have ec : Hid (cdN (pcB 32 s k) = if okN (pcB 32 s k) = true then 0 else 5) := hid rfl
        have HVk : Hid (vaZ s k < 4294967296) := hid (HV.out k)
        clear h1 a0 a1 a2 hlt2 hk
        go_wp2_with fail
        refine (HR.out _ (HL.out.stay A2.out.1)).mono ?_
        rintro e w2 ⟨rfl, hb⟩
        have A3 := hid (A2.out.stay hb)
        clear A2 hb HR c0
        rw [ec.out, show vaN (pcB 32 s k) = vaZ s k from rfl]
        cases ho : okN (pcB 32 s k)
        · obtain ⟨rfl, rfl⟩ := H0.out (B0.out ho)
          have k5 := hid (A3.out.sub (l' := [(w.heap.size, fls fun _ => 0, 24)]) (by simp))
          rw [if_neg Bool.false_ne_true]
          clear A3 A0 A1 ho H1 H0 HG
          have tok1 : True := trivial
          go_wp2_with (have _t := tok1; clear tok1; refine storeA (w0 := w) rfl 24 _ _ rfl w.heap.size (fls fun _ => 0) rfl rfl (by rw [fls_size]; exact info_arr) ((fls_size _).trans (fls_size _).symm) (fls_one _) k5.out (Nat.le_refl _) (by simp) (fun w6 k6 => ?_); replace k6 := hid k6)
          exact bodyPost_ret (results_row_tmp rfl _ _ w.heap.size 24 (fls (fun _ => 0)) (0, 0) _ rfl (k6.out.at in0) Tryd.underlying24 rfl (by rw [fls_size]; exact info_arr)) rfl ⟨rfl, k6.out.1⟩
        · rw [if_pos rfl]
          have O1 := hid (to_next o1.out ho)
          clear o1 ho B0 ec
          cases ha : amtB (vaZ s k)
          · obtain ⟨rfl, rfl⟩ := H0.out (B2.out ha)
            have HA := hid (fun W => isAmount_f (vaZ s k) HVk.out ha W)
            clear ha H1 H0 HG
            go_wp2_with fail
            refine (HA.out _).mono ?_
            rintro e w3 ⟨rfl, hb⟩
            have k5 := hid ((A3.out.sub (l' := [(w.heap.size, fls fun _ => 0, 24)]) (by simp)).stay hb)
            clear A3 A0 A1 hb
            have tok1 : True := trivial
            go_wp2_with (have _t := tok1; clear tok1; refine storeA (w0 := w) rfl 24 _ _ rfl w.heap.size (fls fun _ => 0) rfl rfl (by rw [fls_size]; exact info_arr) ((fls_size _).trans (fls_size _).symm) (fls_one _) k5.out (Nat.le_refl _) (by simp) (fun w6 k6 => ?_); replace k6 := hid k6)
            exact bodyPost_ret (results_row_tmp rfl _ _ w.heap.size 24 (fls (fun _ => 0)) (0, 0) _ rfl (k6.out.at in0) Tryd.underlying24 rfl (by rw [fls_size]; exact info_arr)) rfl ⟨rfl, k6.out.1⟩
          · have HA := hid (fun W => isAmount_t (vaZ s k) ha W)
            have O2 := hid (to_next (p := fun j => amtB (vaZ s j)) o2.out ha)
            clear o2 ha
            go_wp2_with fail
            refine (HA.out _).mono ?_
            rintro e w3 ⟨rfl, rfl⟩
            have tok1 : True := trivial
            go_wp2_with (have _t := tok1; clear tok1; refine store_lv1 rfl 22 _ _ rfl info_f1 w1.heap.size k (.float .f32 (vaZ s k)) rfl rfl rfl rfl A3.out A1.out HK.out (Nat.le_of_lt hlt) (by simp; omega) (fun w3 k3 v3 => ?_); replace k3 := hid k3; replace v3 := hid v3)
            have b3 : Hid (∃ cs, cs.size = 20 ∧ LvV cs 20 (mrV (flV fun _ => 0) (flV (vaZ s)) (k + 1)) ∧ Kept w [(w1.heap.size, cs, 24), (B1, cs1, 9), (w.heap.size, fls fun _ => 0, 24)] w3) := hid ⟨_, by simp [A0.out], by have := v3.out; rw [show Value.float .f32 (vaZ s k) = flV (vaZ s) k from rfl, mrV_step (flV fun _ => 0) (flV (vaZ s)) k] at this; exact this, k3.out⟩
            go_roundw
            case rel => exact ⟨k + 1, HK.out, by go_num, O1, O2, b3⟩
            case measure => first | exact ms_io HK.out | (rw [hw9]; exact ms_io HK.out)
      · obtain rfl : k = 20 := by omega
        have hk3 : ¬ ((20 : Nat) : Int) < 20 := by omega
        obtain ⟨hr, rfl⟩ := H1.out (HG.out (by first | exact trivial | rfl) o1.out o2.out)
        have hcs : cs = fls r := by rw [hr]; exact (LvV.ext a1 (z := flV (vaZ s)) (fun j hj => if_pos hj)).all a0
        have hone : cs.all (·.oneCell') = true := by rw [hcs]; exact fls_one _
        have HC := hid hcs
        have A0 := hid a0
        have k4 := hid (a2.sub (l' := [(w.heap.size, fls fun _ => 0, 24), (w1.heap.size, cs, 24)]) (by simp))
        clear hcs a0 a1 a2 h1 o1 o2 H1 H0 HG hr
        have tok1 : True := trivial
        go_wp2_with (first | (have _t := tok1; clear tok1; refine loadA (w0 := w) rfl 24 _ rfl w1.heap.size cs rfl in1 _ Tryd.underlying24 rfl (by rw [A0.out]; exact info_arr) k4.out ?_; have tok2 : True := trivial) | (have _t := tok2; clear tok2; refine storeA (w0 := w) rfl 24 _ _ rfl w.heap.size cs rfl rfl (by rw [A0.out]; exact info_arr) ((fls_size _).trans A0.out.symm) hone k4.out (Nat.le_refl _) (by simp; omega) (fun w5 k5 => ?_); replace k5 := hid k5))
        exact bodyPost_ret (results_row_tmp rfl _ _ w.heap.size 24 cs (0, 0) _ rfl (k5.out.at in0) Tryd.underlying24 rfl (by rw [A0.out]; exact info_arr)) rfl ⟨by rw [HC.out]; rfl, k5.out.1⟩
  · obtain ⟨rfl, rfl⟩ := H0.out (HZ3.out hn)
    have hn3 : ¬ ((n : Int) = 20) := by omega
    have k5 := hid (k1.out.sub (l' := [(w.heap.size, fls fun _ => 0, 24)]) (by simp))
    clear k1 hn H1 H0 HZ3 HG
    have tok1 : True := trivial
    go_wp2_with (have _t := tok1; clear tok1; refine storeA (w0 := w) rfl 24 _ _ rfl w.heap.size (fls fun _ => 0) rfl rfl (by rw [fls_size]; exact info_arr) ((fls_size _).trans (fls_size _).symm) (fls_one _) k5.out (Nat.le_refl _) (by simp) (fun w6 k6 => ?_); replace k6 := hid k6)
    exact bodyPost_ret (results_row_tmp rfl _ _ w.heap.size 24 (fls (fun _ => 0)) (0, 0) _ rfl (k6.out.at in0) Tryd.underlying24 rfl (by rw [fls_size]; exact info_arr)) rfl ⟨rfl, k6.out.1⟩

theorem gES : Tryd.prog.globalNamed "strconv.ErrSyntax" = some 1 := by kernel_rfl

theorem gESType : (Tryd.prog.globals[1]?).map (·.type) = some 106 := by kernel_rfl

theorem cellsES : Tryd.prog.cellsOf 231 = 1 := by kernel_rfl

theorem cellsStr : Tryd.prog.cellsOf 9 = 1 := by kernel_rfl

theorem starE : "*" ++ "errors.errorString" = "*errors.errorString" := by decide

theorem rowES (u : TypeId) (h : Tryd.prog.typeName? 3 u = some "*errors.errorString") : u = 229 :=
  typeName_ptr_named (nm := "errors.errorString") (by rw [starE]; kernel_rfl) (by kernel_rfl) (by decide) u (by rw [starE]; exact h)

/-- What the readers' row asks gives what the library's variables hold. -/
theorem lng_of {W : World} (h : laidMetH Tryd.prog Rows.fnExactReadSizesRow.laid W) (hsh : W.ShapedOpen Tryd.prog) : Lng W := by
  rw [MakeChecks.laidMetH_plain _ _ _ (by kernel_rfl)] at h
  have h2 : laidMet Tryd.prog (("math/bits.deBruijn64tab", Lib.tabData .u8 tz64) :: [("internal/strconv.uint64pow10", Rows.laid_internal_strconv_uint64pow10), ("unicode/utf8.acceptRanges", Rows.laid_unicode_utf8_acceptRanges), ("strconv.ErrRange", Rows.laid_strconv_ErrRange), ("strconv.ErrSyntax", Rows.laid_strconv_ErrSyntax), ("unicode/utf8.first", Rows.laid_unicode_utf8_first)]) W := laidMet.tail h
  have hT := Lib.tabIs_of_head (g := 8) (t := 239) (e := 5) (by kernel_rfl) (by kernel_rfl) Tryd.underlying239 Tryd.underlying5 (by kernel_rfl) (by kernel_rfl) h2
  have ht : Tab64 W := hT.cell (by kernel_rfl) 15 (by decide)
  have h5 : laidMet Tryd.prog [("strconv.ErrSyntax", Rows.laid_strconv_ErrSyntax), ("unicode/utf8.first", Rows.laid_unicode_utf8_first)] W := laidMet.tail (laidMet.tail (laidMet.tail (laidMet.tail h2)))
  obtain ⟨a0, s0, hv0, -, -, -⟩ := laid_sentinel h5 gES gESType Tryd.underlying106 rowES Tryd.underlying229 Tryd.underlying231 rfl rfl Tryd.underlying9 cellsES cellsStr
  have hm := cell_of_shapedOpen_int (g := 4) (t := 3) (zero := #[.int .i64 0]) (k := .i64) hsh (of_decide_eq_true (by kernel_rfl)) (by kernel_rfl) rfl (by kernel_rfl) (by kernel_rfl) Tryd.underlying3
  exact ⟨ht, ⟨_, by have h0 := World.var?_cell gES hv0 0; simpa using h0, Or.inr ⟨_, _, rfl⟩⟩, hm⟩

theorem wit_met (os : Os) (args : Array Value) : laidMetH Tryd.prog Rows.fnExactReadSizesRow.laid ((World.laidAll Tryd.prog os Rows.fnExactReadSizesRow.laid).forCall (fun _ _ => 0) ⟨#[], args, []⟩).memory := by
  rw [MakeChecks.laidMetH_plain _ _ _ (by kernel_rfl)]
  exact laidMet_laidAll _ (by kernel_rfl) (by kernel_rfl)

/-- The lines of a text, and whether one of them is a row of numbers. -/
def lnB (s : ByteArray) (i : Nat) : ByteArray := pcB 10 s i

def rowS (x : ByteArray) : Bool := decide (pcN 32 x = 20) && allN (fun j => okN (pcB 32 x j)) 20

def kv (s : ByteArray) (i : Nat) : Nat := vaZ (lnB s (i / 20)) (i % 20)

theorem kv_at (s : ByteArray) (k : Nat) {j : Nat} (h : j < 20) : kv s (k * 20 + j) = vaZ (lnB s k) j := by
  unfold kv
  rw [show (k * 20 + j) / 20 = k by omega, show (k * 20 + j) % 20 = j by omega]

theorem kv_lt (s : ByteArray) (i : Nat) : kv s i < 4294967296 := vaN_lt _

def isE (x : ByteArray) : Bool := x.toList == []

def OkK (s : ByteArray) : Prop := pcN 10 s = 21 ∧ isE (lnB s 20) = true ∧ (∀ i, i < 20 → rowS (lnB s i) = true) ∧ KOk (kv s)

theorem rowS_len {x : ByteArray} (h : pcN 32 x ≠ 20) : rowS x = false := by unfold rowS; rw [decide_eq_false h]; rfl

theorem rowS_num {x : ByteArray} (h : allN (fun i => okN (pcB 32 x i)) (pcN 32 x) = false) : rowS x = false := by
  by_cases e : pcN 32 x = 20
  · rw [e] at h; unfold rowS; rw [h, Bool.and_false]
  · exact rowS_len e

theorem rowS_is {x : ByteArray} (e : pcN 32 x = 20) (h : allN (fun i => okN (pcB 32 x i)) (pcN 32 x) = true) : rowS x = true := by
  rw [e] at h; unfold rowS; rw [h, decide_eq_true e]; rfl

theorem split_le (sep : ByteArray) : ∀ (k : Nat) (s : ByteArray), ∀ x ∈ Lib.splitB sep 0 k s, x.size ≤ s.size
  | 0, s, x, h => by
    rw [Lib.splitB_zero] at h
    simp only [List.mem_cons, List.not_mem_nil, or_false] at h
    rw [h]; exact Nat.le_refl _
  | k + 1, s, x, h => by
    rcases Lib.indexB_cases s sep with hix | ⟨i, hix, hroom⟩
    · rw [Lib.splitB_miss _ _ _ _ hix] at h
      simp only [List.mem_cons, List.not_mem_nil, or_false] at h
      rw [h]; exact Nat.le_refl _
    · rw [Lib.splitB_hit _ _ _ _ _ hix] at h
      rcases List.mem_cons.1 h with rfl | h
      · rw [ByteArray.size_extract]; omega
      · have := split_le sep k _ x h
        rw [ByteArray.size_extract] at this
        omega

theorem pc_size (c : UInt8) (s : ByteArray) (i : Nat) : (pcB c s i).size ≤ s.size := by
  unfold pcB
  by_cases h : i < (spB c s).length
  · rw [List.getD_eq_getElem?_getD, List.getElem?_eq_getElem h]
    exact split_le _ _ s _ (List.getElem_mem h)
  · rw [List.getD_eq_getElem?_getD, List.getElem?_eq_none (by omega)]
    exact Nat.zero_le _

theorem split10 (s : ByteArray) (hs : s.size ≤ 1048576) (w : World) : Calls Tryd.prog 52 #[.string s, .int .u8 10] w fun e w' => ∃ v, e = .returned v ∧ MadeS (pcN 10 s) (pcV 10 s) w v w' := sSplit s 10 hs w

set_option maxRecDepth 100000 in
set_option maxHeartbeats 2000000 in
theorem sReadKernel (s : ByteArray) (hs : s.size ≤ 1048576) (r : Nat → Nat) (q : Int) (h1 : OkK s → r = kv s ∧ q = 0) (h0 : ¬ OkK s → r = (fun _ => 0) ∧ q = 5) (w : World) :
    Calls Tryd.prog 17 #[.string s] w fun e w' => e = .returned (.tuple #[.agg (vls 400 (flw r)), .int .i64 q]) ∧ Below w.heap.size w w' := by
  have k0 := hid ((Kept.nil w).push (vls 400 (flw fun _ => 0)) 35)
  have HSP := hid (fun W => split10 s hs W)
  have H1 := hid h1
  have H0 := hid h0
  have HS := hid hs
  obtain ⟨n, hn⟩ : ∃ n, n = pcN 10 s := ⟨_, rfl⟩
  have HN := hid hn
  rw [← hn] at HSP
  have P20 : Hid (pcV 10 s 20 = .string (lnB s 20)) := hid rfl
  obtain ⟨x20, hx20⟩ : ∃ x, x = lnB s 20 := ⟨_, rfl⟩
  rw [← hx20] at P20
  have HX20 := hid hx20
  obtain ⟨qe, hqe⟩ : ∃ qe, isE x20 = qe := ⟨_, rfl⟩
  have HQE := hid hqe
  have hq0 : (x20.toList == []) = qe := hqe
  have hq1 : x20.toList.isEmpty = qe := by rw [← hq0]; cases x20.toList <;> rfl
  clear h1 h0 hs hn hx20 hqe
  go_enter Tryd.func17, Tryd.ntmps17
  go_wp2_with fail
  refine (HSP.out _).mono ?_
  rintro e w1 ⟨v, rfl, B1, cs1, cap1, rfl, hB1, L1, K1⟩
  have k1 := hid (k0.out.join K1)
  have HL1 := hid L1
  have hlt : w.heap.size < w1.heap.size := k1.out.lt in1
  have hltB : B1 < w1.heap.size := K1.lt in0
  clear k0 HSP hB1 L1 K1
  by_cases hn : n = 21
  · subst hn
    have c0 : w1.cell? ⟨B1, 20, none⟩ = some (.string x20) := by rw [← P20.out]; exact HL1.out.cell (k1.out.at (x := (B1, cs1, 9)) in0) (by omega)
    cases qe
    · obtain ⟨rfl, rfl⟩ := H0.out (fun h => by have := h.2.1; rw [← HX20.out, HQE.out] at this; cases this)
      have KX := k1
      clear k1
      have kA := hid (KX.out.sub (l' := [(w.heap.size, vls 400 (flw fun _ => 0), 35)]) (by simp))
      clear KX
      have tok1 : True := trivial
      go_wp2_with (first | (have _t := tok1; clear tok1; refine storeA (w0 := w) rfl 35 _ _ rfl (w.heap.size) (vls 400 (flw fun _ => 0)) rfl rfl (by rw [vls_size]; exact info_kern) ((vls_size _ _).trans (vls_size _ _).symm) (vls_one (flw_one _)) kA.out (Nat.le_refl _) (by simp) (fun w7 k7 => ?_); replace k7 := hid k7))
      exact bodyPost_ret (results_row_tmp rfl _ _ w.heap.size 35 (vls 400 (flw fun _ => 0)) (0, 0) _ rfl (k7.out.at in0) Tryd.underlying35 rfl (by rw [vls_size]; exact info_kern)) rfl ⟨rfl, k7.out.1⟩
    · have k3 := hid (k1.out.push (vls 400 (flw fun _ => 0)) 35)
      have HB0 := hid (Nat.le_of_lt hlt)
      have HNE : Hid (¬ B1 = w1.heap.size ∧ ¬ w.heap.size = w1.heap.size) := hid ⟨by omega, by omega⟩
      clear k1
      have tok1 : True := trivial
      go_wp2_with (first | (have _t := tok1; clear tok1; refine storeA (w0 := w) rfl 35 _ _ rfl (w1.heap.size) (vls 400 (flw fun _ => 0)) rfl rfl (by rw [vls_size]; exact info_kern) ((vls_size _ _).trans (vls_size _ _).symm) (vls_one (flw_one _)) k3.out HB0.out (by simp; exact HNE.out) (fun w4 k4 => ?_); replace k4 := hid k4; clear k3))
      generalize w1.heap.size = K at *
      have b0 : Hid (Kept w [(K, vls 400 (flw (prt (kv s) (fun _ => 0) (0 * 20))), 35), (B1, cs1, 9), (w.heap.size, vls 400 (flw fun _ => 0), 35)] w4) := hid (by rw [show prt (kv s) (fun _ => 0) (0 * 20) = fun _ => 0 from funext fun i => by rw [Nat.zero_mul]; exact part_zero _ _ i]; exact k4.out)
      clear k4
      go_loopw [6] (fun i wr => ∃ k : Nat, k ≤ 20 ∧ i = .int .i64 (k : Int) ∧ Hid (∀ j, j < k → rowS (lnB s j) = true) ∧ Hid (Kept w [(K, vls 400 (flw (prt (kv s) (fun _ => 0) (k * 20))), 35), (B1, cs1, 9), (w.heap.size, vls 400 (flw fun _ => 0), 35)] wr)) (fun i _ => 20 - (intOf i).toNat)
      case atStart => exact ⟨0, by omega, rfl, hid (fun j hj => absurd hj (Nat.not_lt_zero j)), b0⟩
      case round =>
        clear b0
        obtain ⟨k, hk, rfl, hall, hk1⟩ := hrel
        by_cases hlt2 : k < 20
        · have HL := hid hlt2
          have hk3 : (k : Int) < 20 := by omega
          have hw9 := wr_k1 hlt2 (by omega)
          have c1 : wr.cell? ⟨B1, k, none⟩ = some (.string (lnB s k)) := HL1.out.cell (hk1.out.at (x := (B1, cs1, 9)) in1) (by omega)
          have i1 := fun w => run_indexAt (P := Tryd.prog) (t := 82) (e := 9) Tryd.underlying82 infos_st (b := B1) (o := 0) (n := 21) (cap := cap1) (k := k) (by omega) w
          simp only [Nat.zero_add, Nat.mul_one] at i1
          obtain ⟨x, hx⟩ : ∃ x, x = lnB s k := ⟨_, rfl⟩
          have hxs : x.size ≤ 1048576 := by rw [hx]; exact Nat.le_trans (pc_size 10 s k) HS.out
          have HX := hid hx
          rw [← hx] at c1
          have SP := hid (fun W => split32 x hxs W)
          have n0 := hid (pcN_pos 32 x)
          have n1 := hid (Nat.le_trans (pcN_le 32 x) (show x.size + 1 ≤ 1048577 by omega))
          obtain ⟨qr, hqr⟩ : ∃ qr, allN (fun i => okN (pcB 32 x i)) (pcN 32 x) = qr := ⟨_, rfl⟩
          have HQR := hid hqr
          have R1 := hid (rowS_num (x := x))
          have R2 := hid (rowS_is (x := x))
          have R3 := hid (rowS_len (x := x))
          obtain ⟨n3, hn3⟩ : ∃ n3, n3 = pcN 32 x := ⟨_, rfl⟩
          rw [← hn3] at SP n0 n1 HQR R1 R2 R3
          clear hx hqr hn3 hxs hlt2 hk
          go_wp2_with fail
          refine (SP.out _).mono ?_
          rintro e w2 ⟨v, rfl, B3, cs3, cap3, rfl, hB3, L3, K3⟩
          have k5 := hid (hk1.out.join K3)
          have RR := hid (K3.rdV L3 in0 cap3)
          clear hk1 SP hB3 L3 K3 c1
          have HNM := hid (sNumbers _ n3 (fun i => pcB 32 x i) w2 RR.out n0.out n1.out qr HQR.out)
          go_wp2_with fail
          refine HNM.out.mono ?_
          rintro e w3 ⟨rv, rfl, hb, hmade⟩
          have k6 := hid (k5.out.sub (l' := [(K, vls 400 (flw (prt (kv s) (fun _ => 0) (k * 20))), 35), (B1, cs1, 9), (w.heap.size, vls 400 (flw fun _ => 0), 35)]) (by simp))
          have HM := hid hmade
          clear k5 RR HNM hmade
          cases qr
          · have hr := R1.out HQR.out
            obtain ⟨rfl, rfl⟩ := H0.out (fun h => by have := h.2.2.1 k HL.out; rw [← HX.out, hr] at this; cases this)
            have KX := hid (k6.out.stay hb)
            clear k6 HM hb hr
            have kA := hid (KX.out.sub (l' := [(w.heap.size, vls 400 (flw fun _ => 0), 35)]) (by simp))
            clear KX
            have tok1 : True := trivial
            go_wp2_with (first | (have _t := tok1; clear tok1; refine storeA (w0 := w) rfl 35 _ _ rfl (w.heap.size) (vls 400 (flw fun _ => 0)) rfl rfl (by rw [vls_size]; exact info_kern) ((vls_size _ _).trans (vls_size _ _).symm) (vls_one (flw_one _)) kA.out (Nat.le_refl _) (by simp) (fun w7 k7 => ?_); replace k7 := hid k7))
            exact bodyPost_ret (results_row_tmp rfl _ _ w.heap.size 35 (vls 400 (flw fun _ => 0)) (0, 0) _ rfl (k7.out.at in0) Tryd.underlying35 rfl (by rw [vls_size]; exact info_kern)) rfl ⟨rfl, k7.out.1⟩
          · by_cases hn4 : n3 = 20
            · obtain ⟨B4, cs4, cap4, rfl, hB4, L4, K4⟩ := HM.out rfl
              have hr := R2.out hn4 HQR.out
              subst hn4
              have AL := hid (to_next (p := fun j => rowS (lnB s j)) hall.out (by rw [← HX.out]; exact hr))
              have k7 := hid (k6.out.join K4)
              have HL4 := hid L4
              have HV4 : Hid (∀ j, j < 20 → kv s (k * 20 + j) = vaN (pcB 32 x j)) := hid (fun j hj => by rw [kv_at s k hj, ← HX.out]; rfl)
              have hneB : ¬ B4 = K := by
                have := k6.out.lt (x := (K, vls 400 (flw (prt (kv s) (fun _ => 0) (k * 20))), 35)) in0
                omega
              have HNE : Hid (¬ B4 = K ∧ ¬ B1 = K ∧ ¬ w.heap.size = K) := hid ⟨hneB, HNE.out⟩
              have b1 : Hid (Kept w [(K, vls 400 (flw (prt (kv s) (fun _ => 0) (k * 20 + 0))), 35), (B4, cs4, 22), (B1, cs1, 9), (w.heap.size, vls 400 (flw fun _ => 0), 35)] w3) := hid (k7.out.sub (by simp))
              clear k6 k7 HM hb hr hall K4 hB4 L4 R1 R2 R3 HQR
              go_wp2_with fail
              go_loopw [9] (fun i wr => ∃ j : Nat, j ≤ 20 ∧ i = .int .i64 (j : Int) ∧ Hid (Kept w [(K, vls 400 (flw (prt (kv s) (fun _ => 0) (k * 20 + j))), 35), (B4, cs4, 22), (B1, cs1, 9), (w.heap.size, vls 400 (flw fun _ => 0), 35)] wr)) (fun i _ => 20 - (intOf i).toNat)
              case atStart => exact ⟨0, by omega, rfl, b1⟩
              case round =>
                clear b1
                obtain ⟨j, hj, rfl, hj1⟩ := hrel
                by_cases hlj : j < 20
                · have HJ := hid hlj
                  have hj3 : (j : Int) < 20 := by omega
                  have i4 := fun w => run_indexAt (P := Tryd.prog) (t := 91) (e := 22) Tryd.underlying91 info_f1 (b := B4) (o := 0) (n := 20) (cap := cap4) (k := j) hlj w
                  simp only [Nat.zero_add, Nat.mul_one] at i4
                  go_wp2_with fail
                  refine region_kept (w0 := w) (l := [(B4, cs4, 22)]) 9 #[false, false, false, false, false, false, false, false, false] (by kernel_rfl) rfl rfl ?_
                  have kd := hj1.out.drew
                  clear hj1
                  generalize wr.drew = wd at kd ⊢
                  have kS : Kept w [(B4, cs4, 22)] wd := kd.sub (by simp)
                  refine take_val 0 _ _ (.int .i64 (k : Int)) rfl (by rfl) (by kernel_rfl) (by kernel_rfl) (by kernel_rfl) (fun w => by rfl) rfl rfl kS ?_
                  refine take_val 1 _ _ (.int .i64 (j : Int)) rfl (by rfl) (by kernel_rfl) (by kernel_rfl) (by kernel_rfl) (fun w => by rfl) rfl rfl kS ?_
                  refine take_val 2 _ _ (.slice (some ⟨B4, 0, none⟩) 20 cap4) rfl (by rfl) (by kernel_rfl) (by kernel_rfl) (by kernel_rfl) (fun w => by rfl) rfl rfl kS ?_
                  refine take_val 3 _ _ (.int .i64 (j : Int)) rfl (by rfl) (by kernel_rfl) (by kernel_rfl) (by kernel_rfl) (fun w => by rfl) rfl rfl kS ?_
                  simp only [Act.put, List.setIfInBounds_toArray, List.set_cons_zero, List.set_cons_succ]
                  refine take_val 4 _ _ (.pointer (some ⟨B4, j, none⟩)) rfl (by rfl) (by kernel_rfl) (by kernel_rfl) (by kernel_rfl) (fun w => by unfold execOp; go_simp) rfl rfl kS ?_
                  simp only [Act.put, List.setIfInBounds_toArray, List.set_cons_zero, List.set_cons_succ]
                  refine take_cell 5 _ _ (.float .f32 (kv s (k * 20 + j))) rfl (by rfl) (by kernel_rfl) (by kernel_rfl) (by kernel_rfl) (fun wq hS => by have hcell : wq.cell? ⟨B4, j, none⟩ = some (.float .f32 (kv s (k * 20 + j))) := (by rw [HV4.out j HJ.out]; exact HL4.out.cell (hS.at (x := (B4, cs4, 22)) in0) HJ.out); clear hS; unfold execOp; go_simp) rfl rfl kS ?_
                  simp only [Act.put, List.setIfInBounds_toArray, List.set_cons_zero, List.set_cons_succ]
                  refine take_val 6 _ _ (.pointer (some ⟨K, k * 20, none⟩)) rfl (by rfl) (by kernel_rfl) (by kernel_rfl) (by kernel_rfl) (fun w => by unfold execOp; go_simp) rfl rfl kS ?_
                  simp only [Act.put, List.setIfInBounds_toArray, List.set_cons_zero, List.set_cons_succ]
                  refine take_val 7 _ _ (.pointer (some ⟨K, k * 20 + j, none⟩)) rfl (by rfl) (by kernel_rfl) (by kernel_rfl) (by kernel_rfl) (fun w => by unfold execOp; go_simp) rfl rfl kS ?_
                  simp only [Act.put, List.setIfInBounds_toArray, List.set_cons_zero, List.set_cons_succ]
                  refine wpAnyH_ready (rs := [8]) (by kernel_rfl) (by simp) ?_
                  refine storeCellK 8 _ kd HB0.out (by simp; exact HNE.out) rfl (by rfl) 22 _ _ rfl (k * 20 + j) (kv s (k * 20 + j)) (by have := HL.out; have := HJ.out; omega) (by rfl) (by rfl) info_f1 rfl (fun w2 k2 => ?_) AllReadyH.nil
                  refine ⟨k2.sub (by simp), ?_⟩
                  refine wpAnyH_done (by kernel_rfl) (NoPanic.normal ?_) _
                  simp only [Act.put]
                  rw [show upd (prt (kv s) (fun _ => 0) (k * 20 + j)) (k * 20 + j) (kv s (k * 20 + j)) = prt (kv s) (fun _ => 0) (k * 20 + j + 1) from funext fun i => part_succ (kv s) (fun _ => 0) (k * 20 + j) i] at k2
                  have K2 := hid k2
                  clear kd k2 kS
                  go_wp2_with fail
                  go_roundw
                  case rel => exact ⟨j + 1, HJ.out, by go_num, K2⟩
                  case measure => simp [intOf]; omega
                · obtain rfl : j = 20 := by omega
                  have hj3 : ¬ ((20 : Nat) : Int) < 20 := by omega
                  have K9 : Hid (Kept w [(K, vls 400 (flw (prt (kv s) (fun _ => 0) ((k + 1) * 20))), 35), (B1, cs1, 9), (w.heap.size, vls 400 (flw fun _ => 0), 35)] wr) := hid (by rw [show (k + 1) * 20 = k * 20 + 20 by omega]; exact hj1.out.sub (by simp))
                  clear hj1
                  go_wp2_with fail
                  go_roundw
                  case rel => exact ⟨k + 1, HL.out, by go_num, AL, K9⟩
                  case measure => first | exact ms_io HL.out | (rw [hw9]; exact ms_io HL.out)
            · have hr := R3.out hn4
              obtain ⟨rfl, rfl⟩ := H0.out (fun h => by have := h.2.2.1 k HL.out; rw [← HX.out, hr] at this; cases this)
              obtain ⟨B4, cs4, cap4, rfl, hB4, L4, K4⟩ := HM.out rfl
              have hn5 : ¬ ((n3 : Int) = 20) := by omega
              have KX := hid (k6.out.stay hb)
              clear k6 HM hb hr hB4 L4 K4 hn4
              have kA := hid (KX.out.sub (l' := [(w.heap.size, vls 400 (flw fun _ => 0), 35)]) (by simp))
              clear KX
              have tok1 : True := trivial
              go_wp2_with (first | (have _t := tok1; clear tok1; refine storeA (w0 := w) rfl 35 _ _ rfl (w.heap.size) (vls 400 (flw fun _ => 0)) rfl rfl (by rw [vls_size]; exact info_kern) ((vls_size _ _).trans (vls_size _ _).symm) (vls_one (flw_one _)) kA.out (Nat.le_refl _) (by simp) (fun w7 k7 => ?_); replace k7 := hid k7))
              exact bodyPost_ret (results_row_tmp rfl _ _ w.heap.size 35 (vls 400 (flw fun _ => 0)) (0, 0) _ rfl (k7.out.at in0) Tryd.underlying35 rfl (by rw [vls_size]; exact info_kern)) rfl ⟨rfl, k7.out.1⟩
        · obtain rfl : k = 20 := by omega
          have hk3 : ¬ ((20 : Nat) : Int) < 20 := by omega
          have hkv : vls 400 (flw (prt (kv s) (fun _ => 0) (20 * 20))) = vls 400 (flw (kv s)) := vls_ext (fun i hi => by show Value.float .f32 (prt (kv s) (fun _ => 0) (20 * 20) i) = Value.float .f32 (kv s i); rw [show prt (kv s) (fun _ => 0) (20 * 20) i = kv s i from if_pos hi])
          rw [hkv] at hk1
          have k5 : Hid (Kept w [(w.heap.size, vls 400 (flw fun _ => 0), 35), (K, vls 400 (flw (kv s)), 35)] wr) := hid hk1.out.ca
          clear hkv
          obtain ⟨qk, hqk⟩ : ∃ qk : Bool, qk = true ↔ KOk (kv s) := by
            by_cases h : KOk (kv s)
            · exact ⟨true, fun _ => h, fun _ => rfl⟩
            · exact ⟨false, fun e => (by cases e), fun k => absurd k h⟩
          have HK := hid (fun (W : World) (hW : W.heap[K]? = some (.cells (vls 400 (flw (kv s))) 35 (0, 0))) => sKOk (kv s) (fun i _ => kv_lt s i) qk hqk W K 35 hW)
          have HQK := hid hqk
          have HLT := hid hlt
          clear hk1 hqk
          go_wp2_with fail
          refine (HK.out _ (k5.out.at (x := (K, vls 400 (flw (kv s)), 35)) in1)).mono ?_
          rintro e w5 ⟨rfl, hb⟩
          have k6 := hid (k5.out.stay hb)
          clear k5 hb
          cases qk
          · obtain ⟨rfl, rfl⟩ := H0.out (fun h => by have := HQK.out.2 h.2.2.2; cases this)
            have KX := k6
            clear k6
            have kA := hid (KX.out.sub (l' := [(w.heap.size, vls 400 (flw fun _ => 0), 35)]) (by simp))
            clear KX
            have tok1 : True := trivial
            go_wp2_with (first | (have _t := tok1; clear tok1; refine storeA (w0 := w) rfl 35 _ _ rfl (w.heap.size) (vls 400 (flw fun _ => 0)) rfl rfl (by rw [vls_size]; exact info_kern) ((vls_size _ _).trans (vls_size _ _).symm) (vls_one (flw_one _)) kA.out (Nat.le_refl _) (by simp) (fun w7 k7 => ?_); replace k7 := hid k7))
            exact bodyPost_ret (results_row_tmp rfl _ _ w.heap.size 35 (vls 400 (flw fun _ => 0)) (0, 0) _ rfl (k7.out.at in0) Tryd.underlying35 rfl (by rw [vls_size]; exact info_kern)) rfl ⟨rfl, k7.out.1⟩
          · obtain ⟨hr, rfl⟩ := H1.out ⟨HN.out.symm, by rw [← HX20.out]; exact HQE.out, hall.out, HQK.out.1 rfl⟩
            have HR := hid hr
            obtain ⟨c, hc⟩ : ∃ c, c = kv s := ⟨_, rfl⟩
            rw [← hc] at k6 hr
            subst hr
            have tok1 : True := trivial
            go_wp2_with (first | (have _t := tok1; clear tok1; refine loadA (w0 := w) rfl 35 _ rfl (K) (vls 400 (flw (r))) rfl in1 _ Tryd.underlying35 rfl (by rw [vls_size]; exact info_kern) k6.out ?_; have tok2 : True := trivial) | (have _t := tok2; clear tok2; refine storeA (w0 := w) rfl 35 _ _ rfl (w.heap.size) (vls 400 (flw (r))) rfl rfl (by rw [vls_size]; exact info_kern) ((vls_size _ _).trans (vls_size _ _).symm) (vls_one (flw_one _)) k6.out (Nat.le_refl _) (by simp; exact Nat.ne_of_gt HLT.out) (fun w7 k7 => ?_); replace k7 := hid k7))
            exact bodyPost_ret (results_row_tmp rfl _ _ w.heap.size 35 (vls 400 (flw (r))) (0, 0) _ rfl (k7.out.at in0) Tryd.underlying35 rfl (by rw [vls_size]; exact info_kern)) rfl ⟨rfl, k7.out.1⟩
  · obtain ⟨rfl, rfl⟩ := H0.out (fun h => hn (by rw [HN.out]; exact h.1))
    have hn3 : ¬ ((n : Int) = 21) := by omega
    have KX := k1
    clear k1 hn
    have kA := hid (KX.out.sub (l' := [(w.heap.size, vls 400 (flw fun _ => 0), 35)]) (by simp))
    clear KX
    have tok1 : True := trivial
    go_wp2_with (first | (have _t := tok1; clear tok1; refine storeA (w0 := w) rfl 35 _ _ rfl (w.heap.size) (vls 400 (flw fun _ => 0)) rfl rfl (by rw [vls_size]; exact info_kern) ((vls_size _ _).trans (vls_size _ _).symm) (vls_one (flw_one _)) kA.out (Nat.le_refl _) (by simp) (fun w7 k7 => ?_); replace k7 := hid k7))
    exact bodyPost_ret (results_row_tmp rfl _ _ w.heap.size 35 (vls 400 (flw fun _ => 0)) (0, 0) _ rfl (k7.out.at in0) Tryd.underlying35 rfl (by rw [vls_size]; exact info_kern)) rfl ⟨rfl, k7.out.1⟩

theorem okZ_row {x : ByteArray} (h : rowS x = true) (h2 : ∀ j, j < 20 → amtB (vaZ x j) = true) : okZ x = true := by
  unfold rowS at h
  unfold okZ szB
  rw [h, show (List.range 20).all (fun i => amtB (vaZ x i)) = true from allN_t.2 h2]; rfl

theorem okZ_rowS {x : ByteArray} (h : okZ x = true) : rowS x = true ∧ rdZ x = vaZ x := by
  refine ⟨?_, by unfold rdZ; rw [if_pos h]⟩
  unfold okZ at h
  rw [Bool.and_eq_true] at h
  exact h.1

theorem cdZ_t {x : ByteArray} (h : okZ x = true) : cdZ x = 0 := by unfold cdZ; rw [if_pos h]

theorem cdZ_f {x : ByteArray} (h : okZ x = false) : cdZ x = 5 := by unfold cdZ; rw [h]; rfl

theorem okZ_not {s : ByteArray} {k : Nat} (hk : k < 20) (h : okZ (lnB s k) = false) : ¬ OkK s := fun hO => by
  have := okZ_row (hO.2.2.1 k hk) (fun j hj => by rw [← kv_at s k hj]; exact hO.2.2.2.1 _ (by omega))
  rw [h] at this; cases this

theorem isplit10 (s : ByteArray) (hs : s.size ≤ 1048576) (w : World) (hL : Lng w) : Calls Tryd.prog 47 #[.string s, .string ⟨#[10]⟩] w fun e w' => ∃ v, e = .returned v ∧ MadeS (pcN 10 s) (pcV 10 s) w v w' := by
  obtain ⟨-, -, m, hm⟩ := hL
  exact iSplit s 10 m w hs hm

theorem rowK_kv (s : ByteArray) (k : Nat) : ∀ j, j < 20 → rowK (kv s) k j = vaZ (lnB s k) j := fun j hj => kv_at s k hj

theorem fls_ext' {c d : Nat → Nat} (h : ∀ j, j < 20 → c j = d j) : fls c = fls d := by
  show vls 20 (flw c) = vls 20 (flw d)
  exact vls_ext fun j hj => by show Value.float .f32 (c j) = Value.float .f32 (d j); rw [h j hj]

set_option maxRecDepth 100000 in
set_option maxHeartbeats 2000000 in
theorem iReadKernel (s : ByteArray) (hs : s.size ≤ 1048576) (r : Nat → Nat) (q : Int) (h1 : OkK s → r = kv s ∧ q = 0) (h0 : ¬ OkK s → r = (fun _ => 0) ∧ q = 5) (w : World) (hL : Lng w) :
    Calls Tryd.prog 18 #[.string s] w fun e w' => e = .returned (.tuple #[.agg (vls 400 (flw r)), .int .i64 q]) ∧ Below w.heap.size w w' := by
  have k0 := hid ((Kept.nil w).push (vls 400 (flw fun _ => 0)) 35)
  have HLn := hid hL
  have HSP := hid (fun W hW => isplit10 s hs W hW)
  have H1 := hid h1
  have H0 := hid h0
  have HS := hid hs
  obtain ⟨n, hn⟩ : ∃ n, n = pcN 10 s := ⟨_, rfl⟩
  have HN := hid hn
  rw [← hn] at HSP
  have P20 : Hid (pcV 10 s 20 = .string (lnB s 20)) := hid rfl
  obtain ⟨x20, hx20⟩ : ∃ x, x = lnB s 20 := ⟨_, rfl⟩
  rw [← hx20] at P20
  have HX20 := hid hx20
  obtain ⟨qe, hqe⟩ : ∃ qe, isE x20 = qe := ⟨_, rfl⟩
  have HQE := hid hqe
  have hq0 : (x20.toList == []) = qe := hqe
  have hq1 : x20.toList.isEmpty = qe := by rw [← hq0]; cases x20.toList <;> rfl
  clear h1 h0 hs hn hx20 hqe hL
  go_enter Tryd.func18, Tryd.ntmps18
  go_wp2_with fail
  refine (HSP.out _ (HLn.out.stay k0.out.1)).mono ?_
  rintro e w1 ⟨v, rfl, B1, cs1, cap1, rfl, hB1, L1, K1⟩
  have k1 := hid (k0.out.join K1)
  have HL1 := hid L1
  have hlt : w.heap.size < w1.heap.size := k1.out.lt in1
  have hltB : B1 < w1.heap.size := K1.lt in0
  clear k0 HSP hB1 L1 K1
  by_cases hn : n = 21
  · subst hn
    have c0 : w1.cell? ⟨B1, 20, none⟩ = some (.string x20) := by rw [← P20.out]; exact HL1.out.cell (k1.out.at (x := (B1, cs1, 9)) in0) (by omega)
    cases qe
    · obtain ⟨rfl, rfl⟩ := H0.out (fun h => by have := h.2.1; rw [← HX20.out, HQE.out] at this; cases this)
      have KX := k1
      clear k1
      have kA := hid (KX.out.sub (l' := [(w.heap.size, vls 400 (flw fun _ => 0), 35)]) (by simp))
      clear KX
      have tok1 : True := trivial
      go_wp2_with (first | (have _t := tok1; clear tok1; refine storeA (w0 := w) rfl 35 _ _ rfl (w.heap.size) (vls 400 (flw fun _ => 0)) rfl rfl (by rw [vls_size]; exact info_kern) ((vls_size _ _).trans (vls_size _ _).symm) (vls_one (flw_one _)) kA.out (Nat.le_refl _) (by simp) (fun w7 k7 => ?_); replace k7 := hid k7))
      exact bodyPost_ret (results_row_tmp rfl _ _ w.heap.size 35 (vls 400 (flw fun _ => 0)) (0, 0) _ rfl (k7.out.at in0) Tryd.underlying35 rfl (by rw [vls_size]; exact info_kern)) rfl ⟨rfl, k7.out.1⟩
    · have k3 : Hid (Kept w [(w1.heap.size, vls 400 (flw fun _ => 0), 35), (B1, cs1, 9), (w.heap.size, vls 400 (flw fun _ => 0), 35)] (w1.alloc (.cells (vls 400 (flw fun _ => 0)) 35))) := hid (k1.out.push (vls 400 (flw fun _ => 0)) 35)
      have HB0 := hid (Nat.le_of_lt hlt)
      have HNE : Hid (¬ B1 = w1.heap.size ∧ ¬ w.heap.size = w1.heap.size) := hid ⟨by omega, by omega⟩
      have b0 : Hid (Kept w [(w1.heap.size, vls 400 (flw (rowsP (kv s) (fun _ => 0) 0)), 35), (B1, cs1, 9), (w.heap.size, vls 400 (flw fun _ => 0), 35)] (w1.alloc (.cells (vls 400 (flw fun _ => 0)) 35))) := hid (by rw [show rowsP (kv s) (fun _ => 0) 0 = fun _ => 0 from funext fun i => rowsP_zero _ _ i]; exact k3.out)
      clear k1 k3
      go_wp2_with fail
      generalize w1.heap.size = K at *
      go_loopw [21] (fun i wr => ∃ k : Nat, k ≤ 20 ∧ i = .int .i64 (k : Int) ∧ Hid (∀ j, j < k → rowS (lnB s j) = true) ∧ Hid (Kept w [(K, vls 400 (flw (rowsP (kv s) (fun _ => 0) k)), 35), (B1, cs1, 9), (w.heap.size, vls 400 (flw fun _ => 0), 35)] wr)) (fun i _ => 20 - (intOf i).toNat)
      case atStart => exact ⟨0, by omega, rfl, hid (fun j hj => absurd hj (Nat.not_lt_zero j)), b0⟩
      case round =>
        clear b0
        obtain ⟨k, hk, rfl, hall, hk1⟩ := hrel
        by_cases hlt2 : k < 20
        · have HL := hid hlt2
          have hk3 : (k : Int) < 20 := by omega
          have hw9 := wr_k1 hlt2 (by omega)
          have c1 : wr.cell? ⟨B1, k, none⟩ = some (.string (lnB s k)) := HL1.out.cell (hk1.out.at (x := (B1, cs1, 9)) in1) (by omega)
          have i1 := fun w => run_indexAt (P := Tryd.prog) (t := 82) (e := 9) Tryd.underlying82 infos_st (b := B1) (o := 0) (n := 21) (cap := cap1) (k := k) (by omega) w
          simp only [Nat.zero_add, Nat.mul_one] at i1
          have HRZ := hid (fun W hW => iReadSizes (lnB s k) (Nat.le_trans (pc_size 10 s k) HS.out) W hW)
          have NO := hid (okZ_not (s := s) hlt2)
          have YES := hid (okZ_rowS (x := lnB s k))
          have CT := hid (cdZ_t (x := lnB s k))
          have CF := hid (cdZ_f (x := lnB s k))
          have RK := hid (rowK_kv s k)
          clear hlt2 hk
          obtain ⟨x, hx⟩ : ∃ x, x = lnB s k := ⟨_, rfl⟩
          have hxx := hid hx
          rw [← hx] at HRZ NO YES CT CF RK c1
          clear hx
          obtain ⟨c, hc⟩ : ∃ c, c = rdZ x := ⟨_, rfl⟩
          rw [← hc] at HRZ YES
          clear hc
          go_wp2_with fail
          refine (HRZ.out _ (HLn.out.stay hk1.out.1)).mono ?_
          rintro e w2 ⟨rfl, hb⟩
          have k5 := hid (hk1.out.stay hb)
          have hl5 : K < w2.heap.size ∧ w.heap.size < w2.heap.size ∧ B1 < w2.heap.size := ⟨k5.out.lt in0, k5.out.lt in2, k5.out.lt in1⟩
          have k6 : Hid (Kept w [(w2.heap.size, fls fun _ => 0, 24), (K, vls 400 (flw (rowsP (kv s) (fun _ => 0) k)), 35), (B1, cs1, 9), (w.heap.size, vls 400 (flw fun _ => 0), 35)] (w2.alloc (.cells (fls fun _ => 0) 24))) := hid (k5.out.push (fls fun _ => 0) 24)
          clear hk1 hb HRZ c1
          cases ho : okZ x
          · obtain ⟨rfl, rfl⟩ := H0.out (NO.out ho)
            rw [CF.out ho]
            clear NO YES CT CF ho
            have tok1 : True := trivial
            dsimp only
            go_wp2_with (first | (have _t := tok1; clear tok1; refine storeA (w0 := w) rfl 24 _ _ rfl (w2.heap.size) (fls c) rfl rfl (by rw [fls_size]; exact info_arr) ((fls_size _).trans (fls_size _).symm) (fls_one _) k6.out (Nat.le_of_lt hl5.2.1) (by simp; omega) (fun w7 k7 => ?_); replace k7 := hid k7; have kA := hid (k7.out.sub (l' := [(w.heap.size, vls 400 (flw fun _ => 0), 35)]) (by simp)); clear k7 k6; have tok2 : True := trivial) | (have _t := tok2; clear tok2; refine storeA (w0 := w) rfl 35 _ _ rfl (w.heap.size) (vls 400 (flw fun _ => 0)) rfl rfl (by rw [vls_size]; exact info_kern) ((vls_size _ _).trans (vls_size _ _).symm) (vls_one (flw_one _)) kA.out (Nat.le_refl _) (by simp) (fun w8 k9 => ?_); replace k9 := hid k9))
            exact bodyPost_ret (results_row_tmp rfl _ _ w.heap.size 35 (vls 400 (flw fun _ => 0)) (0, 0) _ rfl (k9.out.at in0) Tryd.underlying35 rfl (by rw [vls_size]; exact info_kern)) rfl ⟨rfl, k9.out.1⟩
          · obtain ⟨hr, hc2⟩ := YES.out ho
            rw [CT.out ho]
            have hrow : fls c = fls (rowK (kv s) k) := by rw [hc2]; exact (fls_ext' RK.out).symm
            have HROW := hid hrow
            have AL := hid (to_next (p := fun j => rowS (lnB s j)) hall.out (by rw [← hxx.out]; exact hr))
            clear NO YES CT CF ho hr hc2 hrow hall
            have tok1 : True := trivial
            dsimp only
            go_wp2_with (first | (have _t := tok1; clear tok1; refine storeA (w0 := w) rfl 24 _ _ rfl (w2.heap.size) (fls c) rfl rfl (by rw [fls_size]; exact info_arr) ((fls_size _).trans (fls_size _).symm) (fls_one _) k6.out (Nat.le_of_lt hl5.2.1) (by simp; omega) (fun w7 k7 => ?_); replace k7 := hid k7; have k8 := hid k7.out.swap; clear k7 k6; have tok2 : True := trivial) | (have _t := tok2; clear tok2; refine loadA (w0 := w) rfl 24 _ rfl (w2.heap.size) (fls c) rfl in1 _ Tryd.underlying24 rfl (by rw [fls_size]; exact info_arr) k8.out ?_; have tok3 : True := trivial) | (have _t := tok3; clear tok3; refine storeKRow (w0 := w) rfl 23 _ _ rfl K k rfl (kv s) (fun _ => 0) c HROW.out rfl k8.out HL.out HB0.out (by simp; have := HNE.out; omega) info_a20 (fun w9 k9 => ?_); replace k9 := hid k9; clear k8))
            have k10 : Hid (Kept w [(K, vls 400 (flw (rowsP (kv s) (fun _ => 0) (k + 1))), 35), (B1, cs1, 9), (w.heap.size, vls 400 (flw fun _ => 0), 35)] w9) := hid k9.out.acd
            clear k9
            go_roundw
            case rel => exact ⟨k + 1, HL.out, by go_num, AL, k10⟩
            case measure => first | exact ms_io HL.out | (rw [hw9]; exact ms_io HL.out)
        · obtain rfl : k = 20 := by omega
          have hk3 : ¬ ((20 : Nat) : Int) < 20 := by omega
          have hkv : vls 400 (flw (rowsP (kv s) (fun _ => 0) 20)) = vls 400 (flw (kv s)) := vls_ext (fun i hi => by show Value.float .f32 (rowsP (kv s) (fun _ => 0) 20 i) = Value.float .f32 (kv s i); rw [rowsP_all (kv s) (fun _ => 0) i hi])
          rw [hkv] at hk1
          have k5 : Hid (Kept w [(w.heap.size, vls 400 (flw fun _ => 0), 35), (K, vls 400 (flw (kv s)), 35)] wr) := hid hk1.out.ca
          clear hkv
          obtain ⟨qk, hqk⟩ : ∃ qk : Bool, qk = true ↔ KOk (kv s) := by
            by_cases h : KOk (kv s)
            · exact ⟨true, fun _ => h, fun _ => rfl⟩
            · exact ⟨false, fun e => (by cases e), fun k => absurd k h⟩
          have HK := hid (fun W => iValidKernel (kv s) (fun i _ => kv_lt s i) qk hqk W)
          have HQK := hid hqk
          have HLT := hid hlt
          clear hk1 hqk
          obtain ⟨c, hc⟩ : ∃ c, c = kv s := ⟨_, rfl⟩
          have HC := hid hc
          rw [← hc] at k5 HK
          clear hc
          have tok1 : True := trivial
          go_wp2_with (first | (have _t := tok1; clear tok1; refine loadA (w0 := w) rfl 35 _ rfl (K) (vls 400 (flw c)) rfl in1 _ Tryd.underlying35 rfl (by rw [vls_size]; exact info_kern) k5.out ?_))
          refine (HK.out _).mono ?_
          rintro e w5 ⟨rfl, hb⟩
          have k6 := hid (k5.out.stay hb)
          clear k5 hb
          cases qk
          · obtain ⟨rfl, rfl⟩ := H0.out (fun h => by have := HQK.out.2 h.2.2.2; cases this)
            have KX := k6
            clear k6
            have kA := hid (KX.out.sub (l' := [(w.heap.size, vls 400 (flw fun _ => 0), 35)]) (by simp))
            clear KX
            have tok1 : True := trivial
            go_wp2_with (first | (have _t := tok1; clear tok1; refine storeA (w0 := w) rfl 35 _ _ rfl (w.heap.size) (vls 400 (flw fun _ => 0)) rfl rfl (by rw [vls_size]; exact info_kern) ((vls_size _ _).trans (vls_size _ _).symm) (vls_one (flw_one _)) kA.out (Nat.le_refl _) (by simp) (fun w7 k7 => ?_); replace k7 := hid k7))
            exact bodyPost_ret (results_row_tmp rfl _ _ w.heap.size 35 (vls 400 (flw fun _ => 0)) (0, 0) _ rfl (k7.out.at in0) Tryd.underlying35 rfl (by rw [vls_size]; exact info_kern)) rfl ⟨rfl, k7.out.1⟩
          · obtain ⟨hr, rfl⟩ := H1.out ⟨HN.out.symm, by rw [← HX20.out]; exact HQE.out, hall.out, HQK.out.1 rfl⟩
            have hrc : r = c := hr.trans HC.out.symm
            subst hrc
            clear hr
            have tok1 : True := trivial
            go_wp2_with (first | (have _t := tok1; clear tok1; refine loadA (w0 := w) rfl 35 _ rfl (K) (vls 400 (flw (r))) rfl in1 _ Tryd.underlying35 rfl (by rw [vls_size]; exact info_kern) k6.out ?_; have tok2 : True := trivial) | (have _t := tok2; clear tok2; refine storeA (w0 := w) rfl 35 _ _ rfl (w.heap.size) (vls 400 (flw (r))) rfl rfl (by rw [vls_size]; exact info_kern) ((vls_size _ _).trans (vls_size _ _).symm) (vls_one (flw_one _)) k6.out (Nat.le_refl _) (by simp; exact Nat.ne_of_gt HLT.out) (fun w7 k7 => ?_); replace k7 := hid k7))
            exact bodyPost_ret (results_row_tmp rfl _ _ w.heap.size 35 (vls 400 (flw (r))) (0, 0) _ rfl (k7.out.at in0) Tryd.underlying35 rfl (by rw [vls_size]; exact info_kern)) rfl ⟨rfl, k7.out.1⟩
  · obtain ⟨rfl, rfl⟩ := H0.out (fun h => hn (by rw [HN.out]; exact h.1))
    have hn3 : ¬ ((n : Int) = 21) := by omega
    have KX := k1
    clear k1 hn
    have kA := hid (KX.out.sub (l' := [(w.heap.size, vls 400 (flw fun _ => 0), 35)]) (by simp))
    clear KX
    have tok1 : True := trivial
    go_wp2_with (first | (have _t := tok1; clear tok1; refine storeA (w0 := w) rfl 35 _ _ rfl (w.heap.size) (vls 400 (flw fun _ => 0)) rfl rfl (by rw [vls_size]; exact info_kern) ((vls_size _ _).trans (vls_size _ _).symm) (vls_one (flw_one _)) kA.out (Nat.le_refl _) (by simp) (fun w7 k7 => ?_); replace k7 := hid k7))
    exact bodyPost_ret (results_row_tmp rfl _ _ w.heap.size 35 (vls 400 (flw fun _ => 0)) (0, 0) _ rfl (k7.out.at in0) Tryd.underlying35 rfl (by rw [vls_size]; exact info_kern)) rfl ⟨rfl, k7.out.1⟩

theorem readKernelBoth (s : ByteArray) : ∃ (r : Nat → Nat) (q : Int), (∀ i, i < 400 → r i < 4294967296) ∧ (∀ i, i < 400 → finB (r i) = true) ∧ (OkK s → r = kv s ∧ q = 0) ∧ (¬ OkK s → r = (fun _ => 0) ∧ q = 5) := by
  by_cases h : OkK s
  · exact ⟨kv s, 0, fun i _ => kv_lt s i, fun i hi => amt_fin (h.2.2.2.1 i hi), fun _ => ⟨rfl, rfl⟩, fun k => absurd h k⟩
  · exact ⟨fun _ => 0, 5, fun _ _ => by show (0 : Nat) < 4294967296; decide, fun _ _ => by show finB 0 = true; decide, fun k => absurd k h, fun _ => ⟨rfl, rfl⟩⟩

set_option maxRecDepth 100000 in
set_option maxHeartbeats 1000000 in
theorem lawReadKernel (s : ByteArray) {w : World} (hL : Lng w) :
    Calls Tryd.prog 5 #[.string s] w fun e w' => e = .returned (.bool true) ∧ Below w.heap.size w w' := by
  by_cases hc : s.size ≤ 1048576
  · obtain ⟨r, q, hr, hf, h1, h0⟩ := readKernelBoth s
    have H1 := hid (fun W => sReadKernel s hc r q h1 h0 W)
    have H2 := hid (fun W hW => iReadKernel s hc r q h1 h0 W hW)
    have HE := hid (fun W => eqKernel r hr hf W)
    have HL := hid hL
    have hc3 : ¬ ((1048576 : Int) < (s.size : Int)) := by omega
    clear hc hL hr hf h1 h0
    go_enter Tryd.func5, Tryd.ntmps5
    go_wp2_with fail
    refine (H1.out _).mono ?_
    rintro e w1 ⟨rfl, hb⟩
    have k1 := hid ((Kept.nil w).stay hb)
    clear hb
    have k2 := hid (k1.out.push (vls 400 (flw fun _ => 0)) 35)
    have tok1 : True := trivial
    go_wp2_with (first | (have _t := tok1; clear tok1; refine storeA (w0 := w) rfl 35 _ _ rfl (w1.heap.size) (vls 400 (flw (r))) rfl rfl (by rw [vls_size]; exact info_kern) ((vls_size _ _).trans (vls_size _ _).symm) (vls_one (flw_one _)) k2.out k1.out.size (by simp) (fun w2 k3 => ?_); replace k3 := hid k3; clear k2 k1))
    refine (H2.out _ (HL.out.stay k3.out.1)).mono ?_
    rintro e w3 ⟨rfl, hb⟩
    have k4 := hid (k3.out.stay hb)
    clear hb k3
    have hlt := k4.out.lt in0
    have k5 := hid (k4.out.push (vls 400 (flw fun _ => 0)) 35)
    have tok1 : True := trivial
    go_wp2_with (first | (have _t := tok1; clear tok1; refine storeA (w0 := w) rfl 35 _ _ rfl (w3.heap.size) (vls 400 (flw (r))) rfl rfl (by rw [vls_size]; exact info_kern) ((vls_size _ _).trans (vls_size _ _).symm) (vls_one (flw_one _)) k5.out k4.out.size (by simp; exact Nat.ne_of_lt hlt) (fun w4 k6 => ?_); replace k6 := hid k6; clear k5 k4; have tok2 : True := trivial) | (have _t := tok2; clear tok2; refine loadA (w0 := w) rfl 35 _ rfl (w3.heap.size) (vls 400 (flw (r))) rfl in0 _ Tryd.underlying35 rfl (by rw [vls_size]; exact info_kern) k6.out ?_; have tok3 : True := trivial) | (have _t := tok3; clear tok3; refine loadA (w0 := w) rfl 35 _ rfl (w1.heap.size) (vls 400 (flw (r))) rfl in1 _ Tryd.underlying35 rfl (by rw [vls_size]; exact info_kern) k6.out ?_))
    refine (HE.out _).mono ?_
    rintro e w5 ⟨rfl, hb⟩
    have k7 := hid (k6.out.stay hb)
    clear hb k6
    go_wp2
    go_ret
    exact ⟨rfl, k7.out.1⟩
  · have hc2 : (1048576 : Int) < (s.size : Int) := by omega
    clear hc
    go_enter Tryd.func5, Tryd.ntmps5
    go_wp2
    go_ret
    exact ⟨rfl, Below.refl _ _⟩
end Go.Proofs.YtbbdnmhoagojdaaDoor

namespace Go.Proofs.YtbbdnmhoagojdaaDoor.fnExactReadKernel
open Go.RowKit Go.Fl Go.ChangeShapes Go.WideShapes Go.ChangeAt

set_option maxHeartbeats 2000000 in
theorem closed : joinedFacts Tryd.prog 5 Tryd.f5 Rows.fnExactReadKernelSpec Rows.fnExactReadKernelRow = true := by
  unfold joinedFacts
  simp only [Bool.and_eq_true]
  exact ⟨⟨⟨⟨⟨⟨⟨⟨⟨⟨⟨⟨⟨⟨⟨⟨⟨⟨⟨⟨⟨⟨⟨⟨⟨⟨⟨⟨⟨⟨⟨(by as_aux_lemma => kernel_rfl),
    laid⟩,
    rowed⟩,
    (by as_aux_lemma => kernel_rfl)⟩,
    (by as_aux_lemma => kernel_rfl)⟩,
    (by as_aux_lemma => kernel_rfl)⟩,
    (by rw [no_stops]; rfl)⟩,
    (by as_aux_lemma => kernel_rfl)⟩,
    (by rw [no_knobs]; rfl)⟩,
    (by as_aux_lemma => kernel_rfl)⟩,
    (by as_aux_lemma => kernel_rfl)⟩,
    (by as_aux_lemma => kernel_rfl)⟩,
    (by as_aux_lemma => kernel_rfl)⟩,
    (by as_aux_lemma => kernel_rfl)⟩,
    (by as_aux_lemma => kernel_rfl)⟩,
    (by as_aux_lemma => kernel_rfl)⟩,
    (by as_aux_lemma => kernel_rfl)⟩,
    (by as_aux_lemma => kernel_rfl)⟩,
    (by as_aux_lemma => kernel_rfl)⟩,
    (by as_aux_lemma => kernel_rfl)⟩,
    (by as_aux_lemma => kernel_rfl)⟩,
    (by as_aux_lemma => kernel_rfl)⟩,
    (show (Rows.fnExactReadKernelRow.plainKeys == Tryd.prog.plainKeys) = true by rw [plain_keys]; rfl)⟩,
    (by as_aux_lemma => kernel_rfl)⟩,
    stops_heard⟩,
    may_enter⟩,
    (show (Rows.fnExactReadKernelRow.lifted == Tryd.prog.liftsFinal) = true by rw [lifts_final]; rfl)⟩,
    (show (Tryd.prog.make == some Rows.fnExactReadKernelRow.make) = true by rw [made]; rfl)⟩,
    (by as_aux_lemma => kernel_rfl)⟩,
    (by as_aux_lemma => kernel_rfl)⟩,
    (by as_aux_lemma => kernel_rfl)⟩,
    (by as_aux_lemma => kernel_rfl)⟩

theorem rdS : Tryd.prog.readableRec 9 = true ∧ 9 < Tryd.prog.types.size := ⟨by kernel_rfl, of_decide_eq_true (by kernel_rfl)⟩
set_option maxRecDepth 100000 in
theorem lifted (os : Os) (started : os.Started) (H : Type) (enc : TypeId × Value → H) :
    ReturnsInHanded {} Tryd.checked os 5 .any (fun w args => (Rows.fnExactReadKernelSpec.pre enc Tryd.prog Tryd.f5 Rows.fnExactReadKernelRow.domain false w args ∧ laidMetH Tryd.prog Rows.fnExactReadKernelRow.laid w) ∧ sizedMet enc Tryd.prog Tryd.f5 (OpenSpec.ofChange Rows.fnExactReadKernelSpec) false w args) (Rows.fnExactReadKernelSpec.post enc Tryd.prog Tryd.f5 false true false false) := by
  refine LawFrame.lifted_shaped (C := Tryd.checked) (fn := Tryd.f5) (n := 1) (tb := 4) (laidL := Rows.fnExactReadKernelRow.laid) started own (by kernel_rfl) Tryd.func5 laid ?_ rfl ?_ rfl Tryd.underlying4 ?_
    (ChangeSpec.witness_shaped (enc := enc) (C := Tryd.checked) (os := os) (X := fun w _ => laidMetH Tryd.prog Rows.fnExactReadKernelRow.laid w) false (World.laidAll Tryd.prog os Rows.fnExactReadKernelRow.laid) #[.string ⟨#[]⟩] 8 (World.laidAll_os _ _ _) (World.shaped_of_ZipB (by kernel_rfl) (by kernel_rfl)) (by kernel_rfl) (by kernel_rfl) (by kernel_rfl) (wit_met os _)) ?_
  · intro t ht
    simp only [Tryd.params5, List.mem_cons, List.not_mem_nil, or_false] at ht
    subst ht; exact rdS
  · intro ds gs hd hg
    match ds, gs, hd, hg with
    | [d0], [], _, _ => rfl
  · intro W hL
    exact ⟨[], trivial⟩
  · intro W base args ds ps hval hn hT hL hsh
    obtain ⟨v0, rfl⟩ : ∃ v0, args = #[v0] := arr1 hn
    have ht := lng_of hL hsh
    simp only [Tryd.params5] at hT
    obtain ⟨s0, rfl, -, -, -⟩ := Go.ChangeMaps.open_string Tryd.underlying9 (hval 0 9 v0 rfl rfl) (trodAll_head hT).choose_spec.choose_spec
    exact lawReadKernel s0 ht

theorem over : Rows.fnExactReadKernelRow.holds Tryd.pinned (OpenSpec.ofChange Rows.fnExactReadKernelSpec) :=
  OpenClaim.holds_of_wide 5 Tryd.f5 rfl rfl rfl rfl rfl rfl rfl ⟨rfl, rfl, rfl, rfl, rfl⟩ rfl rfl rfl rfl rfl (by kernel_rfl) Tryd.func5 closed
    (of_decide_eq_true (by kernel_rfl)) (by unfold Func.isWrapper; rw [if_neg (by decide +kernel)]; exact ⟨rfl, rfl⟩)
    (fun os started H enc _ => lifted os started H enc)

theorem named : Tryd.prog.funcNamed "loop.example/g01224/laws.FnExactReadKernel" = some 5 := by kernel_rfl
theorem c_wf : Rows.fnExactReadKernelRow.wfByText (OpenSpec.ofChange Rows.fnExactReadKernelSpec) = true := by kernel_rfl
theorem c_main : Tryd.pinned.checked.prog.mainIs = some (true, "61897a0a5ea995214c5e1fa2fc9ece6a2b2193e817fa77bc0a27a8d612ef745e".toList) := by kernel_rfl
theorem c_looks : true = Tryd.pinned.checked.prog.looks [] := by kernel_rfl
theorem c_goes : false = Rows.fnExactReadKernelRow.goesBy Tryd.pinned.checked.prog := by kernel_rfl
theorem proved : Rows.FnExactReadKernelCardSaid :=
  Claim7.holds_tied_plain_at .later [] [.data, .data, .data, .data, .sentinel, .sentinel, .pinned] true (true, "61897a0a5ea995214c5e1fa2fc9ece6a2b2193e817fa77bc0a27a8d612ef745e") true
    over (fun _ h => by cases h) c_wf (fun _ h => by cases h) fnExactReadKernel_row_tie rfl ⟨rfl, rfl⟩ c_main rfl
    (fun f fn hf hfn => by
      obtain rfl : f = 5 := Option.some.inj (named.symm.trans hf) |>.symm
      obtain rfl : fn = Tryd.f5 := (Option.some.inj (Tryd.func5.symm.trans hfn)).symm
      exact ⟨c_looks, fun j t ht => by
        have hm := Array.mem_of_getElem? ht
        rw [Tryd.params5] at hm
        simp only [List.mem_toArray, List.mem_cons, List.not_mem_nil, or_false] at hm
        subst hm; exact (show Tryd.prog.wantsStandIn 9 = false by kernel_rfl)⟩)
    c_goes
#print axioms proved
end Go.Proofs.YtbbdnmhoagojdaaDoor.fnExactReadKernel
