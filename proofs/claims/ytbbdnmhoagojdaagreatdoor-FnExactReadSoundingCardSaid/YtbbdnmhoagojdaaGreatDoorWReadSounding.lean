import Derived.Test.YtbbdnmhoagojdaaGreatDoorEReadSounding
import Derived.Test.YtbbdnmhoagojdaaGreatDoorChecked
import Derived.Test.YtbbdnmhoagojdaaGreatDoorRows
import Derived.Test.YtbbdnmhoagojdaaGreatDoorCards
import Derived.Test.YtbbdnmhoagojdaaGreatDoorTie
import Derived.Laws.FloatArith
import Derived.ProofKit
import Derived.WalkKit
import Derived.WalkLawsBesides
import Derived.WalkSpells
import Derived.Deep.RegionHeld3
import Derived.ChangeKeysEq
import Derived.Laws.BitsAllLaws
import Derived.Deep.MidRow
import Derived.Deep.WholeRow
import Derived.StillTailTactics
import Derived.Deep.Slices
import Derived.ChangeSame
import Derived.OrdersIn
import Derived.ControlIn
import Derived.RangeFuncSeq
import Derived.RangeFuncNested
import Derived.ArgAppend
import Derived.OwnWalkIn
import Derived.TacticsInMore
import Derived.Below
import Derived.Laws.AppendOwn
import Derived.Laws.ComplexArith
import Derived.Deep.Strs
import Derived.Laws.IdiomStrings
import Derived.Laws.Bits64b
import Derived.Deep.QuietTactic
import Derived.BigQuiet
import Derived.OpenShut
import Derived.Stop.LaidErr
import Derived.LaidMore
import Derived.Handed
import Derived.LaidHandle
import Derived.Stop.Joined
import Derived.MakeChecks
import Derived.Lib.LaidTab
import Derived.StillTail
import Derived.Shelf.Strings.OnBuilder
import Derived.Lib.Join
import Derived.Shelf.Strings.BuilderK
import Derived.RangeFuncLeaves
import Derived.RangeFuncBox
import Derived.LoopNIn
import Derived.LoopIn
import Derived.Shelf.Abstract
import Derived.Lib.SplitLaws
import Derived.Lib.IndexLaws
import Derived.MapKept
import Derived.ScopeJumps
import Derived.Lib.ConvBytes
import Derived.Shelf.Strconv.SyntaxError
import Derived.Lib.IfaceEq
import Derived.Shelf.Strings.Split
import Derived.Lib.SliceRun
import Derived.HandedShaped
import Derived.Shelf.Vars
import Derived.Lay
import Derived.ChangeMaps5
import Derived.SevenTiedAt
/- The tied card of FnExactReadSounding. -/
namespace Go.Proofs.YtbbdnmhoagojdaaGreatDoor
open Go.RowKit Go.Fl

@[go_sem] theorem ext_f64bits (y : Nat) (w : World) : (callFunc 115 #[.float .f64 y]).run Tryz.prog w = .ok (.value (.int .u64 y)) w := by
  rw [run_callFunc_extern Tryz.func115 (by kernel_rfl) (by kernel_rfl) (by kernel_rfl) (e := Extern.MathFloatBits.float64bits) (by kernel_rfl)]
  rfl

@[go_sem] theorem ext_f64from (n : Int) (w : World) : (callFunc 149 #[.int .u64 n]).run Tryz.prog w = .ok (.value (.float .f64 n.toNat)) w := by
  rw [run_callFunc_extern Tryz.func149 (by kernel_rfl) (by kernel_rfl) (by kernel_rfl) (e := Extern.MathFloatBits.float64frombits) (by kernel_rfl)]
  rfl

theorem hid {p : Prop} (h : p) : Hid p := h

theorem clear_sign (y : Nat) (h : y < 18446744073709551616) : (bits BinOp.andNot IntKind.u64 (y : Int) 9223372036854775808).toNat = y % 9223372036854775808 := by
  rw [u64_andNot _ _ (by omega) (by omega) (by omega) (by omega)]
  rw [Int.toNat_natCast, Int.toNat_natCast]
  exact Nat.and_two_pow_sub_one_eq_mod y 63

theorem abs_f64 (y : Nat) (h : y < 18446744073709551616) (w : World) :
    Calls Tryz.prog 137 #[.float .f64 y] w fun e w' => e = .returned (.float .f64 (y % 9223372036854775808)) ∧ w = w' := by
  have hc := hid (clear_sign y h)
  clear h
  go_enter Tryz.func137, Tryz.ntmps137
  go_wp2
  go_ret
  exact ⟨by simp [hc.out], rfl⟩

theorem isNaN_f64 (y : Nat) (w : World) :
    Calls Tryz.prog 113 #[.float .f64 y] w fun e w' => e = .returned (.bool (FloatKind.f64.format.order y y != some .eq)) ∧ w = w' := by
  go_enter Tryz.func113, Tryz.ntmps113
  go_wp2
  go_ret
  exact ⟨rfl, rfl⟩

theorem isInf_f64 (y : Nat) (h : y < 18446744073709551616) (w : World) :
    Calls Tryz.prog 114 #[.float .f64 y, .int .i64 0] w fun e w' => e = .returned (.bool (FloatKind.f64.format.order (y % 9223372036854775808) 9218868437227405311 == some .gt)) ∧ w = w' := by
  have hc := hid h
  clear h
  go_enter Tryz.func114, Tryz.ntmps114
  go_wp2_with (go_at_call 137; refine (abs_f64 y hc.out _).mono ?_; rintro e w' ⟨rfl, rfl⟩)
  go_ret
  exact ⟨rfl, rfl⟩

theorem isFinite_t (x : Nat) (hx : x < 4294967296) (h : finB x = true) (w : World) :
    Calls Tryz.prog 89 #[.float .f32 x] w fun e w' => e = .returned (.bool true) ∧ w = w' := by
  rw [finB_iff] at h
  have hc := fun w => run_conv_wid (P := Tryz.prog) w 28 76 x hx Tryz.underlying28 Tryz.underlying76 h
  obtain ⟨a, b, m, e, hr⟩ := read_wid_fin hx h
  have hn : (FloatKind.f64.format.order (wid x) (wid x) != some .eq) = false := by
    show (D.order (wid x) (wid x) != some .eq) = false
    rw [order_self hr]; rfl
  have hi : (FloatKind.f64.format.order (wid x % 9223372036854775808) 9218868437227405311 == some .gt) = false := by
    show (D.order (wid x % 9223372036854775808) 9218868437227405311 == some .gt) = false
    rw [b, order_ltD a (by decide)]
    rw [DINF_val] at a
    have hle : wid (mg x) ≤ 9218868437227405311 := by omega
    rcases Nat.lt_or_eq_of_le hle with h' | h'
    · rw [Nat.compare_eq_lt.2 h']; rfl
    · rw [Nat.compare_eq_eq.2 h']; rfl
  have hw : wid x < 18446744073709551616 := D.write_lt _
  have Hn := hid hn
  have Hi := hid hi
  have Hw := hid hw
  clear hn hi hw hr a b h hx
  go_enter Tryz.func89, Tryz.ntmps89
  go_wp2_with (first | (go_at_call 113; refine (isNaN_f64 (wid x) _).mono ?_; rintro e w' ⟨rfl, rfl⟩; rw [Hn.out]) | (go_at_call 114; refine (isInf_f64 (wid x) Hw.out _).mono ?_; rintro e w' ⟨rfl, rfl⟩; rw [Hi.out]))
  go_ret
  exact ⟨rfl, rfl⟩

theorem isFinite_f (x : Nat) (hx : x < 4294967296) (h : finB x = false) (w : World) :
    Calls Tryz.prog 89 #[.float .f32 x] w fun e w' => e = .returned (.bool false) ∧ Below w.heap.size w w' := by
  rw [finB_iff'] at h
  rcases Nat.lt_or_eq_of_le h with h | h
  · obtain ⟨z, hc, h1, _⟩ := run_conv_nan (P := Tryz.prog) w 28 76 x Tryz.underlying28 Tryz.underlying76 h
    obtain ⟨s, t, hr⟩ := read_nanD h1
    have Hn := hid (show (FloatKind.f64.format.order z z != some .eq) = true by
      show (D.order z z != some .eq) = true
      rw [order_nan hr]; rfl)
    clear h h1 hr hx
    go_enter Tryz.func89, Tryz.ntmps89
    go_wp2_with (go_at_call 113; refine (isNaN_f64 z _).mono ?_; rintro e w' ⟨rfl, rfl⟩; rw [Hn.out])
    go_ret
    exact ⟨rfl, (Below.refl _ _).drew⟩
  · obtain ⟨z, hc, h1, h2⟩ := run_conv_inf (P := Tryz.prog) w 28 76 x hx Tryz.underlying28 Tryz.underlying76 h.symm
    have hr : D.read z = .infinity (decide (9223372036854775808 ≤ z)) := by rw [read_signD h2, h1, read_DINF]
    have Hn := hid (show (FloatKind.f64.format.order z z != some .eq) = false by
      show (D.order z z != some .eq) = false
      rw [order_inf hr]; rfl)
    have Hi := hid (show (FloatKind.f64.format.order (z % 9223372036854775808) 9218868437227405311 == some .gt) = true by
      rw [h1]; decide)
    have H2 := hid h2
    clear h h1 hr hx h2
    go_enter Tryz.func89, Tryz.ntmps89
    go_wp2_with (first | (go_at_call 113; refine (isNaN_f64 z _).mono ?_; rintro e w' ⟨rfl, rfl⟩; rw [Hn.out]) | (go_at_call 114; refine (isInf_f64 z H2.out _).mono ?_; rintro e w' ⟨rfl, rfl⟩; rw [Hi.out]))
    go_ret
    exact ⟨rfl, Below.refl _ _⟩

theorem signbit_f64 (y : Nat) (w : World) :
    Calls Tryz.prog 90 #[.float .f64 y] w fun e w' => e = .returned (.bool (decide (wrap64 (y : Int) < 0))) ∧ w = w' := by
  go_enter Tryz.func90, Tryz.ntmps90
  go_wp2
  go_ret
  exact ⟨rfl, rfl⟩

theorem and_sign (y : Nat) (h : y < 18446744073709551616) : (decide (wrap64 (y : Int) < 0)) = decide (9223372036854775808 ≤ y) := by
  unfold wrap64
  by_cases h' : 9223372036854775808 ≤ y
  · rw [decide_eq_true h']; simp; omega
  · rw [decide_eq_false h']; simp; omega

theorem isAmount_t (x : Nat) (h : amtB x = true) (w : World) :
    Calls Tryz.prog 58 #[.float .f32 x] w fun e w' => e = .returned (.bool true) ∧ w = w' := by
  have hf := amt_fin h
  rw [amtB_iff, INF_val] at h
  have hx : x < 4294967296 := by omega
  have hc := fun w => run_conv_wid (P := Tryz.prog) w 28 76 x hx Tryz.underlying28 Tryz.underlying76 (finB_iff.1 hf)
  have hw : wid x < 18446744073709551616 := D.write_lt _
  have Hs := hid (show (decide (wrap64 (wid x : Int) < 0)) = false by
    rw [and_sign _ hw]
    have := (wid_val (x := x) (by rw [INF_val]; omega)).1
    rw [DINF_val] at this
    simp; omega)
  have Hx := hid hx
  have Hf := hid hf
  clear h hf hx hw
  go_enter Tryz.func58, Tryz.ntmps58
  go_wp2_with (first | (go_at_call 89; refine (isFinite_t x Hx.out Hf.out _).mono ?_; rintro e w' ⟨rfl, rfl⟩) | (go_at_call 90; refine (signbit_f64 (wid x) _).mono ?_; rintro e w' ⟨rfl, rfl⟩; rw [Hs.out]))
  go_ret
  exact ⟨rfl, rfl⟩

theorem isAmount_f (x : Nat) (hx : x < 4294967296) (h : amtB x = false) (w : World) :
    Calls Tryz.prog 58 #[.float .f32 x] w fun e w' => e = .returned (.bool false) ∧ Below w.heap.size w w' := by
  rcases hf : finB x with _ | _
  · have Hx := hid hx
    have Hf := hid hf
    clear h hf hx
    go_enter Tryz.func58, Tryz.ntmps58
    go_wp2_with (go_at_call 89; refine (isFinite_f x Hx.out Hf.out _).mono ?_; rintro e w' ⟨rfl, hb⟩)
    go_ret
    exact ⟨rfl, hb⟩
  · have hc := fun w => run_conv_wid (P := Tryz.prog) w 28 76 x hx Tryz.underlying28 Tryz.underlying76 (finB_iff.1 hf)
    have hw : wid x < 18446744073709551616 := D.write_lt _
    have Hs := hid (show (decide (wrap64 (wid x : Int) < 0)) = true by
      rw [and_sign _ hw, wid_fin hx (finB_iff.1 hf)]
      rw [amtB_iff', INF_val] at h
      rw [finB_iff, INF_val] at hf
      unfold mg at hf ⊢
      rw [if_pos (by omega)]
      simp)
    have Hx := hid hx
    have Hf := hid hf
    clear h hf hx hw
    go_enter Tryz.func58, Tryz.ntmps58
    go_wp2_with (first | (go_at_call 89; refine (isFinite_t x Hx.out Hf.out _).mono ?_; rintro e w' ⟨rfl, rfl⟩) | (go_at_call 90; refine (signbit_f64 (wid x) _).mono ?_; rintro e w' ⟨rfl, rfl⟩; rw [Hs.out]))
    go_ret
    exact ⟨rfl, Below.refl _ _⟩

/-- The table of trailing zeros where the base asks it. -/
def Tab64 (w : World) : Prop := w.cell? ⟨13, 15, none⟩ = some (.int .u8 4)

theorem Tab64.stay {w w' : World} (h : Tab64 w) (hb : Below w.heap.size w w') : Tab64 w' := by
  unfold Tab64 at *
  rw [hb.cell (block_lt_of_cell h)]; exact h

set_option maxRecDepth 100000 in
set_option maxHeartbeats 1000000 in
theorem iZeros16 (w : World) (h : Tab64 w) : Calls Tryz.prog 146 #[.int .u64 16] w fun e w' => e = .returned (.int .i64 4) ∧ w' = w := by
  have c0 : w.cell? ⟨13, 15, none⟩ = some (.int .u8 4) := h
  have hq : IntKind.u64.wrap (bits BinOp.and IntKind.u64 16 (IntKind.u64.wrap (-16)) * 285870213051353865) / 288230376151711744 = 15 := by decide
  clear h
  go_enter Tryz.func146, Tryz.ntmps146
  go_wp2
  go_ret
  exact ⟨rfl, rfl⟩

theorem hx_bits (u : Nat) (h : u < 18446744073709551616) : bits BinOp.and IntKind.u64 (u : Int) 15 = ((u % 16 : Nat) : Int) := by
  rw [show (15 : Int) = ((15 : Nat) : Int) from rfl, bits_and_u64_nat u 15 h (by decide), Nat.and_two_pow_sub_one_eq_mod u 4]

theorem zero65 : Tryz.zeroCells203 = vls 65 (fun _ => .int .u8 0) := by rfl

theorem info_u8 : (Tryz.prog.info? 5).map (·.size) = some 1 := by kernel_rfl

theorem ix36 (d : Nat) (h : d < 16) (w : World) : (Instr.index 9 (.string ⟨#[48, 49, 50, 51, 52, 53, 54, 55, 56, 57, 97, 98, 99, 100, 101, 102, 103, 104, 105, 106, 107, 108, 109, 110, 111, 112, 113, 114, 115, 116, 117, 118, 119, 120, 121, 122]⟩) (.int .u64 (d : Int))).run Tryz.prog w = .ok (.int .u8 (hexN d : Int)) w :=
  index_hex .u64 Tryz.underlying9 (by decide) (by decide) d h w

set_option maxRecDepth 100000 in
set_option maxHeartbeats 1000000 in
theorem iPow16 (w : World) : Calls Tryz.prog 145 #[.int .i64 16] w fun e w' => e = .returned (.bool true) ∧ w' = w := by
  have hb : bits BinOp.and IntKind.i64 16 15 = 0 := by decide
  go_enter Tryz.func145, Tryz.ntmps145
  go_wp2
  go_ret
  exact ⟨rfl, rfl⟩

theorem hx_cv {n t m : Nat} {w w2 : World} (k2 : Kept w [(w.heap.size, vls 65 (hxW n 65 (t + 1)), 203)] w2) (h : m + (t + 1) = 65) :
    (convert 116 9 (.slice (some ⟨w.heap.size, m, none⟩) (t + 1) (t + 1))).run Tryz.prog w2 = .ok (.string ⟨(hexL n (t + 1)).toArray⟩) w2 := by
  have h1 := run_convert_bytes_back (P := Tryz.prog) w2 116 9 5 ⟨w.heap.size, m, none⟩ (t + 1) (hexL n (t + 1)) Tryz.underlying116 Tryz.underlying5 Tryz.underlying9 (fun j hj => by
    rw [hexL_length] at hj
    rw [Addr.add_mid, ← hxW_read n 65 (k := t + 1) (i := j) (by omega) hj, show 65 - (t + 1) + j = m + j by omega]
    exact (k2.v in0).cell (by omega))
  rwa [hexL_length] at h1

set_option maxRecDepth 100000 in
set_option maxHeartbeats 1000000 in
theorem iFormatBits (n : Nat) (hn : n < 4294967296) (w : World) (ht : Tab64 w) :
    Calls Tryz.prog 125 #[.slice none 0 0, .int .u64 (n : Int), .int .i64 16, .bool false, .bool false] w fun e w' =>
      (∃ k, 1 ≤ k ∧ k ≤ 8 ∧ n < 16 ^ k ∧ e = .returned (.tuple #[.slice none 0 0, .string ⟨(hexL n k).toArray⟩])) ∧ Below w.heap.size w w' := by
  have hT := hid (ht.stay ((Below.refl w.heap.size w).alloc (Nat.le_refl _) (.cells (vls 65 (fun _ => .int .u8 0)) 203)))
  have HN := hid hn
  clear ht hn
  have k0 := hid ((Kept.nil w).push (vls 65 fun _ => .int .u8 0) 203)
  go_enter Tryz.func125, Tryz.ntmps125
  go_wp2_with fail
  rw [zero65]
  refine (iPow16 _).mono ?_
  rintro e w1 ⟨rfl, rfl⟩
  go_wp2_with fail
  refine (iZeros16 _ hT.out).mono ?_
  rintro e w1 ⟨rfl, rfl⟩
  clear hT
  go_wp2_with fail
  have k1 : Hid (Kept w [(w.heap.size, vls 65 (hxW n 65 0), 203)] (w.alloc (.cells (vls 65 (fun _ => .int .u8 0)) 203))) := hid (k0.out.ext (fun i hi => (hxW_zero n 65 hi).symm))
  clear k0
  go_loopw [1, 13] (fun v i wr => ∃ t u j : Nat, t ≤ 7 ∧ j + t = 65 ∧ v = .int .u64 (u : Int) ∧ i = .int .i64 (j : Int) ∧ Hid (u = n / 16 ^ t) ∧ Hid (Kept w [(w.heap.size, vls 65 (hxW n 65 t), 203)] wr)) (fun v _ _ => (intOf v).toNat)
  case atStart => exact ⟨0, n, 65, by omega, rfl, rfl, rfl, hid (by simp), k1⟩
  case round =>
    clear k1
    obtain ⟨t, u, j, ht, hj, rfl, rfl, hu, h1⟩ := hrel
    obtain ⟨m, rfl⟩ : ∃ m, j = m + 1 := ⟨j - 1, by omega⟩
    have hm3 : (m : Int) < 65 := by omega
    have hm4 : wrap64 (m : Int) = (m : Int) := by unfold wrap64; omega
    by_cases hge : 16 ≤ u
    · have hg3 : (16 : Int) ≤ (u : Int) := by omega
      have hu64 : u < 18446744073709551616 := by
        have h1 := hu.out
        have h2 := HN.out
        have h3 := Nat.div_le_self n (16 ^ t)
        omega
      obtain ⟨d, hd⟩ : ∃ d, d = u % 16 := ⟨_, rfl⟩
      have hb : bits BinOp.and IntKind.u64 (u : Int) 15 = (d : Int) := by rw [hd]; exact hx_bits u hu64
      have hix := ix36 d (by rw [hd]; exact Nat.mod_lt _ (by decide))
      have HD := hid hd
      have HT := hid ht
      have HJ := hid hj
      have HG := hid hge
      have tok1 : True := trivial
      clear hge ht hj hu64 hd
      go_wp2_with (have _t := tok1; refine store_one (by rfl) 5 _ _ (by rfl) info_u8 (w.heap.size) m (.int .u8 (hexN d : Int)) (by rfl) (by rfl) rfl rfl h1.out (by omega) (by omega) ne0 ?_; intro w2 k2; rw [HD.out] at k2; replace k2 := hid (k2.ext (hx_st hu.out (by have := HJ.out; omega))); clear h1 tok1)
      go_roundw
      case rel => exact ⟨t + 1, u / 16, m, by have := hx_more HN.out (by rw [← hu.out]; exact HG.out); omega, by have := HJ.out; omega, by go_num, by go_num, hid (by rw [hu.out, hx_next]), k2⟩
      case measure => have := HG.out; simp [intOf]; omega
    · have hg3 : ¬ (16 : Int) ≤ (u : Int) := by omega
      have hix := ix36 u (by omega)
      have HJ := hid hj
      have hx2 : Hid (u < 16) := hid (by omega)
      have hk1 : m + (t + 1) = 65 := by omega
      have HT := hid ht
      have hal : Tryz.prog.arrayLen 203 = 65 := by kernel_rfl
      have hsl : ∀ W, (Instr.sliceAt 203 (.pointer (some ⟨w.heap.size, 0, none⟩)) (some (.int .i64 (m : Int))) none none).run Tryz.prog W = .ok (.slice (some ⟨w.heap.size, m, none⟩) (t + 1) (t + 1)) W := fun W => by
        rw [run_sliceAt_array_l W 203 ⟨w.heap.size, 0, none⟩ Tryz.underlying203 .i64 (m : Int) (by omega) (by rw [hal]; omega)]
        go_simp
        omega
      have tok1 : True := trivial
      have HK1 := hid hk1
      clear hge hj hk1 ht
      go_wp2_with (have _t := tok1; refine store_one (by rfl) 5 _ _ (by rfl) info_u8 (w.heap.size) m (.int .u8 (hexN u : Int)) (by rfl) (by rfl) rfl rfl h1.out (by omega) (by omega) ne0 ?_; intro w2 k2; replace k2 := hid (k2.ext (hx_st' hu.out hx2.out (by have := HJ.out; omega))); have hcv := hx_cv k2.out HK1.out; clear h1 tok1)
      go_ret2
      exact ⟨⟨t + 1, by omega, by have := HT.out; omega, hx_last (by rw [← hu.out]; exact hx2.out), rfl⟩, k2.out.1⟩

theorem wrU {c : Nat} (h : c < 1000) : IntKind.u64.wrap (c : Int) = (c : Int) := by rw [IntKind.wrap_u64]; omega

theorem and32 {c : Nat} (h : c < 1000) : bits BinOp.and IntKind.u64 (c : Int) 4294967295 = (c : Int) := by
  rw [show (4294967295 : Int) = ((4294967295 : Nat) : Int) from rfl, bits_and_u64_nat c _ (by omega) (by decide), Nat.and_two_pow_sub_one_eq_mod c 32]
  congr 1
  omega

set_option maxRecDepth 100000 in
set_option maxHeartbeats 1000000 in
theorem iMul1 (c : Nat) (hc : c < 1000) (w : World) : Calls Tryz.prog 139 #[.int .u64 1, .int .u64 (c : Int)] w fun e w' => e = .returned (.tuple #[.int .u64 0, .int .u64 (c : Int)]) ∧ w' = w := by
  have h1 : bits BinOp.and IntKind.u64 1 4294967295 = 1 := and32 (c := 1) (by omega)
  have h2 := and32 hc
  have h3 : (c : Int) / 4294967296 = 0 := by omega
  have h4 := wrU hc
  have h5 : bits BinOp.and IntKind.u64 0 4294967295 = 0 := and32 (c := 0) (by omega)
  clear hc
  go_enter Tryz.func139, Tryz.ntmps139
  go_wp2
  go_ret2
  exact ⟨rfl, rfl⟩

set_option maxRecDepth 100000 in
set_option maxHeartbeats 1000000 in
theorem iMul2 (c : Nat) (hc : c < 1000) (w : World) : Calls Tryz.prog 118 #[.int .u64 1, .int .u64 (c : Int)] w fun e w' => e = .returned (.tuple #[.int .u64 0, .int .u64 (c : Int)]) ∧ w' = w := by
  have HC := hid hc
  clear hc
  go_enter Tryz.func118, Tryz.ntmps118
  go_wp2_with fail
  refine (iMul1 c HC.out _).mono ?_
  rintro e w1 ⟨rfl, rfl⟩
  go_wp2
  go_ret2
  exact ⟨rfl, rfl⟩

set_option maxRecDepth 100000 in
set_option maxHeartbeats 1000000 in
theorem iHasPre (s : ByteArray) (h : 1 ≤ s.size) (b : Bool) (hb : ((s.extract 0 1).toList == [48]) = b) (w : World) : Calls Tryz.prog 140 #[.string s, .string ⟨#[48]⟩] w fun e w' => e = .returned (.bool b) ∧ w' = w := by
  have h1 : (1 : Int) ≤ (s.size : Int) := by omega
  go_enter Tryz.func140, Tryz.ntmps140
  go_wp2
  go_ret
  exact ⟨rfl, rfl⟩

set_option maxRecDepth 100000 in
set_option maxHeartbeats 1000000 in
theorem iHasPre2 (s : ByteArray) (h : 1 ≤ s.size) (b : Bool) (hb : ((s.extract 0 1).toList == [48]) = b) (w : World) : Calls Tryz.prog 119 #[.string s, .string ⟨#[48]⟩] w fun e w' => e = .returned (.bool b) ∧ w' = w := by
  have H := hid h
  have HB := hid hb
  clear h hb
  go_enter Tryz.func119, Tryz.ntmps119
  go_wp2_with fail
  refine (iHasPre s H.out b HB.out _).mono ?_
  rintro e w1 ⟨rfl, rfl⟩
  go_wp2
  go_ret
  exact ⟨rfl, rfl⟩

set_option maxRecDepth 100000 in
set_option maxHeartbeats 1000000 in
theorem iRep0 (w : World) : Calls Tryz.prog 96 #[.string ⟨#[48]⟩, .int .i64 0] w fun e w' => e = .returned (.string ⟨#[]⟩) ∧ w' = w := by
  go_enter Tryz.func96, Tryz.ntmps96
  go_wp2
  go_ret
  exact ⟨rfl, rfl⟩

set_option maxRecDepth 100000 in
set_option maxHeartbeats 1000000 in
theorem iRep1 (w : World) : Calls Tryz.prog 96 #[.string ⟨#[48]⟩, .int .i64 1] w fun e w' => e = .returned (.string ⟨#[48]⟩) ∧ w' = w := by
  go_enter Tryz.func96, Tryz.ntmps96
  go_wp2
  go_ret
  exact ⟨rfl, rfl⟩

def zs64 : ByteArray := ⟨#[48, 48, 48, 48, 48, 48, 48, 48, 48, 48, 48, 48, 48, 48, 48, 48, 48, 48, 48, 48, 48, 48, 48, 48, 48, 48, 48, 48, 48, 48, 48, 48, 48, 48, 48, 48, 48, 48, 48, 48, 48, 48, 48, 48, 48, 48, 48, 48, 48, 48, 48, 48, 48, 48, 48, 48, 48, 48, 48, 48, 48, 48, 48, 48]⟩

theorem rep_cut (c : Nat) (h : c ≤ 7) : zs64.extract 0 c = ⟨(List.replicate c 48).toArray⟩ := by
  have : ∀ c, c < 8 → zs64.extract 0 c = ⟨(List.replicate c 48).toArray⟩ := by decide +kernel
  exact this c (by omega)

set_option maxRecDepth 100000 in
set_option maxHeartbeats 1000000 in
theorem iRepN (c : Nat) (h2 : 2 ≤ c) (h7 : c ≤ 7) (w : World) : Calls Tryz.prog 96 #[.string ⟨#[48]⟩, .int .i64 (c : Int)] w fun e w' => e = .returned (.string ⟨(List.replicate c 48).toArray⟩) ∧ w' = w := by
  have a0 : ¬ (c : Int) = 0 := by omega
  have a1 : ¬ (c : Int) = 1 := by omega
  have a2 : ¬ (c : Int) < 0 := by omega
  have a3 := wrU (c := c) (by omega)
  have a4 : ¬ (9223372036854775807 : Int) < (c : Int) := by omega
  have a5 : wrap64 (c : Int) = (c : Int) := by unfold wrap64; omega
  have a6 : (c : Int) ≤ 64 := by omega
  have hv : ((ByteArray.mk #[48])[0]'(by decide)).toNat = 48 := rfl
  have H2 := hid h2
  have H7 := hid h7
  clear h2 h7
  go_enter Tryz.func96, Tryz.ntmps96
  go_wp2_with fail
  refine (iMul2 c (by have := H7.out; omega) _).mono ?_
  rintro e w1 ⟨rfl, rfl⟩
  go_wp2_with fail
  refine (iHasPre2 _ (by decide +kernel) false (by decide +kernel) _).mono ?_
  rintro e w1 ⟨rfl, rfl⟩
  go_wp2_with fail
  refine (iHasPre2 _ (by decide +kernel) false (by decide +kernel) _).mono ?_
  rintro e w1 ⟨rfl, rfl⟩
  go_wp2_with fail
  refine (iHasPre2 _ (by decide +kernel) true (by decide +kernel) _).mono ?_
  rintro e w1 ⟨rfl, rfl⟩
  go_wp2_with fail
  go_ret
  exact ⟨congrArg (fun s => Ending.returned (Value.string s)) (rep_cut c H7.out), rfl⟩

theorem iRep (c : Nat) (h : c ≤ 7) (w : World) : Calls Tryz.prog 96 #[.string ⟨#[48]⟩, .int .i64 (c : Int)] w fun e w' => e = .returned (.string ⟨(List.replicate c 48).toArray⟩) ∧ w' = w := by
  rcases Nat.lt_or_ge c 2 with h1 | h1
  · rcases Nat.lt_or_ge c 1 with h2 | h2
    · obtain rfl : c = 0 := by omega
      exact iRep0 w
    · obtain rfl : c = 1 := by omega
      exact iRep1 w
  · exact iRepN c h1 h w

set_option maxRecDepth 100000 in
set_option maxHeartbeats 1000000 in
theorem iFormatUint (n : Nat) (hn : n < 4294967296) (w : World) (ht : Tab64 w) :
    Calls Tryz.prog 117 #[.int .u64 (n : Int), .int .i64 16] w fun e w' =>
      (∃ k, 1 ≤ k ∧ k ≤ 8 ∧ n < 16 ^ k ∧ e = .returned (.string ⟨(hexL n k).toArray⟩)) ∧ Below w.heap.size w w' := by
  have hT := hid ht
  have HN := hid hn
  clear ht hn
  go_enter Tryz.func117, Tryz.ntmps117
  go_wp2_with fail
  refine (iFormatBits n HN.out _ hT.out).mono ?_
  rintro e w1 ⟨⟨k, h1, h2, h3, rfl⟩, hb⟩
  have HB := hid hb
  have H3 := hid h3
  clear hb h3
  go_wp2
  go_ret
  exact ⟨⟨k, h1, h2, H3.out, rfl⟩, HB.out⟩

set_option maxRecDepth 100000 in
set_option maxHeartbeats 1000000 in
theorem iFormatUint2 (n : Nat) (hn : n < 4294967296) (w : World) (ht : Tab64 w) :
    Calls Tryz.prog 94 #[.int .u64 (n : Int), .int .i64 16] w fun e w' =>
      (∃ k, 1 ≤ k ∧ k ≤ 8 ∧ n < 16 ^ k ∧ e = .returned (.string ⟨(hexL n k).toArray⟩)) ∧ Below w.heap.size w w' := by
  have hT := hid ht
  have HN := hid hn
  clear ht hn
  go_enter Tryz.func94, Tryz.ntmps94
  go_wp2_with fail
  refine (iFormatUint n HN.out _ hT.out).mono ?_
  rintro e w1 ⟨⟨k, h1, h2, h3, rfl⟩, hb⟩
  have HB := hid hb
  have H3 := hid h3
  clear hb h3
  go_wp2
  go_ret
  exact ⟨⟨k, h1, h2, H3.out, rfl⟩, HB.out⟩

@[go_sem] theorem ext_f32bits (y : Nat) (w : World) : (callFunc 85 #[.float .f32 y]).run Tryz.prog w = .ok (.value (.int .u32 y)) w := by
  rw [run_callFunc_extern Tryz.func85 (by kernel_rfl) (by kernel_rfl) (by kernel_rfl) (e := Extern.MathFloatBits.float32bits) (by kernel_rfl)]
  rfl

theorem sFinite_t (x : Nat) (hx : x < 4294967296) (h : finB x = true) (w : World) :
    Calls Tryz.prog 86 #[.float .f32 x] w fun e w' => e = .returned (.bool true) ∧ w = w' := by
  have hr := fun w => run_float_arith (P := Tryz.prog) w .sub 28 .f32 x x 0 (sub_self_fin hx h)
  clear h hx
  go_enter Tryz.func86, Tryz.ntmps86
  go_wp2
  go_ret
  exact ⟨rfl, rfl⟩

theorem sAmount_t (x : Nat) (h : amtB x = true) (w : World) :
    Calls Tryz.prog 56 #[.float .f32 x] w fun e w' => e = .returned (.bool true) ∧ w = w' := by
  have hf := amt_fin h
  have h' := amtB_iff.1 h
  have hx : x < 4294967296 := by rw [INF_val] at h'; omega
  have Hx := hid hx
  have Hf := hid hf
  by_cases h0 : x = 0
  · subst h0
    clear h hf h' hx
    go_enter Tryz.func56, Tryz.ntmps56
    go_wp2_with (go_at_call 86; refine (sFinite_t 0 Hx.out Hf.out _).mono ?_; rintro e w' ⟨rfl, rfl⟩)
    go_ret
    exact ⟨rfl, rfl⟩
  · have hg : (FloatKind.f32.format.order x 0 == some .gt) = true := by
      show (S.order x 0 == some .gt) = true
      rw [order_zero_pos h', Nat.compare_eq_gt.2 (by omega)]; rfl
    clear h hf h' hx h0
    go_enter Tryz.func56, Tryz.ntmps56
    go_wp2_with (go_at_call 86; refine (sFinite_t x Hx.out Hf.out _).mono ?_; rintro e w' ⟨rfl, rfl⟩)
    go_ret
    exact ⟨rfl, rfl⟩

theorem l00In_t (n a b : Int) (h1 : a ≤ n) (h2 : n ≤ b) (w : World) :
    Calls Tryz.prog 46 #[.int .i64 n, .int .i64 a, .int .i64 b] w fun e w' => e = .returned (.bool true) ∧ w = w' := by
  go_enter Tryz.func46, Tryz.ntmps46
  go_wp2
  go_ret
  exact ⟨by first | rfl | (simp; done) | (simp; omega), rfl⟩

theorem l00In_f (n a b : Int) (hn : ¬ (a ≤ n ∧ n ≤ b)) (w : World) :
    Calls Tryz.prog 46 #[.int .i64 n, .int .i64 a, .int .i64 b] w fun e w' => e = .returned (.bool false) ∧ w = w' := by
  by_cases h0 : a ≤ n
  · have h3 : b < n := by omega
    clear hn
    go_enter Tryz.func46, Tryz.ntmps46
    go_wp2
    go_ret
    exact ⟨by first | rfl | (simp; done) | (simp; omega), rfl⟩
  · have h3 : n < a := by omega
    have h4 : decide (a ≤ n) = false := by simp; omega
    clear hn h0
    go_enter Tryz.func46, Tryz.ntmps46
    go_wp2
    go_ret
    exact ⟨by simp, rfl⟩

theorem iBits (x : Nat) (hx : x < 4294967296) (w : World) :
    Calls Tryz.prog 95 #[.float .f32 x] w fun e w' => e = .returned (.int .u32 (nb x : Int)) ∧ Below w.heap.size w w' := by
  have hnb : nb x = if nanB x = true then 2143289344 else x := rfl
  rcases hn : nanB x with _ | _
  · have hle : mg x ≤ INF := by simpa [nanB] using hn
    rw [hn] at hnb
    have Hnb := hid hnb
    rcases Nat.lt_or_eq_of_le hle with h | h
    · have hc := fun w => run_conv_wid (P := Tryz.prog) w 28 76 x hx Tryz.underlying28 Tryz.underlying76 h
      obtain ⟨_, _, m, e, hr⟩ := read_wid_fin hx h
      have Hn := hid (show (FloatKind.f64.format.order (wid x) (wid x) != some .eq) = false by
        show (D.order (wid x) (wid x) != some .eq) = false
        rw [order_self hr]; rfl)
      clear hnb hn hle h hr hx
      go_enter Tryz.func95, Tryz.ntmps95
      go_wp2_with (go_at_call 113; refine (isNaN_f64 (wid x) _).mono ?_; rintro e w' ⟨rfl, rfl⟩; rw [Hn.out])
      go_ret
      exact ⟨by rw [Hnb.out]; simp, Below.refl _ _⟩
    · obtain ⟨z, hc, h1, h2⟩ := run_conv_inf (P := Tryz.prog) w 28 76 x hx Tryz.underlying28 Tryz.underlying76 h
      have hr : D.read z = .infinity (decide (9223372036854775808 ≤ z)) := by rw [read_signD h2, h1, read_DINF]
      have Hn := hid (show (FloatKind.f64.format.order z z != some .eq) = false by
        show (D.order z z != some .eq) = false
        rw [order_inf hr]; rfl)
      clear hnb hn hle h hr hx h1 h2
      go_enter Tryz.func95, Tryz.ntmps95
      go_wp2_with (go_at_call 113; refine (isNaN_f64 z _).mono ?_; rintro e w' ⟨rfl, rfl⟩; rw [Hn.out])
      go_ret
      exact ⟨by rw [Hnb.out]; simp, Below.refl _ _⟩
  · have h : INF < mg x := by simpa [nanB] using hn
    rw [hn] at hnb
    have Hnb := hid hnb
    obtain ⟨z, hc, h1, _⟩ := run_conv_nan (P := Tryz.prog) w 28 76 x Tryz.underlying28 Tryz.underlying76 h
    obtain ⟨s, t, hr⟩ := read_nanD h1
    have Hn := hid (show (FloatKind.f64.format.order z z != some .eq) = true by
      show (D.order z z != some .eq) = true
      rw [order_nan hr]; rfl)
    clear hnb hn h hr hx h1
    go_enter Tryz.func95, Tryz.ntmps95
    go_wp2_with (go_at_call 113; refine (isNaN_f64 z _).mono ?_; rintro e w' ⟨rfl, rfl⟩; rw [Hn.out])
    go_ret
    exact ⟨by rw [Hnb.out]; simp, (Below.refl _ _).drew⟩

theorem nb_lt {x : Nat} (h : x < 4294967296) : nb x < 4294967296 := by
  unfold nb; split
  · decide
  · exact h

theorem hex8 {n k : Nat} (h2 : k ≤ 8) (h3 : n < 16 ^ k) : List.replicate (8 - k) 48 ++ hexL n k = hexL n 8 := by
  have := hexL_zeros k n (8 - k) h3
  rw [show k + (8 - k) = 8 by omega] at this
  exact this.symm

/-- The text of a number. -/
def txN (x : Nat) : ByteArray := ⟨(hexL (nb x) 8).toArray⟩

theorem cat_hex {n k : Nat} (h2 : k ≤ 8) (h3 : n < 16 ^ k) : (⟨(List.replicate (8 - k) 48).toArray⟩ ++ ⟨(hexL n k).toArray⟩ : ByteArray) = ⟨(hexL n 8).toArray⟩ := by
  rw [← hex8 h2 h3]
  apply ByteArray.ext
  simp

set_option maxRecDepth 100000 in
set_option maxHeartbeats 1000000 in
theorem iNumberText (x : Nat) (hx : x < 4294967296) (w : World) (ht : Tab64 w) :
    Calls Tryz.prog 62 #[.float .f32 x] w fun e w' => e = .returned (.string (txN x)) ∧ Below w.heap.size w w' := by
  have HT := hid ht
  have HX := hid hx
  have hc : IntKind.u64.wrap (nb x : Int) = (nb x : Int) := by have := nb_lt hx; rw [IntKind.wrap_u64]; omega
  clear ht hx
  go_enter Tryz.func62, Tryz.ntmps62
  go_wp2_with fail
  refine (iBits x HX.out _).mono ?_
  rintro e w1 ⟨rfl, hb1⟩
  have T1 := hid (HT.out.stay hb1)
  have B1 := hid hb1
  clear hb1 HT
  go_wp2_with fail
  refine (iFormatUint2 (nb x) (nb_lt HX.out) _ T1.out).mono ?_
  rintro e w2 ⟨⟨k, h1, h2, h3, rfl⟩, hb2⟩
  have B2 := hid (((Kept.nil w).stay B1.out).stay hb2)
  have hl : (⟨(hexL (nb x) k).toArray⟩ : ByteArray).size = k := by show (hexL (nb x) k).toArray.size = k; simp [hexL_length]
  have hs : wrap64 (8 - (k : Int)) = ((8 - k : Nat) : Int) := by rw [show (8 : Int) - (k : Int) = ((8 - k : Nat) : Int) by omega]; unfold wrap64; omega
  have hs' : (8 : Int) - (k : Int) = ((8 - k : Nat) : Int) := by omega
  obtain ⟨m, hm⟩ : ∃ m, m = 8 - k := ⟨_, rfl⟩
  rw [← hm] at hs hs'
  have H2 := hid h2
  have H3 := hid h3
  have HM := hid hm
  have hm7 : Hid (m ≤ 7) := hid (by omega)
  have hwm : wrap64 (m : Int) = (m : Int) := by unfold wrap64; omega
  clear hb2 B1 h1 h2 h3 hm T1
  go_wp2_with fail
  refine (iRep m hm7.out _).mono ?_
  rintro e w3 ⟨rfl, rfl⟩
  go_wp2
  go_ret
  refine ⟨congrArg (fun s => Ending.returned (Value.string s)) ?_, B2.out.1⟩
  rw [HM.out]
  exact cat_hex H2.out H3.out

set_option maxRecDepth 100000 in
set_option maxHeartbeats 1000000 in
theorem sBits (x : Nat) (hx : x < 4294967296) (w : World) :
    Calls Tryz.prog 53 #[.float .f32 x] w fun e w' => e = .returned (.int .u32 (nb x : Int)) ∧ w' = w := by
  have n1 := neq_self x hx
  have hnb : nb x = if nanB x = true then 2143289344 else x := rfl
  rcases hn : nanB x with _ | _
  · rw [hn] at hnb n1
    rw [hnb]
    clear hnb hn
    go_enter Tryz.func53, Tryz.ntmps53
    go_wp2
    go_ret
    exact ⟨by simp, rfl⟩
  · rw [hn] at hnb n1
    rw [hnb]
    clear hnb hn
    go_enter Tryz.func53, Tryz.ntmps53
    go_wp2
    go_ret
    exact ⟨by simp, rfl⟩

theorem words_cons : ∀ (v : List Char) (r : List Char), (∀ c ∈ v, c ≠ Char.ofNat 32) → wordsSigns (v ++ Char.ofNat 32 :: r) = v :: wordsSigns r
  | [], r, _ => rfl
  | c :: v, r, h => by
    have ih := words_cons v r (fun x hx => h x (by simp [hx]))
    have hc : c ≠ Char.ofNat 32 := h c (by simp)
    show wordsSigns (c :: (v ++ Char.ofNat 32 :: r)) = _
    rw [wordsSigns.eq_3 _ _ (fun e => hc e), ih]

def w0 : List Nat := [104, 97, 114, 110, 101, 115, 115]

def w1 : List Nat := [98, 100, 99, 53, 52, 101, 49, 57, 55, 57, 50, 49, 99, 98, 48, 54, 100, 101, 55, 51, 102, 55, 55, 52, 50, 98, 101, 101, 100, 99, 54, 51, 49, 50, 98, 99, 54, 50, 57, 56, 49, 56, 54, 97, 99, 101, 48, 100, 101, 97, 54, 55, 56, 54, 101, 53, 52, 98, 101, 50, 57, 99, 49, 53]

def w2 : List Nat := [99, 117, 116]

def w3 : List Nat := [97, 116, 32, 108, 111, 111, 112, 46, 101, 120, 97, 109, 112, 108, 101, 47, 103, 48, 49, 50, 50, 52, 47, 108, 97, 119, 115, 46, 70, 110, 69, 120, 97, 99, 116, 82, 101, 97, 100, 83, 111, 117, 110, 100, 105, 110, 103, 32, 108, 111, 111, 112, 46, 101, 120, 97, 109, 112, 108, 101, 47, 103, 48, 49, 50, 50, 52, 47, 108, 97, 119, 115, 46, 70, 110, 69, 120, 97, 99, 116, 82, 101, 97, 100, 67, 111, 108, 117, 109, 110, 32, 108, 111, 111, 112, 46, 101, 120, 97, 109, 112, 108, 101, 47, 103, 48, 49, 50, 50, 52, 47, 108, 97, 119, 115, 46, 70, 110, 69, 120, 97, 99, 116, 82, 101, 97, 100, 80, 117, 108, 115, 101, 115]

def letters (l : List Nat) : List Char := l.map Char.ofNat

theorem head_reads : Tryz.prog.initOrder = String.ofList (letters w0 ++ Char.ofNat 32 :: (letters w1 ++ Char.ofNat 32 :: (letters w2 ++ Char.ofNat 32 :: letters w3))) := by kernel_rfl

theorem no_blank {l : List Nat} (h : l.all (fun n => Char.ofNat n != Char.ofNat 32) = true) : ∀ c ∈ letters l, c ≠ Char.ofNat 32 := by
  intro c hc
  obtain ⟨n, hn, rfl⟩ := List.mem_map.1 hc
  have := List.all_eq_true.1 h n hn
  simpa using this

theorem h0 : letters w0 = "harness".toList := by kernel_rfl

theorem h2 : letters w2 = "cut".toList := by kernel_rfl

theorem sums : isSumSigns (letters w1) = true := by kernel_rfl

theorem words : wordsSigns Tryz.prog.initOrder.toList = "harness".toList :: letters w1 :: "cut".toList :: wordsSigns (letters w3) := by
  rw [head_reads, String.toList_ofList, words_cons _ _ (no_blank (by decide +kernel)), words_cons _ _ (no_blank (by decide +kernel)), words_cons _ _ (no_blank (by decide +kernel)), h0, h2]

theorem behind : ∃ r, behindMainWord (wordsSigns Tryz.prog.initOrder.toList) = "cut".toList :: r := by
  refine ⟨wordsSigns (letters w3), ?_⟩
  rw [words]
  generalize wordsSigns (letters w3) = r
  have hs := sums
  generalize letters w1 = v at hs
  unfold behindMainWord
  simp [hs]

theorem not_later : Tryz.prog.laysLater = false := by kernel_rfl

theorem no_reflect : Tryz.prog.bearsReflect = false := by kernel_rfl

theorem no_doors : Tryz.prog.doorFits [] = true := by kernel_rfl

theorem strips (r : List (List Char)) : stripLifts liftWords ("cut".toList :: r) = ([], "cut".toList :: r) := by kernel_rfl

theorem may_enter_of (P : Program) (r : List (List Char)) (h : behindMainWord (wordsSigns P.initOrder.toList) = "cut".toList :: r) (h1 : P.laysLater = false) (h2 : P.bearsReflect = false) (h3 : P.doorFits [] = true) : P.mayEnter = true := by
  unfold Program.mayEnter
  rw [h]
  dsimp only
  rw [strips, h1, h2, h3]
  kernel_rfl

theorem lifts_final_of (P : Program) (r : List (List Char)) (h : behindMainWord (wordsSigns P.initOrder.toList) = "cut".toList :: r) : P.liftsFinal = false := by
  unfold Program.liftsFinal Program.headLifts
  rw [h]
  dsimp only
  rw [strips]
  kernel_rfl

theorem made_of (P : Program) (r : List (List Char)) (h : behindMainWord (wordsSigns P.initOrder.toList) = "cut".toList :: r) : P.make = some .cut := by
  unfold Program.make
  rw [h]
  kernel_rfl

theorem may_enter : Tryz.prog.mayEnter = true := let ⟨r, h⟩ := behind; may_enter_of _ r h not_later no_reflect no_doors

theorem lifts_final : Tryz.prog.liftsFinal = false := let ⟨r, h⟩ := behind; lifts_final_of _ r h

theorem made : Tryz.prog.make = some .cut := let ⟨r, h⟩ := behind; made_of _ r h

theorem laid : laidOutB Tryz.prog = true := by kernel_rfl

theorem rowed : mapsRowed Tryz.prog = true := by kernel_rfl

theorem no_stops : Tryz.prog.stops = [] := by kernel_rfl

theorem no_knobs : Tryz.prog.stopKnobs = [] := by kernel_rfl

theorem plain_keys : Tryz.prog.plainKeys = true := by kernel_rfl

theorem stops_heard : Tryz.prog.stopsHeard = true := by kernel_rfl

theorem arr1 {α : Type} {cs : Array α} (h : cs.size = 1) : ∃ c0, cs = #[c0] := by
  obtain ⟨l⟩ := cs
  match l, h with
  | [a], _ => exact ⟨a, rfl⟩

theorem own : ownKnob Tryz.prog.godebug = none := by kernel_rfl

def tz64 : List Int := [0, 1, 56, 2, 57, 49, 28, 3, 61, 58, 42, 50, 38, 29, 17, 4, 62, 47, 59, 36, 45, 43, 51, 22, 53, 39, 33, 30, 24, 18, 12, 5, 63, 55, 48, 27, 60, 41, 37, 16, 46, 35, 44, 21, 52, 32, 23, 11, 54, 26, 40, 15, 34, 20, 31, 10, 25, 14, 19, 9, 13, 8, 7, 6]

theorem info_air : (Tryz.prog.info? 33).map (·.size) = some 2 := by kernel_rfl

def rest1 (x : Nat) : Nat := fsub 1065353216 x

def mixed (c d : Nat → Nat) (x : Nat) : Nat → Nat := fun i => fadd (fmul (c i) (rest1 x)) (fmul (d i) x)

theorem iHeat (x : Nat) (q : Bool) (hq : heatB x = q) (w : World) :
    Calls Tryz.prog 91 #[.float .f32 x] w fun e w' => e = .returned (.bool q) ∧ w = w' := by
  have h1 : heatB x = ((FloatKind.f32.format.order x 3262119936 == some .gt || FloatKind.f32.format.order x 3262119936 == some .eq) && (FloatKind.f32.format.order x 1114636288 == some .lt || FloatKind.f32.format.order x 1114636288 == some .eq)) := rfl
  rw [h1] at hq
  clear h1
  rcases a : (FloatKind.f32.format.order x 3262119936 == some .gt || FloatKind.f32.format.order x 3262119936 == some .eq) with _ | _
  · rw [a] at hq
    simp only [Bool.false_and] at hq
    subst hq
    go_enter Tryz.func91, Tryz.ntmps91
    go_wp2
    go_ret
    exact ⟨rfl, rfl⟩
  · rw [a] at hq
    simp only [Bool.true_and] at hq
    cases q
    all_goals
      go_enter Tryz.func91, Tryz.ntmps91
      go_wp2
      go_ret
      exact ⟨rfl, rfl⟩

theorem sHeat (x : Nat) (q : Bool) (hq : heatB x = q) (w : World) :
    Calls Tryz.prog 78 #[.float .f32 x] w fun e w' => e = .returned (.bool q) ∧ w = w' := by
  have h1 : heatB x = ((FloatKind.f32.format.order x 3262119936 == some .gt || FloatKind.f32.format.order x 3262119936 == some .eq) && (FloatKind.f32.format.order x 1114636288 == some .lt || FloatKind.f32.format.order x 1114636288 == some .eq)) := rfl
  rw [h1] at hq
  clear h1
  rcases a : (FloatKind.f32.format.order x 3262119936 == some .gt || FloatKind.f32.format.order x 3262119936 == some .eq) with _ | _
  · rw [a] at hq
    simp only [Bool.false_and] at hq
    subst hq
    go_enter Tryz.func78, Tryz.ntmps78
    go_wp2
    go_ret
    exact ⟨rfl, rfl⟩
  · rw [a] at hq
    simp only [Bool.true_and] at hq
    cases q
    all_goals
      go_enter Tryz.func78, Tryz.ntmps78
      go_wp2
      go_ret
      exact ⟨rfl, rfl⟩

set_option maxRecDepth 100000 in
theorem iValidAir (h v : Nat) (hv : v < 4294967296) (q : Bool) (hq : airB h v = q) (w : World) :
    Calls Tryz.prog 59 #[.agg #[.float .f32 h, .float .f32 v]] w fun e w' => e = .returned (.bool q) ∧ Below w.heap.size w w' := by
  have b0 := boxed w (.cells #[.float .f32 h, .float .f32 v] 33)
  have Hv := hid hv
  have e1 : airB h v = (heatB h && amtB v && vapB v) := rfl
  rw [e1] at hq
  clear hv e1
  rcases a : heatB h with _ | _
  · have Ha := hid a
    rw [a] at hq
    simp only [Bool.false_and] at hq
    subst hq
    clear a
    go_enter Tryz.func59, Tryz.ntmps59
    go_wp2_with fail
    refine (iHeat h false Ha.out _).mono ?_
    rintro e w1 ⟨rfl, rfl⟩
    go_wp2
    go_ret
    exact ⟨rfl, b0⟩
  · have Ha := hid a
    rw [a] at hq
    clear a
    rcases b : amtB v with _ | _
    · have Hb := hid b
      rw [b] at hq
      simp only [Bool.and_false, Bool.false_and] at hq
      subst hq
      clear b
      go_enter Tryz.func59, Tryz.ntmps59
      go_wp2_with fail
      refine (iHeat h true Ha.out _).mono ?_
      rintro e w1 ⟨rfl, rfl⟩
      go_wp2_with fail
      refine (isAmount_f v Hv.out Hb.out _).mono ?_
      rintro e w1 ⟨rfl, hb1⟩
      go_wp2
      go_ret
      exact ⟨rfl, stp b0 (Nat.le_refl _) hb1⟩
    · have Hb := hid b
      rw [b] at hq
      simp only [Bool.true_and] at hq
      have hc : (FloatKind.f32.format.order v 1148846080 == some .lt || FloatKind.f32.format.order v 1148846080 == some .eq) = q := hq
      clear b hq
      cases q
      all_goals
        go_enter Tryz.func59, Tryz.ntmps59
        go_wp2_with fail
        refine (iHeat h true Ha.out _).mono ?_
        rintro e w1 ⟨rfl, rfl⟩
        go_wp2_with fail
        refine (isAmount_t v Hb.out _).mono ?_
        rintro e w1 ⟨rfl, rfl⟩
        go_wp2
        go_ret
        exact ⟨rfl, b0⟩

theorem iHgt (x : Nat) (hx : x < 4294967296) (q : Bool) (hq : hgtB x = q) (w : World) :
    Calls Tryz.prog 83 #[.float .f32 x] w fun e w' => e = .returned (.bool q) ∧ Below w.heap.size w w' := by
  have e1 : hgtB x = (amtB x && (FloatKind.f32.format.order x 1106247680 == some .lt || FloatKind.f32.format.order x 1106247680 == some .eq)) := rfl
  rw [e1] at hq
  have Hx := hid hx
  clear e1 hx
  rcases a : amtB x with _ | _
  · have Ha := hid a
    rw [a] at hq
    simp only [Bool.false_and] at hq
    subst hq
    clear a
    go_enter Tryz.func83, Tryz.ntmps83
    go_wp2_with fail
    refine (isAmount_f x Hx.out Ha.out _).mono ?_
    rintro e w1 ⟨rfl, hb1⟩
    go_wp2
    go_ret
    exact ⟨rfl, hb1⟩
  · have Ha := hid a
    rw [a] at hq
    simp only [Bool.true_and] at hq
    clear a
    cases q
    all_goals
      go_enter Tryz.func83, Tryz.ntmps83
      go_wp2_with fail
      refine (isAmount_t x Ha.out _).mono ?_
      rintro e w1 ⟨rfl, rfl⟩
      go_wp2
      go_ret
      exact ⟨rfl, Below.refl _ _⟩

set_option maxRecDepth 100000 in
theorem sAirAt_t (h v : Nat) (hq : airB h v = true) (w : World) (g o : Nat) (c0 : w.cell? ⟨g, o, none⟩ = some (.float .f32 h)) (c1 : w.cell? ⟨g, o + 1, none⟩ = some (.float .f32 v)) :
    Calls Tryz.prog 45 #[.pointer (some ⟨g, o, none⟩)] w fun e w' => e = .returned (.bool true) ∧ w = w' := by
  obtain ⟨a, b, c⟩ := airB_iff.1 hq
  have hc : (FloatKind.f32.format.order v 1148846080 == some .lt || FloatKind.f32.format.order v 1148846080 == some .eq) = true := c
  have Ha := hid a
  have Hb := hid b
  clear a b c hq
  go_enter Tryz.func45, Tryz.ntmps45
  go_wp2_with fail
  refine (sHeat h true Ha.out _).mono ?_
  rintro e w1 ⟨rfl, rfl⟩
  go_wp2_with fail
  refine (sAmount_t v Hb.out _).mono ?_
  rintro e w1 ⟨rfl, rfl⟩
  go_wp2
  go_ret
  exact ⟨rfl, rfl⟩

set_option maxRecDepth 100000 in
theorem iValidParcel (a h v : Nat) (ha : a < 4294967296) (hv : v < 4294967296) (q : Bool) (hq : parB a h v = q) (w : World) :
    Calls Tryz.prog 49 #[.agg #[.float .f32 a, .float .f32 h, .float .f32 v]] w fun e w' => e = .returned (.bool q) ∧ Below w.heap.size w w' := by
  have b0 := boxed w (.cells #[.float .f32 a, .float .f32 h, .float .f32 v] 99)
  have A0 := hid (parAt.new w a h v 99)
  have Ha := hid ha
  have Hv := hid hv
  have e1 : parB a h v = (hgtB a && airB h v) := rfl
  rw [e1] at hq
  clear ha hv e1
  rcases x : hgtB a with _ | _
  · have Hx := hid x
    rw [x] at hq
    simp only [Bool.false_and] at hq
    subst hq
    clear x
    go_enter Tryz.func49, Tryz.ntmps49
    go_wp2_with fail
    refine (iHgt a Ha.out false Hx.out _).mono ?_
    rintro e w1 ⟨rfl, hb1⟩
    go_wp2
    go_ret
    exact ⟨rfl, stp b0 (Nat.le_refl _) hb1⟩
  · have Hx := hid x
    rw [x] at hq
    simp only [Bool.true_and] at hq
    have Hq := hid hq
    clear x hq
    go_enter Tryz.func49, Tryz.ntmps49
    go_wp2_with fail
    refine (iHgt a Ha.out true Hx.out _).mono ?_
    rintro e w1 ⟨rfl, hb1⟩
    have A1 := hid (A0.out.stay hb1)
    have b1 := stp b0 (Nat.le_refl _) hb1
    go_wp2_with (refine wpList_load_air (by rfl) 33 _ rfl w.heap.size rfl a h v 99 A1.out _ Tryz.underlying33 rfl info_air ?_)
    refine (iValidAir h v Hv.out q Hq.out _).mono ?_
    rintro e w2 ⟨rfl, hb2⟩
    cases q
    all_goals
      go_wp2
      go_ret
      exact ⟨rfl, stp b1 (Nat.le_refl _) hb2⟩

theorem info_lev : (Tryz.prog.info? 51).map (·.size) = some 3 := by kernel_rfl

theorem sameFloat2 (a b : Nat) (h : Same2 a b) (w : World) :
    Calls Tryz.prog 37 #[.float .f64 a, .float .f64 b] w fun e w' => e = .returned (.bool true) ∧ w = w' := by
  obtain ⟨h1, h2⟩ := h
  rcases h1 with ⟨h1, rfl⟩ | ⟨h1, h3, h4, h5⟩
  · have hn : (FloatKind.f64.format.order a a != some .eq) = false := by
      show (Ieee.Format.order D a a != some .eq) = false
      rw [h1]; rfl
    have hq : (FloatKind.f64.format.order a a == some .eq) = true := by
      show (Ieee.Format.order D a a == some .eq) = true
      rw [h1]; rfl
    rcases hz : (FloatKind.f64.format.order a 0 == some .eq) with _ | _
    · clear h1 h2
      go_enter Tryz.func37, Tryz.ntmps37
      go_wp2
      go_ret
      exact ⟨by simp, rfl⟩
    · obtain ⟨q, hd⟩ := h2 h1 (beq_iff_eq.1 hz)
      have hdiv := fun w => run_float_arith (P := Tryz.prog) w .quo 76 .f64 4607182418800017408 a q hd
      clear h1 h2 hd
      go_enter Tryz.func37, Tryz.ntmps37
      go_wp2
      go_ret
      exact ⟨by simp, rfl⟩
  · have hn : (FloatKind.f64.format.order a a != some .eq) = true := by
      show (Ieee.Format.order D a a != some .eq) = true
      rw [h1]; rfl
    have hm : (FloatKind.f64.format.order b b != some .eq) = true := by
      show (Ieee.Format.order D b b != some .eq) = true
      rw [h3]; rfl
    clear h1 h2 h3 h4 h5
    go_enter Tryz.func37, Tryz.ntmps37
    go_wp2
    go_ret
    exact ⟨by simp, rfl⟩

theorem eqAir_any (h v : Nat) (hh : h < 4294967296) (hv : v < 4294967296) (w : World) :
    Calls Tryz.prog 51 #[.agg #[.float .f32 h, .float .f32 v], .agg #[.float .f32 h, .float .f32 v]] w fun e w' => e = .returned (.bool true) ∧ Below w.heap.size w w' := by
  obtain ⟨z0, f0, c0, d0, s0⟩ := conv_any (P := Tryz.prog) 28 76 h hh Tryz.underlying28 Tryz.underlying76
  obtain ⟨z1, f1, c1, d1, s1⟩ := conv_any (P := Tryz.prog) 28 76 v hv Tryz.underlying28 Tryz.underlying76
  have S0 := hid s0
  have S1 := hid s1
  have D0 := hid d0
  have D1 := hid d1
  have k0 : Hid (Kept w [(w.heap.size + 1, #[.float .f32 h, .float .f32 v], 33), (w.heap.size, #[.float .f32 h, .float .f32 v], 33)] ((w.alloc (.cells #[.float .f32 h, .float .f32 v] 33)).alloc (.cells #[.float .f32 h, .float .f32 v] 33))) := hid ((((Kept.nil w).push _ _).push _ _).sub (by simp))
  have k2 := hid (kept_wf (kept_wf k0.out (D0.out _)) (D0.out _))
  have e0 : (f0 (f0 ((w.alloc (.cells #[.float .f32 h, .float .f32 v] 33)).alloc (.cells #[.float .f32 h, .float .f32 v] 33)))).cell? ⟨w.heap.size, 1, none⟩ = some (.float .f32 v) := (cell_of_row _ (w.heap.size) 1 _ _ _ (k2.out.at (x := (w.heap.size, #[.float .f32 h, .float .f32 v], 33)) (by simp))).trans rfl
  have e1 : (f0 ((w.alloc (.cells #[.float .f32 h, .float .f32 v] 33)).alloc (.cells #[.float .f32 h, .float .f32 v] 33))).cell? ⟨w.heap.size + 1, 0, none⟩ = some (.float .f32 h) := (cell_of_row _ (w.heap.size + 1) 0 _ _ _ ((kept_wf k0.out (D0.out _)).at (x := (w.heap.size + 1, #[.float .f32 h, .float .f32 v], 33)) (by simp))).trans rfl
  have e2 : (f1 (f0 (f0 ((w.alloc (.cells #[.float .f32 h, .float .f32 v] 33)).alloc (.cells #[.float .f32 h, .float .f32 v] 33))))).cell? ⟨w.heap.size + 1, 1, none⟩ = some (.float .f32 v) := (cell_of_row _ (w.heap.size + 1) 1 _ _ _ ((kept_wf k2.out (D1.out _)).at (x := (w.heap.size + 1, #[.float .f32 h, .float .f32 v], 33)) (by simp))).trans rfl
  clear hh hv s0 s1 d0 d1
  go_enter Tryz.func51, Tryz.ntmps51
  go_wp2_with fail
  refine (sameFloat2 _ _ (S0.out _ _) _).mono ?_
  rintro e w1 ⟨rfl, rfl⟩
  go_wp2_with fail
  refine (sameFloat2 _ _ (S1.out _ _) _).mono ?_
  rintro e w1 ⟨rfl, rfl⟩
  go_wp2
  go_ret
  exact ⟨rfl, (kept_wf (kept_wf k2.out (D1.out _)) (D1.out _)).1⟩

set_option maxRecDepth 100000 in
theorem eqLevel_any (a h v : Nat) (ha : a < 4294967296) (hh : h < 4294967296) (hv : v < 4294967296) (w : World) :
    Calls Tryz.prog 25 #[.agg #[.float .f32 a, .float .f32 h, .float .f32 v], .agg #[.float .f32 a, .float .f32 h, .float .f32 v]] w fun e w' => e = .returned (.bool true) ∧ Below w.heap.size w w' := by
  obtain ⟨z0, f0, c0, d0, s0⟩ := conv_any (P := Tryz.prog) 28 76 a ha Tryz.underlying28 Tryz.underlying76
  have S0 := hid s0
  have D0 := hid d0
  have Hh := hid hh
  have Hv := hid hv
  have k0 : Hid (Kept w [(w.heap.size + 1, #[.float .f32 a, .float .f32 h, .float .f32 v], 51), (w.heap.size, #[.float .f32 a, .float .f32 h, .float .f32 v], 51)] ((w.alloc (.cells #[.float .f32 a, .float .f32 h, .float .f32 v] 51)).alloc (.cells #[.float .f32 a, .float .f32 h, .float .f32 v] 51))) := hid ((((Kept.nil w).push _ _).push _ _).sub (by simp))
  have k2 := hid (kept_wf (kept_wf k0.out (D0.out _)) (D0.out _))
  have e1 : (f0 ((w.alloc (.cells #[.float .f32 a, .float .f32 h, .float .f32 v] 51)).alloc (.cells #[.float .f32 a, .float .f32 h, .float .f32 v] 51))).cell? ⟨w.heap.size + 1, 0, none⟩ = some (.float .f32 a) := (cell_of_row _ (w.heap.size + 1) 0 _ _ _ ((kept_wf k0.out (D0.out _)).at (x := (w.heap.size + 1, #[.float .f32 a, .float .f32 h, .float .f32 v], 51)) (by simp))).trans rfl
  have A0 : Hid (parAt (f0 (f0 ((w.alloc (.cells #[.float .f32 a, .float .f32 h, .float .f32 v] 51)).alloc (.cells #[.float .f32 a, .float .f32 h, .float .f32 v] 51)))) w.heap.size a h v 51) := hid (k2.out.at (x := (w.heap.size, _, _)) (by simp))
  have A1 : Hid (parAt (f0 (f0 ((w.alloc (.cells #[.float .f32 a, .float .f32 h, .float .f32 v] 51)).alloc (.cells #[.float .f32 a, .float .f32 h, .float .f32 v] 51)))) (w.heap.size + 1) a h v 51) := hid (k2.out.at (x := (w.heap.size + 1, _, _)) (by simp))
  clear ha hh hv s0 d0
  go_enter Tryz.func25, Tryz.ntmps25
  go_wp2_with fail
  refine (sameFloat2 _ _ (S0.out _ _) _).mono ?_
  rintro e w1 ⟨rfl, rfl⟩
  go_wp2_with (first | (refine wpList_load_air (by rfl) 33 _ rfl w.heap.size rfl a h v 51 A0.out _ Tryz.underlying33 rfl info_air ?_) | (refine wpList_load_air (by rfl) 33 _ rfl (w.heap.size + 1) rfl a h v 51 A1.out _ Tryz.underlying33 rfl info_air ?_))
  refine (eqAir_any h v Hh.out Hv.out _).mono ?_
  rintro e w2 ⟨rfl, hb2⟩
  go_wp2
  go_ret
  exact ⟨rfl, (k2.out.stay hb2).1⟩

set_option maxRecDepth 100000 in
set_option maxHeartbeats 1000000 in
theorem eqLevels (s t : Value) (n : Nat) (x : Nat → Nat) (hx : ∀ k, x k < 4294967296) (w : World) (hs : Rd w s n x) (ht : Rd w t n x) (hn : n ≤ 1048576) :
    Calls Tryz.prog 8 #[s, t] w fun e w' => e = .returned (.bool true) ∧ Below w.heap.size w w' := by
  obtain ⟨p, cap, rfl, hc⟩ := hs
  obtain ⟨p', cap', rfl, hc'⟩ := ht
  have HC := hid hc
  have HC' := hid hc'
  have HX := hid hx
  clear hc hc' hx
  go_enter Tryz.func8, Tryz.ntmps8
  go_wp2_with fail
  go_loopw [5] (fun i wr => ∃ k : Nat, k ≤ n ∧ i = .int .i64 k ∧ Hid (Kept w [] wr)) (fun i _ => n - (intOf i).toNat)
  case atStart => exact ⟨0, by omega, rfl, hid (Kept.nil w)⟩
  case round =>
    obtain ⟨k, hk, rfl, h0⟩ := hrel
    by_cases hlt : k < n
    · have HK := hid hlt
      have hk3 : (k : Int) < (n : Int) := by omega
      obtain ⟨b, o, rfl, hcell⟩ := HC.out (by omega)
      obtain ⟨b', o', rfl, hcell'⟩ := HC'.out (by omega)
      have R1 := hid (fun wq (hb : Below w.heap.size w wq) => row3 (w := wq) (n := n) (x := x) (b := b) (o := o) (fun j hj => by have h1 := hcell j hj; rw [hb.cell (block_lt_of_cell h1)]; exact h1) HK.out)
      have R2 := hid (fun wq (hb : Below w.heap.size w wq) => row3 (w := wq) (n := n) (x := x) (b := b') (o := o') (fun j hj => by have h1 := hcell' j hj; rw [hb.cell (block_lt_of_cell h1)]; exact h1) HK.out)
      clear hcell hcell'
      go_wp2_with fail
      refine region_kept (w0 := w) (l := []) 10 #[false, false, false, false, false, false, false, false, false, false] (by kernel_rfl) rfl rfl ?_
      have kd := h0.out.drew
      generalize World.drew _ = wd at kd ⊢
      refine take_val 0 _ _ (.slice (some ⟨b, o, none⟩) n cap) rfl (by rfl) (by kernel_rfl) (by kernel_rfl) (by kernel_rfl) (fun w => by rfl) rfl rfl kd ?_
      simp only [Act.put, List.setIfInBounds_toArray, List.set_cons_zero, List.set_cons_succ]
      refine take_val 1 _ _ (.int .i64 (k : Int)) rfl (by rfl) (by kernel_rfl) (by kernel_rfl) (by kernel_rfl) (fun w => by rfl) rfl rfl kd ?_
      simp only [Act.put, List.setIfInBounds_toArray, List.set_cons_zero, List.set_cons_succ]
      refine take_val 2 _ _ (.pointer (some ⟨b, o + k * 3, none⟩)) rfl (by rfl) (by kernel_rfl) (by kernel_rfl) (by kernel_rfl) (fun w => run_index_op _ _ rfl rfl (run_indexAt Tryz.underlying22 info_lev HK.out w)) rfl rfl kd ?_
      simp only [Act.put, List.setIfInBounds_toArray, List.set_cons_zero, List.set_cons_succ]
      refine take_cell 3 _ _ (.agg #[.float .f32 (x (k * 3)), .float .f32 (x (k * 3 + 1)), .float .f32 (x (k * 3 + 2))]) rfl (by rfl) (by kernel_rfl) (by kernel_rfl) (by kernel_rfl) (fun wq hS => run_load_mid 51 _ b (o + k * 3) [.float .f32 (x (k * 3)), .float .f32 (x (k * 3 + 1)), .float .f32 (x (k * 3 + 2))] rfl (R1.out _ hS.1) _ Tryz.underlying51 rfl info_lev) rfl rfl kd ?_
      simp only [Act.put, List.setIfInBounds_toArray, List.set_cons_zero, List.set_cons_succ]
      refine take_val 4 _ _ (.slice (some ⟨b', o', none⟩) n cap') rfl (by rfl) (by kernel_rfl) (by kernel_rfl) (by kernel_rfl) (fun w => by rfl) rfl rfl kd ?_
      simp only [Act.put, List.setIfInBounds_toArray, List.set_cons_zero, List.set_cons_succ]
      refine take_val 5 _ _ (.int .i64 (k : Int)) rfl (by rfl) (by kernel_rfl) (by kernel_rfl) (by kernel_rfl) (fun w => by rfl) rfl rfl kd ?_
      simp only [Act.put, List.setIfInBounds_toArray, List.set_cons_zero, List.set_cons_succ]
      refine take_val 6 _ _ (.pointer (some ⟨b', o' + k * 3, none⟩)) rfl (by rfl) (by kernel_rfl) (by kernel_rfl) (by kernel_rfl) (fun w => run_index_op _ _ rfl rfl (run_indexAt Tryz.underlying22 info_lev HK.out w)) rfl rfl kd ?_
      simp only [Act.put, List.setIfInBounds_toArray, List.set_cons_zero, List.set_cons_succ]
      refine take_cell 7 _ _ (.agg #[.float .f32 (x (k * 3)), .float .f32 (x (k * 3 + 1)), .float .f32 (x (k * 3 + 2))]) rfl (by rfl) (by kernel_rfl) (by kernel_rfl) (by kernel_rfl) (fun wq hS => run_load_mid 51 _ b' (o' + k * 3) [.float .f32 (x (k * 3)), .float .f32 (x (k * 3 + 1)), .float .f32 (x (k * 3 + 2))] rfl (R2.out _ hS.1) _ Tryz.underlying51 rfl info_lev) rfl rfl kd ?_
      simp only [Act.put, List.setIfInBounds_toArray, List.set_cons_zero, List.set_cons_succ]
      refine wpAnyH_ready (rs := [8]) (by kernel_rfl) (by simp) ?_
      refine callK 8 _ _ (.bool true) kd rfl (by rfl) 25 #[.agg #[.float .f32 (x (k * 3)), .float .f32 (x (k * 3 + 1)), .float .f32 (x (k * 3 + 2))], .agg #[.float .f32 (x (k * 3)), .float .f32 (x (k * 3 + 1)), .float .f32 (x (k * 3 + 2))]] (fun w => by unfold execOp; go_simp) rfl rfl ?hc1 (fun w1 k1 => ?_) AllReadyH.nil
      case hc1 => exact eqLevel_any _ _ _ (HX.out _) (HX.out _) (HX.out _) _
      refine ⟨k1, ?_⟩
      simp only [Act.put, List.setIfInBounds_toArray, List.set_cons_zero, List.set_cons_succ]
      refine take_val 9 _ _ (.bool false) rfl (by rfl) (by kernel_rfl) (by kernel_rfl) (by kernel_rfl) (fun w => by unfold execOp; go_simp) rfl rfl k1 ?_
      simp only [Act.put, List.setIfInBounds_toArray, List.set_cons_zero, List.set_cons_succ]
      refine wpAnyH_done (by kernel_rfl) (NoPanic.normal ?_) _
      go_wp2
      go_roundw
      case rel => exact ⟨k + 1, by omega, by go_num, hid k1⟩
      case measure => simp [intOf]; omega
    · obtain rfl : k = n := by omega
      go_wp2
      go_ret
      exact ⟨rfl, h0.out.1⟩

theorem infoz_f32 : (Tryz.prog.info? 28).map (fun i => (i.zero, i.size, i.bytes)) = some (some (.float .f32 0), 1, 4) := by kernel_rfl

theorem info_f1 : (Tryz.prog.info? 28).map (·.size) = some 1 := by kernel_rfl

/-- A slice of n words that a call made. -/
def MadeF (n : Nat) (x : Nat → Nat) (w : World) (v : Value) (w' : World) : Prop := ∃ B cs cap, v = .slice (some ⟨B, 0, none⟩) n cap ∧ w.heap.size ≤ B ∧ LvV cs n (flV x) ∧ Kept w [(B, cs, 28)] w'

def Cnt (n : Int) : Prop := 0 ≤ n ∧ n ≤ 1000000000

def Bx (b : Nat → Int) : Prop := ∀ i, i < 21 → Cnt (b i)

theorem sFinite_fq (x : Nat) (hx : x < 4294967296) (h : finB x = false) (w : World) :
    Calls Tryz.prog 86 #[.float .f32 x] w fun e w' => e = .returned (.bool false) ∧ ∃ m, w' = w.drewN m := by
  obtain ⟨z, hr, h1, _⟩ := run_arith_nan (P := Tryz.prog) w .sub (by simp) 28 x x (sub_self_none hx h)
  have Hn := hid (show (FloatKind.f32.format.order z 0 == some .eq) = false by
    show (S.order z 0 == some .eq) = false
    rw [order_nan32 h1]; rfl)
  clear h hx h1
  go_enter Tryz.func86, Tryz.ntmps86
  go_wp2
  go_ret
  exact ⟨by simp [Hn.out], 1, rfl⟩

theorem sAmount_fq (x : Nat) (hx : x < 4294967296) (h : amtB x = false) (w : World) :
    Calls Tryz.prog 56 #[.float .f32 x] w fun e w' => e = .returned (.bool false) ∧ ∃ m, w' = w.drewN m := by
  rcases hf : finB x with _ | _
  · have Hx := hid hx
    have Hf := hid hf
    clear h hf hx
    go_enter Tryz.func56, Tryz.ntmps56
    go_wp2_with (go_at_call 86; refine (sFinite_fq x Hx.out Hf.out _).mono ?_; rintro e w' ⟨rfl, hb⟩)
    go_ret
    exact ⟨rfl, hb⟩
  · have hs : 2147483648 ≤ x := by
      rw [amtB_iff', INF_val] at h
      have := finB_iff.1 hf
      rw [INF_val] at this
      unfold mg at this
      omega
    have hg : (FloatKind.f32.format.order x 0 == some .gt) = false := order_neg_zero hx hf hs
    have hb : ((x : Int) == 0) = false := by simp; omega
    have Hx := hid hx
    have Hf := hid hf
    clear h hf hx hs
    go_enter Tryz.func56, Tryz.ntmps56
    go_wp2_with (go_at_call 86; refine (sFinite_t x Hx.out Hf.out _).mono ?_; rintro e w' ⟨rfl, rfl⟩)
    go_ret
    exact ⟨rfl, 0, rfl⟩

theorem info_lev3 : (Tryz.prog.info? 51).map (·.size) = some 3 := by kernel_rfl

@[go_sem] theorem semAtSome (l : Nat) (ρ : Operand → Value) (o : Oper) (h : ∀ c, o.op ≠ .defer c) : Oper.semAt (some l) ρ o = execOp ρ o := Oper.semAt_some l ρ o h

def encL (x : Nat → Nat) (k : Nat) : Array Value := #[.int .i64 (k : Int), .agg #[.float .f32 (x (k * 3)), .float .f32 (x (k * 3 + 1)), .float .f32 (x (k * 3 + 2)), .float .f32 (x ((k + 1) * 3)), .float .f32 (x ((k + 1) * 3 + 1)), .float .f32 (x ((k + 1) * 3 + 2))]]

theorem iNeighbours (p : Option Addr) (n cap : Nat) (w : World) :
    Calls Tryz.prog 50 #[.slice p n cap] w fun e w' => e = .returned (.func (.func 84) #[] #[.pointer (some ⟨w.heap.size, 0, none⟩)]) ∧ w' = w.alloc (.cells #[.slice p n cap] 22) := by
  have hmf : ∀ (fn : Fn) (first cap : Array Value) (w : World), (Instr.makeFunc fn first cap).run Tryz.prog w = .ok (.func fn first cap) w := fun _ _ _ _ => rfl
  go_enter Tryz.func50, Tryz.ntmps50
  go_wp2
  go_ret
  exact ⟨rfl, rfl⟩

set_option maxRecDepth 100000 in
set_option maxHeartbeats 4000000 in
theorem neighbours1_in (m : Nat) (l Bs n0 : Nat) (p : Option Addr) (n cap : Nat) (x : Nat → Nat) (hn : n ≤ 1048576) (J Jx : List (Fin (n - 1)) → World → Prop) (hAb : ∀ pre W, J pre W → J pre W.drew)
    (hY : ∀ pre (k : Fin (n - 1)) W, J pre W → pre.length < n - 1 → YieldAt Fence.wide (m - 1) Tryz.prog l (encL x k.1) W fun e W' =>
      (e = .returned (.bool true) ∧ J (pre ++ [k]) W' ∧ Below n0 W W') ∨ (e = .returned (.bool false) ∧ Jx (pre ++ [k]) W'))
    (W : World) (hB : Bs < n0) (hBs : W.cell? ⟨Bs, 0, none⟩ = some (.slice p n cap))
    (hc : 0 < n → ∃ b o, p = some ⟨b, o, none⟩ ∧ b < n0 ∧ ∀ k, k < 3 * n → W.cell? ⟨b, o + k, none⟩ = some (.float .f32 (x k))) (h0 : J [] W) :
    CallsIn Fence.wide m Tryz.prog 84 #[.func (.yield l) #[] #[], .pointer (some ⟨Bs, 0, none⟩)] W fun e W' => (∃ v, e = .returned v) ∧
      ((∃ ys, ys = List.finRange (n - 1) ∧ J ys W') ∨ (∃ pre, pre <+: List.finRange (n - 1) ∧ Jx pre W')) := by
  refine callsIn_of_wp Tryz.func84 rfl trivial ?_ rfl
  simp only [Tryz.ntmps84, List.size_toArray, List.length_cons, List.length_nil, Nat.reduceAdd, Nat.reduceSub, Array.replicate_succ, Array.replicate_zero, List.push_toArray, List.append_toArray, List.nil_append, List.cons_append]
  have HC := hid hc
  have HY := hid hY
  have HBS := hid hBs
  clear hc hY hBs
  gi_wp2
  gi_loopw [3] (fun i wr => ∃ k : Nat, k ≤ n - 1 ∧ i = .int .i64 ((k : Int) + 1) ∧ J ((List.finRange (n - 1)).take k) wr ∧ Hid (Below n0 W wr))
    (fun i _ => n - (intOf i).toNat)
  case atStart => exact ⟨0, Nat.zero_le _, rfl, h0, hid (Below.refl _ _)⟩
  case round =>
    obtain ⟨k, hk, rfl, hJs, hnx⟩ := hrel
    have hbx := hid ((hnx.out.cell (p := ⟨Bs, 0, none⟩) hB).trans HBS.out)
    have hbx' := hbx.out
    by_cases hlt : k + 1 < n
    · have HL := hid hlt
      have HN : Hid (k ≤ 1048576) := hid (by omega)
      obtain ⟨b, o, rfl, hb, hcell⟩ := HC.out (by omega)
      have hcw : ∀ j, j < 3 * n → wr.cell? ⟨b, o + j, none⟩ = some (.float .f32 (x j)) := fun j hj => (hnx.out.cell (p := ⟨b, o + j, none⟩) hb).trans (hcell j hj)
      have R0 := hid (row3 hcw (i := k) (by omega))
      have R1 := hid (row3 hcw (i := k + 1) hlt)
      obtain ⟨fn, tmps, assign, body, hy, hR⟩ := HY.out _ ⟨k, by omega⟩ wr.drew (hAb _ wr hJs) (by simp; omega)
      have hy := hid (show (Instr.yield l #[.int .i64 (k : Int), .agg #[.float .f32 (x (k * 3)), .float .f32 (x (k * 3 + 1)), .float .f32 (x (k * 3 + 2)), .float .f32 (x ((k + 1) * 3)), .float .f32 (x ((k + 1) * 3 + 1)), .float .f32 (x ((k + 1) * 3 + 2))]]).run Tryz.prog wr.drew = _ from hy)
      have hR := hid hR
      clear hcell hcw
      have hk3 : (k : Int) + 1 < (n : Int) := by omega
      gi_wp2
      clear hbx'
      refine regionIn_any 15 #[false, false, false, false, false, false, false, false, false, false, false, false, false, false, false] (by kernel_rfl) rfl rfl ?_
      refine takeIn 0 _ _ (.func (.yield l) #[] #[]) rfl rfl (by rfl) (by kernel_rfl) (by kernel_rfl) (by kernel_rfl) (fun w => by rfl) (fun _ => rfl) rfl rfl ?_
      simp only [Act.put, List.setIfInBounds_toArray, List.set_cons_zero, List.set_cons_succ]
      refine takeIn 1 _ _ (.int .i64 ((k : Int) + 1)) rfl rfl (by rfl) (by kernel_rfl) (by kernel_rfl) (by kernel_rfl) (fun w => by rfl) (fun _ => rfl) rfl rfl ?_
      simp only [Act.put, List.setIfInBounds_toArray, List.set_cons_zero, List.set_cons_succ]
      refine takeIn 2 _ _ (.int .i64 (k : Int)) rfl rfl (by rfl) (by kernel_rfl) (by kernel_rfl) (by kernel_rfl) (fun w => run_binop_val _ _ _ _ (by rfl) (by rfl) (by simp [eqGuard]) (run_pred HN.out w)) (fun _ => rfl) rfl rfl ?_
      simp only [Act.put, List.setIfInBounds_toArray, List.set_cons_zero, List.set_cons_succ]
      refine takeIn 4 _ _ (.int .i64 ((k : Int) + 1)) rfl rfl (by rfl) (by kernel_rfl) (by kernel_rfl) (by kernel_rfl) (fun w => by rfl) (fun _ => rfl) rfl rfl ?_
      simp only [Act.put, List.setIfInBounds_toArray, List.set_cons_zero, List.set_cons_succ]
      refine takeIn 5 _ _ (.int .i64 (k : Int)) rfl rfl (by rfl) (by kernel_rfl) (by kernel_rfl) (by kernel_rfl) (fun w => run_binop_val _ _ _ _ (by rfl) (by rfl) (by simp [eqGuard]) (run_pred HN.out w)) (fun _ => rfl) rfl rfl ?_
      simp only [Act.put, List.setIfInBounds_toArray, List.set_cons_zero, List.set_cons_succ]
      refine takeIn 9 _ _ (.int .i64 ((k : Int) + 1)) rfl rfl (by rfl) (by kernel_rfl) (by kernel_rfl) (by kernel_rfl) (fun w => by rfl) (fun _ => rfl) rfl rfl ?_
      simp only [Act.put, List.setIfInBounds_toArray, List.set_cons_zero, List.set_cons_succ]
      refine wpAnyIn_ready (rs := [3, 8]) (by kernel_rfl) (by simp) ?_
      refine readIn 3 _ _ (.slice (some ⟨b, o, none⟩) n cap) rfl rfl (by rfl) (run_load_cell _ _ ⟨Bs, 0, none⟩ _ rfl (run_loadVar_one Tryz.underlying22 rfl hbx.out)) rfl rfl rfl ?_ ?_
      · simp only [Act.put, List.setIfInBounds_toArray, List.set_cons_zero, List.set_cons_succ]
        refine takeIn 6 _ _ (.pointer (some ⟨b, o + k * 3, none⟩)) rfl rfl (by rfl) (by kernel_rfl) (by kernel_rfl) (by kernel_rfl) (fun w => run_index_op _ _ rfl rfl (run_indexAt Tryz.underlying22 info_lev (by have := HL.out; omega) w)) (fun _ => rfl) rfl rfl ?_
        simp only [Act.put, List.setIfInBounds_toArray, List.set_cons_zero, List.set_cons_succ]
        refine wpAnyIn_ready (rs := [7, 8]) (by kernel_rfl) (by simp) ?_
        refine readIn 7 _ _ (.agg #[.float .f32 (x (k * 3)), .float .f32 (x (k * 3 + 1)), .float .f32 (x (k * 3 + 2))]) rfl rfl (by rfl) (run_load_mid 51 _ b (o + k * 3) [.float .f32 (x (k * 3)), .float .f32 (x (k * 3 + 1)), .float .f32 (x (k * 3 + 2))] rfl (R0.out) _ Tryz.underlying51 rfl info_lev) rfl rfl rfl ?_ ?_
        · simp only [Act.put, List.setIfInBounds_toArray, List.set_cons_zero, List.set_cons_succ]
          refine wpAnyIn_ready (rs := [8]) (by kernel_rfl) (by simp) ?_
          refine readIn 8 _ _ (.slice (some ⟨b, o, none⟩) n cap) rfl rfl (by rfl) (run_load_cell _ _ ⟨Bs, 0, none⟩ _ rfl (run_loadVar_one Tryz.underlying22 rfl hbx.out)) rfl rfl rfl ?_ AllReadyIn.nil
          simp only [Act.put, List.setIfInBounds_toArray, List.set_cons_zero, List.set_cons_succ]
          refine takeIn 10 _ _ (.pointer (some ⟨b, o + (k + 1) * 3, none⟩)) rfl rfl (by rfl) (by kernel_rfl) (by kernel_rfl) (by kernel_rfl) (fun w => run_index_op _ _ rfl rfl (run_indexAt Tryz.underlying22 info_lev (by have := HL.out; omega) w)) (fun _ => rfl) rfl rfl ?_
          simp only [Act.put, List.setIfInBounds_toArray, List.set_cons_zero, List.set_cons_succ]
          refine wpAnyIn_ready (rs := [11]) (by kernel_rfl) (by simp) ?_
          refine readIn 11 _ _ (.agg #[.float .f32 (x ((k + 1) * 3)), .float .f32 (x ((k + 1) * 3 + 1)), .float .f32 (x ((k + 1) * 3 + 2))]) rfl rfl (by rfl) (run_load_mid 51 _ b (o + (k + 1) * 3) [.float .f32 (x ((k + 1) * 3)), .float .f32 (x ((k + 1) * 3 + 1)), .float .f32 (x ((k + 1) * 3 + 2))] rfl (R1.out) _ Tryz.underlying51 rfl info_lev) rfl rfl rfl ?_ AllReadyIn.nil
          simp only [Act.put, List.setIfInBounds_toArray, List.set_cons_zero, List.set_cons_succ]
          refine takeIn 12 _ _ (.agg #[.float .f32 (x (k * 3)), .float .f32 (x (k * 3 + 1)), .float .f32 (x (k * 3 + 2)), .float .f32 (x ((k + 1) * 3)), .float .f32 (x ((k + 1) * 3 + 1)), .float .f32 (x ((k + 1) * 3 + 2))]) rfl rfl (by rfl) (by kernel_rfl) (by kernel_rfl) (by kernel_rfl) (fun w => by unfold execOp; go_simp) (fun _ => rfl) rfl rfl ?_
          simp only [Act.put, List.setIfInBounds_toArray, List.set_cons_zero, List.set_cons_succ]
          refine wpAnyIn_ready (rs := [13]) (by kernel_rfl) (by simp) ?_
          refine yieldIn (F := Fence.wide) (l := l) (fn := fn) (tmps := tmps) (assign := assign) (body := body) 13 rfl rfl (by rfl) (by have hy2 := hy.out; unfold execOp; go_simp) (fun _ _ => True.intro) (fun h => by cases h) hR.out (fun e W3 hr => ?_) AllReadyIn.nil
          rcases hr with ⟨rfl, hJ3, hk3⟩ | ⟨rfl, hJx3⟩
          · refine ⟨.bool true, rfl, ?_⟩
            simp only [Act.put, List.setIfInBounds_toArray, List.set_cons_zero, List.set_cons_succ]
            refine takeIn 14 _ _ (.bool false) rfl rfl (by rfl) (by kernel_rfl) (by kernel_rfl) (by kernel_rfl) (fun w => by unfold execOp; go_simp) (fun _ => rfl) rfl rfl ?_
            simp only [Act.put, List.setIfInBounds_toArray, List.set_cons_zero, List.set_cons_succ]
            refine wpAnyIn_done (by kernel_rfl) (NoPanic.normal ?_) _
            gi_wp2
            go_roundw
            case rel => exact ⟨k + 1, by omega, by go_num, by rw [take_fin (m := n - 1) (k := k) (by omega)]; exact hJ3, hid (hnx.out.drew.trans hk3)⟩
            case measure => simp [intOf]; omega
          · refine ⟨.bool false, rfl, ?_⟩
            simp only [Act.put, List.setIfInBounds_toArray, List.set_cons_zero, List.set_cons_succ]
            refine takeIn 14 _ _ (.bool true) rfl rfl (by rfl) (by kernel_rfl) (by kernel_rfl) (by kernel_rfl) (fun w => by unfold execOp; go_simp) (fun _ => rfl) rfl rfl ?_
            simp only [Act.put, List.setIfInBounds_toArray, List.set_cons_zero, List.set_cons_succ]
            refine wpAnyIn_done (by kernel_rfl) (NoPanic.normal ?_) _
            gi_wp2
            refine bodyPost_ret (results_none rfl _ _ _) rfl ?_
            exact ⟨⟨_, rfl⟩, .inr ⟨_, by rw [← take_fin (m := n - 1) (k := k) (by omega)]; exact List.take_prefix _ _, hJx3⟩⟩
        refine readIn 8 _ _ (.slice (some ⟨b, o, none⟩) n cap) rfl rfl (by rfl) (run_load_cell _ _ ⟨Bs, 0, none⟩ _ rfl (run_loadVar_one Tryz.underlying22 rfl hbx.out)) rfl rfl rfl ?_ AllReadyIn.nil
        simp only [Act.put, List.setIfInBounds_toArray, List.set_cons_zero, List.set_cons_succ]
        refine takeIn 10 _ _ (.pointer (some ⟨b, o + (k + 1) * 3, none⟩)) rfl rfl (by rfl) (by kernel_rfl) (by kernel_rfl) (by kernel_rfl) (fun w => run_index_op _ _ rfl rfl (run_indexAt Tryz.underlying22 info_lev (by have := HL.out; omega) w)) (fun _ => rfl) rfl rfl ?_
        simp only [Act.put, List.setIfInBounds_toArray, List.set_cons_zero, List.set_cons_succ]
        refine wpAnyIn_ready (rs := [7, 11]) (by kernel_rfl) (by simp) ?_
        refine readIn 7 _ _ (.agg #[.float .f32 (x (k * 3)), .float .f32 (x (k * 3 + 1)), .float .f32 (x (k * 3 + 2))]) rfl rfl (by rfl) (run_load_mid 51 _ b (o + k * 3) [.float .f32 (x (k * 3)), .float .f32 (x (k * 3 + 1)), .float .f32 (x (k * 3 + 2))] rfl (R0.out) _ Tryz.underlying51 rfl info_lev) rfl rfl rfl ?_ ?_
        · simp only [Act.put, List.setIfInBounds_toArray, List.set_cons_zero, List.set_cons_succ]
          refine wpAnyIn_ready (rs := [11]) (by kernel_rfl) (by simp) ?_
          refine readIn 11 _ _ (.agg #[.float .f32 (x ((k + 1) * 3)), .float .f32 (x ((k + 1) * 3 + 1)), .float .f32 (x ((k + 1) * 3 + 2))]) rfl rfl (by rfl) (run_load_mid 51 _ b (o + (k + 1) * 3) [.float .f32 (x ((k + 1) * 3)), .float .f32 (x ((k + 1) * 3 + 1)), .float .f32 (x ((k + 1) * 3 + 2))] rfl (R1.out) _ Tryz.underlying51 rfl info_lev) rfl rfl rfl ?_ AllReadyIn.nil
          simp only [Act.put, List.setIfInBounds_toArray, List.set_cons_zero, List.set_cons_succ]
          refine takeIn 12 _ _ (.agg #[.float .f32 (x (k * 3)), .float .f32 (x (k * 3 + 1)), .float .f32 (x (k * 3 + 2)), .float .f32 (x ((k + 1) * 3)), .float .f32 (x ((k + 1) * 3 + 1)), .float .f32 (x ((k + 1) * 3 + 2))]) rfl rfl (by rfl) (by kernel_rfl) (by kernel_rfl) (by kernel_rfl) (fun w => by unfold execOp; go_simp) (fun _ => rfl) rfl rfl ?_
          simp only [Act.put, List.setIfInBounds_toArray, List.set_cons_zero, List.set_cons_succ]
          refine wpAnyIn_ready (rs := [13]) (by kernel_rfl) (by simp) ?_
          refine yieldIn (F := Fence.wide) (l := l) (fn := fn) (tmps := tmps) (assign := assign) (body := body) 13 rfl rfl (by rfl) (by have hy2 := hy.out; unfold execOp; go_simp) (fun _ _ => True.intro) (fun h => by cases h) hR.out (fun e W3 hr => ?_) AllReadyIn.nil
          rcases hr with ⟨rfl, hJ3, hk3⟩ | ⟨rfl, hJx3⟩
          · refine ⟨.bool true, rfl, ?_⟩
            simp only [Act.put, List.setIfInBounds_toArray, List.set_cons_zero, List.set_cons_succ]
            refine takeIn 14 _ _ (.bool false) rfl rfl (by rfl) (by kernel_rfl) (by kernel_rfl) (by kernel_rfl) (fun w => by unfold execOp; go_simp) (fun _ => rfl) rfl rfl ?_
            simp only [Act.put, List.setIfInBounds_toArray, List.set_cons_zero, List.set_cons_succ]
            refine wpAnyIn_done (by kernel_rfl) (NoPanic.normal ?_) _
            gi_wp2
            go_roundw
            case rel => exact ⟨k + 1, by omega, by go_num, by rw [take_fin (m := n - 1) (k := k) (by omega)]; exact hJ3, hid (hnx.out.drew.trans hk3)⟩
            case measure => simp [intOf]; omega
          · refine ⟨.bool false, rfl, ?_⟩
            simp only [Act.put, List.setIfInBounds_toArray, List.set_cons_zero, List.set_cons_succ]
            refine takeIn 14 _ _ (.bool true) rfl rfl (by rfl) (by kernel_rfl) (by kernel_rfl) (by kernel_rfl) (fun w => by unfold execOp; go_simp) (fun _ => rfl) rfl rfl ?_
            simp only [Act.put, List.setIfInBounds_toArray, List.set_cons_zero, List.set_cons_succ]
            refine wpAnyIn_done (by kernel_rfl) (NoPanic.normal ?_) _
            gi_wp2
            refine bodyPost_ret (results_none rfl _ _ _) rfl ?_
            exact ⟨⟨_, rfl⟩, .inr ⟨_, by rw [← take_fin (m := n - 1) (k := k) (by omega)]; exact List.take_prefix _ _, hJx3⟩⟩
        refine readIn 11 _ _ (.agg #[.float .f32 (x ((k + 1) * 3)), .float .f32 (x ((k + 1) * 3 + 1)), .float .f32 (x ((k + 1) * 3 + 2))]) rfl rfl (by rfl) (run_load_mid 51 _ b (o + (k + 1) * 3) [.float .f32 (x ((k + 1) * 3)), .float .f32 (x ((k + 1) * 3 + 1)), .float .f32 (x ((k + 1) * 3 + 2))] rfl (R1.out) _ Tryz.underlying51 rfl info_lev) rfl rfl rfl ?_ AllReadyIn.nil
        simp only [Act.put, List.setIfInBounds_toArray, List.set_cons_zero, List.set_cons_succ]
        refine wpAnyIn_ready (rs := [7]) (by kernel_rfl) (by simp) ?_
        refine readIn 7 _ _ (.agg #[.float .f32 (x (k * 3)), .float .f32 (x (k * 3 + 1)), .float .f32 (x (k * 3 + 2))]) rfl rfl (by rfl) (run_load_mid 51 _ b (o + k * 3) [.float .f32 (x (k * 3)), .float .f32 (x (k * 3 + 1)), .float .f32 (x (k * 3 + 2))] rfl (R0.out) _ Tryz.underlying51 rfl info_lev) rfl rfl rfl ?_ AllReadyIn.nil
        simp only [Act.put, List.setIfInBounds_toArray, List.set_cons_zero, List.set_cons_succ]
        refine takeIn 12 _ _ (.agg #[.float .f32 (x (k * 3)), .float .f32 (x (k * 3 + 1)), .float .f32 (x (k * 3 + 2)), .float .f32 (x ((k + 1) * 3)), .float .f32 (x ((k + 1) * 3 + 1)), .float .f32 (x ((k + 1) * 3 + 2))]) rfl rfl (by rfl) (by kernel_rfl) (by kernel_rfl) (by kernel_rfl) (fun w => by unfold execOp; go_simp) (fun _ => rfl) rfl rfl ?_
        simp only [Act.put, List.setIfInBounds_toArray, List.set_cons_zero, List.set_cons_succ]
        refine wpAnyIn_ready (rs := [13]) (by kernel_rfl) (by simp) ?_
        refine yieldIn (F := Fence.wide) (l := l) (fn := fn) (tmps := tmps) (assign := assign) (body := body) 13 rfl rfl (by rfl) (by have hy2 := hy.out; unfold execOp; go_simp) (fun _ _ => True.intro) (fun h => by cases h) hR.out (fun e W3 hr => ?_) AllReadyIn.nil
        rcases hr with ⟨rfl, hJ3, hk3⟩ | ⟨rfl, hJx3⟩
        · refine ⟨.bool true, rfl, ?_⟩
          simp only [Act.put, List.setIfInBounds_toArray, List.set_cons_zero, List.set_cons_succ]
          refine takeIn 14 _ _ (.bool false) rfl rfl (by rfl) (by kernel_rfl) (by kernel_rfl) (by kernel_rfl) (fun w => by unfold execOp; go_simp) (fun _ => rfl) rfl rfl ?_
          simp only [Act.put, List.setIfInBounds_toArray, List.set_cons_zero, List.set_cons_succ]
          refine wpAnyIn_done (by kernel_rfl) (NoPanic.normal ?_) _
          gi_wp2
          go_roundw
          case rel => exact ⟨k + 1, by omega, by go_num, by rw [take_fin (m := n - 1) (k := k) (by omega)]; exact hJ3, hid (hnx.out.drew.trans hk3)⟩
          case measure => simp [intOf]; omega
        · refine ⟨.bool false, rfl, ?_⟩
          simp only [Act.put, List.setIfInBounds_toArray, List.set_cons_zero, List.set_cons_succ]
          refine takeIn 14 _ _ (.bool true) rfl rfl (by rfl) (by kernel_rfl) (by kernel_rfl) (by kernel_rfl) (fun w => by unfold execOp; go_simp) (fun _ => rfl) rfl rfl ?_
          simp only [Act.put, List.setIfInBounds_toArray, List.set_cons_zero, List.set_cons_succ]
          refine wpAnyIn_done (by kernel_rfl) (NoPanic.normal ?_) _
          gi_wp2
          refine bodyPost_ret (results_none rfl _ _ _) rfl ?_
          exact ⟨⟨_, rfl⟩, .inr ⟨_, by rw [← take_fin (m := n - 1) (k := k) (by omega)]; exact List.take_prefix _ _, hJx3⟩⟩
      refine readIn 8 _ _ (.slice (some ⟨b, o, none⟩) n cap) rfl rfl (by rfl) (run_load_cell _ _ ⟨Bs, 0, none⟩ _ rfl (run_loadVar_one Tryz.underlying22 rfl hbx.out)) rfl rfl rfl ?_ AllReadyIn.nil
      simp only [Act.put, List.setIfInBounds_toArray, List.set_cons_zero, List.set_cons_succ]
      refine takeIn 10 _ _ (.pointer (some ⟨b, o + (k + 1) * 3, none⟩)) rfl rfl (by rfl) (by kernel_rfl) (by kernel_rfl) (by kernel_rfl) (fun w => run_index_op _ _ rfl rfl (run_indexAt Tryz.underlying22 info_lev (by have := HL.out; omega) w)) (fun _ => rfl) rfl rfl ?_
      simp only [Act.put, List.setIfInBounds_toArray, List.set_cons_zero, List.set_cons_succ]
      refine wpAnyIn_ready (rs := [3, 11]) (by kernel_rfl) (by simp) ?_
      refine readIn 3 _ _ (.slice (some ⟨b, o, none⟩) n cap) rfl rfl (by rfl) (run_load_cell _ _ ⟨Bs, 0, none⟩ _ rfl (run_loadVar_one Tryz.underlying22 rfl hbx.out)) rfl rfl rfl ?_ ?_
      · simp only [Act.put, List.setIfInBounds_toArray, List.set_cons_zero, List.set_cons_succ]
        refine takeIn 6 _ _ (.pointer (some ⟨b, o + k * 3, none⟩)) rfl rfl (by rfl) (by kernel_rfl) (by kernel_rfl) (by kernel_rfl) (fun w => run_index_op _ _ rfl rfl (run_indexAt Tryz.underlying22 info_lev (by have := HL.out; omega) w)) (fun _ => rfl) rfl rfl ?_
        simp only [Act.put, List.setIfInBounds_toArray, List.set_cons_zero, List.set_cons_succ]
        refine wpAnyIn_ready (rs := [7, 11]) (by kernel_rfl) (by simp) ?_
        refine readIn 7 _ _ (.agg #[.float .f32 (x (k * 3)), .float .f32 (x (k * 3 + 1)), .float .f32 (x (k * 3 + 2))]) rfl rfl (by rfl) (run_load_mid 51 _ b (o + k * 3) [.float .f32 (x (k * 3)), .float .f32 (x (k * 3 + 1)), .float .f32 (x (k * 3 + 2))] rfl (R0.out) _ Tryz.underlying51 rfl info_lev) rfl rfl rfl ?_ ?_
        · simp only [Act.put, List.setIfInBounds_toArray, List.set_cons_zero, List.set_cons_succ]
          refine wpAnyIn_ready (rs := [11]) (by kernel_rfl) (by simp) ?_
          refine readIn 11 _ _ (.agg #[.float .f32 (x ((k + 1) * 3)), .float .f32 (x ((k + 1) * 3 + 1)), .float .f32 (x ((k + 1) * 3 + 2))]) rfl rfl (by rfl) (run_load_mid 51 _ b (o + (k + 1) * 3) [.float .f32 (x ((k + 1) * 3)), .float .f32 (x ((k + 1) * 3 + 1)), .float .f32 (x ((k + 1) * 3 + 2))] rfl (R1.out) _ Tryz.underlying51 rfl info_lev) rfl rfl rfl ?_ AllReadyIn.nil
          simp only [Act.put, List.setIfInBounds_toArray, List.set_cons_zero, List.set_cons_succ]
          refine takeIn 12 _ _ (.agg #[.float .f32 (x (k * 3)), .float .f32 (x (k * 3 + 1)), .float .f32 (x (k * 3 + 2)), .float .f32 (x ((k + 1) * 3)), .float .f32 (x ((k + 1) * 3 + 1)), .float .f32 (x ((k + 1) * 3 + 2))]) rfl rfl (by rfl) (by kernel_rfl) (by kernel_rfl) (by kernel_rfl) (fun w => by unfold execOp; go_simp) (fun _ => rfl) rfl rfl ?_
          simp only [Act.put, List.setIfInBounds_toArray, List.set_cons_zero, List.set_cons_succ]
          refine wpAnyIn_ready (rs := [13]) (by kernel_rfl) (by simp) ?_
          refine yieldIn (F := Fence.wide) (l := l) (fn := fn) (tmps := tmps) (assign := assign) (body := body) 13 rfl rfl (by rfl) (by have hy2 := hy.out; unfold execOp; go_simp) (fun _ _ => True.intro) (fun h => by cases h) hR.out (fun e W3 hr => ?_) AllReadyIn.nil
          rcases hr with ⟨rfl, hJ3, hk3⟩ | ⟨rfl, hJx3⟩
          · refine ⟨.bool true, rfl, ?_⟩
            simp only [Act.put, List.setIfInBounds_toArray, List.set_cons_zero, List.set_cons_succ]
            refine takeIn 14 _ _ (.bool false) rfl rfl (by rfl) (by kernel_rfl) (by kernel_rfl) (by kernel_rfl) (fun w => by unfold execOp; go_simp) (fun _ => rfl) rfl rfl ?_
            simp only [Act.put, List.setIfInBounds_toArray, List.set_cons_zero, List.set_cons_succ]
            refine wpAnyIn_done (by kernel_rfl) (NoPanic.normal ?_) _
            gi_wp2
            go_roundw
            case rel => exact ⟨k + 1, by omega, by go_num, by rw [take_fin (m := n - 1) (k := k) (by omega)]; exact hJ3, hid (hnx.out.drew.trans hk3)⟩
            case measure => simp [intOf]; omega
          · refine ⟨.bool false, rfl, ?_⟩
            simp only [Act.put, List.setIfInBounds_toArray, List.set_cons_zero, List.set_cons_succ]
            refine takeIn 14 _ _ (.bool true) rfl rfl (by rfl) (by kernel_rfl) (by kernel_rfl) (by kernel_rfl) (fun w => by unfold execOp; go_simp) (fun _ => rfl) rfl rfl ?_
            simp only [Act.put, List.setIfInBounds_toArray, List.set_cons_zero, List.set_cons_succ]
            refine wpAnyIn_done (by kernel_rfl) (NoPanic.normal ?_) _
            gi_wp2
            refine bodyPost_ret (results_none rfl _ _ _) rfl ?_
            exact ⟨⟨_, rfl⟩, .inr ⟨_, by rw [← take_fin (m := n - 1) (k := k) (by omega)]; exact List.take_prefix _ _, hJx3⟩⟩
        refine readIn 11 _ _ (.agg #[.float .f32 (x ((k + 1) * 3)), .float .f32 (x ((k + 1) * 3 + 1)), .float .f32 (x ((k + 1) * 3 + 2))]) rfl rfl (by rfl) (run_load_mid 51 _ b (o + (k + 1) * 3) [.float .f32 (x ((k + 1) * 3)), .float .f32 (x ((k + 1) * 3 + 1)), .float .f32 (x ((k + 1) * 3 + 2))] rfl (R1.out) _ Tryz.underlying51 rfl info_lev) rfl rfl rfl ?_ AllReadyIn.nil
        simp only [Act.put, List.setIfInBounds_toArray, List.set_cons_zero, List.set_cons_succ]
        refine wpAnyIn_ready (rs := [7]) (by kernel_rfl) (by simp) ?_
        refine readIn 7 _ _ (.agg #[.float .f32 (x (k * 3)), .float .f32 (x (k * 3 + 1)), .float .f32 (x (k * 3 + 2))]) rfl rfl (by rfl) (run_load_mid 51 _ b (o + k * 3) [.float .f32 (x (k * 3)), .float .f32 (x (k * 3 + 1)), .float .f32 (x (k * 3 + 2))] rfl (R0.out) _ Tryz.underlying51 rfl info_lev) rfl rfl rfl ?_ AllReadyIn.nil
        simp only [Act.put, List.setIfInBounds_toArray, List.set_cons_zero, List.set_cons_succ]
        refine takeIn 12 _ _ (.agg #[.float .f32 (x (k * 3)), .float .f32 (x (k * 3 + 1)), .float .f32 (x (k * 3 + 2)), .float .f32 (x ((k + 1) * 3)), .float .f32 (x ((k + 1) * 3 + 1)), .float .f32 (x ((k + 1) * 3 + 2))]) rfl rfl (by rfl) (by kernel_rfl) (by kernel_rfl) (by kernel_rfl) (fun w => by unfold execOp; go_simp) (fun _ => rfl) rfl rfl ?_
        simp only [Act.put, List.setIfInBounds_toArray, List.set_cons_zero, List.set_cons_succ]
        refine wpAnyIn_ready (rs := [13]) (by kernel_rfl) (by simp) ?_
        refine yieldIn (F := Fence.wide) (l := l) (fn := fn) (tmps := tmps) (assign := assign) (body := body) 13 rfl rfl (by rfl) (by have hy2 := hy.out; unfold execOp; go_simp) (fun _ _ => True.intro) (fun h => by cases h) hR.out (fun e W3 hr => ?_) AllReadyIn.nil
        rcases hr with ⟨rfl, hJ3, hk3⟩ | ⟨rfl, hJx3⟩
        · refine ⟨.bool true, rfl, ?_⟩
          simp only [Act.put, List.setIfInBounds_toArray, List.set_cons_zero, List.set_cons_succ]
          refine takeIn 14 _ _ (.bool false) rfl rfl (by rfl) (by kernel_rfl) (by kernel_rfl) (by kernel_rfl) (fun w => by unfold execOp; go_simp) (fun _ => rfl) rfl rfl ?_
          simp only [Act.put, List.setIfInBounds_toArray, List.set_cons_zero, List.set_cons_succ]
          refine wpAnyIn_done (by kernel_rfl) (NoPanic.normal ?_) _
          gi_wp2
          go_roundw
          case rel => exact ⟨k + 1, by omega, by go_num, by rw [take_fin (m := n - 1) (k := k) (by omega)]; exact hJ3, hid (hnx.out.drew.trans hk3)⟩
          case measure => simp [intOf]; omega
        · refine ⟨.bool false, rfl, ?_⟩
          simp only [Act.put, List.setIfInBounds_toArray, List.set_cons_zero, List.set_cons_succ]
          refine takeIn 14 _ _ (.bool true) rfl rfl (by rfl) (by kernel_rfl) (by kernel_rfl) (by kernel_rfl) (fun w => by unfold execOp; go_simp) (fun _ => rfl) rfl rfl ?_
          simp only [Act.put, List.setIfInBounds_toArray, List.set_cons_zero, List.set_cons_succ]
          refine wpAnyIn_done (by kernel_rfl) (NoPanic.normal ?_) _
          gi_wp2
          refine bodyPost_ret (results_none rfl _ _ _) rfl ?_
          exact ⟨⟨_, rfl⟩, .inr ⟨_, by rw [← take_fin (m := n - 1) (k := k) (by omega)]; exact List.take_prefix _ _, hJx3⟩⟩
      refine readIn 11 _ _ (.agg #[.float .f32 (x ((k + 1) * 3)), .float .f32 (x ((k + 1) * 3 + 1)), .float .f32 (x ((k + 1) * 3 + 2))]) rfl rfl (by rfl) (run_load_mid 51 _ b (o + (k + 1) * 3) [.float .f32 (x ((k + 1) * 3)), .float .f32 (x ((k + 1) * 3 + 1)), .float .f32 (x ((k + 1) * 3 + 2))] rfl (R1.out) _ Tryz.underlying51 rfl info_lev) rfl rfl rfl ?_ AllReadyIn.nil
      simp only [Act.put, List.setIfInBounds_toArray, List.set_cons_zero, List.set_cons_succ]
      refine wpAnyIn_ready (rs := [3]) (by kernel_rfl) (by simp) ?_
      refine readIn 3 _ _ (.slice (some ⟨b, o, none⟩) n cap) rfl rfl (by rfl) (run_load_cell _ _ ⟨Bs, 0, none⟩ _ rfl (run_loadVar_one Tryz.underlying22 rfl hbx.out)) rfl rfl rfl ?_ AllReadyIn.nil
      simp only [Act.put, List.setIfInBounds_toArray, List.set_cons_zero, List.set_cons_succ]
      refine takeIn 6 _ _ (.pointer (some ⟨b, o + k * 3, none⟩)) rfl rfl (by rfl) (by kernel_rfl) (by kernel_rfl) (by kernel_rfl) (fun w => run_index_op _ _ rfl rfl (run_indexAt Tryz.underlying22 info_lev (by have := HL.out; omega) w)) (fun _ => rfl) rfl rfl ?_
      simp only [Act.put, List.setIfInBounds_toArray, List.set_cons_zero, List.set_cons_succ]
      refine wpAnyIn_ready (rs := [7]) (by kernel_rfl) (by simp) ?_
      refine readIn 7 _ _ (.agg #[.float .f32 (x (k * 3)), .float .f32 (x (k * 3 + 1)), .float .f32 (x (k * 3 + 2))]) rfl rfl (by rfl) (run_load_mid 51 _ b (o + k * 3) [.float .f32 (x (k * 3)), .float .f32 (x (k * 3 + 1)), .float .f32 (x (k * 3 + 2))] rfl (R0.out) _ Tryz.underlying51 rfl info_lev) rfl rfl rfl ?_ AllReadyIn.nil
      simp only [Act.put, List.setIfInBounds_toArray, List.set_cons_zero, List.set_cons_succ]
      refine takeIn 12 _ _ (.agg #[.float .f32 (x (k * 3)), .float .f32 (x (k * 3 + 1)), .float .f32 (x (k * 3 + 2)), .float .f32 (x ((k + 1) * 3)), .float .f32 (x ((k + 1) * 3 + 1)), .float .f32 (x ((k + 1) * 3 + 2))]) rfl rfl (by rfl) (by kernel_rfl) (by kernel_rfl) (by kernel_rfl) (fun w => by unfold execOp; go_simp) (fun _ => rfl) rfl rfl ?_
      simp only [Act.put, List.setIfInBounds_toArray, List.set_cons_zero, List.set_cons_succ]
      refine wpAnyIn_ready (rs := [13]) (by kernel_rfl) (by simp) ?_
      refine yieldIn (F := Fence.wide) (l := l) (fn := fn) (tmps := tmps) (assign := assign) (body := body) 13 rfl rfl (by rfl) (by have hy2 := hy.out; unfold execOp; go_simp) (fun _ _ => True.intro) (fun h => by cases h) hR.out (fun e W3 hr => ?_) AllReadyIn.nil
      rcases hr with ⟨rfl, hJ3, hk3⟩ | ⟨rfl, hJx3⟩
      · refine ⟨.bool true, rfl, ?_⟩
        simp only [Act.put, List.setIfInBounds_toArray, List.set_cons_zero, List.set_cons_succ]
        refine takeIn 14 _ _ (.bool false) rfl rfl (by rfl) (by kernel_rfl) (by kernel_rfl) (by kernel_rfl) (fun w => by unfold execOp; go_simp) (fun _ => rfl) rfl rfl ?_
        simp only [Act.put, List.setIfInBounds_toArray, List.set_cons_zero, List.set_cons_succ]
        refine wpAnyIn_done (by kernel_rfl) (NoPanic.normal ?_) _
        gi_wp2
        go_roundw
        case rel => exact ⟨k + 1, by omega, by go_num, by rw [take_fin (m := n - 1) (k := k) (by omega)]; exact hJ3, hid (hnx.out.drew.trans hk3)⟩
        case measure => simp [intOf]; omega
      · refine ⟨.bool false, rfl, ?_⟩
        simp only [Act.put, List.setIfInBounds_toArray, List.set_cons_zero, List.set_cons_succ]
        refine takeIn 14 _ _ (.bool true) rfl rfl (by rfl) (by kernel_rfl) (by kernel_rfl) (by kernel_rfl) (fun w => by unfold execOp; go_simp) (fun _ => rfl) rfl rfl ?_
        simp only [Act.put, List.setIfInBounds_toArray, List.set_cons_zero, List.set_cons_succ]
        refine wpAnyIn_done (by kernel_rfl) (NoPanic.normal ?_) _
        gi_wp2
        refine bodyPost_ret (results_none rfl _ _ _) rfl ?_
        exact ⟨⟨_, rfl⟩, .inr ⟨_, by rw [← take_fin (m := n - 1) (k := k) (by omega)]; exact List.take_prefix _ _, hJx3⟩⟩
    · have hk3 : ¬ (k : Int) + 1 < (n : Int) := by omega
      gi_wp2
      go_end0
      refine ⟨⟨_, rfl⟩, .inl ?_⟩
      have e : (List.finRange (n - 1)).take k = List.finRange (n - 1) := List.take_of_length_le (by simp; omega)
      rw [e] at hJs
      exact hJs

theorem neighbours_stops (m : Nat) (Bs n0 : Nat) (p : Option Addr) (n cap : Nat) (x : Nat → Nat) (hn : n ≤ 1048576) (w : World) (hB : Bs < n0) (hn0 : n0 ≤ w.heap.size)
    (hBs : w.cell? ⟨Bs, 0, none⟩ = some (.slice p n cap)) (hc : 0 < n → ∃ b o, p = some ⟨b, o, none⟩ ∧ b < n0 ∧ ∀ k, k < 3 * n → w.cell? ⟨b, o + k, none⟩ = some (.float .f32 (x k))) :
    SeqStopsK Fence.wide m Tryz.prog 84 #[.pointer (some ⟨Bs, 0, none⟩)] (fun k : Fin (n - 1) => encL x k.1) (Below n0) (fun ys => ys = List.finRange (n - 1)) (fun pre => pre <+: List.finRange (n - 1)) (n - 1) w := fun l J Jx W hW hA _ hY h0 =>
  neighbours1_in m l Bs n0 p n cap x hn J Jx (fun pre W1 hj => hA pre W1 W1.drew none hj ⟨rfl, rfl, rfl, Nat.le_refl _, fun _ _ _ => rfl⟩ (fun r e => by cases e)) hY W hB ((hW.cell (p := ⟨Bs, 0, none⟩) (show Bs < _ by omega)).trans hBs) (fun hp => by
    obtain ⟨b, o, e, hb, hk⟩ := hc hp
    exact ⟨b, o, e, hb, fun j hj => (hW.cell (p := ⟨b, o + j, none⟩) (show b < _ by omega)).trans (hk j hj)⟩) h0

theorem sHgtQ (x : Nat) (hx : x < 4294967296) (q : Bool) (hq : hgtB x = q) (w : World) :
    Calls Tryz.prog 44 #[.float .f32 x] w fun e w' => e = .returned (.bool q) ∧ ∃ m, w' = w.drewN m := by
  have e1 : hgtB x = (amtB x && (FloatKind.f32.format.order x 1106247680 == some .lt || FloatKind.f32.format.order x 1106247680 == some .eq)) := rfl
  rw [e1] at hq
  have Hx := hid hx
  clear e1 hx
  rcases a : amtB x with _ | _
  · have Ha := hid a
    rw [a] at hq
    simp only [Bool.false_and] at hq
    subst hq
    clear a
    go_enter Tryz.func44, Tryz.ntmps44
    go_wp2_with fail
    refine (sAmount_fq x Hx.out Ha.out _).mono ?_
    rintro e w1 ⟨rfl, m, rfl⟩
    go_wp2
    go_ret
    exact ⟨rfl, m, rfl⟩
  · have Ha := hid a
    rw [a] at hq
    simp only [Bool.true_and] at hq
    clear a
    cases q
    all_goals
      go_enter Tryz.func44, Tryz.ntmps44
      go_wp2_with fail
      refine (sAmount_t x Ha.out _).mono ?_
      rintro e w1 ⟨rfl, rfl⟩
      go_wp2
      go_ret
      exact ⟨rfl, 0, rfl⟩

set_option maxRecDepth 100000 in
theorem sAirAtQ (h v : Nat) (hv : v < 4294967296) (q : Bool) (hq : airB h v = q) (w : World) (g o : Nat) (c0 : w.cell? ⟨g, o, none⟩ = some (.float .f32 h)) (c1 : w.cell? ⟨g, o + 1, none⟩ = some (.float .f32 v)) :
    Calls Tryz.prog 45 #[.pointer (some ⟨g, o, none⟩)] w fun e w' => e = .returned (.bool q) ∧ ∃ m, w' = w.drewN m := by
  cases q
  · have Hv := hid hv
    have e1 : airB h v = (heatB h && amtB v && vapB v) := rfl
    rw [e1] at hq
    clear hv e1
    rcases a : heatB h with _ | _
    · have Ha := hid a
      clear a hq
      go_enter Tryz.func45, Tryz.ntmps45
      go_wp2_with fail
      refine (sHeat h false Ha.out _).mono ?_
      rintro e w1 ⟨rfl, rfl⟩
      go_wp2
      go_ret
      exact ⟨rfl, 0, rfl⟩
    · have Ha := hid a
      rw [a] at hq
      clear a
      rcases b : amtB v with _ | _
      · have Hb := hid b
        clear b hq
        go_enter Tryz.func45, Tryz.ntmps45
        go_wp2_with fail
        refine (sHeat h true Ha.out _).mono ?_
        rintro e w1 ⟨rfl, rfl⟩
        go_wp2_with fail
        refine (sAmount_fq v Hv.out Hb.out _).mono ?_
        rintro e w1 ⟨rfl, m, rfl⟩
        go_wp2
        go_ret
        exact ⟨rfl, m, rfl⟩
      · have Hb := hid b
        rw [b] at hq
        simp only [Bool.true_and] at hq
        have hc : (FloatKind.f32.format.order v 1148846080 == some .lt || FloatKind.f32.format.order v 1148846080 == some .eq) = false := hq
        clear b hq
        go_enter Tryz.func45, Tryz.ntmps45
        go_wp2_with fail
        refine (sHeat h true Ha.out _).mono ?_
        rintro e w1 ⟨rfl, rfl⟩
        go_wp2_with fail
        refine (sAmount_t v Hb.out _).mono ?_
        rintro e w1 ⟨rfl, rfl⟩
        go_wp2
        go_ret
        exact ⟨rfl, 0, rfl⟩
  · exact (sAirAt_t h v hq w g o c0 c1).mono fun e w' ⟨a, b⟩ => ⟨a, 0, b ▸ rfl⟩

set_option maxRecDepth 100000 in
set_option maxHeartbeats 4000000 in
theorem sSounding (s : Value) (n : Nat) (x : Nat → Nat) (hn : n ≤ 1048576) (hx : W32 x) (w : World) (hs : Rd w s n x) (q : Bool) (hq : souB n x = q) :
    Calls Tryz.prog 21 #[s] w fun e w' => e = .returned (.bool q) ∧ Below w.heap.size w w' := by
  obtain ⟨p, cap, rfl, hc⟩ := hs
  have HC := hid hc
  have HW := hid hx
  have HQ := hid hq
  have HN := hid hn
  clear hc hx hq hn
  go_enter Tryz.func21, Tryz.ntmps21
  go_wp2_with fail
  go_loopw [3] (fun i wr => ∃ k : Nat, k ≤ n ∧ i = .int .i64 k ∧ Hid (∀ i, i < k → lvB x i = true) ∧ Hid (∀ i, i + 1 < k → upB x i = true) ∧ Hid (Below w.heap.size w wr)) (fun i _ => n - (intOf i).toNat)
  case atStart => exact ⟨0, by omega, rfl, hid (fun i h => by omega), hid (fun i h => by omega), hid (Below.refl _ _)⟩
  case round =>
    obtain ⟨k, hk, rfl, hF, hU, hb⟩ := hrel
    by_cases hlt : k < n
    · have HL := hid hlt
      have hk3 : (k : Int) < (n : Int) := by omega
      obtain ⟨b, o, rfl, hcell⟩ := HC.out (by omega)
      have hcw : ∀ j, j < 3 * n → wr.cell? ⟨b, o + j, none⟩ = some (.float .f32 (x j)) := fun j hj => by have h1 := hcell j hj; rw [hb.out.cell (block_lt_of_cell h1)]; exact h1
      have c0 := cell0 hcw (i := k) hlt
      have c1 := cell1 hcw (i := k) hlt
      have c2 := cell2 hcw (i := k) hlt
      have i1 := fun w => run_indexAt (P := Tryz.prog) (t := 22) (e := 51) Tryz.underlying22 info_lev (b := b) (o := o) (n := n) (cap := cap) (k := k) hlt w
      rcases h1 : hgtB (x (k * 3)) with _ | _
      · have H1 := hid h1
        have hfin : q = false := by
          rw [← HQ.out]
          unfold souB lvs
          rw [all_range_f (k := k) HL.out (by unfold lvB parB; rw [h1]; rfl)]; simp
        have H2 := hid (rfl : airB (x (k * 3 + 1)) (x (k * 3 + 2)) = airB (x (k * 3 + 1)) (x (k * 3 + 2)))
        clear h1 hcell hcw
        subst hfin
        go_wp2
        go_quiet ((first | (go_at_call 44; exact Calls.quiet_of (sHgtQ _ (HW.out _) _ H1.out _)) | (go_at_call 45; exact Calls.quiet_of (sAirAtQ _ _ (HW.out _) _ H2.out _ _ _ c1 c2))))
        clear c0 c1 c2 i1
        go_wp2
        go_ret
        exact ⟨rfl, below_drewN hb.out _⟩
      · have H1 := hid h1
        rcases h2 : airB (x (k * 3 + 1)) (x (k * 3 + 2)) with _ | _
        · have H2 := hid h2
          have hfin : q = false := by
            rw [← HQ.out]
            unfold souB lvs
            rw [all_range_f (k := k) HL.out (by unfold lvB parB; rw [h1, h2]; rfl)]; simp
          clear h1 h2 hcell hcw
          subst hfin
          go_wp2
          go_quiet ((first | (go_at_call 44; exact Calls.quiet_of (sHgtQ _ (HW.out _) _ H1.out _)) | (go_at_call 45; exact Calls.quiet_of (sAirAtQ _ _ (HW.out _) _ H2.out _ _ _ c1 c2))))
          clear c0 c1 c2 i1
          go_wp2
          go_ret
          exact ⟨rfl, below_drewN hb.out _⟩
        · have H2 := hid h2
          have HF := hid (fun i (hi : i < k + 1) => by
            rcases Nat.lt_or_ge i k with h | h
            · exact hF.out i h
            · rw [show i = k by omega]; exact parB_iff.2 ⟨h1, h2⟩ : ∀ i, i < k + 1 → lvB x i = true)
          clear h1 h2
          rcases Nat.eq_zero_or_pos k with hk0 | hk0
          · subst hk0
            simp only [Nat.zero_mul, Nat.add_zero, Nat.zero_add] at c0 c1 c2 i1 H1 H2
            have i1' : ∀ w, (Instr.indexAt 22 (.slice (some ⟨b, o, none⟩) n cap) (.int .i64 0)).run Tryz.prog w = .ok (.pointer (some ⟨b, o, none⟩)) w := by
              intro w
              have h9 := run_indexAt (P := Tryz.prog) (t := 22) (e := 51) Tryz.underlying22 info_lev (b := b) (o := o) (n := n) (cap := cap) (k := 0) hlt w
              simpa using h9
            clear hcell hcw i1
            go_wp2
            go_quiet ((first | (go_at_call 44; exact Calls.quiet_of (sHgtQ _ (HW.out _) _ H1.out _)) | (go_at_call 45; exact Calls.quiet_of (sAirAtQ _ _ (HW.out _) _ H2.out _ _ _ c1 c2))))
            clear c0 c1 c2
            go_wp2
            go_roundw
            case rel => exact ⟨1, by omega, by go_num, HF, hid (fun i h => by omega), hid (below_drewN hb.out _)⟩
            case measure => simp [intOf]; omega
          · obtain ⟨j, hj⟩ : ∃ j, k = j + 1 := ⟨k - 1, by omega⟩
            have d0 := cell0 hcw (i := j) (by omega)
            have hpos : (0 : Int) < (k : Int) := by omega
            have hn' := HN.out
            have hwr : IntKind.i64.wrap ((k : Int) - 1) = (k : Int) - 1 := by rw [IntKind.wrap_i64]; omega
            have i0 : ∀ w, (Instr.indexAt 22 (.slice (some ⟨b, o, none⟩) n cap) (.int .i64 ((k : Int) - 1))).run Tryz.prog w = .ok (.pointer (some ⟨b, o + j * 3, none⟩)) w := by
              intro w
              rw [show (k : Int) - 1 = (j : Int) by omega]
              exact run_indexAt (P := Tryz.prog) (t := 22) (e := 51) Tryz.underlying22 info_lev (b := b) (o := o) (n := n) (cap := cap) (k := j) (by omega) w
            clear hcell hcw
            rcases hu : upB x j with _ | _
            · have ho : (FloatKind.f32.format.order (x (j * 3)) (x (k * 3)) == some .lt) = false := by rw [hj]; exact hu
              have hfin : q = false := by
                rw [← HQ.out]
                unfold souB ups
                rw [all_range_f (k := j) (by have := HL.out; omega) hu]; simp
              clear hu
              replace hj := hid hj
              subst hfin
              go_wp2
              go_quiet ((first | (go_at_call 44; exact Calls.quiet_of (sHgtQ _ (HW.out _) _ H1.out _)) | (go_at_call 45; exact Calls.quiet_of (sAirAtQ _ _ (HW.out _) _ H2.out _ _ _ c1 c2))))
              clear c0 c1 c2 i1 i0 d0 ho
              go_wp2
              go_ret
              exact ⟨rfl, below_drewN hb.out _⟩
            · have ho : (FloatKind.f32.format.order (x (j * 3)) (x (k * 3)) == some .lt) = true := by rw [hj]; exact hu
              have HU := hid (fun i (hi : i + 1 < k + 1) => by
                rcases Nat.lt_or_ge i j with h | h
                · exact hU.out i (by omega)
                · rw [show i = j by omega]; exact hu : ∀ i, i + 1 < k + 1 → upB x i = true)
              clear hu
              replace hj := hid hj
              go_wp2
              go_quiet ((first | (go_at_call 44; exact Calls.quiet_of (sHgtQ _ (HW.out _) _ H1.out _)) | (go_at_call 45; exact Calls.quiet_of (sAirAtQ _ _ (HW.out _) _ H2.out _ _ _ c1 c2))))
              clear c0 c1 c2 i1 i0 d0 ho
              go_wp2
              go_roundw
              case rel => exact ⟨k + 1, by omega, by go_num, HF, HU, hid (below_drewN hb.out _)⟩
              case measure => simp [intOf]; omega
    · obtain rfl : k = n := by omega
      by_cases hd : 2 ≤ k ∧ k ≤ 32
      · have hfin : q = true := by
          rw [← HQ.out, souB_iff]
          exact ⟨hd.1, hd.2, hF.out, hU.out⟩
        subst hfin
        go_wp2_with fail
        refine (l00In_t k 2 32 (by omega) (by omega) _).mono ?_
        rintro e w1 ⟨rfl, rfl⟩
        go_wp2
        go_ret
        exact ⟨rfl, hb.out⟩
      · have hfin : q = false := by
          rw [← HQ.out]
          unfold souB
          rcases h : (decide (2 ≤ k) && decide (k ≤ 32)) with _ | _
          · simp
          · rw [Bool.and_eq_true, decide_eq_true_eq, decide_eq_true_eq] at h
            exact absurd h hd
        subst hfin
        go_wp2_with fail
        refine (l00In_f k 2 32 (by omega) _).mono ?_
        rintro e w1 ⟨rfl, rfl⟩
        go_wp2
        go_ret
        exact ⟨rfl, hb.out⟩

set_option maxRecDepth 100000 in
set_option maxHeartbeats 4000000 in
theorem iValidSounding (s : Value) (n : Nat) (x : Nat → Nat) (hn : n ≤ 1048576) (hx : W32 x) (w : World) (hs : Rd w s n x) (q : Bool) (hq : souB n x = q) :
    Calls Tryz.prog 24 #[s] w fun e w' => e = .returned (.bool q) ∧ Below w.heap.size w w' := by
  obtain ⟨p, cap, rfl, hc⟩ := hs
  have HC := hid hc
  have HX := hid hx
  have HQ := hid hq
  have HN := hid hn
  clear hc hx hq
  have bA := Boxed.new w 4 (.bool false)
  have hBA : Below w.heap.size w (w.alloc (.cells #[.bool false] 4)) := (Below.refl _ w).alloc (Nat.le_refl _) _
  refine (callsIn_wide (n := 9)).1 ?_
  refine callsIn_of_wp_marks Tryz.func24 rfl trivial ?_ rfl
  simp only [Tryz.ntmps24, List.size_toArray, List.length_cons, List.length_nil, Nat.reduceAdd, Nat.reduceSub, Array.replicate_succ, Array.replicate_zero, List.push_toArray, List.append_toArray, List.nil_append, List.cons_append]
  by_cases h2 : n < 2
  · have hfin : q = false := by
      rw [← HQ.out]; unfold souB
      rw [decide_eq_false (by omega)]; simp
    subst hfin
    have h2' : (n : Int) < 2 := by omega
    gi_wp2
    exact ⟨_, results_cell1 rfl _ _ ⟨w.heap.size, 0, none⟩ _ rfl (run_loadVar_one Tryz.underlying4 rfl bA.cell), rfl, hBA⟩
  by_cases h3 : 32 < n
  · have hfin : q = false := by
      rw [← HQ.out]; unfold souB
      rw [decide_eq_false (show ¬ n ≤ 32 by omega)]; simp
    subst hfin
    have h2' : ¬ (n : Int) < 2 := by omega
    have h3' : (n : Int) > 32 := by omega
    gi_wp2
    exact ⟨_, results_cell1 rfl _ _ ⟨w.heap.size, 0, none⟩ _ rfl (run_loadVar_one Tryz.underlying4 rfl bA.cell), rfl, hBA⟩
  have h2' : ¬ (n : Int) < 2 := by omega
  have h3' : ¬ (n : Int) > 32 := by omega
  gi_wp2
  gi_loopw [17] (fun i wr => ∃ k : Nat, k ≤ n ∧ i = .int .i64 k ∧ Hid (∀ i, i < k → lvB x i = true) ∧ Hid (Boxed wr w.heap.size 4 (.bool false)) ∧ Hid (Below w.heap.size w wr)) (fun i _ => n - (intOf i).toNat)
  case atStart => exact ⟨0, by omega, rfl, hid (fun i h => by omega), hid bA, hid hBA⟩
  case round =>
    obtain ⟨k, hk, rfl, hF, hbx, hb⟩ := hrel
    by_cases hlt : k < n
    · have HL := hid hlt
      have hk3 : (k : Int) < (n : Int) := by omega
      obtain ⟨b, o, rfl, hcell⟩ := HC.out (by omega)
      have hcw : ∀ j, j < 3 * n → wr.cell? ⟨b, o + j, none⟩ = some (.float .f32 (x j)) := fun j hj => by have h1 := hcell j hj; rw [hb.out.cell (block_lt_of_cell h1)]; exact h1
      have c0 := cell0 hcw (i := k) hlt
      have c1 := cell1 hcw (i := k) hlt
      have c2 := cell2 hcw (i := k) hlt
      have i1 := fun w => run_indexAt (P := Tryz.prog) (t := 22) (e := 51) Tryz.underlying22 info_lev (b := b) (o := o) (n := n) (cap := cap) (k := k) hlt w
      have l1 := run_loadAt_mid (P := Tryz.prog) wr b (o + k * 3) 51 _ _ (row3 hcw hlt) Tryz.underlying51 rfl info_lev
      have HV := fun w => iValidParcel (x (k * 3)) (x (k * 3 + 1)) (x (k * 3 + 2)) (HX.out _) (HX.out _) (lvB x k) rfl w
      clear hcell hcw
      rcases hl : lvB x k with _ | _
      · rw [hl] at HV
        have hfin : q = false := by
          rw [← HQ.out]; unfold souB lvs
          rw [all_range_f (k := k) HL.out hl]; simp
        subst hfin
        gi_wp2_with (refine ⟨trivial, ?_⟩; gi_at_call 49; refine (callsIn_wide.2 (HV _)).mono ?_; rintro e w' ⟨rfl, hb9⟩; have d1 : Boxed w' w.heap.size 4 (.bool false) := (hb9.block _ (hbx.out.alloc _).lt).trans (hbx.out.alloc _); have e1 := d1.cell; have e3 := d1.frozen)
        have b1 := d1.set (.bool false)
        exact ⟨_, results_cell1 rfl _ _ ⟨w.heap.size, 0, none⟩ _ rfl (run_loadVar_one Tryz.underlying4 rfl b1.cell), rfl, ((hb.out.alloc hb.out.size _).trans (hb9.mono (by have := hb.out.size; simp; omega))).setCell (p := ⟨w.heap.size, 0, none⟩) (Nat.le_refl _) _⟩
      · rw [hl] at HV
        have HF := hid (fun i (hi : i < k + 1) => by
          rcases Nat.lt_or_ge i k with h | h
          · exact hF.out i h
          · rw [show i = k by omega]; exact hl : ∀ i, i < k + 1 → lvB x i = true)
        clear hl
        gi_wp2_with (refine ⟨trivial, ?_⟩; gi_at_call 49; refine (callsIn_wide.2 (HV _)).mono ?_; rintro e w' ⟨rfl, hb9⟩; have d1 : Boxed w' w.heap.size 4 (.bool false) := (hb9.block _ (hbx.out.alloc _).lt).trans (hbx.out.alloc _))
        go_roundw
        case rel => exact ⟨k + 1, by omega, by go_num, HF, hid d1, hid ((hb.out.alloc hb.out.size _).trans (hb9.mono (by have := hb.out.size; simp; omega)))⟩
        case measure => simp [intOf]; omega
    · obtain rfl : k = n := by omega
      have hk3 : ¬ (k : Int) < (k : Int) := by omega
      gi_wp2_with (refine ⟨trivial, ?_⟩; gi_at_call 50; refine (callsIn_wide.2 (iNeighbours _ _ _ _)).mono ?_; rintro e w' ⟨rfl, rfl⟩)
      have bA := hbx.out.alloc (.cells #[.slice p k cap] 22)
      have bC := Boxed.new wr 22 (.slice p k cap)
      have hB0 : Below w.heap.size w (wr.alloc (.cells #[.slice p k cap] 22)) := hb.out.alloc hb.out.size _
      have hsz : (wr.alloc (.cells #[.slice p k cap] 22)).heap.size = wr.heap.size + 1 := by simp
      have hwr := hb.out.size
      obtain ⟨W0, hW0⟩ : ∃ W0, wr.alloc (.cells #[.slice p k cap] 22) = W0 := ⟨_, rfl⟩
      rw [hW0] at bA bC hB0 hsz ⊢
      clear hW0
      refine wpIn_rangeFunc_ownH (α := Fin (k - 1)) rfl (by decide) (gf := 84) (lb := #[.pointer (some ⟨wr.heap.size, 0, none⟩)]) rfl trivial (Go.Proofs.enters_of Tryz.func84 (by kernel_rfl) rfl)
        (neighbours_stops 8 wr.heap.size W0.heap.size p k cap x hn W0 (by omega) (Nat.le_refl _) bC.cell (fun hp => by
          obtain ⟨b, o, e, hk⟩ := HC.out hp
          have hb := block_lt_of_cell (hk 0 (by omega))
          exact ⟨b, o, e, by simp at hb; omega, fun j hj => (hB0.cell (p := ⟨b, o + j, none⟩) hb).trans (hk j hj)⟩)) belowK_t (belowK_b (Nat.le_refl _)) (Below.refl _ _) (fun _ => rfl)
        (fun pre W => (∀ i ∈ pre, upB x i.1 = true) ∧ Below W0.heap.size W0 W)
        (fun c pre W => (∃ z : List (Fin (k - 1)) × Fin (k - 1), (c = .ret ∧ pre = z.1 ++ [z.2] ∧ upB x z.2.1 = false) ∧ Boxed W w.heap.size 4 (.bool false)) ∧ Below w.heap.size w W)
        (OwnFrom.and (ownFrom_pure _ _) (ownFrom_below (Nat.le_refl _) (Nat.le_refl _)))
        (fun c => OwnFrom.and (fun s X Y row hs hg hr => by
          obtain ⟨z, h1, h3⟩ := hs
          exact ⟨z, h1, boxed_own _ _ (fun (_ : Unit) => _) () X Y row h3 hg (fun r e => (hr r e).2)⟩) (ownFrom_below (Nat.le_refl _) (by omega)))
        ⟨by simp, Below.refl _ _⟩
        (fun j a' W => ∃ Bx, W0.heap.size ≤ Bx ∧ W.heap[Bx]? = some (.cells #[.float .f32 (x (j.1 * 3)), .float .f32 (x (j.1 * 3 + 1)), .float .f32 (x (j.1 * 3 + 2)), .float .f32 (x ((j.1 + 1) * 3)), .float .f32 (x ((j.1 + 1) * 3 + 1)), .float .f32 (x ((j.1 + 1) * 3 + 2))] 104 (0, 0)) ∧ a' = { tmps := #[.slice p k cap, undef, .pointer (some ⟨w.heap.size, 0, none⟩), undef, u4, undef, .pointer (some ⟨Bx, 0, none⟩), .slice p k cap, .int .i64 (k : Int), .bool false, .bool false, .slice p k cap, .int .i64 (k : Int), .bool false, .bool false, .slice p k cap, .int .i64 (k : Int), .int .i64 (k : Int), .bool false, u19, u20, u21, u22, u23, u24, .slice p k cap, .func (.func 84) #[] #[.pointer (some ⟨wr.heap.size, 0, none⟩)], .int .i64 (j.1 : Int), .agg #[.float .f32 (x (j.1 * 3)), .float .f32 (x (j.1 * 3 + 1)), .float .f32 (x (j.1 * 3 + 2)), .float .f32 (x ((j.1 + 1) * 3)), .float .f32 (x ((j.1 + 1) * 3 + 1)), .float .f32 (x ((j.1 + 1) * 3 + 2))], undef, undef, undef, undef, undef, undef, undef], defers := [] })
        (fun j a' _ X Y row hs hg hr => by obtain ⟨Bx, e1, e2, e3⟩ := hs; exact ⟨Bx, e1, row_own Bx 104 (fun (_ : Unit) => _) () X Y row e2 hg (fun r e => (hr r e).2), e3⟩)
        ?assign ?body ?done ?stop
      case assign =>
        rintro l pre j W K ⟨hp, hB⟩ hK
        have hS := hB.size
        unfold encL
        gi_wp2
        exact hK _ _ ((KeepsOthers.alloc _ _).from _) ((Below.refl _ W).alloc (by omega) _) ⟨hp, hB.alloc (by omega) _⟩ ⟨W.heap.size, by omega, heap_alloc_new _ _, rfl⟩
      case body =>
        rintro l pre j a' W hl ⟨r', hr⟩ ⟨hp, hB⟩ ⟨Bx, hBx, bX, rfl⟩ hlt
        have hS := hB.size
        have b1 : Boxed W w.heap.size 4 (.bool false) := (hB.block _ bA.lt).trans bA
        have e1 := b1.cell
        have e3 := b1.frozen
        clear hr
        have g0 : W.cell? ⟨Bx, 0, none⟩ = some (.float .f32 (x (j.1 * 3))) := (cell_of_row W Bx 0 _ _ _ bX).trans rfl
        have g3 : W.cell? ⟨Bx, 3, none⟩ = some (.float .f32 (x ((j.1 + 1) * 3))) := (cell_of_row W Bx 3 _ _ _ bX).trans rfl
        have hge := up_ge (hF.out j.1 (by have := j.2; omega)) (hF.out (j.1 + 1) (by have := j.2; omega))
        rcases hu : upB x j.1 with _ | _
        · rw [hu] at hge
          have ho : (FloatKind.f32.format.order (x (j.1 * 3)) (x ((j.1 + 1) * 3)) == some .gt || FloatKind.f32.format.order (x (j.1 * 3)) (x ((j.1 + 1) * 3)) == some .eq) = true := hge
          clear hge
          gi_wp2
          exact ⟨(KeepsOthers.setCell _ _ _).from _, ⟨(pre, j), ⟨rfl, rfl, hu⟩, b1.set _⟩, (hB0.trans (hB.mono (by omega))).setCell (p := ⟨w.heap.size, 0, none⟩) (Nat.le_refl _) _⟩
        · rw [hu] at hge
          have ho : (FloatKind.f32.format.order (x (j.1 * 3)) (x ((j.1 + 1) * 3)) == some .gt || FloatKind.f32.format.order (x (j.1 * 3)) (x ((j.1 + 1) * 3)) == some .eq) = false := hge
          clear hge
          gi_wp2
          exact ⟨KeepsFrom.refl _ _, Below.refl _ _, fun i hi => (List.mem_append.1 hi).elim (hp i) (fun e => by simp at e; rw [e]; exact hu), hB⟩
      case done =>
        rintro D ys W hD rfl ⟨hp, hB⟩ hK
        have hS := hB.size
        have b1 : Boxed W w.heap.size 4 (.bool false) := (hB.block _ bA.lt).trans bA
        have e1 := b1.cell
        have e3 := b1.frozen
        have hfin : q = true := by
          rw [← HQ.out, souB_iff]
          exact ⟨by omega, by omega, hF.out, fun i hi => hp ⟨i, by omega⟩ (List.mem_finRange _)⟩
        subst hfin
        gi_wp2
        have hK' := (KeepsOthers.setCell W ⟨w.heap.size, 0, none⟩ (.bool true)).same D _ hK rfl
        have c1 := (b1.set (.bool true)).kept (grownBy_putObj' _ D (.deferred none)) (by simp; omega)
        refine ⟨by simp, .inl ⟨_, _, rfl, run_takeDeferred hK', ?_⟩⟩
        exact ⟨_, results_cell1 rfl _ _ ⟨w.heap.size, 0, none⟩ _ rfl (run_loadVar_one Tryz.underlying4 rfl c1.cell), rfl, ((hB0.trans (hB.mono (by omega))).setCell (p := ⟨w.heap.size, 0, none⟩) (Nat.le_refl _) _).trans (belowK_b (w := w) (Nat.le_refl _) _ D _ _ (by omega) hK' rfl rfl)⟩
      case stop =>
        rintro D c pre W hD hpre ⟨⟨⟨ini, last⟩, ⟨rfl, rfl, hl⟩, b1⟩, hB⟩ hK
        have hfin : q = false := by
          rw [← HQ.out]; unfold souB ups
          rw [all_range_f (k := last.1) last.2 hl]; simp
        subst hfin
        gi_wp2
        have c1 := b1.kept (grownBy_putObj' _ D (.deferred none)) (by simp; omega)
        refine ⟨by simp, .inl ⟨_, _, rfl, run_takeDeferred hK, ?_⟩⟩
        exact ⟨_, results_cell1 rfl _ _ ⟨w.heap.size, 0, none⟩ _ rfl (run_loadVar_one Tryz.underlying4 rfl c1.cell), rfl, hB.trans (belowK_b (w := w) (Nat.le_refl _) _ D _ _ (by omega) hK rfl rfl)⟩

@[go_sem] theorem ext_f32from (n : Int) (w : World) : (callFunc 52 #[.int .u32 n]).run Tryz.prog w = .ok (.value (.float .f32 n.toNat)) w := by
  rw [run_callFunc_extern Tryz.func52 (by kernel_rfl) (by kernel_rfl) (by kernel_rfl) (e := Extern.MathFloatBits.float32frombits) (by kernel_rfl)]
  rfl

theorem eqb_dec (a b : Nat) : ((a : Int) == (b : Int)) = decide (a = b) := by
  by_cases h : a = b
  · subst h; simp
  · rw [decide_eq_false h]; simp; omega

theorem w32 {x : Nat} (h : x < 4294967296) : IntKind.u32.wrap (x : Int) = (x : Int) := by rw [IntKind.wrap_u32]; omega

set_option maxRecDepth 100000 in
set_option maxHeartbeats 1000000 in
theorem sRead_len (s : ByteArray) (hl : s.size ≠ 8) (w : World) :
    Calls Tryz.prog 26 #[.string s] w fun e w' => e = .returned (.tuple #[.float .f32 0, .bool false]) ∧ w' = w := by
  have h1 : ¬ ((s.size : Int) = 8) := by omega
  clear hl
  go_enter Tryz.func26, Tryz.ntmps26
  go_wp2
  go_ret2
  exact ⟨rfl, rfl⟩

set_option maxRecDepth 100000 in
set_option maxHeartbeats 2000000 in
theorem sRead8 (s : ByteArray) (hl : s.size = 8) (R : Value) (h1 : HexTo s 8 → R = .tuple #[.float .f32 (valT s 8), .bool (decide (nb (valT s 8) = valT s 8))]) (h0 : ¬ HexTo s 8 → R = .tuple #[.float .f32 0, .bool false]) (w : World) :
    Calls Tryz.prog 26 #[.string s] w fun e w' => e = .returned R ∧ w' = w := by
  have HL := hid hl
  have H1 := hid h1
  have H0 := hid h0
  have hs8 : ((s.size : Int) = 8) := by omega
  clear h1 h0 hl
  go_enter Tryz.func26, Tryz.ntmps26
  go_wp2_with fail
  go_loopw [4, 5] (fun v i wr => ∃ k : Nat, k ≤ 8 ∧ v = .int .u32 (valT s k : Int) ∧ i = .int .i64 (k : Int) ∧ Hid (HexTo s k) ∧ wr = w) (fun _ i _ => 8 - (intOf i).toNat)
  case atStart => exact ⟨0, by omega, rfl, rfl, hid (fun i hi => absurd hi (Nat.not_lt_zero i)), rfl⟩
  case round =>
    clear hs8
    obtain ⟨k, hk, rfl, rfl, hh, rfl⟩ := hrel
    by_cases hlt : k < 8
    · have HK := hid hlt
      have hk3 : (k : Int) < 8 := by omega
      have hw9 := wr_k1 hlt (by omega)
      have hix := index_byte (P := Tryz.prog) (s := s) Tryz.underlying9 k (by rw [HL.out]; exact hlt)
      have v28 := valT_28 hh.out (show k ≤ 7 by omega)
      have b256 := byT_lt s k
      have hnx := hid (fun d (hd : digB (byT s k) = d) => show valT s (k + 1) = valT s k * 16 + d by rw [← hd]; rfl)
      obtain ⟨b, hb⟩ : ∃ b, b = byT s k := ⟨_, rfl⟩
      obtain ⟨v, hv⟩ : ∃ v, v = valT s k := ⟨_, rfl⟩
      rw [← hb] at hix b256 hnx
      rw [← hv] at v28 hnx ⊢
      have HB := hid hb
      have m1 : IntKind.u32.wrap ((v : Int) * 16) = (v : Int) * 16 := by rw [IntKind.wrap_u32]; omega
      clear hb hv hk hlt
      by_cases c1 : 48 ≤ b ∧ b ≤ 57
      · have f1 : (48 : Int) ≤ (b : Int) := by omega
        have f2 : (b : Int) ≤ 57 := by omega
        obtain ⟨d, hd⟩ : ∃ d, b = 48 + d := ⟨b - 48, by omega⟩
        have f3 : (b : Int) - 48 = (d : Int) := by omega
        have f4 : IntKind.u8.wrap (d : Int) = (d : Int) := by rw [IntKind.wrap_u8]; omega
        have f5 := w32 (x := d) (by omega)
        have f6 : IntKind.u32.wrap ((v : Int) * 16 + (d : Int)) = (v : Int) * 16 + (d : Int) := by rw [IntKind.wrap_u32]; omega
        have hx := hid (hexB_digit c1.1 c1.2)
        have HD := hid hd
        clear c1 hd b256 v28
        go_wp2_with fail
        go_roundw
        case rel => exact ⟨k + 1, HK.out, by rw [hnx.out d (by rw [hx.out.2, HD.out]; omega)]; go_num, by go_num, hid (hh.out.next (by rw [← HB.out]; exact hx.out.1)), by first | trivial | rfl⟩
        case measure => first | exact ms_io HK.out | (rw [hw9]; exact ms_io HK.out)
      · by_cases c2 : 97 ≤ b ∧ b ≤ 102
        · have f1 : (48 : Int) ≤ (b : Int) := by omega
          have f2 : ¬ (b : Int) ≤ 57 := by omega
          have f7 : (97 : Int) ≤ (b : Int) := by omega
          have f8 : (b : Int) ≤ 102 := by omega
          obtain ⟨d, hd⟩ : ∃ d, b = 97 + d := ⟨b - 97, by omega⟩
          have f3 : (b : Int) - 97 = (d : Int) := by omega
          have f4 : IntKind.u8.wrap (d : Int) = (d : Int) := by rw [IntKind.wrap_u8]; omega
          have f5 := w32 (x := d) (by omega)
          have f6 : IntKind.u32.wrap ((v : Int) * 16 + (d : Int)) = (v : Int) * 16 + (d : Int) := by rw [IntKind.wrap_u32]; omega
          have f9 : IntKind.u32.wrap ((v : Int) * 16 + (d : Int) + 10) = (v : Int) * 16 + (d : Int) + 10 := by rw [IntKind.wrap_u32]; omega
          have hx := hid (hexB_letter c2.1 c2.2)
          have HD := hid hd
          clear c1 c2 hd b256 v28
          go_wp2_with fail
          go_roundw
          case rel => exact ⟨k + 1, HK.out, by rw [hnx.out (d + 10) (by rw [hx.out.2, HD.out]; omega)]; go_num, by go_num, hid (hh.out.next (by rw [← HB.out]; exact hx.out.1)), by first | trivial | rfl⟩
          case measure => first | exact ms_io HK.out | (rw [hw9]; exact ms_io HK.out)
        · have hR := H0.out (fun h => by have := h k HK.out; rw [← HB.out, hexB_not c1 c2] at this; cases this)
          subst hR
          rcases Nat.lt_or_ge b 48 with a1 | a1
          · have f1 : ¬ (48 : Int) ≤ (b : Int) := by omega
            have f7 : ¬ (97 : Int) ≤ (b : Int) := by omega
            clear c1 c2 b256 v28 a1
            go_wp2
            go_ret2
            exact ⟨rfl, rfl⟩
          · have f1 : (48 : Int) ≤ (b : Int) := by omega
            have f2 : ¬ (b : Int) ≤ 57 := by omega
            rcases Nat.lt_or_ge b 97 with a2 | a2
            · have f7 : ¬ (97 : Int) ≤ (b : Int) := by omega
              clear c1 c2 b256 v28 a1 a2
              go_wp2
              go_ret2
              exact ⟨rfl, rfl⟩
            · have f7 : (97 : Int) ≤ (b : Int) := by omega
              have f8 : ¬ (b : Int) ≤ 102 := by omega
              clear c1 c2 b256 v28 a1 a2
              go_wp2
              go_ret2
              exact ⟨rfl, rfl⟩
    · obtain rfl : k = 8 := by omega
      have hk3 : ¬ ((8 : Nat) : Int) < 8 := by omega
      have hR := H1.out hh.out
      have v8 : valT s 8 < 4294967296 := valT_lt 8 hh.out
      clear H1 H0
      generalize valT s 8 = v at v8 hR ⊢
      subst hR
      have V8 := hid v8
      have he : ((nb v : Int) == (v : Int)) = decide (nb v = v) := eqb_dec (nb v) v
      clear v8
      have hn9 : (v : Int).toNat = v := Int.toNat_natCast v
      go_wp2_with fail
      refine (sBits v V8.out _).mono ?_
      rintro e w1 ⟨rfl, rfl⟩
      go_wp2
      go_ret2
      exact ⟨rfl, rfl⟩

theorem infoz_st : (Tryz.prog.info? 9).map (fun i => (i.zero, i.size, i.bytes)) = some (some (.string ⟨#[]⟩), 1, 16) := by kernel_rfl

theorem infos_st : (Tryz.prog.info? 9).map (·.size) = some 1 := by kernel_rfl

/-- Piece i of a text that is cut at a byte. -/
def pcV (c : UInt8) (s : ByteArray) (i : Nat) : Value := .string (pcB c s i)

/-- A new slice of n texts. -/
def MadeS (n : Nat) (x : Nat → Value) (w : World) (v : Value) (w' : World) : Prop := ∃ B cs cap, v = .slice (some ⟨B, 0, none⟩) n cap ∧ w.heap.size ≤ B ∧ LvV cs n x ∧ Kept w [(B, cs, 9)] w'

theorem cutP (s : ByteArray) {g k : Nat} (h1 : g ≤ k) (h2 : k ≤ s.size) (w : World) : (Instr.slice 9 (.string s) (some (.int .i64 (g : Int))) (some (.int .i64 (k : Int))) none).run Tryz.prog w = .ok (.string (s.extract g k)) w := by
  rw [run_slice_string w 9 s .i64 .i64 (g : Int) (k : Int) Tryz.underlying9 (by omega) (by omega) (by omega)]
  simp only [Int.toNat_natCast]

theorem cutE (s : ByteArray) {g : Nat} (h1 : g ≤ s.size) (w : World) : (Instr.slice 9 (.string s) (some (.int .i64 (g : Int))) none none).run Tryz.prog w = .ok (.string (s.extract g s.size)) w := by
  rw [run_slice_string_from_if w 9 s .i64 (g : Int) Tryz.underlying9, if_pos ⟨by omega, by omega⟩]
  simp only [Int.toNat_natCast]

theorem wr_kT {k n : Nat} (h : k < n) (hn : n ≤ 1048577) : wrap64 ((k : Int) + 1) = (k : Int) + 1 := by unfold wrap64; omega

set_option maxRecDepth 100000 in
set_option maxHeartbeats 1000000 in
theorem sSplit (s : ByteArray) (c : UInt8) (hs : s.size ≤ 1048576) (w : World) :
    Calls Tryz.prog 19 #[.string s, .int .u8 (c.toNat : Int)] w fun e w' => ∃ v, e = .returned v ∧ MadeS (pcN c s) (pcV c s) w v w' := by
  have HS := hid hs
  have k0 : Hid ((w.alloc (.cells #[] 9)).ownsRow w.heap.size 9 1 (.slice (some ⟨w.heap.size, 0, none⟩) 0 0) 0 (wdv (pcV c s) 0)) := hid (World.ownsRow_made w #[] 0 (Nat.le_refl _) (by decide) rfl)
  have b1 : Hid (Below w.heap.size w (w.alloc (.cells #[] 9))) := hid ((Below.refl w.heap.size w).alloc (Nat.le_refl _) (.cells #[] 9))
  have HP : ∀ i, Hid (pcV c s i = .string (pcB c s i)) := fun i => hid rfl
  obtain ⟨n, hn⟩ : ∃ n, n = c.toNat := ⟨_, rfl⟩
  rw [← hn]
  have HN := hid hn
  clear hs hn
  go_enter Tryz.func19, Tryz.ntmps19
  go_wp2_with fail
  go_loopw [5, 6, 7] (fun v f i wr => ∃ k g m : Nat, k ≤ s.size ∧ g ≤ k ∧ m ≤ k ∧ f = .int .i64 (g : Int) ∧ i = .int .i64 (k : Int) ∧ Hid (NoC c s g k) ∧ Hid (LeftP c s g m) ∧ Hid (wr.ownsRow w.heap.size 9 1 v m (wdv (pcV c s) m)) ∧ Hid (Below w.heap.size w wr)) (fun _ _ i _ => s.size - (intOf i).toNat)
  case atStart => exact ⟨0, 0, 0, by omega, by omega, by omega, rfl, rfl, hid (NoC.zero c s 0), hid (LeftP.zero c s), k0, b1⟩
  case round =>
    obtain ⟨k, g, m, hk, hg, hm, rfl, rfl, hnc, hlf, hO, hB⟩ := hrel
    clear k0 b1
    by_cases hlt : k < s.size
    · have HK := hid hlt
      have HG := hid hg
      have HM := hid hm
      have hk3 : (k : Int) < (s.size : Int) := by omega
      have hix := index_byte (P := Tryz.prog) (s := s) Tryz.underlying9 k hlt
      have hw9 := wr_kT hlt (Nat.le_trans HS.out (by decide))
      have hcut := cutP s hg hk
      by_cases hbc : byT s k = c.toNat
      · obtain ⟨p1, p2⟩ := hlf.out.hit hg hlt hnc.out hbc
        have P1 := hid p1
        have P2 := hid p2
        have N2 := hid (NoC.zero c s (k + 1))
        rw [hbc, ← HN.out] at hix
        clear p1 p2 hbc hnc hlf hlt hk hg hm
        have tok1 : True := trivial
        go_wp2_with (first | (have _t := tok1; clear tok1; refine append_oneW (w0 := w) rfl _ _ 45 rfl 9 Tryz.underlying45 (.string ⟨#[]⟩) 16 rfl (by omega) infoz_st _ m (pcV c s) rfl (hO.out.alloc _) (hB.out.alloc hB.out.size _) (wr.heap.size) (.string (s.extract g k)) (by rw [(HP m).out, P1.out]) rfl rfl (heap_alloc_new _ _) (by have := HM.out; have := HK.out; have := HS.out; omega) (fun v9 w9 O9 B9 => ?_); replace O9 := hid O9; replace B9 := hid B9))
        go_roundw
        case rel => exact ⟨k + 1, k + 1, m + 1, HK.out, Nat.le_refl _, by have := HM.out; omega, by go_num, by go_num, N2, P2, O9, B9⟩
        case measure => first | exact ms_io HK.out | (rw [hw9]; exact ms_io HK.out)
      · have N2 := hid (hnc.out.next hbc)
        rw [HN.out] 
        have hne : ((byT s k : Int) == (c.toNat : Int)) = false := beq_eq_false_iff_ne.2 (by omega)
        generalize byT s k = b at hix hne
        clear hbc hnc hlt hk hg hm
        go_wp2_with fail
        go_roundw
        case rel => exact ⟨k + 1, g, m, HK.out, by have := HG.out; omega, by have := HM.out; omega, rfl, by go_num, N2, hlf, hO, hB⟩
        case measure => first | exact ms_io HK.out | (rw [hw9]; exact ms_io HK.out)
    · obtain rfl : k = s.size := by omega
      have hk3 : ¬ (s.size : Int) < (s.size : Int) := by omega
      obtain ⟨p1, p2⟩ := hlf.out.last hnc.out
      have P1 := hid p1
      have P2 := hid p2
      have HM := hid hm
      have hcut := cutE s hg
      clear p1 p2 hnc hlf hk hg hm hlt
      have tok1 : True := trivial
      go_wp2_with (first | (have _t := tok1; clear tok1; refine append_oneW (w0 := w) rfl _ _ 45 rfl 9 Tryz.underlying45 (.string ⟨#[]⟩) 16 rfl (by omega) infoz_st _ m (pcV c s) rfl (hO.out.alloc _) (hB.out.alloc hB.out.size _) (wr.heap.size) (.string (s.extract g s.size)) (by rw [(HP m).out, P1.out]) rfl rfl (heap_alloc_new _ _) (by have := HM.out; have := HS.out; omega) (fun v9 w9 O9 B9 => ?_); replace O9 := hid O9; replace B9 := hid B9))
      obtain ⟨B, cs, cap, rfl, hB1, L1, K1⟩ := own_keptV (Nat.succ_pos m) O9.out B9.out
      have E := hid (show MadeS (pcN c s) (pcV c s) w (.slice (some ⟨B, 0, none⟩) (m + 1 : Nat) cap) w9 from ⟨B, cs, cap, by rw [P2.out], hB1, by rw [P2.out]; exact L1, K1⟩)
      clear hB1 L1 K1 O9 B9
      go_wp2
      go_ret
      exact ⟨_, rfl, E.out⟩

/-- Whether a text is that of a number, and the number. -/
def okN (s : ByteArray) : Bool := decide (s.size = 8) && (List.range 8).all (fun i => isHexB (byT s i)) && decide (nb (valT s 8) = valT s 8)

def vaN (s : ByteArray) : Nat := if okN s = true then valT s 8 else 0

theorem okN_t {s : ByteArray} (hl : s.size = 8) (hx : HexTo s 8) (hn : nb (valT s 8) = valT s 8) : okN s = true := by
  unfold okN
  rw [decide_eq_true hl, decide_eq_true hn, all_rangeN.2 hx]; rfl

theorem okN_len {s : ByteArray} (hl : s.size ≠ 8) : okN s = false := by
  unfold okN
  rw [decide_eq_false hl]; rfl

theorem okN_hex {s : ByteArray} (hx : ¬ HexTo s 8) : okN s = false := by
  have : (List.range 8).all (fun i => isHexB (byT s i)) = false := by
    cases e : (List.range 8).all (fun i => isHexB (byT s i))
    · rfl
    · exact absurd (all_rangeN.1 e) hx
  unfold okN
  rw [this, Bool.and_false]; rfl

theorem okN_nb {s : ByteArray} (hn : nb (valT s 8) ≠ valT s 8) : okN s = false := by
  unfold okN
  rw [decide_eq_false hn, Bool.and_false]

theorem okN_hexB {s : ByteArray} (h : okN s = true) : s.size = 8 ∧ HexTo s 8 ∧ nb (valT s 8) = valT s 8 := by
  unfold okN at h
  simp only [Bool.and_eq_true, decide_eq_true_eq] at h
  exact ⟨h.1.1, all_rangeN.1 h.1.2, h.2⟩

theorem vaN_lt (s : ByteArray) : vaN s < 4294967296 := by
  unfold vaN
  cases h : okN s
  · show (if (false : Bool) = true then valT s 8 else 0) < 4294967296
    rw [if_neg Bool.false_ne_true]; decide
  · exact valT_lt 8 (okN_hexB h).2.1

theorem rdS (s : ByteArray) : ∃ a, a < 4294967296 ∧ (okN s = true → a = vaN s) ∧
    ∀ W, Calls Tryz.prog 26 #[.string s] W fun e w' => e = .returned (.tuple #[.float .f32 a, .bool (okN s)]) ∧ w' = W := by
  by_cases hl : s.size = 8
  · by_cases hx : HexTo s 8
    · refine ⟨valT s 8, valT_lt 8 hx, (fun h => by unfold vaN; rw [if_pos h]), fun W => ?_⟩
      have := sRead8 s hl (.tuple #[.float .f32 (valT s 8), .bool (okN s)]) (fun _ => by
        by_cases hn : nb (valT s 8) = valT s 8
        · rw [okN_t hl hx hn, decide_eq_true hn]
        · rw [okN_nb hn, decide_eq_false hn]) (fun h => absurd hx h) W
      exact this
    · refine ⟨0, by decide, (fun h => by rw [okN_hex hx] at h; cases h), fun W => ?_⟩
      exact sRead8 s hl _ (fun h => absurd h hx) (fun _ => by rw [okN_hex hx]) W
  · refine ⟨0, by decide, (fun h => by rw [okN_len hl] at h; cases h), fun W => ?_⟩
    rw [okN_len hl]
    exact sRead_len s hl W

set_option maxRecDepth 100000 in
set_option maxHeartbeats 1000000 in
theorem sNumbers (v : Value) (n : Nat) (t : Nat → ByteArray) (w : World) (hs : RdV w v n (fun i => .string (t i))) (h0 : 0 < n) (hn : n ≤ 1048577) (q : Bool) (hq : allN (fun i => okN (t i)) n = q) :
    Calls Tryz.prog 20 #[v] w fun e w' => ∃ r, e = .returned (.tuple #[r, .bool q]) ∧ Below w.heap.size w w' ∧ (q = true → MadeF n (fun i => vaN (t i)) w r w') := by
  obtain ⟨p, cap, rfl, hcl⟩ := hs
  obtain ⟨b, o, rfl, hcell⟩ := hcl h0
  have HC := hid hcell
  have H0 := hid h0
  have HN := hid hn
  have HQ := hid hq
  have k0 : Hid ((w.alloc (.cells #[] 28)).ownsRow w.heap.size 28 1 (.slice (some ⟨w.heap.size, 0, none⟩) 0 0) 0 (wdv (flV fun i => vaN (t i)) 0)) := hid (World.ownsRow_made w #[] 0 (Nat.le_refl _) (by decide) rfl)
  have b1 : Hid (Below w.heap.size w (w.alloc (.cells #[] 28))) := hid ((Below.refl w.heap.size w).alloc (Nat.le_refl _) (.cells #[] 28))
  have RS : ∀ i, Hid (∃ a, a < 4294967296 ∧ (okN (t i) = true → a = vaN (t i)) ∧
    ∀ W, Calls Tryz.prog 26 #[.string (t i)] W fun e w' => e = .returned (.tuple #[.float .f32 a, .bool (okN (t i))]) ∧ w' = W) := fun i => hid (rdS (t i))
  have HP : ∀ i, Hid (flV (fun i => vaN (t i)) i = .float .f32 (vaN (t i))) := fun i => hid rfl
  clear hcl hcell h0 hn hq
  go_enter Tryz.func20, Tryz.ntmps20
  go_wp2_with fail
  go_loopw [4, 5] (fun x i wr => ∃ k : Nat, k ≤ n ∧ i = .int .i64 (k : Int) ∧ Hid (∀ j, j < k → okN (t j) = true) ∧ Hid (wr.ownsRow w.heap.size 28 1 x k (wdv (flV fun i => vaN (t i)) k)) ∧ Hid (Below w.heap.size w wr)) (fun _ i _ => n - (intOf i).toNat)
  case atStart => exact ⟨0, by omega, rfl, hid (fun j hj => absurd hj (Nat.not_lt_zero j)), k0, b1⟩
  case round =>
    obtain ⟨k, hk, rfl, hall, hO, hB⟩ := hrel
    clear k0 b1
    by_cases hlt : k < n
    · have HK := hid hlt
      have hk3 : (k : Int) < (n : Int) := by omega
      have c0 : wr.cell? ⟨b, o + k, none⟩ = some (.string (t k)) := by have h9 := HC.out k hlt; rw [hB.out.cell (block_lt_of_cell h9)]; exact h9
      have i1 := fun w => run_indexAt (P := Tryz.prog) (t := 45) (e := 9) Tryz.underlying45 infos_st (b := b) (o := o) (n := n) (cap := cap) (k := k) hlt w
      simp only [Nat.mul_one] at i1
      have hw9 := wr_kT hlt HN.out
      obtain ⟨a, ha, hav, hR⟩ := (RS k).out
      have HR := hid hR
      have HA := hid hav
      clear hR hav ha hk hlt
      cases ho : okN (t k)
      · have hqf : q = false := by rw [← HQ.out]; exact allN_at HK.out ho
        subst hqf
        rw [ho] at HR
        clear ho
        go_wp2_with fail
        refine (HR.out _).mono ?_
        rintro e w1 ⟨rfl, rfl⟩
        have B2 := hid (hB.out.alloc hB.out.size (.cells #[] 28))
        go_wp2
        go_ret2
        first | exact ⟨_, rfl, B2.out, fun h => by cases h⟩ | exact ⟨⟨_, rfl⟩, B2.out, fun h => by cases h⟩
      · have hv := HA.out ho
        subst hv
        have AL := hid (to_next hall.out ho)
        rw [ho] at HR
        clear ho HA hall
        go_wp2_with fail
        refine (HR.out _).mono ?_
        rintro e w1 ⟨rfl, rfl⟩
        have tok1 : True := trivial
        go_wp2_with (first | (have _t := tok1; clear tok1; refine append_one (w0 := w) rfl _ _ 47 rfl 28 Tryz.underlying47 (.float .f32 0) 4 rfl (by omega) infoz_f32 _ k (flV fun i => vaN (t i)) rfl (hO.out.alloc _) (hB.out.alloc hB.out.size _) (w1.heap.size) (.float .f32 (vaN (t k))) (HP k).out rfl rfl (heap_alloc_new _ _) (by have := HK.out; have := HN.out; omega) (fun v9 w9 O9 B9 => ?_); replace O9 := hid O9; replace B9 := hid B9))
        go_roundw
        case rel => exact ⟨k + 1, HK.out, by go_num, AL, O9, B9⟩
        case measure => first | exact ms_io HK.out | (rw [hw9]; exact ms_io HK.out)
    · obtain rfl : k = n := by omega
      have hk3 : ¬ (k : Int) < (k : Int) := by omega
      have hqt : q = true := by rw [← HQ.out]; exact allN_t.2 hall.out
      subst hqt
      obtain ⟨B, cs, cap2, rfl, hB1, L1, K1⟩ := own_keptV H0.out hO.out hB.out
      have E := hid (show MadeF k (fun i => vaN (t i)) w (.slice (some ⟨B, 0, none⟩) k cap2) wr from ⟨B, cs, cap2, rfl, hB1, L1, K1⟩)
      have B2 := hB
      clear hB1 L1 K1 hO hB
      go_wp2
      go_ret2
      exact ⟨_, rfl, B2.out, E.out⟩

theorem pcN_pos (c : UInt8) (s : ByteArray) : 0 < pcN c s := by rw [pcN_is]; omega

theorem split32 (s : ByteArray) (hs : s.size ≤ 1048576) (w : World) : Calls Tryz.prog 19 #[.string s, .int .u8 32] w fun e w' => ∃ v, e = .returned v ∧ MadeS (pcN 32 s) (pcV 32 s) w v w' := sSplit s 32 hs w

set_option maxRecDepth 100000 in
set_option maxHeartbeats 1000000 in
theorem iLower (b l : Nat) (h : bits BinOp.or IntKind.u8 (b : Int) 32 = (l : Int)) (w : World) :
    Calls Tryz.prog 132 #[.int .u8 (b : Int)] w fun e w' => e = .returned (.int .u8 (l : Int)) ∧ w' = w := by
  go_enter Tryz.func132, Tryz.ntmps132
  go_wp2
  go_ret
  exact ⟨rfl, rfl⟩

/-- The bit of small letters set. -/
def lowB (b : Nat) : Nat := b ||| 32

theorem low_tab : ((List.range 256).all fun b => decide (bits BinOp.or IntKind.u8 (b : Int) 32 = (lowB b : Int)) && decide (lowB b < 256)) = true := by decide +kernel

theorem low_is {b : Nat} (h : b < 256) : bits BinOp.or IntKind.u8 (b : Int) 32 = (lowB b : Int) ∧ lowB b < 256 := by
  have := List.all_eq_true.1 low_tab b (List.mem_range.2 h)
  simpa using this

/-- What the program takes for a digit (capital letters too), and its value. -/
def isPB (b : Nat) : Bool := decide (48 ≤ b ∧ b ≤ 57) || decide (97 ≤ lowB b ∧ lowB b ≤ 102)

def digP (b : Nat) : Nat := if b ≤ 57 then b - 48 else lowB b - 87

def valP (s : ByteArray) : Nat → Nat
  | 0 => 0
  | k + 1 => valP s k * 16 + digP (byT s k)

def PTo (s : ByteArray) (k : Nat) : Prop := ∀ i, i < k → isPB (byT s i) = true

theorem isP_tab : ((List.range 256).all fun b => !isPB b || decide (digP b < 16)) = true := by decide +kernel

theorem digP_lt {b : Nat} (hb : b < 256) (h : isPB b = true) : digP b < 16 := by
  have := List.all_eq_true.1 isP_tab b (List.mem_range.2 hb)
  rw [h] at this
  simpa using this

theorem valP_lt {s : ByteArray} : ∀ k, PTo s k → valP s k < 16 ^ k
  | 0, _ => Nat.zero_lt_one
  | k + 1, h => by
    have ih := valP_lt (s := s) k (fun i hi => h i (by omega))
    have hd := digP_lt (byT_lt s k) (h k (by omega))
    show valP s k * 16 + digP (byT s k) < 16 ^ (k + 1)
    rw [Nat.pow_succ]
    omega

theorem valP_28 {s : ByteArray} {k : Nat} (h : PTo s k) (hk : k ≤ 7) : valP s k < 268435456 := Nat.lt_of_lt_of_le (valP_lt k h) (pow16_8 hk)

theorem PTo.next {s : ByteArray} {k : Nat} (h : PTo s k) (hb : isPB (byT s k) = true) : PTo s (k + 1) := fun i hi => by
  by_cases e : i = k
  · subst e; exact hb
  · exact h i (by omega)

theorem pB_digit {b : Nat} (h1 : 48 ≤ b) (h2 : b ≤ 57) : isPB b = true ∧ digP b = b - 48 := by
  refine ⟨?_, if_pos h2⟩
  unfold isPB; rw [decide_eq_true ⟨h1, h2⟩]; rfl

theorem pB_letter {b : Nat} (h0 : ¬ (48 ≤ b ∧ b ≤ 57)) (h1 : 97 ≤ lowB b) (h2 : lowB b ≤ 102) : isPB b = true ∧ digP b = lowB b - 87 := by
  constructor
  · unfold isPB; rw [decide_eq_true (p := 97 ≤ lowB b ∧ lowB b ≤ 102) ⟨h1, h2⟩, Bool.or_true]
  · refine if_neg (fun h => ?_)
    have : lowB b < 97 := by
      have hb : b < 48 := by omega
      have t : ((List.range 48).all fun b => decide (lowB b < 97)) = true := by decide +kernel
      simpa using List.all_eq_true.1 t b (List.mem_range.2 hb)
    omega

theorem pB_not {b : Nat} (h1 : ¬ (48 ≤ b ∧ b ≤ 57)) (h2 : ¬ (97 ≤ lowB b ∧ lowB b ≤ 102)) : isPB b = false := by
  unfold isPB; rw [decide_eq_false h1, decide_eq_false h2]; rfl

/-- What internal/strconv.ParseUint gives. -/
def puV (ok : Bool) (v : Nat) : Value := .tuple #[.int .u64 (if ok = true then v else 0), if ok = true then .nilIface else .iface 159 (.int .i64 2)]

set_option maxRecDepth 100000 in
set_option maxHeartbeats 4000000 in
theorem iPU (s : ByteArray) (hl : s.size = 8) (R : Value) (h1 : PTo s 8 → R = puV true (valP s 8)) (h0 : ¬ PTo s 8 → R = puV false 0) (w : World) :
    Calls Tryz.prog 108 #[.string s, .int .i64 16, .int .i64 32] w fun e w' => e = .returned R ∧ w' = Lib.bytesWorld w 5 s := by
  have HL := hid hl
  have H1 := hid h1
  have H0 := hid h0
  have hemp : s.toList.isEmpty = false := by
    rw [← decide_eq_emptyBytes]
    exact decide_eq_false (fun h => by rw [h] at hl; cases hl)
  have hcv := Lib.run_convert_string_bytes (P := Tryz.prog) w 9 116 5 s (u := .string) Tryz.underlying9 Tryz.underlying116 Tryz.underlying5
  have hB : ∀ j, j < 8 → (Lib.bytesWorld w 5 s).cell? ⟨w.heap.size, j, none⟩ = some (.int .u8 (byT s j : Int)) := fun j hj => Lib.bytesWorld_cell w 5 s j (by omega)
  obtain ⟨W1, hW1⟩ : ∃ W1, W1 = Lib.bytesWorld w 5 s := ⟨_, rfl⟩
  rw [← hW1] at hcv hB ⊢
  clear hW1
  have HB0 := hid hB
  have hmv : IntKind.u64.wrap (4294967296 - 1) = 4294967295 := by
    rw [IntKind.wrap_u64]
    decide
  have hs8 : (s.size : Int) = 8 := by omega
  have e103 : ∀ args w, (callFunc 132 args).run Tryz.prog w = .ok (.enter 132 args) w := enters_of Tryz.func132 (by kernel_rfl) rfl
  rw [hl] at hcv
  clear h1 h0 hB hl
  go_enter Tryz.func108, Tryz.ntmps108
  go_wp2
  go_loop [12, 13, 101] (fun vu vn vi => ∃ (k : Nat) (a : Int), k ≤ 8 ∧ vu = .bool false ∧ vn = .int .u64 a ∧ vi = .int .i64 (k : Int) ∧ Hid (PTo s k) ∧ Hid (a = (valP s k : Int))) (fun _ _ vi => 8 - (intOf vi).toNat)
  case atStart => exact ⟨0, 0, by omega, rfl, rfl, rfl, hid (fun i hi => absurd hi (Nat.not_lt_zero i)), hid rfl⟩
  case round =>
    clear hcv hmv hs8 hemp
    obtain ⟨k, a, hk, rfl, rfl, rfl, hh, ha0⟩ := hrel
    have ha := ha0.out
    clear ha0
    by_cases hlt : k < 8
    · have HK := hid hlt
      have hk3 : (k : Int) < 8 := by omega
      have hc := HB0.out k hlt
      have v28 := valP_28 hh.out (show k ≤ 7 by omega)
      have b256 := byT_lt s k
      have hnx := hid (fun d (hd : digP (byT s k) = d) => show valP s (k + 1) = valP s k * 16 + d by rw [← hd]; rfl)
      obtain ⟨b, hb⟩ : ∃ b, b = byT s k := ⟨_, rfl⟩
      rw [← hb] at hc b256 hnx
      have HB := hid hb
      have hlow := low_is b256
      obtain ⟨l, hl⟩ : ∃ l, l = lowB b := ⟨_, rfl⟩
      rw [← hl] at hlow
      have HLW := hid hl
      have il := iLower b l hlow.1
      have l256 := hlow.2
      have A0 : 0 ≤ a := by omega
      have A1 : a < 268435456 := by omega
      have hcut : a < 1152921504606846976 := by omega
      have m1 : IntKind.u64.wrap (a * 16) = a * 16 := by rw [IntKind.wrap_u64]; omega
      have HA := hid ha
      clear hb hk hlt hl hlow ha v28
      by_cases c1 : 48 ≤ b ∧ b ≤ 57
      · have f1 : (48 : Int) ≤ (b : Int) := by omega
        have f2 : (b : Int) ≤ 57 := by omega
        have f0 : ¬ (b : Int) = 95 := by omega
        obtain ⟨d, hd⟩ : ∃ d : Int, d = (b : Int) - 48 := ⟨_, rfl⟩
        have f3 : (b : Int) - 48 = d := hd.symm
        have d0 : 0 ≤ d := by omega
        have d1 : d < 16 := by omega
        have f4 : IntKind.u8.wrap d = d := by rw [IntKind.wrap_u8]; omega
        have f5 : IntKind.u64.wrap d = d := by rw [IntKind.wrap_u64]; omega
        have f6 : IntKind.u64.wrap (a * 16 + d) = a * 16 + d := by rw [IntKind.wrap_u64]; omega
        have f8 : ¬ (a * 16 + d < a * 16) := by omega
        have f9 : ¬ ((4294967295 : Int) < a * 16 + d) := by omega
        have hx := hid (pB_digit c1.1 c1.2)
        have HN : Hid (a * 16 + d = (valP s (k + 1) : Int)) := hid (by
          have e1 := HA.out
          have e2 := hnx.out (b - 48) hx.out.2
          omega)
        have hd9 : ¬ (16 : Int) ≤ d := by omega
        clear c1 hd b256 l256 il A0 A1
        go_wp2
        exact ⟨⟨k + 1, a * 16 + d, HK.out, rfl, rfl, by go_num, hid (hh.out.next (by rw [← HB.out]; exact hx.out.1)), HN⟩, by have := HK.out; simp [intOf]; omega⟩
      · by_cases c2 : 97 ≤ l ∧ l ≤ 102
        · have f0 : ¬ (b : Int) = 95 := fun h => by
            have hb : b = 95 := by omega
            have e1 := HLW.out
            rw [hb] at e1
            have : lowB 95 = 127 := by decide
            omega
          have g1 : (97 : Int) ≤ (l : Int) := by omega
          have g2 : (l : Int) ≤ 122 := by omega
          obtain ⟨e0, he⟩ : ∃ e0 : Int, e0 = (l : Int) - 97 := ⟨_, rfl⟩
          have f3 : (l : Int) - 97 = e0 := he.symm
          have f4 : IntKind.u8.wrap e0 = e0 := by rw [IntKind.wrap_u8]; omega
          obtain ⟨d, hd⟩ : ∃ d : Int, d = e0 + 10 := ⟨_, rfl⟩
          have f4b : IntKind.u8.wrap (e0 + 10) = d := by rw [IntKind.wrap_u8]; omega
          have d0 : 0 ≤ d := by omega
          have d1 : d < 16 := by omega
          have hd9 : ¬ (16 : Int) ≤ d := by omega
          have f5 : IntKind.u64.wrap d = d := by rw [IntKind.wrap_u64]; omega
          have f6 : IntKind.u64.wrap (a * 16 + d) = a * 16 + d := by rw [IntKind.wrap_u64]; omega
          have f8 : ¬ (a * 16 + d < a * 16) := by omega
          have f9 : ¬ ((4294967295 : Int) < a * 16 + d) := by omega
          have hx := hid (pB_letter c1 (by rw [← HLW.out]; exact c2.1) (by rw [← HLW.out]; exact c2.2))
          have HN : Hid (a * 16 + d = (valP s (k + 1) : Int)) := hid (by
            have e1 := HA.out
            have e2 := hnx.out (lowB b - 87) hx.out.2
            have e3 := HLW.out
            omega)
          by_cases c3 : 48 ≤ b
          · have q1 : (48 : Int) ≤ (b : Int) := by omega
            have q2 : ¬ (b : Int) ≤ 57 := by omega
            clear c1 c2 c3 hd he b256 l256 A0 A1 d0 d1
            go_wp2_with (go_at_fn 132; refine (il _).mono ?_; rintro e w' ⟨rfl, rfl⟩)
            exact ⟨⟨k + 1, a * 16 + d, HK.out, rfl, rfl, by go_num, hid (hh.out.next (by rw [← HB.out]; exact hx.out.1)), HN⟩, by have := HK.out; simp [intOf]; omega⟩
          · have q1 : ¬ (48 : Int) ≤ (b : Int) := by omega
            clear c1 c2 c3 hd he b256 l256 A0 A1 d0 d1
            go_wp2_with (go_at_fn 132; refine (il _).mono ?_; rintro e w' ⟨rfl, rfl⟩)
            exact ⟨⟨k + 1, a * 16 + d, HK.out, rfl, rfl, by go_num, hid (hh.out.next (by rw [← HB.out]; exact hx.out.1)), HN⟩, by have := HK.out; simp [intOf]; omega⟩
        · have hR := H0.out (fun h => by have := h k HK.out; rw [← HB.out, pB_not c1 (by rw [← HLW.out]; exact c2)] at this; cases this)
          unfold puV at hR
          simp only [Bool.false_eq_true, if_false] at hR
          subst hR
          by_cases c9 : b = 95
          · have f0 : (b : Int) = 95 := by omega
            have hl9 : l = 127 := by rw [HLW.out, c9]; decide
            have g9 : (l : Int) = 127 := by omega
            rw [f0, g9] at il
            rw [f0] at hc
            clear c1 c2 c9 hl9 g9 f0 b256 l256 A0 A1
            go_wp2_with (go_at_fn 132; refine (il _).mono ?_; rintro e w' ⟨rfl, rfl⟩)
            go_ret2
            exact ⟨rfl, rfl⟩
          · have f0 : ¬ (b : Int) = 95 := by omega
            rcases (show l < 97 ∨ (103 ≤ l ∧ l ≤ 122) ∨ 123 ≤ l by omega) with a1 | a1 | a1
            · have g1 : ¬ (97 : Int) ≤ (l : Int) := by omega
              rcases (show b < 48 ∨ 48 ≤ b by omega) with a2 | a2
              · have q1 : ¬ (48 : Int) ≤ (b : Int) := by omega
                clear c1 c2 c9 a1 a2 b256 l256 A0 A1
                go_wp2_with (go_at_fn 132; refine (il _).mono ?_; rintro e w' ⟨rfl, rfl⟩)
                go_ret2
                exact ⟨rfl, rfl⟩
              · have q1 : (48 : Int) ≤ (b : Int) := by omega
                have q2 : ¬ (b : Int) ≤ 57 := by omega
                clear c1 c2 c9 a1 a2 b256 l256 A0 A1
                go_wp2_with (go_at_fn 132; refine (il _).mono ?_; rintro e w' ⟨rfl, rfl⟩)
                go_ret2
                exact ⟨rfl, rfl⟩
            · have g1 : (97 : Int) ≤ (l : Int) := by omega
              have g2 : (l : Int) ≤ 122 := by omega
              obtain ⟨e0, he⟩ : ∃ e0 : Int, e0 = (l : Int) - 97 := ⟨_, rfl⟩
              have f3 : (l : Int) - 97 = e0 := he.symm
              have f4 : IntKind.u8.wrap e0 = e0 := by rw [IntKind.wrap_u8]; omega
              obtain ⟨d, hd⟩ : ∃ d : Int, d = e0 + 10 := ⟨_, rfl⟩
              have f4b : IntKind.u8.wrap (e0 + 10) = d := by rw [IntKind.wrap_u8]; omega
              have hd9 : (16 : Int) ≤ d := by omega
              rcases (show b < 48 ∨ 48 ≤ b by omega) with a2 | a2
              · have q1 : ¬ (48 : Int) ≤ (b : Int) := by omega
                clear c1 c2 c9 a1 a2 b256 l256 A0 A1 hd he
                go_wp2_with (go_at_fn 132; refine (il _).mono ?_; rintro e w' ⟨rfl, rfl⟩)
                go_ret2
                exact ⟨rfl, rfl⟩
              · have q1 : (48 : Int) ≤ (b : Int) := by omega
                have q2 : ¬ (b : Int) ≤ 57 := by omega
                clear c1 c2 c9 a1 a2 b256 l256 A0 A1 hd he
                go_wp2_with (go_at_fn 132; refine (il _).mono ?_; rintro e w' ⟨rfl, rfl⟩)
                go_ret2
                exact ⟨rfl, rfl⟩
            · have g1 : (97 : Int) ≤ (l : Int) := by omega
              have g2 : ¬ (l : Int) ≤ 122 := by omega
              rcases (show b < 48 ∨ 48 ≤ b by omega) with a2 | a2
              · have q1 : ¬ (48 : Int) ≤ (b : Int) := by omega
                clear c1 c2 c9 a1 a2 b256 l256 A0 A1
                go_wp2_with (go_at_fn 132; refine (il _).mono ?_; rintro e w' ⟨rfl, rfl⟩)
                go_ret2
                exact ⟨rfl, rfl⟩
              · have q1 : (48 : Int) ≤ (b : Int) := by omega
                have q2 : ¬ (b : Int) ≤ 57 := by omega
                clear c1 c2 c9 a1 a2 b256 l256 A0 A1
                go_wp2_with (go_at_fn 132; refine (il _).mono ?_; rintro e w' ⟨rfl, rfl⟩)
                go_ret2
                exact ⟨rfl, rfl⟩
    · obtain rfl : k = 8 := by omega
      have hk3 : ¬ ((8 : Nat) : Int) < 8 := by omega
      have hR := H1.out hh.out
      unfold puV at hR
      simp only [if_true] at hR
      rw [← ha] at hR
      subst hR
      clear H1 H0 ha
      go_wp2
      go_ret2
      exact ⟨rfl, rfl⟩

set_option maxRecDepth 100000 in
set_option maxHeartbeats 1000000 in
theorem iPUok (s : ByteArray) (hl : s.size = 8) (hp : PTo s 8) (w : World) :
    Calls Tryz.prog 82 #[.string s, .int .i64 16, .int .i64 32] w fun e w' => e = .returned (.tuple #[.int .u64 (valP s 8 : Int), .nilIface]) ∧ w' = Lib.bytesWorld w 5 s := by
  have IP := hid (fun w => iPU s hl (puV true (valP s 8)) (fun _ => rfl) (fun h => absurd hp h) w)
  unfold puV at IP
  simp only [if_true] at IP
  obtain ⟨v, hv⟩ : ∃ v, v = valP s 8 := ⟨_, rfl⟩
  rw [← hv] at IP ⊢
  clear hv hp hl
  obtain ⟨a, ha⟩ : ∃ a : Int, a = (v : Int) := ⟨_, rfl⟩
  rw [← ha] at IP ⊢
  clear ha
  go_enter Tryz.func82, Tryz.ntmps82
  go_wp2_with fail
  refine (IP.out _).mono ?_
  rintro e w1 ⟨rfl, rfl⟩
  go_wp2
  go_ret2
  exact ⟨rfl, rfl⟩

set_option maxRecDepth 100000 in
set_option maxHeartbeats 1000000 in
/-- A text that is no number: the error of toError, whose contract is asked for. -/
theorem iPUbad (s : ByteArray) (hl : s.size = 8) (hp : ¬ PTo s 8) (E : World → Prop) (w : World)
    (hE : Calls Tryz.prog 88 #[.string ⟨#[80, 97, 114, 115, 101, 85, 105, 110, 116]⟩, .string s, .int .i64 16, .int .i64 32, .iface 159 (.int .i64 2)] (Lib.bytesWorld w 5 s) fun e w' => ∃ N, e = .returned (.iface 161 (.pointer (some ⟨N, 0, none⟩))) ∧ E w') :
    Calls Tryz.prog 82 #[.string s, .int .i64 16, .int .i64 32] w fun e w' => ∃ N, e = .returned (.tuple #[.int .u64 0, .iface 161 (.pointer (some ⟨N, 0, none⟩))]) ∧ E w' := by
  have IP := hid (fun w => iPU s hl (puV false 0) (fun h => absurd h hp) (fun _ => rfl) w)
  unfold puV at IP
  simp only [Bool.false_eq_true, if_false] at IP
  have HE := hid hE
  clear hp hl hE
  go_enter Tryz.func82, Tryz.ntmps82
  go_wp2_with fail
  refine (IP.out _).mono ?_
  rintro e w1 ⟨rfl, rfl⟩
  go_wp2_with fail
  refine HE.out.mono ?_
  rintro e w2 ⟨N, rfl, h2⟩
  go_wp2
  go_ret2
  exact ⟨N, rfl, h2⟩

def shlE_ren : Go.Shelf.Ren := ⟨fun | 279 => 109 | 316 => 134 | n => n, fun | 0 => 0 | 3 => 3 | 4 => 4 | 5 => 5 | 9 => 9 | 37 => 116 | 75 => 83 | 80 => 125 | 127 => 150 | 168 => 161 | 210 => 194 | n => n, fun | 15 => 7 | n => n⟩

theorem shlE : Go.Proofs.LaysM.n279 Tryz.prog shlE_ren := {
  mixed := by kernel_rfl
  f279 := Tryz.func109.trans (congrArg some (by kernel_rfl))
  f316 := Tryz.func134.trans (congrArg some (by kernel_rfl))
  t0 := Tryz.underlying0
  a0 := Tryz.isAgg0
  z0 := Tryz.sizeOf0
  v0 := Tryz.zeroValue0
  t3 := Tryz.underlying3
  a3 := Tryz.isAgg3
  z3 := Tryz.sizeOf3
  v3 := Tryz.zeroValue3
  t4 := Tryz.underlying4
  a4 := Tryz.isAgg4
  z4 := Tryz.sizeOf4
  v4 := Tryz.zeroValue4
  t9 := Tryz.underlying9
  a9 := Tryz.isAgg9
  z9 := Tryz.sizeOf9
  v9 := Tryz.zeroValue9
  t37 := Tryz.underlying116
  a37 := Tryz.isAgg116
  z37 := Tryz.sizeOf116
  v37 := Tryz.zeroValue116
  t75 := Tryz.underlying83
  a75 := Tryz.isAgg83
  z75 := Tryz.sizeOf83
  v75 := Tryz.zeroValue83
  t127 := Tryz.underlying150
  a127 := Tryz.isAgg150
  z127 := Tryz.sizeOf150
  v127 := Tryz.zeroValue150
  t168 := Tryz.underlying161
  a168 := Tryz.isAgg161
  z168 := Tryz.sizeOf161
  v168 := Tryz.zeroValue161
  t210 := Tryz.underlying194
  a210 := Tryz.isAgg194
  z210 := Tryz.sizeOf194
  v210 := Tryz.zeroValue194
  g15 := by kernel_rfl
  t5 := Tryz.underlying5
  a5 := Tryz.isAgg5
  z5 := Tryz.sizeOf5
  v5 := Tryz.zeroValue5
  t80 := Tryz.underlying125
  a80 := Tryz.isAgg125
  z80 := Tryz.sizeOf125
  v80 := Tryz.zeroValue125
  i0 := by kernel_rfl
  i3 := by kernel_rfl
  i4 := by kernel_rfl
  i5 := by kernel_rfl
  i9 := by kernel_rfl
  i37 := by kernel_rfl
  i75 := by kernel_rfl
  i80 := by kernel_rfl
  i127 := by kernel_rfl
  i168 := by kernel_rfl
  i210 := by kernel_rfl
  m15 := by kernel_rfl }

set_option maxRecDepth 100000 in
set_option maxHeartbeats 1000000 in
theorem iToError (fn s : ByteArray) (ev : Value) (w : World) (hlim : s.size ≤ 281474976710656) (hv : w.cell? ⟨7, 0, none⟩ = some ev) (hev : ev = .nilIface ∨ ∃ te pe, ev = .iface te pe) :
    Calls Tryz.prog 88 #[.string fn, .string s, .int .i64 16, .int .i64 32, .iface 159 (.int .i64 2)] w fun e w' => ∃ N, e = .returned (.iface 161 (.pointer (some ⟨N, 0, none⟩))) ∧ Below w.heap.size w w' := by
  have heq : ∀ W, (binOp .eql 83 (.iface 159 (.int .i64 2)) (.iface 159 (.int .i64 2))).run Tryz.prog W = .ok (.bool true) W := fun W => Lib.run_eql_iface_int W 2 2 Tryz.underlying83 (by kernel_rfl) Tryz.underlying159
  have HS := hid (Any.strconv_syntaxError shlE fn s ev)
  have HV := hid hv
  have HE := hid hev
  have HM := hid hlim
  clear hv hev hlim
  go_enter Tryz.func88, Tryz.ntmps88
  go_wp2_with fail
  refine (HS.out _ HM.out HV.out HE.out).mono ?_
  rintro e w2 ⟨N, rfl, h1, h2, h3⟩
  go_wp2
  go_ret
  exact ⟨N, rfl, h3⟩

set_option maxRecDepth 100000 in
set_option maxHeartbeats 1000000 in
theorem iReadLen (s : ByteArray) (hl : s.size ≠ 8) (w : World) :
    Calls Tryz.prog 48 #[.string s] w fun e w' => e = .returned (.tuple #[.float .f32 0, .int .i64 5]) ∧ Below w.heap.size w w' := by
  have h1 : ¬ ((s.size : Int) = 8) := by omega
  clear hl
  go_enter Tryz.func48, Tryz.ntmps48
  go_wp2
  go_ret2
  exact ⟨rfl, Below.refl _ _⟩

set_option maxRecDepth 100000 in
set_option maxHeartbeats 1000000 in
theorem iReadBad (s : ByteArray) (hl : s.size = 8) (hp : ¬ PTo s 8) (ev : Value) (w : World) (hv : w.cell? ⟨7, 0, none⟩ = some ev) (hev : ev = .nilIface ∨ ∃ te pe, ev = .iface te pe) :
    Calls Tryz.prog 48 #[.string s] w fun e w' => e = .returned (.tuple #[.float .f32 0, .int .i64 5]) ∧ Below w.heap.size w w' := by
  have h1 : ((s.size : Int) = 8) := by omega
  have hs : 7 < w.heap.size := Lib.lt_of_cell hv
  have hb := Lib.bytesWorld_below w 5 s
  have hv2 : (Lib.bytesWorld w 5 s).cell? ⟨7, 0, none⟩ = some ev := (Lib.bytesWorld_old w 5 s ⟨7, 0, none⟩ hs).trans hv
  have HP := hid (iPUbad s hl hp (fun w' => Below w.heap.size w w') w ((iToError ⟨#[80, 97, 114, 115, 101, 85, 105, 110, 116]⟩ s ev (Lib.bytesWorld w 5 s) (by omega) hv2 hev).mono (by
    rintro e w' ⟨N, rfl, k⟩
    exact ⟨N, rfl, hb.trans (k.mono hb.size)⟩)))
  clear hl hp hv hev hs hb hv2
  go_enter Tryz.func48, Tryz.ntmps48
  go_wp2_with fail
  refine HP.out.mono ?_
  rintro e w2 ⟨N, rfl, h2⟩
  go_wp2
  go_ret2
  exact ⟨rfl, h2⟩

theorem bytes_beq (a b : ByteArray) : (a.toList == b.toList) = decide (a = b) := by
  by_cases h : a = b
  · subst h; simp
  · rw [decide_eq_false h]
    refine beq_eq_false_iff_ne.2 (fun k => h ?_)
    rw [Lib.toList_data, Lib.toList_data] at k
    exact ByteArray.ext (Array.toList_inj.1 k)

set_option maxRecDepth 100000 in
set_option maxHeartbeats 1000000 in
theorem iRead8 (s : ByteArray) (hl : s.size = 8) (hp : PTo s 8) (q : Bool) (hq : decide (txN (valP s 8) = s) = q) (w : World) (ht : Tab64 w) :
    Calls Tryz.prog 48 #[.string s] w fun e w' => e = .returned (.tuple #[.float .f32 (if q = true then valP s 8 else 0), .int .i64 (if q = true then 0 else 5)]) ∧ Below w.heap.size w w' := by
  have h1 : ((s.size : Int) = 8) := by omega
  have hb := Lib.bytesWorld_below w 5 s
  have HP := hid (iPUok s hl hp w)
  have v32 : valP s 8 < 4294967296 := valP_lt 8 hp
  obtain ⟨v, hv⟩ : ∃ v, v = valP s 8 := ⟨_, rfl⟩
  rw [← hv] at HP v32 hq ⊢
  have HT := hid (ht.stay hb)
  have HN := hid (fun W hW => iNumberText v v32 W hW)
  have HQ := hid hq
  have cv : IntKind.u32.wrap (v : Int) = (v : Int) := w32 v32
  have hn9 : (v : Int).toNat = v := Int.toNat_natCast v
  have Hb := hid hb
  clear hl hp ht hv v32 hq hb
  go_enter Tryz.func48, Tryz.ntmps48
  go_wp2_with fail
  refine HP.out.mono ?_
  rintro e w2 ⟨rfl, rfl⟩
  go_wp2_with fail
  refine (HN.out _ HT.out).mono ?_
  rintro e w3 ⟨rfl, k3⟩
  have K := hid (Hb.out.trans (k3.mono Hb.out.size))
  clear k3
  have hE := HQ.out
  clear HQ
  cases q
  · have hE2 : ((txN v).toList == s.toList) = false := (bytes_beq _ _).trans hE
    clear hE
    go_wp2
    go_ret2
    exact ⟨rfl, K.out⟩
  · have hE2 : ((txN v).toList == s.toList) = true := (bytes_beq _ _).trans hE
    clear hE
    go_wp2
    go_ret2
    exact ⟨rfl, K.out⟩

theorem hexP_tab : ((List.range 256).all fun b => !isHexB b || (isPB b && decide (digP b = digB b) && decide (hexN (digB b) = b))) = true := by decide +kernel

theorem hexP {b : Nat} (hb : b < 256) (h : isHexB b = true) : isPB b = true ∧ digP b = digB b ∧ hexN (digB b) = b := by
  have := List.all_eq_true.1 hexP_tab b (List.mem_range.2 hb)
  rw [h] at this
  simpa [and_assoc] using this

theorem hexN_tab : ((List.range 16).all fun d => isHexB (hexN d) && decide (digB (hexN d) = d)) = true := by decide +kernel

theorem hexN_is {d : Nat} (h : d < 16) : isHexB (hexN d) = true ∧ digB (hexN d) = d := by
  have := List.all_eq_true.1 hexN_tab d (List.mem_range.2 h)
  simpa using this

theorem hex_P {s : ByteArray} : ∀ k, HexTo s k → PTo s k ∧ valP s k = valT s k
  | 0, _ => ⟨fun i h => absurd h (Nat.not_lt_zero i), rfl⟩
  | k + 1, h => by
    have ih := hex_P k (fun i hi => h i (by omega))
    have hx := hexP (byT_lt s k) (h k (by omega))
    refine ⟨ih.1.next hx.1, ?_⟩
    show valP s k * 16 + digP (byT s k) = valT s k * 16 + digB (byT s k)
    rw [ih.2, hx.2.1]

theorem byT_tx {n : Nat} {s : ByteArray} (h : (⟨(hexL n 8).toArray⟩ : ByteArray) = s) {i : Nat} (hi : i < 8) : byT s i = hexN (n / 16 ^ (7 - i) % 16) := by
  subst h
  unfold byT
  show ((hexL n 8).toArray.toList.getD i 0).toNat = _
  rw [List.getD_eq_getElem?_getD, List.toList_toArray, hexL_get 8 n i hi]
  show (hexD (n / 16 ^ (8 - 1 - i) % 16)).toNat = _
  rw [hexD_nat (Nat.mod_lt _ (by decide)), show 8 - 1 - i = 7 - i by omega]

theorem tx_hex {n : Nat} {s : ByteArray} (hn : n < 4294967296) (h : (⟨(hexL n 8).toArray⟩ : ByteArray) = s) : HexTo s 8 ∧ valT s 8 = n := by
  have hd : ∀ i, i < 8 → isHexB (byT s i) = true ∧ digB (byT s i) = n / 16 ^ (7 - i) % 16 := fun i hi => by
    rw [byT_tx h hi]
    exact hexN_is (Nat.mod_lt _ (by decide))
  refine ⟨fun i hi => (hd i hi).1, ?_⟩
  have go : ∀ k, k ≤ 8 → valT s k = n / 16 ^ (8 - k) := by
    intro k
    induction k with
    | zero => intro _; show 0 = n / 16 ^ 8; rw [Nat.div_eq_of_lt]; exact hn
    | succ k ih =>
      intro hk
      show valT s k * 16 + digB (byT s k) = _
      rw [ih (by omega), (hd k (by omega)).2, show 8 - k = (7 - k) + 1 by omega, show 8 - (k + 1) = 7 - k by omega, Nat.pow_succ, ← Nat.div_div_eq_div_mul]
      omega
  have := go 8 (Nat.le_refl _)
  simpa using this

theorem valT_div {s : ByteArray} {k : Nat} : ∀ j, HexTo s (k + j) → valT s (k + j) / 16 ^ j = valT s k
  | 0, _ => by simp
  | j + 1, h => by
    have ih := valT_div (s := s) (k := k) j (fun i hi => h i (by omega))
    have hd := digB_lt (h (k + j) (by omega))
    show (valT s (k + j) * 16 + digB (byT s (k + j))) / 16 ^ (j + 1) = _
    rw [Nat.pow_succ, Nat.mul_comm (16 ^ j) 16, ← Nat.div_div_eq_div_mul, show (valT s (k + j) * 16 + digB (byT s (k + j))) / 16 = valT s (k + j) by omega, ih]

theorem hex_tx {s : ByteArray} (hl : s.size = 8) (h : HexTo s 8) : (⟨(hexL (valT s 8) 8).toArray⟩ : ByteArray) = s := by
  have hsz : s.data.toList.length = 8 := by simpa using hl
  have key : hexL (valT s 8) 8 = s.data.toList := by
    refine List.ext_getElem? fun i => ?_
    by_cases hi : i < 8
    · rw [hexL_get 8 _ i hi, List.getElem?_eq_getElem (by omega)]
      have hx := h i hi
      have hdv : valT s 8 / 16 ^ (8 - 1 - i) = valT s (i + 1) := by
        have := valT_div (s := s) (k := i + 1) (7 - i) (by rw [show i + 1 + (7 - i) = 8 by omega]; exact h)
        rw [show i + 1 + (7 - i) = 8 by omega] at this
        rw [show 8 - 1 - i = 7 - i by omega]; exact this
      have hd := digB_lt hx
      have hm : valT s (i + 1) % 16 = digB (byT s i) := by
        show (valT s i * 16 + digB (byT s i)) % 16 = _
        omega
      rw [hdv, hm]
      unfold hexD
      rw [(hexP (byT_lt s i) hx).2.2]
      unfold byT
      rw [List.getD_eq_getElem?_getD, List.getElem?_eq_getElem (by omega)]
      simp
    · rw [List.getElem?_eq_none (by rw [hexL_length]; omega), List.getElem?_eq_none (by omega)]
  rw [key]

/-- What reading a number gives, and whether it is one. -/
theorem rd_same {s : ByteArray} (hl : s.size = 8) (hp : PTo s 8) : txN (valP s 8) = s ↔ HexTo s 8 ∧ nb (valT s 8) = valT s 8 := by
  have v32 : valP s 8 < 4294967296 := valP_lt 8 hp
  constructor
  · intro h
    have h2 := tx_hex (nb_lt v32) h
    have h3 := (hex_P 8 h2.1).2
    refine ⟨h2.1, ?_⟩
    rw [← h3]
    rw [← h3] at h2
    exact h2.2.symm
  · rintro ⟨h1, h2⟩
    unfold txN
    rw [(hex_P 8 h1).2, h2]
    exact hex_tx hl h1

def shl146_ren : Go.Shelf.Ren := ⟨fun | 138 => 80 | 143 => 81 | 146 => 22 | 195 => 104 | 197 => 105 | 217 => 99 | 218 => 106 | 219 => 107 | 221 => 47 | 224 => 130 | 225 => 129 | 260 => 128 | 266 => 126 | 267 => 131 | 268 => 79 | 314 => 147 | n => n, fun | 0 => 0 | 3 => 3 | 4 => 4 | 5 => 5 | 9 => 9 | 21 => 21 | 31 => 45 | 46 => 160 | 51 => 106 | 105 => 157 | 119 => 206 | 138 => 208 | 139 => 209 | 146 => 197 | n => n, fun | 1 => 6 | 3 => 10 | 4 => 11 | n => n⟩

theorem shl146 : Go.Proofs.Lays.n146 Tryz.prog shl146_ren := {
  mixed := by kernel_rfl
  f138 := Tryz.func80.trans (congrArg some (by kernel_rfl))
  f143 := Tryz.func81.trans (congrArg some (by kernel_rfl))
  f146 := Tryz.func22.trans (congrArg some (by kernel_rfl))
  f195 := Tryz.func104.trans (congrArg some (by kernel_rfl))
  f197 := Tryz.func105.trans (congrArg some (by kernel_rfl))
  f217 := Tryz.func99.trans (congrArg some (by kernel_rfl))
  f218 := Tryz.func106.trans (congrArg some (by kernel_rfl))
  f219 := Tryz.func107.trans (congrArg some (by kernel_rfl))
  f221 := Tryz.func47.trans (congrArg some (by kernel_rfl))
  f224 := Tryz.func130.trans (congrArg some (by kernel_rfl))
  f225 := Tryz.func129.trans (congrArg some (by kernel_rfl))
  f260 := Tryz.func128.trans (congrArg some (by kernel_rfl))
  f266 := Tryz.func126.trans (congrArg some (by kernel_rfl))
  f267 := Tryz.func131.trans (congrArg some (by kernel_rfl))
  f268 := Tryz.func79.trans (congrArg some (by kernel_rfl))
  f314 := Tryz.func147.trans (congrArg some (by kernel_rfl))
  t0 := Tryz.underlying0
  a0 := Tryz.isAgg0
  z0 := Tryz.sizeOf0
  v0 := Tryz.zeroValue0
  t3 := Tryz.underlying3
  a3 := Tryz.isAgg3
  z3 := Tryz.sizeOf3
  v3 := Tryz.zeroValue3
  t4 := Tryz.underlying4
  a4 := Tryz.isAgg4
  z4 := Tryz.sizeOf4
  v4 := Tryz.zeroValue4
  t5 := Tryz.underlying5
  a5 := Tryz.isAgg5
  z5 := Tryz.sizeOf5
  v5 := Tryz.zeroValue5
  t9 := Tryz.underlying9
  a9 := Tryz.isAgg9
  z9 := Tryz.sizeOf9
  v9 := Tryz.zeroValue9
  t21 := Tryz.underlying21
  a21 := Tryz.isAgg21
  z21 := Tryz.sizeOf21
  v21 := Tryz.zeroValue21
  t31 := Tryz.underlying45
  a31 := Tryz.isAgg45
  z31 := Tryz.sizeOf45
  v31 := Tryz.zeroValue45
  t46 := Tryz.underlying160
  a46 := Tryz.isAgg160
  z46 := Tryz.sizeOf160
  v46 := Tryz.zeroValue160
  t51 := Tryz.underlying106
  a51 := Tryz.isAgg106
  z51 := Tryz.sizeOf106
  v51 := Tryz.zeroValue106
  t105 := Tryz.underlying157
  a105 := Tryz.isAgg157
  z105 := Tryz.sizeOf157
  v105 := Tryz.zeroValue157
  t119 := Tryz.underlying206
  a119 := Tryz.isAgg206
  z119 := Tryz.sizeOf206
  t138 := Tryz.underlying208
  a138 := Tryz.isAgg208
  z138 := Tryz.sizeOf208
  v138 := Tryz.zeroValue208
  t139 := Tryz.underlying209
  a139 := Tryz.isAgg209
  z139 := Tryz.sizeOf209
  v139 := Tryz.zeroValue209
  t146 := Tryz.underlying197
  a146 := Tryz.isAgg197
  z146 := Tryz.sizeOf197
  v146 := Tryz.zeroValue197
  g1 := by kernel_rfl
  g3 := by kernel_rfl
  g4 := by kernel_rfl }

theorem hi146 : (Tryz.prog.info? (shl146_ren.t 9)).map (fun i => (i.zero, i.size, i.bytes)) = some (some (.string ByteArray.empty), 1, 16) := by kernel_rfl

theorem shSplit (s sep : ByteArray) (m : Int) (w : World) (hs : s.size < 4294967281) (hm : w.cell? ⟨6, 0, none⟩ = some (.int .i64 m)) (h1 : 1 ≤ sep.size) :
    Calls Tryz.prog 22 #[.string s, .string sep] w fun e w' =>
      e = .returned (.slice (some ⟨w.heap.size, 0, none⟩) (Lib.countB s sep + 1) (Lib.countB s sep + 1)) ∧ w' = w.alloc (.cells ((Lib.splitB sep 0 (Lib.countB s sep) s).map Value.string).toArray 9) := Any.strings_Split shl146 hi146 s sep m w hs hm h1

/-- The pieces of a text that is cut at a byte, by the program. -/
theorem iSplit (s : ByteArray) (c : UInt8) (m : Int) (w : World) (hs : s.size ≤ 1048576) (hm : w.cell? ⟨6, 0, none⟩ = some (.int .i64 m)) :
    Calls Tryz.prog 22 #[.string s, .string ⟨#[c]⟩] w fun e w' => ∃ v, e = .returned v ∧ MadeS (pcN c s) (pcV c s) w v w' := by
  refine (shSplit s ⟨#[c]⟩ m w (by omega) hm (Nat.le_refl _)).mono ?_
  rintro e w' ⟨rfl, rfl⟩
  have hn : ((Lib.splitB ⟨#[c]⟩ 0 (Lib.countB s ⟨#[c]⟩) s).map Value.string).toArray.size = pcN c s := by simp [pcN, spB]
  refine ⟨_, rfl, w.heap.size, _, _, by rw [pcN_is], Nat.le_refl _, ⟨by rw [hn]; exact Nat.le_refl _, fun k hk => ?_⟩, (Kept.nil w).push _ _⟩
  have hk2 : k < (spB c s).length := hk
  rw [List.getElem?_toArray, List.getElem?_map]
  show Option.map Value.string ((spB c s)[k]?) = some (pcV c s k)
  unfold pcV pcB
  rw [List.getD_eq_getElem?_getD, List.getElem?_eq_getElem hk2]
  rfl

/-- What the library's variables must hold: the table's cell, the error, a number. -/
def Lng (w : World) : Prop := Tab64 w ∧ (∃ ev, w.cell? ⟨7, 0, none⟩ = some ev ∧ (ev = .nilIface ∨ ∃ te pe, ev = .iface te pe)) ∧ ∃ m, w.cell? ⟨6, 0, none⟩ = some (.int .i64 m)

theorem Lng.stay {w w' : World} (h : Lng w) (k : Below w.heap.size w w') : Lng w' := by
  obtain ⟨h1, ⟨ev, h2, h3⟩, m, h4⟩ := h
  exact ⟨h1.stay k, ⟨ev, by rw [k.cell (block_lt_of_cell h2)]; exact h2, h3⟩, m, by rw [k.cell (block_lt_of_cell h4)]; exact h4⟩

def cdN (s : ByteArray) : Int := if okN s = true then 0 else 5

theorem rdI (s : ByteArray) (W : World) (hL : Lng W) :
    Calls Tryz.prog 48 #[.string s] W fun e w' => e = .returned (.tuple #[.float .f32 (vaN s), .int .i64 (cdN s)]) ∧ Below W.heap.size W w' := by
  obtain ⟨hT, ⟨ev, hv, hev⟩, -⟩ := hL
  have no : okN s = false → vaN s = 0 ∧ cdN s = 5 := fun h => by unfold vaN cdN; rw [h]; exact ⟨rfl, rfl⟩
  by_cases hl : s.size = 8
  · by_cases hx : HexTo s 8
    · have hp := (hex_P 8 hx).1
      have he := (hex_P 8 hx).2
      have hr := rd_same hl hp
      by_cases hn : nb (valT s 8) = valT s 8
      · have ho := okN_t hl hx hn
        have := iRead8 s hl hp true (decide_eq_true (hr.2 ⟨hx, hn⟩)) W hT
        rw [he] at this
        have e1 : vaN s = valT s 8 := by unfold vaN; rw [if_pos ho]
        have e2 : cdN s = 0 := by unfold cdN; rw [if_pos ho]
        rw [e1, e2]
        simpa only [if_true] using this
      · obtain ⟨e1, e2⟩ := no (okN_nb hn)
        rw [e1, e2]
        have := iRead8 s hl hp false (decide_eq_false (fun h => hn (hr.1 h).2)) W hT
        simpa only [Bool.false_eq_true, if_false] using this
    · obtain ⟨e1, e2⟩ := no (okN_hex hx)
      rw [e1, e2]
      by_cases hp : PTo s 8
      · have := iRead8 s hl hp false (decide_eq_false (fun h => hx ((rd_same hl hp).1 h).1)) W hT
        simpa only [Bool.false_eq_true, if_false] using this
      · exact iReadBad s hl hp ev W hv hev
  · obtain ⟨e1, e2⟩ := no (okN_len hl)
    rw [e1, e2]
    exact iReadLen s hl W

/-- The lines of a text, and whether one of them is a row of numbers. -/
def lnB (s : ByteArray) (i : Nat) : ByteArray := pcB 10 s i

def isE (x : ByteArray) : Bool := x.toList == []

theorem split_le (sep : ByteArray) : ∀ (k : Nat) (s : ByteArray), ∀ x ∈ Lib.splitB sep 0 k s, x.size ≤ s.size
  | 0, s, x, h => by
    rw [Lib.splitB_zero] at h
    simp only [List.mem_cons, List.not_mem_nil, or_false] at h
    rw [h]; exact Nat.le_refl _
  | k + 1, s, x, h => by
    rcases Lib.indexB_cases s sep with hix | ⟨i, hix, hroom⟩
    · rw [Lib.splitB_miss _ _ _ _ hix] at h
      simp only [List.mem_cons, List.not_mem_nil, or_false] at h
      rw [h]; exact Nat.le_refl _
    · rw [Lib.splitB_hit _ _ _ _ _ hix] at h
      rcases List.mem_cons.1 h with rfl | h
      · rw [ByteArray.size_extract]; omega
      · have := split_le sep k _ x h
        rw [ByteArray.size_extract] at this
        omega

theorem pc_size (c : UInt8) (s : ByteArray) (i : Nat) : (pcB c s i).size ≤ s.size := by
  unfold pcB
  by_cases h : i < (spB c s).length
  · rw [List.getD_eq_getElem?_getD, List.getElem?_eq_getElem h]
    exact split_le _ _ s _ (List.getElem_mem h)
  · rw [List.getD_eq_getElem?_getD, List.getElem?_eq_none (by omega)]
    exact Nat.zero_le _

theorem split10 (s : ByteArray) (hs : s.size ≤ 1048576) (w : World) : Calls Tryz.prog 19 #[.string s, .int .u8 10] w fun e w' => ∃ v, e = .returned v ∧ MadeS (pcN 10 s) (pcV 10 s) w v w' := sSplit s 10 hs w

theorem info_f : (Tryz.prog.info? 28).map (·.size) = some 1 := by kernel_rfl

/-- Marks: the words of the whole numbers from q on. -/
def mkW (F : Int → Nat) (q : Int) : Nat → Nat := fun j => F (q + j)

set_option maxRecDepth 100000 in
set_option maxHeartbeats 2000000 in
theorem markLevels1 (F : Int → Nat) (hcv : ∀ (k : Int) (w : World), (convert 3 28 (.int .i64 k)).run Tryz.prog w = .ok (.float .f32 (F k)) w) (w0 : World) (l : List (Nat × Array Value × TypeId)) (B n cap : Nat) (cs : Array Value) (y : Nat → Nat) (q : Int) (hq : 0 ≤ q ∧ q ≤ 1048576) (w : World) (hk : Kept w0 ((B, cs, 51) :: l) w) (hB : w0.heap.size ≤ B) (hne : ∀ x ∈ l, x.1 ≠ B) (h : LvW cs (3 * n) y) (hn : n ≤ 1048576) :
    Calls Tryz.prog 9 #[.slice (some ⟨B, 0, none⟩) n cap, .int .i64 q] w fun e w' => e = .returned (.int .i64 (q + 3 * n)) ∧ ∃ cs', LvW cs' (3 * n) (mkW F q) ∧ Kept w0 ((B, cs', 51) :: l) w' := by
  have HN := hid hn
  have HNE := hid hne
  have HBB := hid hB
  have HQ := hid hq
  have h0 : Hid (∃ cs', LvW cs' (3 * n) (mrk F y q (3 * 0)) ∧ Kept w0 ((B, cs', 51) :: l) w) := hid ⟨cs, by rw [Nat.mul_zero, mrk_zero]; exact h, hk⟩
  clear hk h hn hB hne hq
  go_enter Tryz.func9, Tryz.ntmps9
  go_wp2_with fail
  go_loopw [1, 5] (fun u i wr => ∃ k : Nat, k ≤ n ∧ i = .int .i64 k ∧ u = .int .i64 (q + 3 * k) ∧ Hid (∃ cs', LvW cs' (3 * n) (mrk F y q (3 * k)) ∧ Kept w0 ((B, cs', 51) :: l) wr)) (fun _ i _ => n - (intOf i).toNat)
  case atStart => exact ⟨0, by omega, rfl, by simp, h0⟩
  case round =>
    obtain ⟨k, hk, rfl, rfl, h1⟩ := hrel
    clear h0
    by_cases hlt : k < n
    · have HL := hid hlt
      have hk3 : (k : Int) < (n : Int) := by omega
      obtain ⟨cs', a1, a2⟩ := h1.out
      have i1 := fun w => run_indexAt (P := Tryz.prog) (t := 22) (e := 51) Tryz.underlying22 info_lev (b := B) (o := 0) (n := n) (cap := cap) (k := k) hlt w
      simp only [Nat.zero_add] at i1
      have hw0 : IntKind.i64.wrap (q + 3 * (k : Int) + 1) = q + 3 * (k : Int) + 1 := by rw [IntKind.wrap_i64]; have := HN.out; have := HQ.out; omega
      have hw1 : IntKind.i64.wrap (q + 3 * (k : Int) + 1 + 1) = q + 3 * (k : Int) + 1 + 1 := by rw [IntKind.wrap_i64]; have := HN.out; have := HQ.out; omega
      have hw2 : IntKind.i64.wrap (q + 3 * (k : Int) + 1 + 1 + 1) = q + 3 * (k : Int) + 1 + 1 + 1 := by rw [IntKind.wrap_i64]; have := HN.out; have := HQ.out; omega
      have A1 := hid a1
      have A2 := hid a2
      clear h1 a1 a2
      go_wp2_with (first | (refine store_lv rfl 28 _ _ rfl info_f B (k * 3 + 2) (F (q + 3 * (k : Int) + 1 + 1)) rfl rfl k2.out v2.out (by have := HL.out; omega) HBB.out HNE.out (fun w3 k3 v3 => ?_); replace k3 := hid k3; replace v3 := hid v3) | (refine store_lv rfl 28 _ _ rfl info_f B (k * 3 + 1) (F (q + 3 * (k : Int) + 1)) rfl rfl k1.out v1.out (by have := HL.out; omega) HBB.out HNE.out (fun w2 k2 v2 => ?_); replace k2 := hid k2; replace v2 := hid v2) | (refine store_lv rfl 28 _ _ rfl info_f B (k * 3) (F (q + 3 * (k : Int))) rfl rfl A2.out A1.out (by have := HL.out; omega) HBB.out HNE.out (fun w1 k1 v1 => ?_); replace k1 := hid k1; replace v1 := hid v1))
      have b3 : Hid (∃ cs', LvW cs' (3 * n) (mrk F y q (3 * (k + 1))) ∧ Kept w0 ((B, cs', 51) :: l) w3) := by
        refine hid ⟨_, v3.out.ext fun j _ => ?_, k3.out⟩
        have s1 := mrk_step F y q (3 * k)
        have s2 := mrk_step F y q (3 * k + 1)
        have s3 := mrk_step F y q (3 * k + 2)
        rw [show 3 * (k + 1) = 3 * k + 2 + 1 by omega, ← s3, ← s2, ← s1]
        rw [show q + ((3 * k : Nat) : Int) = q + 3 * (k : Int) by omega, show q + ((3 * k + 1 : Nat) : Int) = q + 3 * (k : Int) + 1 by omega, show q + ((3 * k + 2 : Nat) : Int) = q + 3 * (k : Int) + 1 + 1 by omega, show k * 3 = 3 * k by omega]
      clear A1 A2 k1 v1 k2 v2 k3 v3
      have hn9 := HN.out
      have hw9 : wrap64 ((k : Int) + 1) = (k : Int) + 1 := by unfold wrap64; omega
      go_roundw
      case rel => exact ⟨k + 1, by omega, by go_num, by congr 1; omega, b3⟩
      case measure => rw [hw9]; show n - (((k : Int) + 1)).toNat < n - ((k : Int)).toNat; clear hw0 hw1 hw2 hw9; omega
    · obtain rfl : k = n := by omega
      have hk3 : ¬ (k : Int) < (k : Int) := by omega
      go_wp2
      go_ret
      obtain ⟨cs', a1, a2⟩ := h1.out
      exact ⟨rfl, cs', a1.ext (fun j hj => if_pos hj), a2⟩

set_option maxRecDepth 100000 in
set_option maxHeartbeats 2000000 in
theorem heldLevels1 (F : Int → Nat) (hcv : ∀ (k : Int) (w : World), (convert 3 28 (.int .i64 k)).run Tryz.prog w = .ok (.float .f32 (F k)) w) (hF : ∀ k : Int, 0 ≤ k → k ≤ 1000000000 → (FloatKind.f32.format.order (F k) (F k) != some .eq) = false)
    (s : Value) (n : Nat) (q : Int) (hq : 0 ≤ q ∧ q ≤ 1048576) (w : World) (hs : Rd w s n (mkW F q)) (hn : n ≤ 1048576) :
    Calls Tryz.prog 10 #[s, .int .i64 q] w fun e w' => e = .returned (.int .i64 (q + 3 * n)) ∧ w = w' := by
  obtain ⟨p, cap, rfl, hc⟩ := hs
  have HC := hid hc
  have HN := hid hn
  have HQ := hid hq
  have HF := hid hF
  clear hc hn hq hF
  go_enter Tryz.func10, Tryz.ntmps10
  go_wp2_with fail
  go_loopw [1, 5] (fun u i wr => ∃ k : Nat, k ≤ n ∧ i = .int .i64 k ∧ u = .int .i64 (q + 3 * k) ∧ w = wr) (fun _ i _ => n - (intOf i).toNat)
  case atStart => exact ⟨0, by omega, rfl, by simp, rfl⟩
  case round =>
    obtain ⟨k, hk, rfl, rfl, rfl⟩ := hrel
    by_cases hlt : k < n
    · have HL := hid hlt
      have hk3 : (k : Int) < (n : Int) := by omega
      obtain ⟨b, o, rfl, hcell⟩ := HC.out (by omega)
      have c0 : w.cell? ⟨b, o + k * 3, none⟩ = some (.float .f32 (F (q + 3 * (k : Int)))) := by rw [hcell (k * 3) (by omega)]; unfold mkW; rw [show q + ((k * 3 : Nat) : Int) = q + 3 * (k : Int) by omega]
      have c1 : w.cell? ⟨b, o + k * 3 + 1, none⟩ = some (.float .f32 (F (q + 3 * (k : Int) + 1))) := by rw [Nat.add_assoc, hcell (k * 3 + 1) (by omega)]; unfold mkW; rw [show q + ((k * 3 + 1 : Nat) : Int) = q + 3 * (k : Int) + 1 by omega]
      have c2 : w.cell? ⟨b, o + k * 3 + 2, none⟩ = some (.float .f32 (F (q + 3 * (k : Int) + 1 + 1))) := by rw [Nat.add_assoc, hcell (k * 3 + 2) (by omega)]; unfold mkW; rw [show q + ((k * 3 + 2 : Nat) : Int) = q + 3 * (k : Int) + 1 + 1 by omega]
      have i1 := fun w => run_indexAt (P := Tryz.prog) (t := 22) (e := 51) Tryz.underlying22 info_lev (b := b) (o := o) (n := n) (cap := cap) (k := k) hlt w
      have n0 := HF.out (q + 3 * (k : Int)) (by have := HQ.out; omega) (by have := HQ.out; have := HN.out; omega)
      have n1 := HF.out (q + 3 * (k : Int) + 1) (by have := HQ.out; omega) (by have := HQ.out; have := HN.out; omega)
      have n2 := HF.out (q + 3 * (k : Int) + 1 + 1) (by have := HQ.out; omega) (by have := HQ.out; have := HN.out; omega)
      have hw0 : IntKind.i64.wrap (q + 3 * (k : Int) + 1) = q + 3 * (k : Int) + 1 := by rw [IntKind.wrap_i64]; have := HN.out; have := HQ.out; omega
      have hw1 : IntKind.i64.wrap (q + 3 * (k : Int) + 1 + 1) = q + 3 * (k : Int) + 1 + 1 := by rw [IntKind.wrap_i64]; have := HN.out; have := HQ.out; omega
      have hw2 : IntKind.i64.wrap (q + 3 * (k : Int) + 1 + 1 + 1) = q + 3 * (k : Int) + 1 + 1 + 1 := by rw [IntKind.wrap_i64]; have := HN.out; have := HQ.out; omega
      clear hcell
      go_wp2
      have hn9 := HN.out
      have hw9 : wrap64 ((k : Int) + 1) = (k : Int) + 1 := by unfold wrap64; omega
      go_roundw
      case rel => exact ⟨k + 1, by omega, by go_num, by congr 1; omega, trivial⟩
      case measure => rw [hw9]; show n - (((k : Int) + 1)).toNat < n - ((k : Int)).toNat; clear hw0 hw1 hw2 hw9; omega
    · obtain rfl : k = n := by omega
      have hk3 : ¬ (k : Int) < (k : Int) := by omega
      go_wp2
      go_ret
      exact ⟨rfl, rfl⟩

set_option maxRecDepth 100000 in
theorem fcv (k : Int) (w : World) : (convert 3 28 (.int .i64 k)).run Tryz.prog w = .ok (.float .f32 (fiW k)) w := rfl

theorem fne (k : Int) (h0 : 0 ≤ k) (h1 : k ≤ 1000000000) : (FloatKind.f32.format.order (fiW k) (fiW k) != some .eq) = false := by rw [fiW_eq h0 h1]; rfl

/-- A slice of levels that a call made. -/
def MadeL (T : TypeId) (n : Nat) (y : Nat → Nat) (w : World) (v : Value) (w' : World) : Prop := ∃ B cs cap, v = .slice (some ⟨B, 0, none⟩) n cap ∧ w.heap.size ≤ B ∧ LvW cs (3 * n) y ∧ Kept w [(B, cs, T)] w'

theorem markL (w0 : World) (l : List (Nat × Array Value × TypeId)) (B n cap : Nat) (cs : Array Value) (y : Nat → Nat) (w : World) (hk : Kept w0 ((B, cs, 51) :: l) w) (hB : w0.heap.size ≤ B) (hne : ∀ x ∈ l, x.1 ≠ B) (h : LvW cs (3 * n) y) (hn : n ≤ 1048576) :
    Calls Tryz.prog 9 #[.slice (some ⟨B, 0, none⟩) n cap, .int .i64 1] w fun e w' => e = .returned (.int .i64 (1 + 3 * n)) ∧ ∃ cs', LvW cs' (3 * n) (mkW fiW 1) ∧ Kept w0 ((B, cs', 51) :: l) w' :=
  markLevels1 fiW fcv w0 l B n cap cs y 1 ⟨by omega, by omega⟩ w hk hB hne h hn

theorem heldL (s : Value) (n : Nat) (w : World) (hs : Rd w s n (mkW fiW 1)) (hn : n ≤ 1048576) :
    Calls Tryz.prog 10 #[s, .int .i64 1] w fun e w' => e = .returned (.int .i64 (1 + 3 * n)) ∧ w = w' :=
  heldLevels1 fiW fcv fne s n 1 ⟨by omega, by omega⟩ w hs hn

theorem held0 (p : Option Addr) (w : World) : Calls Tryz.prog 10 #[.slice p 0 0, .int .i64 1] w fun e w' => e = .returned (.int .i64 1) ∧ w = w' := by
  have := heldL (.slice p 0 0) 0 w (Rd.zero w p 0 _) (by omega)
  simpa using this

theorem mark0 (p : Option Addr) (w : World) : Calls Tryz.prog 9 #[.slice p 0 0, .int .i64 1] w fun e w' => e = .returned (.int .i64 1) ∧ w = w' := by
  go_enter Tryz.func9, Tryz.ntmps9
  go_wp2_with fail
  go_loopw [1, 5] (fun u i wr => i = .int .i64 0 ∧ u = .int .i64 1 ∧ w = wr) (fun _ _ _ => 0)
  case atStart => exact ⟨rfl, rfl, rfl⟩
  case round =>
    obtain ⟨rfl, rfl, rfl⟩ := hrel
    go_wp2
    go_ret
    exact ⟨rfl, rfl⟩

/-- The levels with a text. -/
def rowL (x : ByteArray) : Bool := decide (pcN 32 x = 3) && allN (fun j => okN (pcB 32 x j)) 3

def lv (s : ByteArray) (i : Nat) : Nat := vaN (pcB 32 (lnB s (i / 3)) (i % 3))

theorem lv_at (s : ByteArray) (k : Nat) {j : Nat} (h : j < 3) : lv s (k * 3 + j) = vaN (pcB 32 (lnB s k) j) := by
  unfold lv
  rw [show (k * 3 + j) / 3 = k by omega, show (k * 3 + j) % 3 = j by omega]

theorem lv_lt (s : ByteArray) : W32 (lv s) := fun _ => vaN_lt _

def OkS (s : ByteArray) : Prop := s.size ≤ 4000 ∧ (∀ i, i < pcN 10 s - 1 → rowL (lnB s i) = true) ∧ isE (lnB s (pcN 10 s - 1)) = true ∧ souB (pcN 10 s - 1) (lv s) = true

theorem rowL_len {x : ByteArray} (h : pcN 32 x ≠ 3) : rowL x = false := by unfold rowL; rw [decide_eq_false h]; rfl

theorem rowL_num {x : ByteArray} (h : allN (fun i => okN (pcB 32 x i)) (pcN 32 x) = false) : rowL x = false := by
  by_cases e : pcN 32 x = 3
  · rw [e] at h; unfold rowL; rw [h, Bool.and_false]
  · exact rowL_len e

theorem rowL_is {x : ByteArray} (e : pcN 32 x = 3) (h : allN (fun i => okN (pcB 32 x i)) (pcN 32 x) = true) : rowL x = true := by
  rw [e] at h; unfold rowL; rw [h, decide_eq_true e]; rfl

theorem infoz_lvl : (Tryz.prog.info? 51).map (fun i => (i.zero, i.size, i.bytes)) = some (some (.agg #[.float .f32 0, .float .f32 0, .float .f32 0]), 3, 12) := by kernel_rfl

set_option maxRecDepth 100000 in
set_option maxHeartbeats 2000000 in
theorem sReadSounding (s : ByteArray) (hs : s.size ≤ 1048576) (c : Int) (hc5 : s.size ≤ 4000 → c = 5) (hc2 : ¬ s.size ≤ 4000 → c = 2) (w : World) (R : Ending → World → Prop)
    (hok : OkS s → ∀ v w', MadeL 51 (pcN 10 s - 1) (lv s) w v w' → R (.returned (.tuple #[v, .int .i64 0])) w')
    (hbad : ¬ OkS s → ∀ p w', Below w.heap.size w w' → R (.returned (.tuple #[.slice p 0 0, .int .i64 c])) w') :
    Calls Tryz.prog 6 #[.string s] w R := by
  have HOK := hid hok
  have HBAD := hid hbad
  by_cases h4 : s.size ≤ 4000
  · obtain rfl := hc5 h4
    have h43 : ¬ (4000 : Int) < (s.size : Int) := by omega
    have H4 := hid h4
    have HSP := hid (fun W => split10 s hs W)
    obtain ⟨m, hm⟩ : ∃ m, pcN 10 s = m + 1 := ⟨pcN 10 s - 1, by have := pcN_pos 10 s; omega⟩
    have HM := hid (show m ≤ 4000 by have := pcN_le 10 s; omega)
    have HS := hid hs
    have HLV := hid (lv_lt s)
    have e1 : pcN 10 s - 1 = m := by omega
    have OKI := hid (show OkS s ↔ (∀ i, i < m → rowL (lnB s i) = true) ∧ isE (lnB s m) = true ∧ souB m (lv s) = true from by
      unfold OkS; rw [e1]; exact ⟨fun h => h.2, fun h => ⟨h4, h⟩⟩)
    rw [e1] at HOK
    rw [hm] at HSP
    have PM : Hid (pcV 10 s m = .string (lnB s m)) := hid rfl
    obtain ⟨xm, hxm⟩ : ∃ x, x = lnB s m := ⟨_, rfl⟩
    rw [← hxm] at PM
    have HXM := hid hxm
    obtain ⟨qe, hqe⟩ : ∃ qe, isE xm = qe := ⟨_, rfl⟩
    have HQE := hid hqe
    have hq0 : (xm.toList == []) = qe := hqe
    have hq1 : xm.toList.isEmpty = qe := by rw [← hq0]; cases xm.toList <;> rfl
    have hw1 : wrap64 (((m + 1 : Nat) : Int) - 1) = (m : Int) := by have := HM.out; unfold wrap64; omega
    have hw2 : wrap64 ((m : Int) + 1 - 1) = (m : Int) := by have := HM.out; unfold wrap64; omega
    have hw3 : wrap64 (m : Int) = (m : Int) := by have := HM.out; unfold wrap64; omega
    obtain ⟨qs, hqs⟩ : ∃ qs, souB m (lv s) = qs := ⟨_, rfl⟩
    have HQS := hid hqs
    clear hok hbad hc5 hc2 h4 hs hm hxm hqe e1 hqs
    go_enter Tryz.func6, Tryz.ntmps6
    go_wp2_with fail
    refine (HSP.out _).mono ?_
    rintro e w1 ⟨v, rfl, B1, cs1, cap1, rfl, hB1, L1, K1⟩
    have k1 := hid K1
    have HL1 := hid L1
    have k0 : Hid ((w1.alloc (.cells #[] 51)).ownsRow w1.heap.size 51 3 (.slice (some ⟨w1.heap.size, 0, none⟩) 0 0) 0 (wds (lv s) (0 * 3))) := hid (World.ownsRow_made w1 #[] 0 (Nat.le_refl _) (by decide) rfl)
    have b0 : Hid (Below w1.heap.size w1 (w1.alloc (.cells #[] 51))) := hid (boxed _ _)
    clear HSP hB1 L1 K1
    go_wp2_with fail
    go_loopw [7, 6] (fun i v wr => ∃ k : Nat, k ≤ m ∧ i = .int .i64 (k : Int) ∧ Hid (∀ j, j < k → rowL (lnB s j) = true) ∧ Hid (wr.ownsRow w1.heap.size 51 3 v k (wds (lv s) (k * 3))) ∧ Hid (Below w1.heap.size w1 wr)) (fun i _ _ => m - (intOf i).toNat)
    case atStart => exact ⟨0, by omega, rfl, hid (fun j hj => absurd hj (Nat.not_lt_zero j)), k0, b0⟩
    case round =>
      clear k0 b0
      obtain ⟨k, hk, rfl, hall, hO, hB⟩ := hrel
      by_cases hlt : k < m
      · have HL := hid hlt
        have hk3 : (k : Int) < (m : Int) := by omega
        have hw9 : wrap64 ((k : Int) + 1) = (k : Int) + 1 := by have := HM.out; unfold wrap64; omega
        have c1 : wr.cell? ⟨B1, k, none⟩ = some (.string (lnB s k)) := HL1.out.cell ((k1.out.stay hB.out).at (x := (B1, cs1, 9)) in0) (by omega)
        have i1 := fun w => run_indexAt (P := Tryz.prog) (t := 45) (e := 9) Tryz.underlying45 infos_st (b := B1) (o := 0) (n := m + 1) (cap := cap1) (k := k) (by omega) w
        simp only [Nat.zero_add, Nat.mul_one] at i1
        obtain ⟨x, hx⟩ : ∃ x, x = lnB s k := ⟨_, rfl⟩
        have hxs : x.size ≤ 1048576 := by rw [hx]; exact Nat.le_trans (pc_size 10 s k) HS.out
        have HX := hid hx
        rw [← hx] at c1
        have SP := hid (fun W => split32 x hxs W)
        have n0 := hid (pcN_pos 32 x)
        have n1 := hid (Nat.le_trans (pcN_le 32 x) (show x.size + 1 ≤ 1048577 by omega))
        obtain ⟨qr, hqr⟩ : ∃ qr, allN (fun i => okN (pcB 32 x i)) (pcN 32 x) = qr := ⟨_, rfl⟩
        have HQR := hid hqr
        have R1 := hid (rowL_num (x := x))
        have R2 := hid (rowL_is (x := x))
        have R3 := hid (rowL_len (x := x))
        obtain ⟨n3, hn3⟩ : ∃ n3, n3 = pcN 32 x := ⟨_, rfl⟩
        rw [← hn3] at SP n0 n1 HQR R1 R2 R3
        clear hx hqr hn3 hxs hlt hk
        go_wp2_with fail
        refine (SP.out _).mono ?_
        rintro e w2 ⟨v, rfl, B3, cs3, cap3, rfl, hB3, L3, K3⟩
        have RR := hid (K3.rdV L3 in0 cap3)
        have O2 := hid (own_stay hO.out K3.1)
        have D2 := hid (stp hB.out (Nat.le_refl _) K3.1)
        clear hO hB SP hB3 L3 K3 c1
        have HNM := hid (sNumbers _ n3 (fun i => pcB 32 x i) w2 RR.out n0.out n1.out qr HQR.out)
        go_wp2_with fail
        refine HNM.out.mono ?_
        rintro e w3 ⟨rv, rfl, hb, hmade⟩
        have MD := hid hmade
        have O3 := hid (own_stay O2.out hb)
        have D3 := hid (stp D2.out (Nat.le_refl _) hb)
        clear hmade hb O2 D2 HNM RR
        cases qr
        · have hr := R1.out HQR.out
          have BAD := hid (HBAD.out (fun h => by have := (OKI.out.1 h).1 k HL.out; rw [← HX.out, hr] at this; cases this))
          have D4 := hid (stp k1.out.1 (Nat.le_refl _) (D3.out.alloc D3.out.size (.cells #[] 51)))
          clear O3 D3 MD hr R1 R2 R3 HBAD HOK
          go_wp2
          exact BAD.out _ _ D4.out
        · by_cases hn4 : n3 = 3
          · obtain ⟨B4, cs4, cap4, rfl, hB4, L4, K4⟩ := MD.out rfl
            have hr := R2.out hn4 HQR.out
            subst hn4
            have AL := hid (to_next (p := fun j => rowL (lnB s j)) hall.out (by rw [← HX.out]; exact hr))
            have HL4 := hid L4
            have K4h := hid K4
            have v0 : Hid (vaN (pcB 32 x 0) = lv s (k * 3)) := hid (by rw [HX.out]; exact (lv_at s k (j := 0) (by omega)).symm)
            have v1 : Hid (vaN (pcB 32 x 1) = lv s (k * 3 + 1)) := hid (by rw [HX.out]; exact (lv_at s k (j := 1) (by omega)).symm)
            have v2 : Hid (vaN (pcB 32 x 2) = lv s (k * 3 + 2)) := hid (by rw [HX.out]; exact (lv_at s k (j := 2) (by omega)).symm)
            clear MD hr hall K4 hB4 L4 R1 R2 R3 HQR HX HOK HBAD
            go_wp2_with fail
            have O4 := hid (own_drew O3.out)
            have D4 := hid D3.out.drew
            have K5 := hid K4h.out.drew
            have T0 := hid (three_self (lv s) k)
            obtain ⟨a0, ha0⟩ : ∃ a, a = lv s (k * 3) := ⟨_, rfl⟩
            obtain ⟨a1, ha1⟩ : ∃ a, a = lv s (k * 3 + 1) := ⟨_, rfl⟩
            obtain ⟨a2, ha2⟩ : ∃ a, a = lv s (k * 3 + 2) := ⟨_, rfl⟩
            rw [← ha0, ← ha1, ← ha2] at T0
            have f0 : Hid (∀ wq, Kept w2 [(B4, cs4, 28)] wq → wq.cell? ⟨B4, 0, none⟩ = some (.float .f32 a0)) := hid (fun wq hq => by rw [ha0, ← v0.out]; exact HL4.out.cell (hq.at (x := (B4, cs4, 28)) in0) (by omega))
            have f1 : Hid (∀ wq, Kept w2 [(B4, cs4, 28)] wq → wq.cell? ⟨B4, 1, none⟩ = some (.float .f32 a1)) := hid (fun wq hq => by rw [ha1, ← v1.out]; exact HL4.out.cell (hq.at (x := (B4, cs4, 28)) in0) (by omega))
            have f2 : Hid (∀ wq, Kept w2 [(B4, cs4, 28)] wq → wq.cell? ⟨B4, 2, none⟩ = some (.float .f32 a2)) := hid (fun wq hq => by rw [ha2, ← v2.out]; exact HL4.out.cell (hq.at (x := (B4, cs4, 28)) in0) (by omega))
            clear ha0 ha1 ha2 v0 v1 v2 K4h O3 D3
            refine region_free 15 (by kernel_rfl) rfl rfl ?_
            generalize w3.drew = w5 at O4 D4 K5 ⊢
            refine takeP_val (by intro c a d v w h; cases d <;> exact h) 0 u6 rfl (by rfl) (by kernel_rfl) (by kernel_rfl) (by kernel_rfl) (fun w => by rfl) trivial ?_
            simp only [Act.put, List.setIfInBounds_toArray, List.set_cons_zero, List.set_cons_succ]
            refine late_goP (S := Kept w2 [(B4, cs4, 28)]) (f := 11) 12 [0] #[true, false, false, false, false, false, false, false, false, false, false, false] (by kernel_rfl) (by kernel_rfl) rfl (by intro c a d v w h; cases d <;> exact h) (fun PB => ?_)
            refine takeP_val PB 1 (.slice (some ⟨B4, 0, none⟩) 3 cap4) rfl (by rfl) (by kernel_rfl) (by kernel_rfl) (by kernel_rfl) (fun w => by rfl) K5.out ?_
            simp only [Act.put, List.setIfInBounds_toArray, List.set_cons_zero, List.set_cons_succ]
            refine takeP_val PB 2 (.pointer (some ⟨B4, 0, none⟩)) rfl (by rfl) (by kernel_rfl) (by kernel_rfl) (by kernel_rfl) (fun w => by unfold execOp; go_simp) K5.out ?_
            simp only [Act.put, List.setIfInBounds_toArray, List.set_cons_zero, List.set_cons_succ]
            refine takeP_cell PB 3 (.float .f32 a0) rfl (by rfl) (by kernel_rfl) (by kernel_rfl) (by kernel_rfl) (fun wq hS => by have hcell := f0.out wq hS; clear hS; unfold execOp; go_simp) K5.out ?_
            simp only [Act.put, List.setIfInBounds_toArray, List.set_cons_zero, List.set_cons_succ]
            refine takeP_val PB 4 (.slice (some ⟨B4, 0, none⟩) 3 cap4) rfl (by rfl) (by kernel_rfl) (by kernel_rfl) (by kernel_rfl) (fun w => by rfl) K5.out ?_
            simp only [Act.put, List.setIfInBounds_toArray, List.set_cons_zero, List.set_cons_succ]
            refine takeP_val PB 5 (.pointer (some ⟨B4, 1, none⟩)) rfl (by rfl) (by kernel_rfl) (by kernel_rfl) (by kernel_rfl) (fun w => by unfold execOp; go_simp) K5.out ?_
            simp only [Act.put, List.setIfInBounds_toArray, List.set_cons_zero, List.set_cons_succ]
            refine takeP_cell PB 6 (.float .f32 a1) rfl (by rfl) (by kernel_rfl) (by kernel_rfl) (by kernel_rfl) (fun wq hS => by have hcell := f1.out wq hS; clear hS; unfold execOp; go_simp) K5.out ?_
            simp only [Act.put, List.setIfInBounds_toArray, List.set_cons_zero, List.set_cons_succ]
            refine takeP_val PB 7 (.slice (some ⟨B4, 0, none⟩) 3 cap4) rfl (by rfl) (by kernel_rfl) (by kernel_rfl) (by kernel_rfl) (fun w => by rfl) K5.out ?_
            simp only [Act.put, List.setIfInBounds_toArray, List.set_cons_zero, List.set_cons_succ]
            refine takeP_val PB 8 (.pointer (some ⟨B4, 2, none⟩)) rfl (by rfl) (by kernel_rfl) (by kernel_rfl) (by kernel_rfl) (fun w => by unfold execOp; go_simp) K5.out ?_
            simp only [Act.put, List.setIfInBounds_toArray, List.set_cons_zero, List.set_cons_succ]
            refine takeP_cell PB 9 (.float .f32 a2) rfl (by rfl) (by kernel_rfl) (by kernel_rfl) (by kernel_rfl) (fun wq hS => by have hcell := f2.out wq hS; clear hS; unfold execOp; go_simp) K5.out ?_
            simp only [Act.put, List.setIfInBounds_toArray, List.set_cons_zero, List.set_cons_succ]
            refine takeP_val PB 10 (.agg #[.float .f32 a1, .float .f32 a2]) rfl (by rfl) (by kernel_rfl) (by kernel_rfl) (by kernel_rfl) (fun w => by unfold execOp; go_simp) K5.out ?_
            simp only [Act.put, List.setIfInBounds_toArray, List.set_cons_zero, List.set_cons_succ]
            refine takeP_val PB 11 (.agg #[.float .f32 a0, .float .f32 a1, .float .f32 a2]) rfl (by rfl) (by kernel_rfl) (by kernel_rfl) (by kernel_rfl) (fun w => by unfold execOp; go_simp) K5.out ?_
            simp only [Act.put, List.setIfInBounds_toArray, List.set_cons_zero, List.set_cons_succ]
            refine wpAnyH_done (by kernel_rfl) ?_ _
            clear PB K5 f0 f1 f2
            show wpList _ _ _ [_, _, _] _ _
            go_wp2_with (refine append_three (w0 := w1) rfl _ _ 22 rfl 51 Tryz.underlying22 infoz_lvl _ k (lv s) rfl (O4.out.alloc _) (D4.out.alloc D4.out.size _) (w5.heap.size) a0 a1 a2 rfl (heap_alloc_new _ _) (by have := HL.out; have := HM.out; omega) (fun v9 w9 O9 B9 => ?_); rw [T0.out] at O9; replace O9 := hid O9; replace B9 := hid B9)
            go_roundw
            case rel => exact ⟨k + 1, HL.out, by go_num, AL, O9, B9⟩
            case measure => first | exact ms_io HL.out | (rw [hw9]; exact ms_io HL.out)
          · have hr := R3.out hn4
            have hn5 : ¬ ((n3 : Int) = 3) := by omega
            have BAD := hid (HBAD.out (fun h => by have := (OKI.out.1 h).1 k HL.out; rw [← HX.out, hr] at this; cases this))
            obtain ⟨B4, cs4, cap4, rfl, hB4, L4, K4⟩ := MD.out rfl
            have D4 := hid (stp k1.out.1 (Nat.le_refl _) (D3.out.alloc D3.out.size (.cells #[] 51)))
            clear O3 D3 MD hr hB4 L4 K4 R1 R2 R3 HBAD HOK hn4
            go_wp2
            exact BAD.out _ _ D4.out
      · obtain rfl : k = m := by omega
        have hk3 : ¬ (k : Int) < (k : Int) := by omega
        have c1 : wr.cell? ⟨B1, k, none⟩ = some (.string xm) := by rw [← PM.out]; exact HL1.out.cell ((k1.out.stay hB.out).at (x := (B1, cs1, 9)) in0) (by omega)
        have i1 := fun w => run_indexAt (P := Tryz.prog) (t := 45) (e := 9) Tryz.underlying45 infos_st (b := B1) (o := 0) (n := k + 1) (cap := cap1) (k := k) (by omega) w
        simp only [Nat.zero_add, Nat.mul_one] at i1
        cases qe
        · have BAD := hid (HBAD.out (fun h => by have := (OKI.out.1 h).2.1; rw [← HXM.out, HQE.out] at this; cases this))
          have D4 := hid (stp k1.out.1 (Nat.le_refl _) (hB.out.alloc hB.out.size (.cells #[] 51)))
          clear hO hB HBAD HOK
          go_wp2
          exact BAD.out _ _ D4.out
        · have HSO := hid (sSounding _ k (lv s) (by have := HM.out; omega) HLV.out wr (own_rd hO.out) qs HQS.out)
          cases qs
          · have BAD := hid (HBAD.out (fun h => by have := (OKI.out.1 h).2.2; rw [HQS.out] at this; cases this))
            go_wp2_with fail
            refine HSO.out.mono ?_
            rintro e w5 ⟨rfl, hb⟩
            have D4 := hid (stp k1.out.1 (Nat.le_refl _) ((stp hB.out (Nat.le_refl _) hb).alloc (stp hB.out (Nat.le_refl _) hb).size (.cells #[] 51)))
            clear hO hB HBAD HOK hb HSO
            go_wp2
            exact BAD.out _ _ D4.out
          · have GOOD := hid (HOK.out (OKI.out.2 ⟨hall.out, by rw [← HXM.out]; exact HQE.out, HQS.out⟩))
            have hk0 : 0 < k := by
              have := HQS.out
              unfold souB at this
              simp only [Bool.and_eq_true, decide_eq_true_eq] at this
              omega
            go_wp2_with fail
            refine HSO.out.mono ?_
            rintro e w5 ⟨rfl, hb⟩
            obtain ⟨B, cs, cap, rfl, hB5, L5, K5⟩ := own_kept hk0 (own_stay hO.out hb) (stp hB.out (Nat.le_refl _) hb)
            have E := hid (show MadeL 51 k (lv s) w (.slice (some ⟨B, 0, none⟩) k cap) w5 from ⟨B, cs, cap, rfl, Nat.le_trans k1.out.size hB5, L5, (k1.out.join K5).sub (by simp)⟩)
            clear hO hB HBAD HOK hb HSO hB5 L5 K5 hk0
            go_wp2
            exact GOOD.out _ _ E.out
  · obtain rfl := hc2 h4
    have h43 : (4000 : Int) < (s.size : Int) := by omega
    have BAD := hid (hbad (fun h => h4 h.1))
    have D4 := hid ((Below.refl w.heap.size w).alloc (Nat.le_refl _) (.cells #[] 51))
    clear hok hbad hc5 hc2 h4 hs HOK HBAD
    go_enter Tryz.func6, Tryz.ntmps6
    go_wp2
    exact BAD.out _ _ D4.out

theorem infos_lev : (Tryz.prog.info? 51).map (·.size) = some 3 := by kernel_rfl

theorem rowL_bad {x : ByteArray} {k : Nat} (hk : k < 3) (h : okN (pcB 32 x k) = false) : rowL x = false := by
  unfold rowL
  rw [allN_at (p := fun j => okN (pcB 32 x j)) hk h, Bool.and_false]

theorem rowL_all {x : ByteArray} (hn : pcN 32 x = 3) (h : ∀ i, i < 3 → okN (pcB 32 x i) = true) : rowL x = true := by
  unfold rowL
  rw [decide_eq_true hn, allN_t.2 h]; rfl

theorem isplit32L (s : ByteArray) (hs : s.size ≤ 1048576) (w : World) (hL : Lng w) : Calls Tryz.prog 22 #[.string s, .string ⟨#[32]⟩] w fun e w' => ∃ v, e = .returned v ∧ MadeS (pcN 32 s) (pcV 32 s) w v w' := by
  obtain ⟨-, -, m, hm⟩ := hL
  exact iSplit s 32 m w hs hm

theorem isplit10L (s : ByteArray) (hs : s.size ≤ 1048576) (w : World) (hL : Lng w) : Calls Tryz.prog 22 #[.string s, .string ⟨#[10]⟩] w fun e w' => ∃ v, e = .returned v ∧ MadeS (pcN 10 s) (pcV 10 s) w v w' := by
  obtain ⟨-, -, m, hm⟩ := hL
  exact iSplit s 10 m w hs hm

set_option maxRecDepth 100000 in
set_option maxHeartbeats 1000000 in
theorem iReadLevel (s : ByteArray) (hs : s.size ≤ 1048576) (r0 r1 r2 : Nat) (q : Int) (h1 : rowL s = true → r0 = vaN (pcB 32 s 0) ∧ r1 = vaN (pcB 32 s 1) ∧ r2 = vaN (pcB 32 s 2) ∧ q = 0) (h0 : rowL s = false → r0 = 0 ∧ r1 = 0 ∧ r2 = 0 ∧ q = 5) (w : World) (hL : Lng w) :
    Calls Tryz.prog 23 #[.string s] w fun e w' => e = .returned (.tuple #[.agg #[.float .f32 r0, .float .f32 r1, .float .f32 r2], .int .i64 q]) ∧ Below w.heap.size w w' := by
  have k0 := hid ((Kept.nil w).push #[.float .f32 0, .float .f32 0, .float .f32 0] 51)
  have HL := hid hL
  have HSP := hid (fun W hW => isplit32L s hs W hW)
  have H1 := hid h1
  have H0 := hid h0
  have HZ3 := hid (rowL_len (x := s))
  have HG := hid (rowL_all (x := s))
  obtain ⟨n, hn⟩ : ∃ n, n = pcN 32 s := ⟨_, rfl⟩
  rw [← hn] at HSP HZ3 HG
  clear hs hL hn h1 h0
  go_enter Tryz.func23, Tryz.ntmps23
  go_wp2_with fail
  refine (HSP.out _ (HL.out.stay k0.out.1)).mono ?_
  rintro e w1 ⟨v, rfl, B1, cs1, cap1, rfl, hB1, L1, K1⟩
  have k1 := hid (k0.out.join K1)
  have HL1 := hid L1
  have hlt : w.heap.size < w1.heap.size := k1.out.lt in1
  have hlt1 : B1 < w1.heap.size := K1.lt in0
  clear k0 HSP hB1 L1 K1
  by_cases hn : n = 3
  · subst hn
    have k3 : Hid (Kept w [(w1.heap.size, #[.float .f32 0, .float .f32 0, .float .f32 0], 95), (B1, cs1, 9), (w.heap.size, #[.float .f32 0, .float .f32 0, .float .f32 0], 51)] (w1.alloc (.cells #[.float .f32 0, .float .f32 0, .float .f32 0] 95))) := hid (k1.out.push #[.float .f32 0, .float .f32 0, .float .f32 0] 95)
    have b0 : Hid (∃ cs, cs.size = 3 ∧ LvV cs 3 (mrV (flV fun _ => 0) (fun i => .float .f32 (vaN (pcB 32 s i))) 0) ∧ Kept w [(w1.heap.size, cs, 95), (B1, cs1, 9), (w.heap.size, #[.float .f32 0, .float .f32 0, .float .f32 0], 51)] (w1.alloc (.cells #[.float .f32 0, .float .f32 0, .float .f32 0] 95))) := hid ⟨_, rfl, by rw [mrV_zero]; exact ⟨Nat.le_refl _, fun i hi => by rcases (by omega : i = 0 ∨ i = 1 ∨ i = 2) with rfl | rfl | rfl <;> rfl⟩, k3.out⟩
    clear k3 k1 HZ3
    go_wp2_with fail
    go_loopw [18] (fun i wr => ∃ k : Nat, k ≤ 3 ∧ i = .int .i64 (k : Int) ∧ Hid (∀ j, j < k → okN (pcB 32 s j) = true) ∧ Hid (∃ cs, cs.size = 3 ∧ LvV cs 3 (mrV (flV fun _ => 0) (fun i => .float .f32 (vaN (pcB 32 s i))) k) ∧ Kept w [(w1.heap.size, cs, 95), (B1, cs1, 9), (w.heap.size, #[.float .f32 0, .float .f32 0, .float .f32 0], 51)] wr)) (fun i _ => 3 - (intOf i).toNat)
    case atStart => exact ⟨0, by omega, rfl, hid (fun j hj => absurd hj (Nat.not_lt_zero j)), b0⟩
    case round =>
      clear b0
      obtain ⟨k, hk, rfl, o1, h1⟩ := hrel
      obtain ⟨cs, a0, a1, a2⟩ := h1.out
      by_cases hlt2 : k < 3
      · have HK := hid hlt2
        have A0 := hid a0
        have A1 := hid a1
        have A2 := hid a2
        have hk3 : (k : Int) < 3 := by omega
        have hw9 := wr_k1 hlt2 (by omega)
        have c0 : wr.cell? ⟨B1, k, none⟩ = some (.string (pcB 32 s k)) := HL1.out.cell (a2.at (x := (B1, cs1, 9)) in1) hlt2
        have i1 := fun w => run_indexAt (P := Tryz.prog) (t := 45) (e := 9) Tryz.underlying45 infos_st (b := B1) (o := 0) (n := 3) (cap := cap1) (k := k) hlt2 w
        simp only [Nat.zero_add, Nat.mul_one] at i1
        have HR := hid (fun W hW => rdI (pcB 32 s k) W hW)
        have B0 : Hid (okN (pcB 32 s k) = false → rowL s = false) := hid (rowL_bad hlt2)
        have ec : Hid (cdN (pcB 32 s k) = if okN (pcB 32 s k) = true then 0 else 5) := hid rfl
        clear h1 a0 a1 a2 hlt2 hk
        go_wp2_with fail
        refine (HR.out _ (HL.out.stay A2.out.1)).mono ?_
        rintro e w2 ⟨rfl, hb⟩
        have A_3 := hid (A2.out.stay hb)
        clear A2 hb HR c0
        rw [ec.out]
        obtain ⟨a, ha⟩ : ∃ a, a = vaN (pcB 32 s k) := ⟨_, rfl⟩
        rw [← ha]
        have HA := hid ha
        clear ha
        cases ho : okN (pcB 32 s k)
        · obtain ⟨rfl, rfl, rfl, rfl⟩ := H0.out (B0.out ho)
          have k5 := hid (A_3.out.sub (l' := [(w.heap.size, #[.float .f32 0, .float .f32 0, .float .f32 0], 51)]) (by simp))
          rw [if_neg Bool.false_ne_true]
          clear A_3 A0 A1 ho H1 H0 HG
          dsimp only
          have tok1 : True := trivial
          go_wp2_with (first | (have _t := tok1; clear tok1; refine storeA (w0 := w) rfl 51 _ _ rfl (w.heap.size) (#[.float .f32 0, .float .f32 0, .float .f32 0]) rfl rfl info_lev3 (by rfl) (by simp [Value.oneCell']) k5.out (Nat.le_refl _) (by simp) (fun w6 k6 => ?_); replace k6 := hid k6))
          exact bodyPost_ret (results_row_tmp rfl _ _ w.heap.size 51 (#[.float .f32 0, .float .f32 0, .float .f32 0]) (0, 0) _ rfl (k6.out.at in0) Tryz.underlying51 rfl info_lev3) rfl ⟨rfl, k6.out.1⟩
        · rw [if_pos rfl]
          have O1 := hid (to_next (p := fun j => okN (pcB 32 s j)) o1.out ho)
          clear o1 ho B0 ec
          dsimp only
          have tok1 : True := trivial
          go_wp2_with (have _t := tok1; clear tok1; refine store_lv1 rfl 28 _ _ rfl info_f1 w1.heap.size k (.float .f32 a) rfl rfl rfl rfl A_3.out A1.out HK.out (Nat.le_of_lt hlt) (by simp; omega) (fun w3 k3 v3 => ?_); replace k3 := hid k3; replace v3 := hid v3)
          have b3 : Hid (∃ cs, cs.size = 3 ∧ LvV cs 3 (mrV (flV fun _ => 0) (fun i => .float .f32 (vaN (pcB 32 s i))) (k + 1)) ∧ Kept w [(w1.heap.size, cs, 95), (B1, cs1, 9), (w.heap.size, #[.float .f32 0, .float .f32 0, .float .f32 0], 51)] w3) := hid ⟨_, by simp [A0.out], by have := v3.out; rw [show Value.float .f32 a = (fun i => Value.float .f32 (vaN (pcB 32 s i))) k from by rw [HA.out]] at this ⊢; rw [mrV_step (flV fun _ => 0) (fun i => .float .f32 (vaN (pcB 32 s i))) k] at this; exact this, k3.out⟩
          go_roundw
          case rel => exact ⟨k + 1, HK.out, by go_num, O1, b3⟩
          case measure => first | exact ms_io HK.out | (rw [hw9]; exact ms_io HK.out)
      · obtain rfl : k = 3 := by omega
        have hk3 : ¬ ((3 : Nat) : Int) < 3 := by omega
        obtain ⟨e0, e1, e2, rfl⟩ := H1.out (HG.out (by first | exact trivial | rfl) o1.out)
        have g := a1.ext (z := fun i => .float .f32 (vaN (pcB 32 s i))) (fun j hj => if_pos hj)
        have c0 : wr.cell? ⟨w1.heap.size, 0, none⟩ = some (.float .f32 r0) := by rw [e0]; exact g.cell (a2.at (x := (w1.heap.size, cs, 95)) in0) (by omega)
        have c1 : wr.cell? ⟨w1.heap.size, 1, none⟩ = some (.float .f32 r1) := by rw [e1]; exact g.cell (a2.at (x := (w1.heap.size, cs, 95)) in0) (by omega)
        have c2 : wr.cell? ⟨w1.heap.size, 2, none⟩ = some (.float .f32 r2) := by rw [e2]; exact g.cell (a2.at (x := (w1.heap.size, cs, 95)) in0) (by omega)
        have k4 := hid (a2.sub (l' := [(w.heap.size, #[.float .f32 0, .float .f32 0, .float .f32 0], 51)]) (by simp))
        clear e0 e1 e2 g a0 a1 a2 h1 o1 H1 H0 HG
        have tok1 : True := trivial
        go_wp2_with (first | (have _t := tok1; clear tok1; refine storeA (w0 := w) rfl 51 _ _ rfl (w.heap.size) (#[.float .f32 r0, .float .f32 r1, .float .f32 r2]) rfl rfl info_lev3 (by rfl) (by simp [Value.oneCell']) k4.out (Nat.le_refl _) (by simp) (fun w6 k6 => ?_); replace k6 := hid k6))
        exact bodyPost_ret (results_row_tmp rfl _ _ w.heap.size 51 (#[.float .f32 r0, .float .f32 r1, .float .f32 r2]) (0, 0) _ rfl (k6.out.at in0) Tryz.underlying51 rfl info_lev3) rfl ⟨rfl, k6.out.1⟩
  · obtain ⟨rfl, rfl, rfl, rfl⟩ := H0.out (HZ3.out hn)
    have hn3 : ¬ ((n : Int) = 3) := by omega
    have k5 := hid (k1.out.sub (l' := [(w.heap.size, #[.float .f32 0, .float .f32 0, .float .f32 0], 51)]) (by simp))
    clear k1 hn H1 H0 HZ3 HG
    have tok1 : True := trivial
    go_wp2_with (first | (have _t := tok1; clear tok1; refine storeA (w0 := w) rfl 51 _ _ rfl (w.heap.size) (#[.float .f32 0, .float .f32 0, .float .f32 0]) rfl rfl info_lev3 (by rfl) (by simp [Value.oneCell']) k5.out (Nat.le_refl _) (by simp) (fun w6 k6 => ?_); replace k6 := hid k6))
    exact bodyPost_ret (results_row_tmp rfl _ _ w.heap.size 51 (#[.float .f32 0, .float .f32 0, .float .f32 0]) (0, 0) _ rfl (k6.out.at in0) Tryz.underlying51 rfl info_lev3) rfl ⟨rfl, k6.out.1⟩

theorem levelBoth (x : ByteArray) : ∃ (r0 r1 r2 : Nat) (q : Int), (rowL x = true → r0 = vaN (pcB 32 x 0) ∧ r1 = vaN (pcB 32 x 1) ∧ r2 = vaN (pcB 32 x 2) ∧ q = 0) ∧ (rowL x = false → r0 = 0 ∧ r1 = 0 ∧ r2 = 0 ∧ q = 5) := by
  cases h : rowL x
  · exact ⟨0, 0, 0, 5, fun e => (by cases e), fun _ => ⟨rfl, rfl, rfl, rfl⟩⟩
  · exact ⟨_, _, _, 0, fun _ => ⟨rfl, rfl, rfl, rfl⟩, fun e => (by cases e)⟩

set_option maxRecDepth 100000 in
set_option maxHeartbeats 2000000 in
theorem iReadSounding (s : ByteArray) (hs : s.size ≤ 1048576) (c : Int) (hc5 : s.size ≤ 4000 → c = 5) (hc2 : ¬ s.size ≤ 4000 → c = 2) (w : World) (hL : Lng w) (R : Ending → World → Prop)
    (hok : OkS s → ∀ v w', MadeL 51 (pcN 10 s - 1) (lv s) w v w' → R (.returned (.tuple #[v, .int .i64 0])) w')
    (hbad : ¬ OkS s → ∀ p w', Below w.heap.size w w' → R (.returned (.tuple #[.slice p 0 0, .int .i64 c])) w') :
    Calls Tryz.prog 7 #[.string s] w R := by
  have HOK := hid hok
  have HBAD := hid hbad
  have HLn := hid hL
  by_cases h4 : s.size ≤ 4000
  · obtain rfl := hc5 h4
    have h43 : ¬ (4000 : Int) < (s.size : Int) := by omega
    have HSP := hid (fun W hW => isplit10L s hs W hW)
    obtain ⟨m, hm⟩ : ∃ m, pcN 10 s = m + 1 := ⟨pcN 10 s - 1, by have := pcN_pos 10 s; omega⟩
    have HM := hid (show m ≤ 4000 by have := pcN_le 10 s; omega)
    have HS := hid hs
    have HLV := hid (lv_lt s)
    have e1 : pcN 10 s - 1 = m := by omega
    have OKI := hid (show OkS s ↔ (∀ i, i < m → rowL (lnB s i) = true) ∧ isE (lnB s m) = true ∧ souB m (lv s) = true from by
      unfold OkS; rw [e1]; exact ⟨fun h => h.2, fun h => ⟨h4, h⟩⟩)
    rw [e1] at HOK
    rw [hm] at HSP
    have PM : Hid (pcV 10 s m = .string (lnB s m)) := hid rfl
    obtain ⟨xm, hxm⟩ : ∃ x, x = lnB s m := ⟨_, rfl⟩
    rw [← hxm] at PM
    have HXM := hid hxm
    obtain ⟨qe, hqe⟩ : ∃ qe, isE xm = qe := ⟨_, rfl⟩
    have HQE := hid hqe
    have hq0 : (xm.toList == []) = qe := hqe
    have hq1 : xm.toList.isEmpty = qe := by rw [← hq0]; cases xm.toList <;> rfl
    have hw1 : wrap64 (((m + 1 : Nat) : Int) - 1) = (m : Int) := by have := HM.out; unfold wrap64; omega
    have hw2 : wrap64 ((m : Int) + 1 - 1) = (m : Int) := by have := HM.out; unfold wrap64; omega
    have hw3 : wrap64 (m : Int) = (m : Int) := by have := HM.out; unfold wrap64; omega
    obtain ⟨qs, hqs⟩ : ∃ qs, souB m (lv s) = qs := ⟨_, rfl⟩
    have HQS := hid hqs
    clear hok hbad hc5 hc2 h4 hs hm hxm hqe e1 hqs hL
    go_enter Tryz.func7, Tryz.ntmps7
    go_wp2_with fail
    refine (HSP.out _ HLn.out).mono ?_
    rintro e w1 ⟨v, rfl, B1, cs1, cap1, rfl, hB1, L1, K1⟩
    have k1 := hid K1
    have HL1 := hid L1
    have hlt1 : B1 < w1.heap.size := K1.lt in0
    clear HSP hB1 L1 K1
    have c0 : w1.cell? ⟨B1, m, none⟩ = some (.string xm) := by rw [← PM.out]; exact HL1.out.cell (k1.out.at (x := (B1, cs1, 9)) in0) (by omega)
    have i0 := fun w => run_indexAt (P := Tryz.prog) (t := 45) (e := 9) Tryz.underlying45 infos_st (b := B1) (o := 0) (n := m + 1) (cap := cap1) (k := m) (by omega) w
    simp only [Nat.zero_add, Nat.mul_one] at i0
    cases qe
    · have BAD := hid (HBAD.out (fun h => by have := (OKI.out.1 h).2.1; rw [← HXM.out, HQE.out] at this; cases this))
      clear HBAD HOK
      go_wp2
      exact BAD.out _ _ k1.out.1
    · obtain ⟨cs0, hv0, hmk⟩ := run_makeL (P := Tryz.prog) (t := 22) (e := 51) Tryz.underlying22 infoz_lvl (n := m) (by have := HM.out; omega) (lv s) w1
      have b0 : Hid (∃ cs, LvK cs m 0 (lv s) ∧ Kept w [(w1.heap.size, cs, 51), (B1, cs1, 9)] (w1.alloc (.cells cs0 51))) := hid ⟨cs0, hv0, k1.out.push cs0 51⟩
      have HWS := hid k1.out.size
      clear hv0
      go_wp2_with fail
      clear hmk
      go_loopw [27] (fun i wr => ∃ k : Nat, k ≤ m ∧ i = .int .i64 (k : Int) ∧ Hid (∀ j, j < k → rowL (lnB s j) = true) ∧ Hid (∃ cs, LvK cs m k (lv s) ∧ Kept w [(w1.heap.size, cs, 51), (B1, cs1, 9)] wr)) (fun i _ => m - (intOf i).toNat)
      case atStart => exact ⟨0, by omega, rfl, hid (fun j hj => absurd hj (Nat.not_lt_zero j)), b0⟩
      case round =>
        clear b0
        obtain ⟨k, hk, rfl, hall, h1⟩ := hrel
        obtain ⟨cs, a1, a2⟩ := h1.out
        by_cases hlt : k < m
        · have HL := hid hlt
          have A1 := hid a1
          have A2 := hid a2
          have hk3 : (k : Int) < (m : Int) := by omega
          have hw9 : wrap64 ((k : Int) + 1) = (k : Int) + 1 := by have := HM.out; unfold wrap64; omega
          have c1 : wr.cell? ⟨B1, k, none⟩ = some (.string (lnB s k)) := HL1.out.cell (a2.at (x := (B1, cs1, 9)) in1) (by omega)
          have i1 := fun w => run_indexAt (P := Tryz.prog) (t := 45) (e := 9) Tryz.underlying45 infos_st (b := B1) (o := 0) (n := m + 1) (cap := cap1) (k := k) (by omega) w
          simp only [Nat.zero_add, Nat.mul_one] at i1
          have i2 := fun w => run_indexAt (P := Tryz.prog) (t := 22) (e := 51) Tryz.underlying22 infos_lev (b := w1.heap.size) (o := 0) (n := m) (cap := m) (k := k) hlt w
          simp only [Nat.zero_add] at i2
          obtain ⟨r0, r1, r2, q, g1, g0⟩ := levelBoth (lnB s k)
          have HRL := hid (fun W hW => iReadLevel (lnB s k) (Nat.le_trans (pc_size 10 s k) HS.out) r0 r1 r2 q g1 g0 W hW)
          have G1 := hid g1
          have G0 := hid g0
          have v0 : Hid (vaN (pcB 32 (lnB s k) 0) = lv s (k * 3)) := hid (lv_at s k (j := 0) (by omega)).symm
          have v1 : Hid (vaN (pcB 32 (lnB s k) 1) = lv s (k * 3 + 1)) := hid (lv_at s k (j := 1) (by omega)).symm
          have v2 : Hid (vaN (pcB 32 (lnB s k) 2) = lv s (k * 3 + 2)) := hid (lv_at s k (j := 2) (by omega)).symm
          obtain ⟨x, hx⟩ : ∃ x, x = lnB s k := ⟨_, rfl⟩
          rw [← hx] at c1 HRL G1 G0 v0 v1 v2
          have HX := hid hx
          clear h1 a1 a2 hlt hk g1 g0 hx
          go_wp2_with fail
          refine (HRL.out _ (HLn.out.stay A2.out.1)).mono ?_
          rintro e w2 ⟨rfl, hb⟩
          have A_3 := hid (A2.out.stay hb)
          have hl5 : w1.heap.size < w2.heap.size ∧ B1 < w2.heap.size := ⟨A_3.out.lt in0, A_3.out.lt in1⟩
          have k6 : Hid (Kept w [(w2.heap.size, #[.float .f32 0, .float .f32 0, .float .f32 0], 51), (w1.heap.size, cs, 51), (B1, cs1, 9)] (w2.alloc (.cells #[.float .f32 0, .float .f32 0, .float .f32 0] 51))) := hid (A_3.out.push #[.float .f32 0, .float .f32 0, .float .f32 0] 51)
          have HW2 := hid A_3.out.size
          clear A2 A_3 hb HRL c1
          cases ho : rowL x
          · obtain ⟨rfl, rfl, rfl, rfl⟩ := G0.out ho
            have BAD := hid (HBAD.out (fun h => by have := (OKI.out.1 h).1 k HL.out; rw [← HX.out, ho] at this; cases this))
            clear HBAD HOK ho G0 G1 A1
            dsimp only
            have tok1 : True := trivial
            go_wp2_with (first | (have _t := tok1; clear tok1; refine storeA (w0 := w) rfl 51 _ _ rfl (w2.heap.size) (#[.float .f32 0, .float .f32 0, .float .f32 0]) rfl rfl info_lev3 (by rfl) (by simp [Value.oneCell']) k6.out HW2.out (by simp; omega) (fun w7 k7 => ?_); replace k7 := hid k7))
            exact BAD.out _ _ k7.out.1
          · obtain ⟨e0, e1, e2, rfl⟩ := G1.out ho
            have AL := hid (to_next (p := fun j => rowL (lnB s j)) hall.out (by rw [← HX.out]; exact ho))
            have E0 := hid (e0.trans v0.out)
            have E1 := hid (e1.trans v1.out)
            have E2 := hid (e2.trans v2.out)
            have ST := hid (A1.out.step HL.out)
            have hsz : Hid (k * 3 + 3 ≤ cs.size) := hid (by have := A1.out.1; have := HL.out; omega)
            rw [← E0.out, ← E1.out, ← E2.out] at ST
            clear HBAD HOK ho G0 G1 e0 e1 e2 hall
            dsimp only
            have tok1 : True := trivial
            go_wp2_with (first | (have _t := tok1; clear tok1; refine storeA (w0 := w) rfl 51 _ _ rfl (w2.heap.size) (#[.float .f32 r0, .float .f32 r1, .float .f32 r2]) rfl rfl info_lev3 (by rfl) (by simp [Value.oneCell']) k6.out HW2.out (by simp; omega) (fun w7 k7 => ?_); replace k7 := hid k7; clear k6; have tok2 : True := trivial) | (have _t := tok2; clear tok2; refine loadA (w0 := w) rfl 51 _ rfl (w2.heap.size) (#[.float .f32 r0, .float .f32 r1, .float .f32 r2]) rfl in0 _ Tryz.underlying51 rfl info_lev3 k7.out ?_; have tok3 : True := trivial) | (have _t := tok3; clear tok3; refine store_part (w0 := w) rfl 51 _ _ rfl w1.heap.size (k * 3) rfl (#[.float .f32 r0, .float .f32 r1, .float .f32 r2]) rfl _ _ 51 k7.out.swap HWS.out (by simp; omega) hsz.out info_lev3 (by simp [Value.oneCell']) rfl (fun w9 k9 => ?_); replace k9 := hid k9; clear k7))
            have b3 : Hid (∃ cs, LvK cs m (k + 1) (lv s) ∧ Kept w [(w1.heap.size, cs, 51), (B1, cs1, 9)] w9) := hid ⟨_, ST.out, k9.out.sub (by simp)⟩
            clear k9
            go_roundw
            case rel => exact ⟨_, _, _, _, _, _, ⟨k + 1, HL.out, rfl, AL, b3⟩, rfl, rfl, rfl, rfl, rfl, rfl⟩
            case measure => first | exact ms_io HL.out | (rw [hw9]; exact ms_io HL.out)
        · obtain rfl : k = m := by omega
          have hk3 : ¬ (k : Int) < (k : Int) := by omega
          have A1 := hid a1
          have A2 := hid a2
          have HVS := hid (iValidSounding _ k (lv s) (by have := HM.out; omega) HLV.out wr (Kept.rd (T := 51) a2 a1.all in0 k) qs HQS.out)
          clear h1 a1 a2
          cases qs
          · have BAD := hid (HBAD.out (fun h => by have := (OKI.out.1 h).2.2; rw [HQS.out] at this; cases this))
            clear HBAD HOK
            go_wp2_with fail
            refine HVS.out.mono ?_
            rintro e w5 ⟨rfl, hb⟩
            have D4 := hid (A2.out.stay hb).1
            clear hb HVS A1 A2
            go_wp2
            exact BAD.out _ _ D4.out
          · have GOOD := hid (HOK.out (OKI.out.2 ⟨hall.out, by rw [← HXM.out]; exact HQE.out, HQS.out⟩))
            clear HBAD HOK
            go_wp2_with fail
            refine HVS.out.mono ?_
            rintro e w5 ⟨rfl, hb⟩
            have E := hid (show MadeL 51 k (lv s) w (.slice (some ⟨w1.heap.size, 0, none⟩) k k) w5 from ⟨w1.heap.size, cs, k, rfl, HWS.out, A1.out.all, (A2.out.stay hb).sub (by simp)⟩)
            clear hb HVS A1 A2
            go_wp2
            exact GOOD.out _ _ E.out
  · obtain rfl := hc2 h4
    have h43 : (4000 : Int) < (s.size : Int) := by omega
    have BAD := hid (hbad (fun h => h4 h.1))
    clear hok hbad hc5 hc2 h4 hs HOK HBAD hL
    go_enter Tryz.func7, Tryz.ntmps7
    go_wp2
    exact BAD.out _ _ (Below.refl _ _)

theorem gES : Tryz.prog.globalNamed "strconv.ErrSyntax" = some 7 := by kernel_rfl

theorem gESType : (Tryz.prog.globals[7]?).map (·.type) = some 83 := by kernel_rfl

theorem cellsES : Tryz.prog.cellsOf 213 = 1 := by kernel_rfl

theorem cellsStr : Tryz.prog.cellsOf 9 = 1 := by kernel_rfl

theorem starE : "*" ++ "errors.errorString" = "*errors.errorString" := by decide

theorem rowES (u : TypeId) (h : Tryz.prog.typeName? 3 u = some "*errors.errorString") : u = 211 :=
  typeName_ptr_named (nm := "errors.errorString") (by rw [starE]; kernel_rfl) (by kernel_rfl) (by decide) u (by rw [starE]; exact h)

/-- What the readers' row asks gives what the library's variables hold. -/
theorem lng_of {W : World} (h : laidMetH Tryz.prog Rows.fnExactReadSoundingRow.laid W) (hsh : W.ShapedOpen Tryz.prog) : Lng W := by
  rw [MakeChecks.laidMetH_plain _ _ _ (by kernel_rfl)] at h
  have h2 : laidMet Tryz.prog (("math/bits.deBruijn64tab", Lib.tabData .u8 tz64) :: [("internal/strconv.uint64pow10", Rows.laid_internal_strconv_uint64pow10), ("unicode/utf8.acceptRanges", Rows.laid_unicode_utf8_acceptRanges), ("strconv.ErrRange", Rows.laid_strconv_ErrRange), ("strconv.ErrSyntax", Rows.laid_strconv_ErrSyntax), ("unicode/utf8.first", Rows.laid_unicode_utf8_first)]) W := laidMet.tail h
  have hT := Lib.tabIs_of_head (g := 13) (t := 218) (e := 5) (by kernel_rfl) (by kernel_rfl) Tryz.underlying218 Tryz.underlying5 (by kernel_rfl) (by kernel_rfl) h2
  have ht : Tab64 W := hT.cell (by kernel_rfl) 15 (by decide)
  have h5 : laidMet Tryz.prog [("strconv.ErrSyntax", Rows.laid_strconv_ErrSyntax), ("unicode/utf8.first", Rows.laid_unicode_utf8_first)] W := laidMet.tail (laidMet.tail (laidMet.tail (laidMet.tail h2)))
  obtain ⟨a0, s0, hv0, -, -, -⟩ := laid_sentinel h5 gES gESType Tryz.underlying83 rowES Tryz.underlying211 Tryz.underlying213 rfl rfl Tryz.underlying9 cellsES cellsStr
  have hm := cell_of_shapedOpen_int (g := 6) (t := 3) (zero := #[.int .i64 0]) (k := .i64) hsh (of_decide_eq_true (by kernel_rfl)) (by kernel_rfl) rfl (by kernel_rfl) (by kernel_rfl) Tryz.underlying3
  exact ⟨ht, ⟨_, by have h0 := World.var?_cell gES hv0 0; simpa using h0, Or.inr ⟨_, _, rfl⟩⟩, hm⟩

theorem wit_met (os : Os) (args : Array Value) : laidMetH Tryz.prog Rows.fnExactReadSoundingRow.laid ((World.laidAll Tryz.prog os Rows.fnExactReadSoundingRow.laid).forCall (fun _ _ => 0) ⟨#[], args, []⟩).memory := by
  rw [MakeChecks.laidMetH_plain _ _ _ (by kernel_rfl)]
  exact laidMet_laidAll _ (by kernel_rfl) (by kernel_rfl)

set_option maxRecDepth 100000 in
set_option maxHeartbeats 4000000 in
theorem coreReadSoundingOk (n : Nat) (hn : n ≤ 1048576) (s : ByteArray) (hsz : ¬ (1048576 : Int) < (s.size : Int)) (y : Nat → Nat) (hy : W32 y)
    (hS : ∀ w, Calls Tryz.prog 6 #[.string s] w fun e w' => ∃ v, e = .returned (.tuple #[v, .int .i64 0]) ∧ MadeL 51 n y w v w')
    (hI : ∀ w, Lng w → Calls Tryz.prog 7 #[.string s] w fun e w' => ∃ v, e = .returned (.tuple #[v, .int .i64 0]) ∧ MadeL 51 n y w v w') (w : World) (hL : Lng w) :
    Calls Tryz.prog 3 #[.string s] w fun e w' => e = .returned (.bool true) ∧ Below w.heap.size w w' := by
  have HLn := hid hL
  have HS := hid hS
  have HI := hid hI
  have HY := hid hy
  clear hy
  have k0 : Hid (Kept w [] w) := hid (Kept.nil w)
  clear hS hI hL
  have HN := hid hn
  have hneg1 : ¬ (1 + 3 * (n : Int) < 0) := by omega
  clear hn
  go_enter Tryz.func3, Tryz.ntmps3
  go_wp2_with fail
  refine (HS.out _).mono ?_
  rintro e u1 ⟨_, rfl, D, csD, capD, rfl, hBD, LD, KD⟩
  have hwD := Nat.le_trans k0.out.size hBD
  have k1 : Hid (Kept w [(D, csD, 51)] u1) := hid (k0.out.join KD)
  have vD := hid LD
  clear KD LD hBD
  go_wp2_with fail
  refine (HI.out _ (HLn.out.stay k1.out.1)).mono ?_
  rintro e u2 ⟨_, rfl, G, csG, capG, rfl, hBG, LG, KG⟩
  have hDG : D < G := Nat.lt_of_lt_of_le (k1.out.lt (x := (D, csD, 51)) (by simp)) hBG
  have hwG := Nat.le_trans k1.out.size hBG
  have k2 : Hid (Kept w [(G, csG, 51), (D, csD, 51)] u2) := hid (k1.out.join KG)
  have vG := hid LG
  clear KG LG hBG
  go_wp2_with fail
  refine (eqLevels _ _ n y HY.out _ (Kept.rd (T := 51) k2.out vG.out (by simp) capG) (Kept.rd (T := 51) k2.out vD.out (by simp) capD) HN.out).mono ?_
  rintro e u3 ⟨rfl, hb3⟩
  have k3 : Hid (Kept w [(G, csG, 51), (D, csD, 51)] u3) := hid (k2.out.stay hb3)
  clear hb3
  go_wp2_with fail
  refine (markL w _ G n capG csG _ _ (k3.out) hwG (by intro z hz; simp at hz; rcases hz with rfl <;> simp <;> omega) vG.out HN.out).mono ?_
  rintro e u4 ⟨rfl, csG4, wG4, kk4⟩
  have k4 : Hid (Kept w [(G, csG4, 51), (D, csD, 51)] u4) := hid kk4
  have vG := hid wG4
  clear kk4 wG4
  go_wp2_with fail
  refine (heldL _ n _ (Kept.rd (T := 51) k4.out vG.out (by simp) capG) HN.out).mono ?_
  rintro e z2 ⟨rfl, rfl⟩
  go_wp2_with fail
  refine (HI.out _ (HLn.out.stay k4.out.1)).mono ?_
  rintro e u5 ⟨_, rfl, H, csH, capH, rfl, hBH, LH, KH⟩
  have hGH : G < H := Nat.lt_of_lt_of_le (k4.out.lt (x := (G, csG4, 51)) (by simp)) hBH
  have hDH : D < H := Nat.lt_of_lt_of_le (k4.out.lt (x := (D, csD, 51)) (by simp)) hBH
  have hwH := Nat.le_trans k4.out.size hBH
  have k5 : Hid (Kept w [(H, csH, 51), (G, csG4, 51), (D, csD, 51)] u5) := hid (k4.out.join KH)
  have vH := hid LH
  clear KH LH hBH
  go_wp2_with fail
  refine (eqLevels _ _ n y HY.out _ (Kept.rd (T := 51) k5.out vH.out (by simp) capH) (Kept.rd (T := 51) k5.out vD.out (by simp) capD) HN.out).mono ?_
  rintro e u6 ⟨rfl, hb6⟩
  have k6 : Hid (Kept w [(H, csH, 51), (G, csG4, 51), (D, csD, 51)] u6) := hid (k5.out.stay hb6)
  clear hb6
  go_wp2_with fail
  refine (heldL _ n _ (Kept.rd (T := 51) k6.out vG.out (by simp) capG) HN.out).mono ?_
  rintro e z2 ⟨rfl, rfl⟩
  go_wp2
  go_ret
  exact ⟨rfl, k6.out.1⟩

set_option maxRecDepth 100000 in
set_option maxHeartbeats 4000000 in
theorem coreReadSoundingErr (n : Nat) (hn : n ≤ 1048576) (s : ByteArray) (hsz : ¬ (1048576 : Int) < (s.size : Int)) (c : Int)
    (hS : ∀ w, Calls Tryz.prog 6 #[.string s] w fun e w' => ∃ p, e = .returned (.tuple #[.slice p 0 0, .int .i64 c]) ∧ Below w.heap.size w w')
    (hI : ∀ w, Lng w → Calls Tryz.prog 7 #[.string s] w fun e w' => ∃ p, e = .returned (.tuple #[.slice p 0 0, .int .i64 c]) ∧ Below w.heap.size w w') (w : World) (hL : Lng w) :
    Calls Tryz.prog 3 #[.string s] w fun e w' => e = .returned (.bool true) ∧ Below w.heap.size w w' := by
  have HLn := hid hL
  have HS := hid hS
  have HI := hid hI
  have _ := trivial
  have k0 : Hid (Kept w [] w) := hid (Kept.nil w)
  clear hS hI hL
  have HN := hid hn
  have hneg1 : ¬ (1 + 3 * (n : Int) < 0) := by omega
  clear hn
  go_enter Tryz.func3, Tryz.ntmps3
  go_wp2_with fail
  refine (HS.out _).mono ?_
  rintro e u1 ⟨p0, rfl, hb1⟩
  have k1 : Hid (Kept w [] u1) := hid (k0.out.stay hb1)
  clear hb1
  go_wp2_with fail
  refine (HI.out _ (HLn.out.stay k1.out.1)).mono ?_
  rintro e u2 ⟨p1, rfl, hb2⟩
  have k2 : Hid (Kept w [] u2) := hid (k1.out.stay hb2)
  clear hb2
  go_wp2_with fail
  refine (eqLevels _ _ 0 (fun _ => 0) (fun _ => by decide) _ (Rd.zero _ _ _ _) (Rd.zero _ _ _ _) (by omega)).mono ?_
  rintro e u3 ⟨rfl, hb3⟩
  have k3 : Hid (Kept w [] u3) := hid (k2.out.stay hb3)
  clear hb3
  go_wp2_with fail
  refine (mark0 _ _).mono ?_
  rintro e z1 ⟨rfl, rfl⟩
  go_wp2_with fail
  refine (held0 _ _).mono ?_
  rintro e z2 ⟨rfl, rfl⟩
  go_wp2_with fail
  refine (HI.out _ (HLn.out.stay k3.out.1)).mono ?_
  rintro e u4 ⟨p2, rfl, hb4⟩
  have k4 : Hid (Kept w [] u4) := hid (k3.out.stay hb4)
  clear hb4
  go_wp2_with fail
  refine (eqLevels _ _ 0 (fun _ => 0) (fun _ => by decide) _ (Rd.zero _ _ _ _) (Rd.zero _ _ _ _) (by omega)).mono ?_
  rintro e u5 ⟨rfl, hb5⟩
  have k5 : Hid (Kept w [] u5) := hid (k4.out.stay hb5)
  clear hb5
  go_wp2_with fail
  refine (held0 _ _).mono ?_
  rintro e z2 ⟨rfl, rfl⟩
  go_wp2
  go_ret
  exact ⟨rfl, k5.out.1⟩

set_option maxRecDepth 100000 in
set_option maxHeartbeats 1000000 in
theorem lawReadSounding (s : ByteArray) {w : World} (hL : Lng w) :
    Calls Tryz.prog 3 #[.string s] w fun e w' => e = .returned (.bool true) ∧ Below w.heap.size w w' := by
  by_cases hc : s.size ≤ 1048576
  · have h3 : ¬ (1048576 : Int) < (s.size : Int) := by omega
    obtain ⟨c, c5, c2⟩ : ∃ c : Int, (s.size ≤ 4000 → c = 5) ∧ (¬ s.size ≤ 4000 → c = 2) := by
      by_cases h : s.size ≤ 4000
      · exact ⟨5, fun _ => rfl, fun k => absurd h k⟩
      · exact ⟨2, fun k => absurd k h, fun _ => rfl⟩
    by_cases hO : OkS s
    · have hn : pcN 10 s - 1 ≤ 1048576 := by have := pcN_le 10 s; omega
      exact coreReadSoundingOk (pcN 10 s - 1) hn s h3 (lv s) (lv_lt s)
        (fun W => sReadSounding s hc c c5 c2 W _ (fun _ v w' h => ⟨v, rfl, h⟩) (fun k => absurd hO k))
        (fun W hW => iReadSounding s hc c c5 c2 W hW _ (fun _ v w' h => ⟨v, rfl, h⟩) (fun k => absurd hO k)) w hL
    · exact coreReadSoundingErr 0 (by omega) s h3 c
        (fun W => sReadSounding s hc c c5 c2 W _ (fun k => absurd k hO) (fun _ p w' h => ⟨p, rfl, h⟩))
        (fun W hW => iReadSounding s hc c c5 c2 W hW _ (fun k => absurd k hO) (fun _ p w' h => ⟨p, rfl, h⟩)) w hL
  · have hc2 : (1048576 : Int) < (s.size : Int) := by omega
    clear hc
    go_enter Tryz.func3, Tryz.ntmps3
    go_wp2
    go_ret
    exact ⟨rfl, Below.refl _ _⟩
end Go.Proofs.YtbbdnmhoagojdaaGreatDoor

namespace Go.Proofs.YtbbdnmhoagojdaaGreatDoor.fnExactReadSounding
open Go.RowKit Go.Fl Go.ChangeShapes Go.WideShapes Go.ChangeAt

set_option maxHeartbeats 2000000 in
theorem closed : joinedFacts Tryz.prog 3 Tryz.f3 Rows.fnExactReadSoundingSpec Rows.fnExactReadSoundingRow = true := by
  unfold joinedFacts
  simp only [Bool.and_eq_true]
  exact ⟨⟨⟨⟨⟨⟨⟨⟨⟨⟨⟨⟨⟨⟨⟨⟨⟨⟨⟨⟨⟨⟨⟨⟨⟨⟨⟨⟨⟨⟨⟨(by as_aux_lemma => kernel_rfl),
    laid⟩,
    rowed⟩,
    (by as_aux_lemma => kernel_rfl)⟩,
    (by as_aux_lemma => kernel_rfl)⟩,
    (by as_aux_lemma => kernel_rfl)⟩,
    (by rw [no_stops]; rfl)⟩,
    (by as_aux_lemma => kernel_rfl)⟩,
    (by rw [no_knobs]; rfl)⟩,
    (by as_aux_lemma => kernel_rfl)⟩,
    (by as_aux_lemma => kernel_rfl)⟩,
    (by as_aux_lemma => kernel_rfl)⟩,
    (by as_aux_lemma => kernel_rfl)⟩,
    (by as_aux_lemma => kernel_rfl)⟩,
    (by as_aux_lemma => kernel_rfl)⟩,
    (by as_aux_lemma => kernel_rfl)⟩,
    (by as_aux_lemma => kernel_rfl)⟩,
    (by as_aux_lemma => kernel_rfl)⟩,
    (by as_aux_lemma => kernel_rfl)⟩,
    (by as_aux_lemma => kernel_rfl)⟩,
    (by as_aux_lemma => kernel_rfl)⟩,
    (by as_aux_lemma => kernel_rfl)⟩,
    (show (Rows.fnExactReadSoundingRow.plainKeys == Tryz.prog.plainKeys) = true by rw [plain_keys]; rfl)⟩,
    (by as_aux_lemma => kernel_rfl)⟩,
    stops_heard⟩,
    may_enter⟩,
    (show (Rows.fnExactReadSoundingRow.lifted == Tryz.prog.liftsFinal) = true by rw [lifts_final]; rfl)⟩,
    (show (Tryz.prog.make == some Rows.fnExactReadSoundingRow.make) = true by rw [made]; rfl)⟩,
    (by as_aux_lemma => kernel_rfl)⟩,
    (by as_aux_lemma => kernel_rfl)⟩,
    (by as_aux_lemma => kernel_rfl)⟩,
    (by as_aux_lemma => kernel_rfl)⟩

theorem rdS : Tryz.prog.readableRec 9 = true ∧ 9 < Tryz.prog.types.size := ⟨by kernel_rfl, of_decide_eq_true (by kernel_rfl)⟩
set_option maxRecDepth 100000 in
theorem lifted (os : Os) (started : os.Started) (H : Type) (enc : TypeId × Value → H) :
    ReturnsInHanded {} Tryz.checked os 3 .any (fun w args => (Rows.fnExactReadSoundingSpec.pre enc Tryz.prog Tryz.f3 Rows.fnExactReadSoundingRow.domain false w args ∧ laidMetH Tryz.prog Rows.fnExactReadSoundingRow.laid w) ∧ sizedMet enc Tryz.prog Tryz.f3 (OpenSpec.ofChange Rows.fnExactReadSoundingSpec) false w args) (Rows.fnExactReadSoundingSpec.post enc Tryz.prog Tryz.f3 false true false false) := by
  refine LawFrame.lifted_shaped (C := Tryz.checked) (fn := Tryz.f3) (n := 1) (tb := 4) (laidL := Rows.fnExactReadSoundingRow.laid) started own (by kernel_rfl) Tryz.func3 laid ?_ rfl ?_ rfl Tryz.underlying4 ?_
    (ChangeSpec.witness_shaped (enc := enc) (C := Tryz.checked) (os := os) (X := fun w _ => laidMetH Tryz.prog Rows.fnExactReadSoundingRow.laid w) false (World.laidAll Tryz.prog os Rows.fnExactReadSoundingRow.laid) #[.string ⟨#[]⟩] 8 (World.laidAll_os _ _ _) (World.shaped_of_ZipB (by kernel_rfl) (by kernel_rfl)) (by kernel_rfl) (by kernel_rfl) (by kernel_rfl) (wit_met os _)) ?_
  · intro t ht
    simp only [Tryz.params3, List.mem_cons, List.not_mem_nil, or_false] at ht
    subst ht; exact rdS
  · intro ds gs hd hg
    match ds, gs, hd, hg with
    | [d0], [], _, _ => rfl
  · intro W hL
    exact ⟨[], trivial⟩
  · intro W base args ds ps hval hn hT hL hsh
    obtain ⟨v0, rfl⟩ : ∃ v0, args = #[v0] := arr1 hn
    have ht := lng_of hL hsh
    simp only [Tryz.params3] at hT
    obtain ⟨s0, rfl, -, -, -⟩ := Go.ChangeMaps.open_string Tryz.underlying9 (hval 0 9 v0 rfl rfl) (trodAll_head hT).choose_spec.choose_spec
    exact lawReadSounding s0 ht

theorem over : Rows.fnExactReadSoundingRow.holds Tryz.pinned (OpenSpec.ofChange Rows.fnExactReadSoundingSpec) :=
  OpenClaim.holds_of_wide 3 Tryz.f3 rfl rfl rfl rfl rfl rfl rfl ⟨rfl, rfl, rfl, rfl, rfl⟩ rfl rfl rfl rfl rfl (by kernel_rfl) Tryz.func3 closed
    (of_decide_eq_true (by kernel_rfl)) (by unfold Func.isWrapper; rw [if_neg (by decide +kernel)]; exact ⟨rfl, rfl⟩)
    (fun os started H enc _ => lifted os started H enc)

theorem named : Tryz.prog.funcNamed "loop.example/g01224/laws.FnExactReadSounding" = some 3 := by kernel_rfl
theorem c_wf : Rows.fnExactReadSoundingRow.wfByText (OpenSpec.ofChange Rows.fnExactReadSoundingSpec) = true := by kernel_rfl
theorem c_main : Tryz.pinned.checked.prog.mainIs = some (true, "bdc54e197921cb06de73f7742beedc6312bc6298186ace0dea6786e54be29c15".toList) := by kernel_rfl
theorem c_looks : true = Tryz.pinned.checked.prog.looks [] := by kernel_rfl
theorem c_goes : false = Rows.fnExactReadSoundingRow.goesBy Tryz.pinned.checked.prog := by kernel_rfl
theorem proved : Rows.FnExactReadSoundingCardSaid :=
  Claim7.holds_tied_plain_at .later [] [.data, .data, .data, .data, .sentinel, .sentinel, .pinned] true (true, "bdc54e197921cb06de73f7742beedc6312bc6298186ace0dea6786e54be29c15") true
    over (fun _ h => by cases h) c_wf (fun _ h => by cases h) fnExactReadSounding_row_tie rfl ⟨rfl, rfl⟩ c_main rfl
    (fun f fn hf hfn => by
      obtain rfl : f = 3 := Option.some.inj (named.symm.trans hf) |>.symm
      obtain rfl : fn = Tryz.f3 := (Option.some.inj (Tryz.func3.symm.trans hfn)).symm
      exact ⟨c_looks, fun j t ht => by
        have hm := Array.mem_of_getElem? ht
        rw [Tryz.params3] at hm
        simp only [List.mem_toArray, List.mem_cons, List.not_mem_nil, or_false] at hm
        subst hm; exact (show Tryz.prog.wantsStandIn 9 = false by kernel_rfl)⟩)
    c_goes
#print axioms proved
end Go.Proofs.YtbbdnmhoagojdaaGreatDoor.fnExactReadSounding
