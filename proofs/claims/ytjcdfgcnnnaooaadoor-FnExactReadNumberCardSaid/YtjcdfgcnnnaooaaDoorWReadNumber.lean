import Derived.Test.YtjcdfgcnnnaooaaDoorEReadNumber
import Derived.Test.YtjcdfgcnnnaooaaDoorChecked
import Derived.Test.YtjcdfgcnnnaooaaDoorRows
import Derived.Test.YtjcdfgcnnnaooaaDoorCards
import Derived.Test.YtjcdfgcnnnaooaaDoorTie
import Derived.Laws.FloatArith
import Derived.ProofKit
import Derived.WalkKit
import Derived.WalkLawsBesides
import Derived.WalkSpells
import Derived.Deep.RegionHeld3
import Derived.ChangeKeysEq
import Derived.Laws.BitsAllLaws
import Derived.Deep.MidRow
import Derived.Deep.WholeRow
import Derived.StillTailTactics
import Derived.Deep.Slices
import Derived.ChangeSame
import Derived.OrdersIn
import Derived.ControlIn
import Derived.RangeFuncSeq
import Derived.RangeFuncNested
import Derived.ArgAppend
import Derived.OwnWalkIn
import Derived.TacticsInMore
import Derived.Below
import Derived.Laws.AppendOwn
import Derived.Laws.ComplexArith
import Derived.Deep.Strs
import Derived.Laws.IdiomStrings
import Derived.Laws.Bits64b
import Derived.Deep.QuietTactic
import Derived.BigQuiet
import Derived.OpenShut
import Derived.Stop.LaidErr
import Derived.LaidMore
import Derived.Handed
import Derived.LaidHandle
import Derived.Stop.Joined
import Derived.MakeChecks
import Derived.Lib.LaidTab
import Derived.StillTail
import Derived.Shelf.Strings.OnBuilder
import Derived.Lib.Join
import Derived.Shelf.Strings.BuilderK
import Derived.RangeFuncLeaves
import Derived.RangeFuncBox
import Derived.LoopNIn
import Derived.LoopIn
import Derived.Shelf.Abstract
import Derived.Lib.ConvBytes
import Derived.Shelf.Strconv.SyntaxError
import Derived.Lib.IfaceEq
import Derived.ChangeMaps5
import Derived.SevenTiedAt
/- The tied card of FnExactReadNumber. -/
namespace Go.Proofs.YtjcdfgcnnnaooaaDoor
open Go.RowKit Go.Fl

@[go_sem] theorem ext_f64bits (y : Nat) (w : World) : (callFunc 114 #[.float .f64 y]).run Tryd.prog w = .ok (.value (.int .u64 y)) w := by
  rw [run_callFunc_extern Tryd.func114 (by kernel_rfl) (by kernel_rfl) (by kernel_rfl) (e := Extern.MathFloatBits.float64bits) (by kernel_rfl)]
  rfl

@[go_sem] theorem ext_f64from (n : Int) (w : World) : (callFunc 140 #[.int .u64 n]).run Tryd.prog w = .ok (.value (.float .f64 n.toNat)) w := by
  rw [run_callFunc_extern Tryd.func140 (by kernel_rfl) (by kernel_rfl) (by kernel_rfl) (e := Extern.MathFloatBits.float64frombits) (by kernel_rfl)]
  rfl

theorem hid {p : Prop} (h : p) : Hid p := h

theorem isNaN_f64 (y : Nat) (w : World) :
    Calls Tryd.prog 74 #[.float .f64 y] w fun e w' => e = .returned (.bool (FloatKind.f64.format.order y y != some .eq)) ∧ w = w' := by
  go_enter Tryd.func74, Tryd.ntmps74
  go_wp2
  go_ret
  exact ⟨rfl, rfl⟩

/-- The table of trailing zeros where the base asks it. -/
def Tab64 (w : World) : Prop := w.cell? ⟨6, 15, none⟩ = some (.int .u8 4)

theorem Tab64.stay {w w' : World} (h : Tab64 w) (hb : Below w.heap.size w w') : Tab64 w' := by
  unfold Tab64 at *
  rw [hb.cell (block_lt_of_cell h)]; exact h

set_option maxRecDepth 100000 in
set_option maxHeartbeats 1000000 in
theorem iZeros16 (w : World) (h : Tab64 w) : Calls Tryd.prog 122 #[.int .u64 16] w fun e w' => e = .returned (.int .i64 4) ∧ w' = w := by
  have c0 : w.cell? ⟨6, 15, none⟩ = some (.int .u8 4) := h
  have hq : IntKind.u64.wrap (bits BinOp.and IntKind.u64 16 (IntKind.u64.wrap (-16)) * 285870213051353865) / 288230376151711744 = 15 := by decide
  clear h
  go_enter Tryd.func122, Tryd.ntmps122
  go_wp2
  go_ret
  exact ⟨rfl, rfl⟩

theorem hx_bits (u : Nat) (h : u < 18446744073709551616) : bits BinOp.and IntKind.u64 (u : Int) 15 = ((u % 16 : Nat) : Int) := by
  rw [show (15 : Int) = ((15 : Nat) : Int) from rfl, bits_and_u64_nat u 15 h (by decide), Nat.and_two_pow_sub_one_eq_mod u 4]

theorem zero65 : Tryd.zeroCells158 = vls 65 (fun _ => .int .u8 0) := by rfl

theorem info_u8 : (Tryd.prog.info? 5).map (·.size) = some 1 := by kernel_rfl

theorem ix36 (d : Nat) (h : d < 16) (w : World) : (Instr.index 9 (.string ⟨#[48, 49, 50, 51, 52, 53, 54, 55, 56, 57, 97, 98, 99, 100, 101, 102, 103, 104, 105, 106, 107, 108, 109, 110, 111, 112, 113, 114, 115, 116, 117, 118, 119, 120, 121, 122]⟩) (.int .u64 (d : Int))).run Tryd.prog w = .ok (.int .u8 (hexN d : Int)) w :=
  index_hex .u64 Tryd.underlying9 (by decide) (by decide) d h w

set_option maxRecDepth 100000 in
set_option maxHeartbeats 1000000 in
theorem iPow16 (w : World) : Calls Tryd.prog 121 #[.int .i64 16] w fun e w' => e = .returned (.bool true) ∧ w' = w := by
  have hb : bits BinOp.and IntKind.i64 16 15 = 0 := by decide
  go_enter Tryd.func121, Tryd.ntmps121
  go_wp2
  go_ret
  exact ⟨rfl, rfl⟩

theorem hx_cv {n t m : Nat} {w w2 : World} (k2 : Kept w [(w.heap.size, vls 65 (hxW n 65 (t + 1)), 158)] w2) (h : m + (t + 1) = 65) :
    (convert 95 9 (.slice (some ⟨w.heap.size, m, none⟩) (t + 1) (t + 1))).run Tryd.prog w2 = .ok (.string ⟨(hexL n (t + 1)).toArray⟩) w2 := by
  have h1 := run_convert_bytes_back (P := Tryd.prog) w2 95 9 5 ⟨w.heap.size, m, none⟩ (t + 1) (hexL n (t + 1)) Tryd.underlying95 Tryd.underlying5 Tryd.underlying9 (fun j hj => by
    rw [hexL_length] at hj
    rw [Addr.add_mid, ← hxW_read n 65 (k := t + 1) (i := j) (by omega) hj, show 65 - (t + 1) + j = m + j by omega]
    exact (k2.v in0).cell (by omega))
  rwa [hexL_length] at h1

set_option maxRecDepth 100000 in
set_option maxHeartbeats 1000000 in
theorem iFormatBits (n : Nat) (hn : n < 4294967296) (w : World) (ht : Tab64 w) :
    Calls Tryd.prog 98 #[.slice none 0 0, .int .u64 (n : Int), .int .i64 16, .bool false, .bool false] w fun e w' =>
      (∃ k, 1 ≤ k ∧ k ≤ 8 ∧ n < 16 ^ k ∧ e = .returned (.tuple #[.slice none 0 0, .string ⟨(hexL n k).toArray⟩])) ∧ Below w.heap.size w w' := by
  have hT := hid (ht.stay ((Below.refl w.heap.size w).alloc (Nat.le_refl _) (.cells (vls 65 (fun _ => .int .u8 0)) 158)))
  have HN := hid hn
  clear ht hn
  have k0 := hid ((Kept.nil w).push (vls 65 fun _ => .int .u8 0) 158)
  go_enter Tryd.func98, Tryd.ntmps98
  go_wp2_with fail
  rw [zero65]
  refine (iPow16 _).mono ?_
  rintro e w1 ⟨rfl, rfl⟩
  go_wp2_with fail
  refine (iZeros16 _ hT.out).mono ?_
  rintro e w1 ⟨rfl, rfl⟩
  clear hT
  go_wp2_with fail
  have k1 : Hid (Kept w [(w.heap.size, vls 65 (hxW n 65 0), 158)] (w.alloc (.cells (vls 65 (fun _ => .int .u8 0)) 158))) := hid (k0.out.ext (fun i hi => (hxW_zero n 65 hi).symm))
  clear k0
  go_loopw [1, 13] (fun v i wr => ∃ t u j : Nat, t ≤ 7 ∧ j + t = 65 ∧ v = .int .u64 (u : Int) ∧ i = .int .i64 (j : Int) ∧ Hid (u = n / 16 ^ t) ∧ Hid (Kept w [(w.heap.size, vls 65 (hxW n 65 t), 158)] wr)) (fun v _ _ => (intOf v).toNat)
  case atStart => exact ⟨0, n, 65, by omega, rfl, rfl, rfl, hid (by simp), k1⟩
  case round =>
    clear k1
    obtain ⟨t, u, j, ht, hj, rfl, rfl, hu, h1⟩ := hrel
    obtain ⟨m, rfl⟩ : ∃ m, j = m + 1 := ⟨j - 1, by omega⟩
    have hm3 : (m : Int) < 65 := by omega
    have hm4 : wrap64 (m : Int) = (m : Int) := by unfold wrap64; omega
    by_cases hge : 16 ≤ u
    · have hg3 : (16 : Int) ≤ (u : Int) := by omega
      have hu64 : u < 18446744073709551616 := by
        have h1 := hu.out
        have h2 := HN.out
        have h3 := Nat.div_le_self n (16 ^ t)
        omega
      obtain ⟨d, hd⟩ : ∃ d, d = u % 16 := ⟨_, rfl⟩
      have hb : bits BinOp.and IntKind.u64 (u : Int) 15 = (d : Int) := by rw [hd]; exact hx_bits u hu64
      have hix := ix36 d (by rw [hd]; exact Nat.mod_lt _ (by decide))
      have HD := hid hd
      have HT := hid ht
      have HJ := hid hj
      have HG := hid hge
      have tok1 : True := trivial
      clear hge ht hj hu64 hd
      go_wp2_with (have _t := tok1; refine store_one (by rfl) 5 _ _ (by rfl) info_u8 (w.heap.size) m (.int .u8 (hexN d : Int)) (by rfl) (by rfl) rfl rfl h1.out (by omega) (by omega) ne0 ?_; intro w2 k2; rw [HD.out] at k2; replace k2 := hid (k2.ext (hx_st hu.out (by have := HJ.out; omega))); clear h1 tok1)
      go_roundw
      case rel => exact ⟨t + 1, u / 16, m, by have := hx_more HN.out (by rw [← hu.out]; exact HG.out); omega, by have := HJ.out; omega, by go_num, by go_num, hid (by rw [hu.out, hx_next]), k2⟩
      case measure => have := HG.out; simp [intOf]; omega
    · have hg3 : ¬ (16 : Int) ≤ (u : Int) := by omega
      have hix := ix36 u (by omega)
      have HJ := hid hj
      have hx2 : Hid (u < 16) := hid (by omega)
      have hk1 : m + (t + 1) = 65 := by omega
      have HT := hid ht
      have hal : Tryd.prog.arrayLen 158 = 65 := by kernel_rfl
      have hsl : ∀ W, (Instr.sliceAt 158 (.pointer (some ⟨w.heap.size, 0, none⟩)) (some (.int .i64 (m : Int))) none none).run Tryd.prog W = .ok (.slice (some ⟨w.heap.size, m, none⟩) (t + 1) (t + 1)) W := fun W => by
        rw [run_sliceAt_array_l W 158 ⟨w.heap.size, 0, none⟩ Tryd.underlying158 .i64 (m : Int) (by omega) (by rw [hal]; omega)]
        go_simp
        omega
      have tok1 : True := trivial
      have HK1 := hid hk1
      clear hge hj hk1 ht
      go_wp2_with (have _t := tok1; refine store_one (by rfl) 5 _ _ (by rfl) info_u8 (w.heap.size) m (.int .u8 (hexN u : Int)) (by rfl) (by rfl) rfl rfl h1.out (by omega) (by omega) ne0 ?_; intro w2 k2; replace k2 := hid (k2.ext (hx_st' hu.out hx2.out (by have := HJ.out; omega))); have hcv := hx_cv k2.out HK1.out; clear h1 tok1)
      go_ret2
      exact ⟨⟨t + 1, by omega, by have := HT.out; omega, hx_last (by rw [← hu.out]; exact hx2.out), rfl⟩, k2.out.1⟩

theorem wrU {c : Nat} (h : c < 1000) : IntKind.u64.wrap (c : Int) = (c : Int) := by rw [IntKind.wrap_u64]; omega

theorem and32 {c : Nat} (h : c < 1000) : bits BinOp.and IntKind.u64 (c : Int) 4294967295 = (c : Int) := by
  rw [show (4294967295 : Int) = ((4294967295 : Nat) : Int) from rfl, bits_and_u64_nat c _ (by omega) (by decide), Nat.and_two_pow_sub_one_eq_mod c 32]
  congr 1
  omega

set_option maxRecDepth 100000 in
set_option maxHeartbeats 1000000 in
theorem iMul1 (c : Nat) (hc : c < 1000) (w : World) : Calls Tryd.prog 100 #[.int .u64 1, .int .u64 (c : Int)] w fun e w' => e = .returned (.tuple #[.int .u64 0, .int .u64 (c : Int)]) ∧ w' = w := by
  have h1 : bits BinOp.and IntKind.u64 1 4294967295 = 1 := and32 (c := 1) (by omega)
  have h2 := and32 hc
  have h3 : (c : Int) / 4294967296 = 0 := by omega
  have h4 := wrU hc
  have h5 : bits BinOp.and IntKind.u64 0 4294967295 = 0 := and32 (c := 0) (by omega)
  clear hc
  go_enter Tryd.func100, Tryd.ntmps100
  go_wp2
  go_ret2
  exact ⟨rfl, rfl⟩

set_option maxRecDepth 100000 in
set_option maxHeartbeats 1000000 in
theorem iMul2 (c : Nat) (hc : c < 1000) (w : World) : Calls Tryd.prog 76 #[.int .u64 1, .int .u64 (c : Int)] w fun e w' => e = .returned (.tuple #[.int .u64 0, .int .u64 (c : Int)]) ∧ w' = w := by
  have HC := hid hc
  clear hc
  go_enter Tryd.func76, Tryd.ntmps76
  go_wp2_with fail
  refine (iMul1 c HC.out _).mono ?_
  rintro e w1 ⟨rfl, rfl⟩
  go_wp2
  go_ret2
  exact ⟨rfl, rfl⟩

set_option maxRecDepth 100000 in
set_option maxHeartbeats 1000000 in
theorem iHasPre (s : ByteArray) (h : 1 ≤ s.size) (b : Bool) (hb : ((s.extract 0 1).toList == [48]) = b) (w : World) : Calls Tryd.prog 101 #[.string s, .string ⟨#[48]⟩] w fun e w' => e = .returned (.bool b) ∧ w' = w := by
  have h1 : (1 : Int) ≤ (s.size : Int) := by omega
  go_enter Tryd.func101, Tryd.ntmps101
  go_wp2
  go_ret
  exact ⟨rfl, rfl⟩

set_option maxRecDepth 100000 in
set_option maxHeartbeats 1000000 in
theorem iHasPre2 (s : ByteArray) (h : 1 ≤ s.size) (b : Bool) (hb : ((s.extract 0 1).toList == [48]) = b) (w : World) : Calls Tryd.prog 77 #[.string s, .string ⟨#[48]⟩] w fun e w' => e = .returned (.bool b) ∧ w' = w := by
  have H := hid h
  have HB := hid hb
  clear h hb
  go_enter Tryd.func77, Tryd.ntmps77
  go_wp2_with fail
  refine (iHasPre s H.out b HB.out _).mono ?_
  rintro e w1 ⟨rfl, rfl⟩
  go_wp2
  go_ret
  exact ⟨rfl, rfl⟩

set_option maxRecDepth 100000 in
set_option maxHeartbeats 1000000 in
theorem iRep0 (w : World) : Calls Tryd.prog 43 #[.string ⟨#[48]⟩, .int .i64 0] w fun e w' => e = .returned (.string ⟨#[]⟩) ∧ w' = w := by
  go_enter Tryd.func43, Tryd.ntmps43
  go_wp2
  go_ret
  exact ⟨rfl, rfl⟩

set_option maxRecDepth 100000 in
set_option maxHeartbeats 1000000 in
theorem iRep1 (w : World) : Calls Tryd.prog 43 #[.string ⟨#[48]⟩, .int .i64 1] w fun e w' => e = .returned (.string ⟨#[48]⟩) ∧ w' = w := by
  go_enter Tryd.func43, Tryd.ntmps43
  go_wp2
  go_ret
  exact ⟨rfl, rfl⟩

def zs64 : ByteArray := ⟨#[48, 48, 48, 48, 48, 48, 48, 48, 48, 48, 48, 48, 48, 48, 48, 48, 48, 48, 48, 48, 48, 48, 48, 48, 48, 48, 48, 48, 48, 48, 48, 48, 48, 48, 48, 48, 48, 48, 48, 48, 48, 48, 48, 48, 48, 48, 48, 48, 48, 48, 48, 48, 48, 48, 48, 48, 48, 48, 48, 48, 48, 48, 48, 48]⟩

theorem rep_cut (c : Nat) (h : c ≤ 7) : zs64.extract 0 c = ⟨(List.replicate c 48).toArray⟩ := by
  have : ∀ c, c < 8 → zs64.extract 0 c = ⟨(List.replicate c 48).toArray⟩ := by decide +kernel
  exact this c (by omega)

set_option maxRecDepth 100000 in
set_option maxHeartbeats 1000000 in
theorem iRepN (c : Nat) (h2 : 2 ≤ c) (h7 : c ≤ 7) (w : World) : Calls Tryd.prog 43 #[.string ⟨#[48]⟩, .int .i64 (c : Int)] w fun e w' => e = .returned (.string ⟨(List.replicate c 48).toArray⟩) ∧ w' = w := by
  have a0 : ¬ (c : Int) = 0 := by omega
  have a1 : ¬ (c : Int) = 1 := by omega
  have a2 : ¬ (c : Int) < 0 := by omega
  have a3 := wrU (c := c) (by omega)
  have a4 : ¬ (9223372036854775807 : Int) < (c : Int) := by omega
  have a5 : wrap64 (c : Int) = (c : Int) := by unfold wrap64; omega
  have a6 : (c : Int) ≤ 64 := by omega
  have hv : ((ByteArray.mk #[48])[0]'(by decide)).toNat = 48 := rfl
  have H2 := hid h2
  have H7 := hid h7
  clear h2 h7
  go_enter Tryd.func43, Tryd.ntmps43
  go_wp2_with fail
  refine (iMul2 c (by have := H7.out; omega) _).mono ?_
  rintro e w1 ⟨rfl, rfl⟩
  go_wp2_with fail
  refine (iHasPre2 _ (by decide +kernel) false (by decide +kernel) _).mono ?_
  rintro e w1 ⟨rfl, rfl⟩
  go_wp2_with fail
  refine (iHasPre2 _ (by decide +kernel) false (by decide +kernel) _).mono ?_
  rintro e w1 ⟨rfl, rfl⟩
  go_wp2_with fail
  refine (iHasPre2 _ (by decide +kernel) true (by decide +kernel) _).mono ?_
  rintro e w1 ⟨rfl, rfl⟩
  go_wp2_with fail
  go_ret
  exact ⟨congrArg (fun s => Ending.returned (Value.string s)) (rep_cut c H7.out), rfl⟩

theorem iRep (c : Nat) (h : c ≤ 7) (w : World) : Calls Tryd.prog 43 #[.string ⟨#[48]⟩, .int .i64 (c : Int)] w fun e w' => e = .returned (.string ⟨(List.replicate c 48).toArray⟩) ∧ w' = w := by
  rcases Nat.lt_or_ge c 2 with h1 | h1
  · rcases Nat.lt_or_ge c 1 with h2 | h2
    · obtain rfl : c = 0 := by omega
      exact iRep0 w
    · obtain rfl : c = 1 := by omega
      exact iRep1 w
  · exact iRepN c h1 h w

set_option maxRecDepth 100000 in
set_option maxHeartbeats 1000000 in
theorem iFormatUint (n : Nat) (hn : n < 4294967296) (w : World) (ht : Tab64 w) :
    Calls Tryd.prog 73 #[.int .u64 (n : Int), .int .i64 16] w fun e w' =>
      (∃ k, 1 ≤ k ∧ k ≤ 8 ∧ n < 16 ^ k ∧ e = .returned (.string ⟨(hexL n k).toArray⟩)) ∧ Below w.heap.size w w' := by
  have hT := hid ht
  have HN := hid hn
  clear ht hn
  go_enter Tryd.func73, Tryd.ntmps73
  go_wp2_with fail
  refine (iFormatBits n HN.out _ hT.out).mono ?_
  rintro e w1 ⟨⟨k, h1, h2, h3, rfl⟩, hb⟩
  have HB := hid hb
  have H3 := hid h3
  clear hb h3
  go_wp2
  go_ret
  exact ⟨⟨k, h1, h2, H3.out, rfl⟩, HB.out⟩

set_option maxRecDepth 100000 in
set_option maxHeartbeats 1000000 in
theorem iFormatUint2 (n : Nat) (hn : n < 4294967296) (w : World) (ht : Tab64 w) :
    Calls Tryd.prog 41 #[.int .u64 (n : Int), .int .i64 16] w fun e w' =>
      (∃ k, 1 ≤ k ∧ k ≤ 8 ∧ n < 16 ^ k ∧ e = .returned (.string ⟨(hexL n k).toArray⟩)) ∧ Below w.heap.size w w' := by
  have hT := hid ht
  have HN := hid hn
  clear ht hn
  go_enter Tryd.func41, Tryd.ntmps41
  go_wp2_with fail
  refine (iFormatUint n HN.out _ hT.out).mono ?_
  rintro e w1 ⟨⟨k, h1, h2, h3, rfl⟩, hb⟩
  have HB := hid hb
  have H3 := hid h3
  clear hb h3
  go_wp2
  go_ret
  exact ⟨⟨k, h1, h2, H3.out, rfl⟩, HB.out⟩

@[go_sem] theorem ext_f32bits (y : Nat) (w : World) : (callFunc 75 #[.float .f32 y]).run Tryd.prog w = .ok (.value (.int .u32 y)) w := by
  rw [run_callFunc_extern Tryd.func75 (by kernel_rfl) (by kernel_rfl) (by kernel_rfl) (e := Extern.MathFloatBits.float32bits) (by kernel_rfl)]
  rfl

theorem iBits (x : Nat) (hx : x < 4294967296) (w : World) :
    Calls Tryd.prog 42 #[.float .f32 x] w fun e w' => e = .returned (.int .u32 (nb x : Int)) ∧ Below w.heap.size w w' := by
  have hnb : nb x = if nanB x = true then 2143289344 else x := rfl
  rcases hn : nanB x with _ | _
  · have hle : mg x ≤ INF := by simpa [nanB] using hn
    rw [hn] at hnb
    have Hnb := hid hnb
    rcases Nat.lt_or_eq_of_le hle with h | h
    · have hc := fun w => run_conv_wid (P := Tryd.prog) w 22 28 x hx Tryd.underlying22 Tryd.underlying28 h
      obtain ⟨_, _, m, e, hr⟩ := read_wid_fin hx h
      have Hn := hid (show (FloatKind.f64.format.order (wid x) (wid x) != some .eq) = false by
        show (D.order (wid x) (wid x) != some .eq) = false
        rw [order_self hr]; rfl)
      clear hnb hn hle h hr hx
      go_enter Tryd.func42, Tryd.ntmps42
      go_wp2_with (go_at_call 74; refine (isNaN_f64 (wid x) _).mono ?_; rintro e w' ⟨rfl, rfl⟩; rw [Hn.out])
      go_ret
      exact ⟨by rw [Hnb.out]; simp, Below.refl _ _⟩
    · obtain ⟨z, hc, h1, h2⟩ := run_conv_inf (P := Tryd.prog) w 22 28 x hx Tryd.underlying22 Tryd.underlying28 h
      have hr : D.read z = .infinity (decide (9223372036854775808 ≤ z)) := by rw [read_signD h2, h1, read_DINF]
      have Hn := hid (show (FloatKind.f64.format.order z z != some .eq) = false by
        show (D.order z z != some .eq) = false
        rw [order_inf hr]; rfl)
      clear hnb hn hle h hr hx h1 h2
      go_enter Tryd.func42, Tryd.ntmps42
      go_wp2_with (go_at_call 74; refine (isNaN_f64 z _).mono ?_; rintro e w' ⟨rfl, rfl⟩; rw [Hn.out])
      go_ret
      exact ⟨by rw [Hnb.out]; simp, Below.refl _ _⟩
  · have h : INF < mg x := by simpa [nanB] using hn
    rw [hn] at hnb
    have Hnb := hid hnb
    obtain ⟨z, hc, h1, _⟩ := run_conv_nan (P := Tryd.prog) w 22 28 x Tryd.underlying22 Tryd.underlying28 h
    obtain ⟨s, t, hr⟩ := read_nanD h1
    have Hn := hid (show (FloatKind.f64.format.order z z != some .eq) = true by
      show (D.order z z != some .eq) = true
      rw [order_nan hr]; rfl)
    clear hnb hn h hr hx h1
    go_enter Tryd.func42, Tryd.ntmps42
    go_wp2_with (go_at_call 74; refine (isNaN_f64 z _).mono ?_; rintro e w' ⟨rfl, rfl⟩; rw [Hn.out])
    go_ret
    exact ⟨by rw [Hnb.out]; simp, (Below.refl _ _).drew⟩

theorem nb_lt {x : Nat} (h : x < 4294967296) : nb x < 4294967296 := by
  unfold nb; split
  · decide
  · exact h

theorem hex8 {n k : Nat} (h2 : k ≤ 8) (h3 : n < 16 ^ k) : List.replicate (8 - k) 48 ++ hexL n k = hexL n 8 := by
  have := hexL_zeros k n (8 - k) h3
  rw [show k + (8 - k) = 8 by omega] at this
  exact this.symm

/-- The text of a number. -/
def txN (x : Nat) : ByteArray := ⟨(hexL (nb x) 8).toArray⟩

theorem cat_hex {n k : Nat} (h2 : k ≤ 8) (h3 : n < 16 ^ k) : (⟨(List.replicate (8 - k) 48).toArray⟩ ++ ⟨(hexL n k).toArray⟩ : ByteArray) = ⟨(hexL n 8).toArray⟩ := by
  rw [← hex8 h2 h3]
  apply ByteArray.ext
  simp

set_option maxRecDepth 100000 in
set_option maxHeartbeats 1000000 in
theorem iNumberText (x : Nat) (hx : x < 4294967296) (w : World) (ht : Tab64 w) :
    Calls Tryd.prog 13 #[.float .f32 x] w fun e w' => e = .returned (.string (txN x)) ∧ Below w.heap.size w w' := by
  have HT := hid ht
  have HX := hid hx
  have hc : IntKind.u64.wrap (nb x : Int) = (nb x : Int) := by have := nb_lt hx; rw [IntKind.wrap_u64]; omega
  clear ht hx
  go_enter Tryd.func13, Tryd.ntmps13
  go_wp2_with fail
  refine (iBits x HX.out _).mono ?_
  rintro e w1 ⟨rfl, hb1⟩
  have T1 := hid (HT.out.stay hb1)
  have B1 := hid hb1
  clear hb1 HT
  go_wp2_with fail
  refine (iFormatUint2 (nb x) (nb_lt HX.out) _ T1.out).mono ?_
  rintro e w2 ⟨⟨k, h1, h2, h3, rfl⟩, hb2⟩
  have B2 := hid (((Kept.nil w).stay B1.out).stay hb2)
  have hl : (⟨(hexL (nb x) k).toArray⟩ : ByteArray).size = k := by show (hexL (nb x) k).toArray.size = k; simp [hexL_length]
  have hs : wrap64 (8 - (k : Int)) = ((8 - k : Nat) : Int) := by rw [show (8 : Int) - (k : Int) = ((8 - k : Nat) : Int) by omega]; unfold wrap64; omega
  have hs' : (8 : Int) - (k : Int) = ((8 - k : Nat) : Int) := by omega
  obtain ⟨m, hm⟩ : ∃ m, m = 8 - k := ⟨_, rfl⟩
  rw [← hm] at hs hs'
  have H2 := hid h2
  have H3 := hid h3
  have HM := hid hm
  have hm7 : Hid (m ≤ 7) := hid (by omega)
  have hwm : wrap64 (m : Int) = (m : Int) := by unfold wrap64; omega
  clear hb2 B1 h1 h2 h3 hm T1
  go_wp2_with fail
  refine (iRep m hm7.out _).mono ?_
  rintro e w3 ⟨rfl, rfl⟩
  go_wp2
  go_ret
  refine ⟨congrArg (fun s => Ending.returned (Value.string s)) ?_, B2.out.1⟩
  rw [HM.out]
  exact cat_hex H2.out H3.out

set_option maxRecDepth 100000 in
set_option maxHeartbeats 1000000 in
theorem sBits (x : Nat) (hx : x < 4294967296) (w : World) :
    Calls Tryd.prog 72 #[.float .f32 x] w fun e w' => e = .returned (.int .u32 (nb x : Int)) ∧ w' = w := by
  have n1 := neq_self x hx
  have hnb : nb x = if nanB x = true then 2143289344 else x := rfl
  rcases hn : nanB x with _ | _
  · rw [hn] at hnb n1
    rw [hnb]
    clear hnb hn
    go_enter Tryd.func72, Tryd.ntmps72
    go_wp2
    go_ret
    exact ⟨by simp, rfl⟩
  · rw [hn] at hnb n1
    rw [hnb]
    clear hnb hn
    go_enter Tryd.func72, Tryd.ntmps72
    go_wp2
    go_ret
    exact ⟨by simp, rfl⟩

theorem words_cons : ∀ (v : List Char) (r : List Char), (∀ c ∈ v, c ≠ Char.ofNat 32) → wordsSigns (v ++ Char.ofNat 32 :: r) = v :: wordsSigns r
  | [], r, _ => rfl
  | c :: v, r, h => by
    have ih := words_cons v r (fun x hx => h x (by simp [hx]))
    have hc : c ≠ Char.ofNat 32 := h c (by simp)
    show wordsSigns (c :: (v ++ Char.ofNat 32 :: r)) = _
    rw [wordsSigns.eq_3 _ _ (fun e => hc e), ih]

def w0 : List Nat := [104, 97, 114, 110, 101, 115, 115]

def w1 : List Nat := [51, 50, 57, 48, 49, 55, 97, 102, 49, 55, 49, 52, 98, 48, 54, 98, 98, 54, 56, 49, 102, 57, 51, 56, 53, 98, 49, 97, 50, 53, 54, 49, 48, 100, 102, 101, 56, 97, 51, 101, 54, 55, 55, 101, 54, 102, 102, 50, 97, 52, 54, 53, 101, 53, 99, 97, 97, 50, 99, 53, 55, 53, 102, 102]

def w2 : List Nat := [99, 117, 116]

def w3 : List Nat := [97, 116, 32, 108, 111, 111, 112, 46, 101, 120, 97, 109, 112, 108, 101, 47, 103, 48, 49, 50, 50, 52, 47, 108, 97, 119, 115, 46, 70, 110, 69, 120, 97, 99, 116, 78, 117, 109, 98, 101, 114, 84, 101, 120, 116, 32, 108, 111, 111, 112, 46, 101, 120, 97, 109, 112, 108, 101, 47, 103, 48, 49, 50, 50, 52, 47, 108, 97, 119, 115, 46, 70, 110, 69, 120, 97, 99, 116, 82, 101, 97, 100, 78, 117, 109, 98, 101, 114, 32, 108, 111, 111, 112, 46, 101, 120, 97, 109, 112, 108, 101, 47, 103, 48, 49, 50, 50, 52, 47, 108, 97, 119, 115, 46, 70, 110, 69, 120, 97, 99, 116, 83, 105, 122, 101, 115, 84, 101, 120, 116, 32, 108, 111, 111, 112, 46, 101, 120, 97, 109, 112, 108, 101, 47, 103, 48, 49, 50, 50, 52, 47, 108, 97, 119, 115, 46, 70, 110, 69, 120, 97, 99, 116, 82, 101, 97, 100, 83, 105, 122, 101, 115, 32, 108, 111, 111, 112, 46, 101, 120, 97, 109, 112, 108, 101, 47, 103, 48, 49, 50, 50, 52, 47, 108, 97, 119, 115, 46, 70, 110, 69, 120, 97, 99, 116, 65, 105, 114, 84, 101, 120, 116, 32, 108, 111, 111, 112, 46, 101, 120, 97, 109, 112, 108, 101, 47, 103, 48, 49, 50, 50, 52, 47, 108, 97, 119, 115, 46, 70, 110, 69, 120, 97, 99, 116, 82, 101, 97, 100, 65, 105, 114, 32, 108, 111, 111, 112, 46, 101, 120, 97, 109, 112, 108, 101, 47, 103, 48, 49, 50, 50, 52, 47, 108, 97, 119, 115, 46, 70, 110, 69, 120, 97, 99, 116, 75, 101, 114, 110, 101, 108, 84, 101, 120, 116, 32, 108, 111, 111, 112, 46, 101, 120, 97, 109, 112, 108, 101, 47, 103, 48, 49, 50, 50, 52, 47, 108, 97, 119, 115, 46, 70, 110, 69, 120, 97, 99, 116, 82, 101, 97, 100, 75, 101, 114, 110, 101, 108, 32, 108, 111, 111, 112, 46, 101, 120, 97, 109, 112, 108, 101, 47, 103, 48, 49, 50, 50, 52, 47, 108, 97, 119, 115, 46, 70, 110, 69, 120, 97, 99, 116, 83, 111, 117, 110, 100, 105, 110, 103, 84, 101, 120, 116]

def letters (l : List Nat) : List Char := l.map Char.ofNat

theorem head_reads : Tryd.prog.initOrder = String.ofList (letters w0 ++ Char.ofNat 32 :: (letters w1 ++ Char.ofNat 32 :: (letters w2 ++ Char.ofNat 32 :: letters w3))) := by kernel_rfl

theorem no_blank {l : List Nat} (h : l.all (fun n => Char.ofNat n != Char.ofNat 32) = true) : ∀ c ∈ letters l, c ≠ Char.ofNat 32 := by
  intro c hc
  obtain ⟨n, hn, rfl⟩ := List.mem_map.1 hc
  have := List.all_eq_true.1 h n hn
  simpa using this

theorem h0 : letters w0 = "harness".toList := by kernel_rfl

theorem h2 : letters w2 = "cut".toList := by kernel_rfl

theorem sums : isSumSigns (letters w1) = true := by kernel_rfl

theorem words : wordsSigns Tryd.prog.initOrder.toList = "harness".toList :: letters w1 :: "cut".toList :: wordsSigns (letters w3) := by
  rw [head_reads, String.toList_ofList, words_cons _ _ (no_blank (by decide +kernel)), words_cons _ _ (no_blank (by decide +kernel)), words_cons _ _ (no_blank (by decide +kernel)), h0, h2]

theorem behind : ∃ r, behindMainWord (wordsSigns Tryd.prog.initOrder.toList) = "cut".toList :: r := by
  refine ⟨wordsSigns (letters w3), ?_⟩
  rw [words]
  generalize wordsSigns (letters w3) = r
  have hs := sums
  generalize letters w1 = v at hs
  unfold behindMainWord
  simp [hs]

theorem not_later : Tryd.prog.laysLater = false := by kernel_rfl

theorem no_reflect : Tryd.prog.bearsReflect = false := by kernel_rfl

theorem no_doors : Tryd.prog.doorFits [] = true := by kernel_rfl

theorem strips (r : List (List Char)) : stripLifts liftWords ("cut".toList :: r) = ([], "cut".toList :: r) := by kernel_rfl

theorem may_enter_of (P : Program) (r : List (List Char)) (h : behindMainWord (wordsSigns P.initOrder.toList) = "cut".toList :: r) (h1 : P.laysLater = false) (h2 : P.bearsReflect = false) (h3 : P.doorFits [] = true) : P.mayEnter = true := by
  unfold Program.mayEnter
  rw [h]
  dsimp only
  rw [strips, h1, h2, h3]
  kernel_rfl

theorem lifts_final_of (P : Program) (r : List (List Char)) (h : behindMainWord (wordsSigns P.initOrder.toList) = "cut".toList :: r) : P.liftsFinal = false := by
  unfold Program.liftsFinal Program.headLifts
  rw [h]
  dsimp only
  rw [strips]
  kernel_rfl

theorem made_of (P : Program) (r : List (List Char)) (h : behindMainWord (wordsSigns P.initOrder.toList) = "cut".toList :: r) : P.make = some .cut := by
  unfold Program.make
  rw [h]
  kernel_rfl

theorem may_enter : Tryd.prog.mayEnter = true := let ⟨r, h⟩ := behind; may_enter_of _ r h not_later no_reflect no_doors

theorem lifts_final : Tryd.prog.liftsFinal = false := let ⟨r, h⟩ := behind; lifts_final_of _ r h

theorem made : Tryd.prog.make = some .cut := let ⟨r, h⟩ := behind; made_of _ r h

theorem laid : laidOutB Tryd.prog = true := by kernel_rfl

theorem rowed : mapsRowed Tryd.prog = true := by kernel_rfl

theorem no_stops : Tryd.prog.stops = [] := by kernel_rfl

theorem no_knobs : Tryd.prog.stopKnobs = [] := by kernel_rfl

theorem plain_keys : Tryd.prog.plainKeys = true := by kernel_rfl

theorem stops_heard : Tryd.prog.stopsHeard = true := by kernel_rfl

theorem arr1 {α : Type} {cs : Array α} (h : cs.size = 1) : ∃ c0, cs = #[c0] := by
  obtain ⟨l⟩ := cs
  match l, h with
  | [a], _ => exact ⟨a, rfl⟩

theorem own : ownKnob Tryd.prog.godebug = none := by kernel_rfl

def tz64 : List Int := [0, 1, 56, 2, 57, 49, 28, 3, 61, 58, 42, 50, 38, 29, 17, 4, 62, 47, 59, 36, 45, 43, 51, 22, 53, 39, 33, 30, 24, 18, 12, 5, 63, 55, 48, 27, 60, 41, 37, 16, 46, 35, 44, 21, 52, 32, 23, 11, 54, 26, 40, 15, 34, 20, 31, 10, 25, 14, 19, 9, 13, 8, 7, 6]

def rest1 (x : Nat) : Nat := fsub 1065353216 x

def mixed (c d : Nat → Nat) (x : Nat) : Nat → Nat := fun i => fadd (fmul (c i) (rest1 x)) (fmul (d i) x)

theorem sameFloat2 (a b : Nat) (h : Same2 a b) (w : World) :
    Calls Tryd.prog 16 #[.float .f64 a, .float .f64 b] w fun e w' => e = .returned (.bool true) ∧ w = w' := by
  obtain ⟨h1, h2⟩ := h
  rcases h1 with ⟨h1, rfl⟩ | ⟨h1, h3, h4, h5⟩
  · have hn : (FloatKind.f64.format.order a a != some .eq) = false := by
      show (Ieee.Format.order D a a != some .eq) = false
      rw [h1]; rfl
    have hq : (FloatKind.f64.format.order a a == some .eq) = true := by
      show (Ieee.Format.order D a a == some .eq) = true
      rw [h1]; rfl
    rcases hz : (FloatKind.f64.format.order a 0 == some .eq) with _ | _
    · clear h1 h2
      go_enter Tryd.func16, Tryd.ntmps16
      go_wp2
      go_ret
      exact ⟨by simp, rfl⟩
    · obtain ⟨q, hd⟩ := h2 h1 (beq_iff_eq.1 hz)
      have hdiv := fun w => run_float_arith (P := Tryd.prog) w .quo 28 .f64 4607182418800017408 a q hd
      clear h1 h2 hd
      go_enter Tryd.func16, Tryd.ntmps16
      go_wp2
      go_ret
      exact ⟨by simp, rfl⟩
  · have hn : (FloatKind.f64.format.order a a != some .eq) = true := by
      show (Ieee.Format.order D a a != some .eq) = true
      rw [h1]; rfl
    have hm : (FloatKind.f64.format.order b b != some .eq) = true := by
      show (Ieee.Format.order D b b != some .eq) = true
      rw [h3]; rfl
    clear h1 h2 h3 h4 h5
    go_enter Tryd.func16, Tryd.ntmps16
    go_wp2
    go_ret
    exact ⟨by simp, rfl⟩

@[go_sem] theorem zero_kern : Tryd.zeroCells49 = vls 400 (flw fun _ => 0) := by kernel_rfl

@[go_sem] theorem semAtSome (l : Nat) (ρ : Operand → Value) (o : Oper) (h : ∀ c, o.op ≠ .defer c) : Oper.semAt (some l) ρ o = execOp ρ o := Oper.semAt_some l ρ o h

@[go_sem] theorem ext_f32from (n : Int) (w : World) : (callFunc 46 #[.int .u32 n]).run Tryd.prog w = .ok (.value (.float .f32 n.toNat)) w := by
  rw [run_callFunc_extern Tryd.func46 (by kernel_rfl) (by kernel_rfl) (by kernel_rfl) (e := Extern.MathFloatBits.float32frombits) (by kernel_rfl)]
  rfl

theorem eqb_dec (a b : Nat) : ((a : Int) == (b : Int)) = decide (a = b) := by
  by_cases h : a = b
  · subst h; simp
  · rw [decide_eq_false h]; simp; omega

theorem w32 {x : Nat} (h : x < 4294967296) : IntKind.u32.wrap (x : Int) = (x : Int) := by rw [IntKind.wrap_u32]; omega

set_option maxRecDepth 100000 in
set_option maxHeartbeats 1000000 in
theorem sRead_len (s : ByteArray) (hl : s.size ≠ 8) (w : World) :
    Calls Tryd.prog 44 #[.string s] w fun e w' => e = .returned (.tuple #[.float .f32 0, .bool false]) ∧ w' = w := by
  have h1 : ¬ ((s.size : Int) = 8) := by omega
  clear hl
  go_enter Tryd.func44, Tryd.ntmps44
  go_wp2
  go_ret2
  exact ⟨rfl, rfl⟩

set_option maxRecDepth 100000 in
set_option maxHeartbeats 2000000 in
theorem sRead8 (s : ByteArray) (hl : s.size = 8) (R : Value) (h1 : HexTo s 8 → R = .tuple #[.float .f32 (valT s 8), .bool (decide (nb (valT s 8) = valT s 8))]) (h0 : ¬ HexTo s 8 → R = .tuple #[.float .f32 0, .bool false]) (w : World) :
    Calls Tryd.prog 44 #[.string s] w fun e w' => e = .returned R ∧ w' = w := by
  have HL := hid hl
  have H1 := hid h1
  have H0 := hid h0
  have hs8 : ((s.size : Int) = 8) := by omega
  clear h1 h0 hl
  go_enter Tryd.func44, Tryd.ntmps44
  go_wp2_with fail
  go_loopw [4, 5] (fun v i wr => ∃ k : Nat, k ≤ 8 ∧ v = .int .u32 (valT s k : Int) ∧ i = .int .i64 (k : Int) ∧ Hid (HexTo s k) ∧ wr = w) (fun _ i _ => 8 - (intOf i).toNat)
  case atStart => exact ⟨0, by omega, rfl, rfl, hid (fun i hi => absurd hi (Nat.not_lt_zero i)), rfl⟩
  case round =>
    clear hs8
    obtain ⟨k, hk, rfl, rfl, hh, rfl⟩ := hrel
    by_cases hlt : k < 8
    · have HK := hid hlt
      have hk3 : (k : Int) < 8 := by omega
      have hw9 := wr_k1 hlt (by omega)
      have hix := index_byte (P := Tryd.prog) (s := s) Tryd.underlying9 k (by rw [HL.out]; exact hlt)
      have v28 := valT_28 hh.out (show k ≤ 7 by omega)
      have b256 := byT_lt s k
      have hnx := hid (fun d (hd : digB (byT s k) = d) => show valT s (k + 1) = valT s k * 16 + d by rw [← hd]; rfl)
      obtain ⟨b, hb⟩ : ∃ b, b = byT s k := ⟨_, rfl⟩
      obtain ⟨v, hv⟩ : ∃ v, v = valT s k := ⟨_, rfl⟩
      rw [← hb] at hix b256 hnx
      rw [← hv] at v28 hnx ⊢
      have HB := hid hb
      have m1 : IntKind.u32.wrap ((v : Int) * 16) = (v : Int) * 16 := by rw [IntKind.wrap_u32]; omega
      clear hb hv hk hlt
      by_cases c1 : 48 ≤ b ∧ b ≤ 57
      · have f1 : (48 : Int) ≤ (b : Int) := by omega
        have f2 : (b : Int) ≤ 57 := by omega
        obtain ⟨d, hd⟩ : ∃ d, b = 48 + d := ⟨b - 48, by omega⟩
        have f3 : (b : Int) - 48 = (d : Int) := by omega
        have f4 : IntKind.u8.wrap (d : Int) = (d : Int) := by rw [IntKind.wrap_u8]; omega
        have f5 := w32 (x := d) (by omega)
        have f6 : IntKind.u32.wrap ((v : Int) * 16 + (d : Int)) = (v : Int) * 16 + (d : Int) := by rw [IntKind.wrap_u32]; omega
        have hx := hid (hexB_digit c1.1 c1.2)
        have HD := hid hd
        clear c1 hd b256 v28
        go_wp2_with fail
        go_roundw
        case rel => exact ⟨k + 1, HK.out, by rw [hnx.out d (by rw [hx.out.2, HD.out]; omega)]; go_num, by go_num, hid (hh.out.next (by rw [← HB.out]; exact hx.out.1)), by first | trivial | rfl⟩
        case measure => first | exact ms_io HK.out | (rw [hw9]; exact ms_io HK.out)
      · by_cases c2 : 97 ≤ b ∧ b ≤ 102
        · have f1 : (48 : Int) ≤ (b : Int) := by omega
          have f2 : ¬ (b : Int) ≤ 57 := by omega
          have f7 : (97 : Int) ≤ (b : Int) := by omega
          have f8 : (b : Int) ≤ 102 := by omega
          obtain ⟨d, hd⟩ : ∃ d, b = 97 + d := ⟨b - 97, by omega⟩
          have f3 : (b : Int) - 97 = (d : Int) := by omega
          have f4 : IntKind.u8.wrap (d : Int) = (d : Int) := by rw [IntKind.wrap_u8]; omega
          have f5 := w32 (x := d) (by omega)
          have f6 : IntKind.u32.wrap ((v : Int) * 16 + (d : Int)) = (v : Int) * 16 + (d : Int) := by rw [IntKind.wrap_u32]; omega
          have f9 : IntKind.u32.wrap ((v : Int) * 16 + (d : Int) + 10) = (v : Int) * 16 + (d : Int) + 10 := by rw [IntKind.wrap_u32]; omega
          have hx := hid (hexB_letter c2.1 c2.2)
          have HD := hid hd
          clear c1 c2 hd b256 v28
          go_wp2_with fail
          go_roundw
          case rel => exact ⟨k + 1, HK.out, by rw [hnx.out (d + 10) (by rw [hx.out.2, HD.out]; omega)]; go_num, by go_num, hid (hh.out.next (by rw [← HB.out]; exact hx.out.1)), by first | trivial | rfl⟩
          case measure => first | exact ms_io HK.out | (rw [hw9]; exact ms_io HK.out)
        · have hR := H0.out (fun h => by have := h k HK.out; rw [← HB.out, hexB_not c1 c2] at this; cases this)
          subst hR
          rcases Nat.lt_or_ge b 48 with a1 | a1
          · have f1 : ¬ (48 : Int) ≤ (b : Int) := by omega
            have f7 : ¬ (97 : Int) ≤ (b : Int) := by omega
            clear c1 c2 b256 v28 a1
            go_wp2
            go_ret2
            exact ⟨rfl, rfl⟩
          · have f1 : (48 : Int) ≤ (b : Int) := by omega
            have f2 : ¬ (b : Int) ≤ 57 := by omega
            rcases Nat.lt_or_ge b 97 with a2 | a2
            · have f7 : ¬ (97 : Int) ≤ (b : Int) := by omega
              clear c1 c2 b256 v28 a1 a2
              go_wp2
              go_ret2
              exact ⟨rfl, rfl⟩
            · have f7 : (97 : Int) ≤ (b : Int) := by omega
              have f8 : ¬ (b : Int) ≤ 102 := by omega
              clear c1 c2 b256 v28 a1 a2
              go_wp2
              go_ret2
              exact ⟨rfl, rfl⟩
    · obtain rfl : k = 8 := by omega
      have hk3 : ¬ ((8 : Nat) : Int) < 8 := by omega
      have hR := H1.out hh.out
      have v8 : valT s 8 < 4294967296 := valT_lt 8 hh.out
      clear H1 H0
      generalize valT s 8 = v at v8 hR ⊢
      subst hR
      have V8 := hid v8
      have he : ((nb v : Int) == (v : Int)) = decide (nb v = v) := eqb_dec (nb v) v
      clear v8
      have hn9 : (v : Int).toNat = v := Int.toNat_natCast v
      go_wp2_with fail
      refine (sBits v V8.out _).mono ?_
      rintro e w1 ⟨rfl, rfl⟩
      go_wp2
      go_ret2
      exact ⟨rfl, rfl⟩

set_option maxRecDepth 100000 in
set_option maxHeartbeats 1000000 in
theorem sReadNumber (s : ByteArray) (a : Nat) (b : Bool) (hr : ∀ w, Calls Tryd.prog 44 #[.string s] w fun e w' => e = .returned (.tuple #[.float .f32 a, .bool b]) ∧ w' = w) (w : World) :
    Calls Tryd.prog 14 #[.string s] w fun e w' => e = .returned (.tuple #[.float .f32 (if b = true then a else 0), .int .i64 (if b = true then 0 else 5)]) ∧ w' = w := by
  have HR := hid hr
  clear hr
  go_enter Tryd.func14, Tryd.ntmps14
  go_wp2_with fail
  refine (HR.out _).mono ?_
  rintro e w1 ⟨rfl, rfl⟩
  cases b
  · go_wp2
    go_ret2
    exact ⟨rfl, rfl⟩
  · go_wp2
    go_ret2
    exact ⟨rfl, rfl⟩

set_option maxRecDepth 100000 in
set_option maxHeartbeats 1000000 in
theorem iLower (b l : Nat) (h : bits BinOp.or IntKind.u8 (b : Int) 32 = (l : Int)) (w : World) :
    Calls Tryd.prog 103 #[.int .u8 (b : Int)] w fun e w' => e = .returned (.int .u8 (l : Int)) ∧ w' = w := by
  go_enter Tryd.func103, Tryd.ntmps103
  go_wp2
  go_ret
  exact ⟨rfl, rfl⟩

/-- The bit of small letters set. -/
def lowB (b : Nat) : Nat := b ||| 32

theorem low_tab : ((List.range 256).all fun b => decide (bits BinOp.or IntKind.u8 (b : Int) 32 = (lowB b : Int)) && decide (lowB b < 256)) = true := by decide +kernel

theorem low_is {b : Nat} (h : b < 256) : bits BinOp.or IntKind.u8 (b : Int) 32 = (lowB b : Int) ∧ lowB b < 256 := by
  have := List.all_eq_true.1 low_tab b (List.mem_range.2 h)
  simpa using this

/-- What the program takes for a digit (capital letters too), and its value. -/
def isPB (b : Nat) : Bool := decide (48 ≤ b ∧ b ≤ 57) || decide (97 ≤ lowB b ∧ lowB b ≤ 102)

def digP (b : Nat) : Nat := if b ≤ 57 then b - 48 else lowB b - 87

def valP (s : ByteArray) : Nat → Nat
  | 0 => 0
  | k + 1 => valP s k * 16 + digP (byT s k)

def PTo (s : ByteArray) (k : Nat) : Prop := ∀ i, i < k → isPB (byT s i) = true

theorem isP_tab : ((List.range 256).all fun b => !isPB b || decide (digP b < 16)) = true := by decide +kernel

theorem digP_lt {b : Nat} (hb : b < 256) (h : isPB b = true) : digP b < 16 := by
  have := List.all_eq_true.1 isP_tab b (List.mem_range.2 hb)
  rw [h] at this
  simpa using this

theorem valP_lt {s : ByteArray} : ∀ k, PTo s k → valP s k < 16 ^ k
  | 0, _ => Nat.zero_lt_one
  | k + 1, h => by
    have ih := valP_lt (s := s) k (fun i hi => h i (by omega))
    have hd := digP_lt (byT_lt s k) (h k (by omega))
    show valP s k * 16 + digP (byT s k) < 16 ^ (k + 1)
    rw [Nat.pow_succ]
    omega

theorem valP_28 {s : ByteArray} {k : Nat} (h : PTo s k) (hk : k ≤ 7) : valP s k < 268435456 := Nat.lt_of_lt_of_le (valP_lt k h) (pow16_8 hk)

theorem PTo.next {s : ByteArray} {k : Nat} (h : PTo s k) (hb : isPB (byT s k) = true) : PTo s (k + 1) := fun i hi => by
  by_cases e : i = k
  · subst e; exact hb
  · exact h i (by omega)

theorem pB_digit {b : Nat} (h1 : 48 ≤ b) (h2 : b ≤ 57) : isPB b = true ∧ digP b = b - 48 := by
  refine ⟨?_, if_pos h2⟩
  unfold isPB; rw [decide_eq_true ⟨h1, h2⟩]; rfl

theorem pB_letter {b : Nat} (h0 : ¬ (48 ≤ b ∧ b ≤ 57)) (h1 : 97 ≤ lowB b) (h2 : lowB b ≤ 102) : isPB b = true ∧ digP b = lowB b - 87 := by
  constructor
  · unfold isPB; rw [decide_eq_true (p := 97 ≤ lowB b ∧ lowB b ≤ 102) ⟨h1, h2⟩, Bool.or_true]
  · refine if_neg (fun h => ?_)
    have : lowB b < 97 := by
      have hb : b < 48 := by omega
      have t : ((List.range 48).all fun b => decide (lowB b < 97)) = true := by decide +kernel
      simpa using List.all_eq_true.1 t b (List.mem_range.2 hb)
    omega

theorem pB_not {b : Nat} (h1 : ¬ (48 ≤ b ∧ b ≤ 57)) (h2 : ¬ (97 ≤ lowB b ∧ lowB b ≤ 102)) : isPB b = false := by
  unfold isPB; rw [decide_eq_false h1, decide_eq_false h2]; rfl

/-- What internal/strconv.ParseUint gives. -/
def puV (ok : Bool) (v : Nat) : Value := .tuple #[.int .u64 (if ok = true then v else 0), if ok = true then .nilIface else .iface 143 (.int .i64 2)]

set_option maxRecDepth 100000 in
set_option maxHeartbeats 4000000 in
theorem iPU (s : ByteArray) (hl : s.size = 8) (R : Value) (h1 : PTo s 8 → R = puV true (valP s 8)) (h0 : ¬ PTo s 8 → R = puV false 0) (w : World) :
    Calls Tryd.prog 80 #[.string s, .int .i64 16, .int .i64 32] w fun e w' => e = .returned R ∧ w' = Lib.bytesWorld w 5 s := by
  have HL := hid hl
  have H1 := hid h1
  have H0 := hid h0
  have hemp : s.toList.isEmpty = false := by
    rw [← decide_eq_emptyBytes]
    exact decide_eq_false (fun h => by rw [h] at hl; cases hl)
  have hcv := Lib.run_convert_string_bytes (P := Tryd.prog) w 9 95 5 s (u := .string) Tryd.underlying9 Tryd.underlying95 Tryd.underlying5
  have hB : ∀ j, j < 8 → (Lib.bytesWorld w 5 s).cell? ⟨w.heap.size, j, none⟩ = some (.int .u8 (byT s j : Int)) := fun j hj => Lib.bytesWorld_cell w 5 s j (by omega)
  obtain ⟨W1, hW1⟩ : ∃ W1, W1 = Lib.bytesWorld w 5 s := ⟨_, rfl⟩
  rw [← hW1] at hcv hB ⊢
  clear hW1
  have HB0 := hid hB
  have hmv : IntKind.u64.wrap (4294967296 - 1) = 4294967295 := by
    rw [IntKind.wrap_u64]
    decide
  have hs8 : (s.size : Int) = 8 := by omega
  have e103 : ∀ args w, (callFunc 103 args).run Tryd.prog w = .ok (.enter 103 args) w := enters_of Tryd.func103 (by kernel_rfl) rfl
  rw [hl] at hcv
  clear h1 h0 hB hl
  go_enter Tryd.func80, Tryd.ntmps80
  go_wp2
  go_loop [12, 13, 101] (fun vu vn vi => ∃ (k : Nat) (a : Int), k ≤ 8 ∧ vu = .bool false ∧ vn = .int .u64 a ∧ vi = .int .i64 (k : Int) ∧ Hid (PTo s k) ∧ Hid (a = (valP s k : Int))) (fun _ _ vi => 8 - (intOf vi).toNat)
  case atStart => exact ⟨0, 0, by omega, rfl, rfl, rfl, hid (fun i hi => absurd hi (Nat.not_lt_zero i)), hid rfl⟩
  case round =>
    clear hcv hmv hs8 hemp
    obtain ⟨k, a, hk, rfl, rfl, rfl, hh, ha0⟩ := hrel
    have ha := ha0.out
    clear ha0
    by_cases hlt : k < 8
    · have HK := hid hlt
      have hk3 : (k : Int) < 8 := by omega
      have hc := HB0.out k hlt
      have v28 := valP_28 hh.out (show k ≤ 7 by omega)
      have b256 := byT_lt s k
      have hnx := hid (fun d (hd : digP (byT s k) = d) => show valP s (k + 1) = valP s k * 16 + d by rw [← hd]; rfl)
      obtain ⟨b, hb⟩ : ∃ b, b = byT s k := ⟨_, rfl⟩
      rw [← hb] at hc b256 hnx
      have HB := hid hb
      have hlow := low_is b256
      obtain ⟨l, hl⟩ : ∃ l, l = lowB b := ⟨_, rfl⟩
      rw [← hl] at hlow
      have HLW := hid hl
      have il := iLower b l hlow.1
      have l256 := hlow.2
      have A0 : 0 ≤ a := by omega
      have A1 : a < 268435456 := by omega
      have hcut : a < 1152921504606846976 := by omega
      have m1 : IntKind.u64.wrap (a * 16) = a * 16 := by rw [IntKind.wrap_u64]; omega
      have HA := hid ha
      clear hb hk hlt hl hlow ha v28
      by_cases c1 : 48 ≤ b ∧ b ≤ 57
      · have f1 : (48 : Int) ≤ (b : Int) := by omega
        have f2 : (b : Int) ≤ 57 := by omega
        have f0 : ¬ (b : Int) = 95 := by omega
        obtain ⟨d, hd⟩ : ∃ d : Int, d = (b : Int) - 48 := ⟨_, rfl⟩
        have f3 : (b : Int) - 48 = d := hd.symm
        have d0 : 0 ≤ d := by omega
        have d1 : d < 16 := by omega
        have f4 : IntKind.u8.wrap d = d := by rw [IntKind.wrap_u8]; omega
        have f5 : IntKind.u64.wrap d = d := by rw [IntKind.wrap_u64]; omega
        have f6 : IntKind.u64.wrap (a * 16 + d) = a * 16 + d := by rw [IntKind.wrap_u64]; omega
        have f8 : ¬ (a * 16 + d < a * 16) := by omega
        have f9 : ¬ ((4294967295 : Int) < a * 16 + d) := by omega
        have hx := hid (pB_digit c1.1 c1.2)
        have HN : Hid (a * 16 + d = (valP s (k + 1) : Int)) := hid (by
          have e1 := HA.out
          have e2 := hnx.out (b - 48) hx.out.2
          omega)
        have hd9 : ¬ (16 : Int) ≤ d := by omega
        clear c1 hd b256 l256 il A0 A1
        go_wp2
        exact ⟨⟨k + 1, a * 16 + d, HK.out, rfl, rfl, by go_num, hid (hh.out.next (by rw [← HB.out]; exact hx.out.1)), HN⟩, by have := HK.out; simp [intOf]; omega⟩
      · by_cases c2 : 97 ≤ l ∧ l ≤ 102
        · have f0 : ¬ (b : Int) = 95 := fun h => by
            have hb : b = 95 := by omega
            have e1 := HLW.out
            rw [hb] at e1
            have : lowB 95 = 127 := by decide
            omega
          have g1 : (97 : Int) ≤ (l : Int) := by omega
          have g2 : (l : Int) ≤ 122 := by omega
          obtain ⟨e0, he⟩ : ∃ e0 : Int, e0 = (l : Int) - 97 := ⟨_, rfl⟩
          have f3 : (l : Int) - 97 = e0 := he.symm
          have f4 : IntKind.u8.wrap e0 = e0 := by rw [IntKind.wrap_u8]; omega
          obtain ⟨d, hd⟩ : ∃ d : Int, d = e0 + 10 := ⟨_, rfl⟩
          have f4b : IntKind.u8.wrap (e0 + 10) = d := by rw [IntKind.wrap_u8]; omega
          have d0 : 0 ≤ d := by omega
          have d1 : d < 16 := by omega
          have hd9 : ¬ (16 : Int) ≤ d := by omega
          have f5 : IntKind.u64.wrap d = d := by rw [IntKind.wrap_u64]; omega
          have f6 : IntKind.u64.wrap (a * 16 + d) = a * 16 + d := by rw [IntKind.wrap_u64]; omega
          have f8 : ¬ (a * 16 + d < a * 16) := by omega
          have f9 : ¬ ((4294967295 : Int) < a * 16 + d) := by omega
          have hx := hid (pB_letter c1 (by rw [← HLW.out]; exact c2.1) (by rw [← HLW.out]; exact c2.2))
          have HN : Hid (a * 16 + d = (valP s (k + 1) : Int)) := hid (by
            have e1 := HA.out
            have e2 := hnx.out (lowB b - 87) hx.out.2
            have e3 := HLW.out
            omega)
          by_cases c3 : 48 ≤ b
          · have q1 : (48 : Int) ≤ (b : Int) := by omega
            have q2 : ¬ (b : Int) ≤ 57 := by omega
            clear c1 c2 c3 hd he b256 l256 A0 A1 d0 d1
            go_wp2_with (go_at_fn 103; refine (il _).mono ?_; rintro e w' ⟨rfl, rfl⟩)
            exact ⟨⟨k + 1, a * 16 + d, HK.out, rfl, rfl, by go_num, hid (hh.out.next (by rw [← HB.out]; exact hx.out.1)), HN⟩, by have := HK.out; simp [intOf]; omega⟩
          · have q1 : ¬ (48 : Int) ≤ (b : Int) := by omega
            clear c1 c2 c3 hd he b256 l256 A0 A1 d0 d1
            go_wp2_with (go_at_fn 103; refine (il _).mono ?_; rintro e w' ⟨rfl, rfl⟩)
            exact ⟨⟨k + 1, a * 16 + d, HK.out, rfl, rfl, by go_num, hid (hh.out.next (by rw [← HB.out]; exact hx.out.1)), HN⟩, by have := HK.out; simp [intOf]; omega⟩
        · have hR := H0.out (fun h => by have := h k HK.out; rw [← HB.out, pB_not c1 (by rw [← HLW.out]; exact c2)] at this; cases this)
          unfold puV at hR
          simp only [Bool.false_eq_true, if_false] at hR
          subst hR
          by_cases c9 : b = 95
          · have f0 : (b : Int) = 95 := by omega
            have hl9 : l = 127 := by rw [HLW.out, c9]; decide
            have g9 : (l : Int) = 127 := by omega
            rw [f0, g9] at il
            rw [f0] at hc
            clear c1 c2 c9 hl9 g9 f0 b256 l256 A0 A1
            go_wp2_with (go_at_fn 103; refine (il _).mono ?_; rintro e w' ⟨rfl, rfl⟩)
            go_ret2
            exact ⟨rfl, rfl⟩
          · have f0 : ¬ (b : Int) = 95 := by omega
            rcases (show l < 97 ∨ (103 ≤ l ∧ l ≤ 122) ∨ 123 ≤ l by omega) with a1 | a1 | a1
            · have g1 : ¬ (97 : Int) ≤ (l : Int) := by omega
              rcases (show b < 48 ∨ 48 ≤ b by omega) with a2 | a2
              · have q1 : ¬ (48 : Int) ≤ (b : Int) := by omega
                clear c1 c2 c9 a1 a2 b256 l256 A0 A1
                go_wp2_with (go_at_fn 103; refine (il _).mono ?_; rintro e w' ⟨rfl, rfl⟩)
                go_ret2
                exact ⟨rfl, rfl⟩
              · have q1 : (48 : Int) ≤ (b : Int) := by omega
                have q2 : ¬ (b : Int) ≤ 57 := by omega
                clear c1 c2 c9 a1 a2 b256 l256 A0 A1
                go_wp2_with (go_at_fn 103; refine (il _).mono ?_; rintro e w' ⟨rfl, rfl⟩)
                go_ret2
                exact ⟨rfl, rfl⟩
            · have g1 : (97 : Int) ≤ (l : Int) := by omega
              have g2 : (l : Int) ≤ 122 := by omega
              obtain ⟨e0, he⟩ : ∃ e0 : Int, e0 = (l : Int) - 97 := ⟨_, rfl⟩
              have f3 : (l : Int) - 97 = e0 := he.symm
              have f4 : IntKind.u8.wrap e0 = e0 := by rw [IntKind.wrap_u8]; omega
              obtain ⟨d, hd⟩ : ∃ d : Int, d = e0 + 10 := ⟨_, rfl⟩
              have f4b : IntKind.u8.wrap (e0 + 10) = d := by rw [IntKind.wrap_u8]; omega
              have hd9 : (16 : Int) ≤ d := by omega
              rcases (show b < 48 ∨ 48 ≤ b by omega) with a2 | a2
              · have q1 : ¬ (48 : Int) ≤ (b : Int) := by omega
                clear c1 c2 c9 a1 a2 b256 l256 A0 A1 hd he
                go_wp2_with (go_at_fn 103; refine (il _).mono ?_; rintro e w' ⟨rfl, rfl⟩)
                go_ret2
                exact ⟨rfl, rfl⟩
              · have q1 : (48 : Int) ≤ (b : Int) := by omega
                have q2 : ¬ (b : Int) ≤ 57 := by omega
                clear c1 c2 c9 a1 a2 b256 l256 A0 A1 hd he
                go_wp2_with (go_at_fn 103; refine (il _).mono ?_; rintro e w' ⟨rfl, rfl⟩)
                go_ret2
                exact ⟨rfl, rfl⟩
            · have g1 : (97 : Int) ≤ (l : Int) := by omega
              have g2 : ¬ (l : Int) ≤ 122 := by omega
              rcases (show b < 48 ∨ 48 ≤ b by omega) with a2 | a2
              · have q1 : ¬ (48 : Int) ≤ (b : Int) := by omega
                clear c1 c2 c9 a1 a2 b256 l256 A0 A1
                go_wp2_with (go_at_fn 103; refine (il _).mono ?_; rintro e w' ⟨rfl, rfl⟩)
                go_ret2
                exact ⟨rfl, rfl⟩
              · have q1 : (48 : Int) ≤ (b : Int) := by omega
                have q2 : ¬ (b : Int) ≤ 57 := by omega
                clear c1 c2 c9 a1 a2 b256 l256 A0 A1
                go_wp2_with (go_at_fn 103; refine (il _).mono ?_; rintro e w' ⟨rfl, rfl⟩)
                go_ret2
                exact ⟨rfl, rfl⟩
    · obtain rfl : k = 8 := by omega
      have hk3 : ¬ ((8 : Nat) : Int) < 8 := by omega
      have hR := H1.out hh.out
      unfold puV at hR
      simp only [if_true] at hR
      rw [← ha] at hR
      subst hR
      clear H1 H0 ha
      go_wp2
      go_ret2
      exact ⟨rfl, rfl⟩

set_option maxRecDepth 100000 in
set_option maxHeartbeats 1000000 in
theorem iPUok (s : ByteArray) (hl : s.size = 8) (hp : PTo s 8) (w : World) :
    Calls Tryd.prog 45 #[.string s, .int .i64 16, .int .i64 32] w fun e w' => e = .returned (.tuple #[.int .u64 (valP s 8 : Int), .nilIface]) ∧ w' = Lib.bytesWorld w 5 s := by
  have IP := hid (fun w => iPU s hl (puV true (valP s 8)) (fun _ => rfl) (fun h => absurd hp h) w)
  unfold puV at IP
  simp only [if_true] at IP
  obtain ⟨v, hv⟩ : ∃ v, v = valP s 8 := ⟨_, rfl⟩
  rw [← hv] at IP ⊢
  clear hv hp hl
  obtain ⟨a, ha⟩ : ∃ a : Int, a = (v : Int) := ⟨_, rfl⟩
  rw [← ha] at IP ⊢
  clear ha
  go_enter Tryd.func45, Tryd.ntmps45
  go_wp2_with fail
  refine (IP.out _).mono ?_
  rintro e w1 ⟨rfl, rfl⟩
  go_wp2
  go_ret2
  exact ⟨rfl, rfl⟩

set_option maxRecDepth 100000 in
set_option maxHeartbeats 1000000 in
/-- A text that is no number: the error of toError, whose contract is asked for. -/
theorem iPUbad (s : ByteArray) (hl : s.size = 8) (hp : ¬ PTo s 8) (E : World → Prop) (w : World)
    (hE : Calls Tryd.prog 81 #[.string ⟨#[80, 97, 114, 115, 101, 85, 105, 110, 116]⟩, .string s, .int .i64 16, .int .i64 32, .iface 143 (.int .i64 2)] (Lib.bytesWorld w 5 s) fun e w' => ∃ N, e = .returned (.iface 145 (.pointer (some ⟨N, 0, none⟩))) ∧ E w') :
    Calls Tryd.prog 45 #[.string s, .int .i64 16, .int .i64 32] w fun e w' => ∃ N, e = .returned (.tuple #[.int .u64 0, .iface 145 (.pointer (some ⟨N, 0, none⟩))]) ∧ E w' := by
  have IP := hid (fun w => iPU s hl (puV false 0) (fun h => absurd h hp) (fun _ => rfl) w)
  unfold puV at IP
  simp only [Bool.false_eq_true, if_false] at IP
  have HE := hid hE
  clear hp hl hE
  go_enter Tryd.func45, Tryd.ntmps45
  go_wp2_with fail
  refine (IP.out _).mono ?_
  rintro e w1 ⟨rfl, rfl⟩
  go_wp2_with fail
  refine HE.out.mono ?_
  rintro e w2 ⟨N, rfl, h2⟩
  go_wp2
  go_ret2
  exact ⟨N, rfl, h2⟩

def shlE_ren : Go.Shelf.Ren := ⟨fun | 279 => 105 | 316 => 124 | n => n, fun | 0 => 0 | 3 => 3 | 4 => 4 | 9 => 9 | 37 => 95 | 75 => 70 | 127 => 124 | 168 => 145 | 210 => 164 | 5 => 5 | 80 => 100 | n => n, fun | 15 => 2 | n => n⟩

theorem shlE : Go.Proofs.LaysM.n279 Tryd.prog shlE_ren := {
  mixed := by kernel_rfl
  f279 := Tryd.func105.trans (congrArg some (by kernel_rfl))
  f316 := Tryd.func124.trans (congrArg some (by kernel_rfl))
  t0 := Tryd.underlying0
  a0 := Tryd.isAgg0
  z0 := Tryd.sizeOf0
  v0 := Tryd.zeroValue0
  i0 := by kernel_rfl
  t3 := Tryd.underlying3
  a3 := Tryd.isAgg3
  z3 := Tryd.sizeOf3
  v3 := Tryd.zeroValue3
  i3 := by kernel_rfl
  t4 := Tryd.underlying4
  a4 := Tryd.isAgg4
  z4 := Tryd.sizeOf4
  v4 := Tryd.zeroValue4
  i4 := by kernel_rfl
  t9 := Tryd.underlying9
  a9 := Tryd.isAgg9
  z9 := Tryd.sizeOf9
  v9 := Tryd.zeroValue9
  i9 := by kernel_rfl
  t37 := Tryd.underlying95
  a37 := Tryd.isAgg95
  z37 := Tryd.sizeOf95
  v37 := Tryd.zeroValue95
  i37 := by kernel_rfl
  t75 := Tryd.underlying70
  a75 := Tryd.isAgg70
  z75 := Tryd.sizeOf70
  v75 := Tryd.zeroValue70
  i75 := by kernel_rfl
  t127 := Tryd.underlying124
  a127 := Tryd.isAgg124
  z127 := Tryd.sizeOf124
  v127 := Tryd.zeroValue124
  i127 := by kernel_rfl
  t168 := Tryd.underlying145
  a168 := Tryd.isAgg145
  z168 := Tryd.sizeOf145
  v168 := Tryd.zeroValue145
  i168 := by kernel_rfl
  t210 := Tryd.underlying164
  a210 := Tryd.isAgg164
  z210 := Tryd.sizeOf164
  v210 := Tryd.zeroValue164
  i210 := by kernel_rfl
  t5 := Tryd.underlying5
  a5 := Tryd.isAgg5
  z5 := Tryd.sizeOf5
  v5 := Tryd.zeroValue5
  i5 := by kernel_rfl
  t80 := Tryd.underlying100
  a80 := Tryd.isAgg100
  z80 := Tryd.sizeOf100
  v80 := Tryd.zeroValue100
  i80 := by kernel_rfl
  g15 := by kernel_rfl
  m15 := by kernel_rfl }

set_option maxRecDepth 100000 in
set_option maxHeartbeats 1000000 in
theorem iToError (fn s : ByteArray) (ev : Value) (w : World) (hlim : s.size ≤ 281474976710656) (hv : w.cell? ⟨2, 0, none⟩ = some ev) (hev : ev = .nilIface ∨ ∃ te pe, ev = .iface te pe) :
    Calls Tryd.prog 81 #[.string fn, .string s, .int .i64 16, .int .i64 32, .iface 143 (.int .i64 2)] w fun e w' => ∃ N, e = .returned (.iface 145 (.pointer (some ⟨N, 0, none⟩))) ∧ Below w.heap.size w w' := by
  have heq : ∀ W, (binOp .eql 70 (.iface 143 (.int .i64 2)) (.iface 143 (.int .i64 2))).run Tryd.prog W = .ok (.bool true) W := fun W => Lib.run_eql_iface_int W 2 2 Tryd.underlying70 (by kernel_rfl) Tryd.underlying143
  have HS := hid (Any.strconv_syntaxError shlE fn s ev)
  have HV := hid hv
  have HE := hid hev
  have HM := hid hlim
  clear hv hev hlim
  go_enter Tryd.func81, Tryd.ntmps81
  go_wp2_with fail
  refine (HS.out _ HM.out HV.out HE.out).mono ?_
  rintro e w2 ⟨N, rfl, h1, h2, h3⟩
  go_wp2
  go_ret
  exact ⟨N, rfl, h3⟩

set_option maxRecDepth 100000 in
set_option maxHeartbeats 1000000 in
theorem iReadLen (s : ByteArray) (hl : s.size ≠ 8) (w : World) :
    Calls Tryd.prog 15 #[.string s] w fun e w' => e = .returned (.tuple #[.float .f32 0, .int .i64 5]) ∧ Below w.heap.size w w' := by
  have h1 : ¬ ((s.size : Int) = 8) := by omega
  clear hl
  go_enter Tryd.func15, Tryd.ntmps15
  go_wp2
  go_ret2
  exact ⟨rfl, Below.refl _ _⟩

set_option maxRecDepth 100000 in
set_option maxHeartbeats 1000000 in
theorem iReadBad (s : ByteArray) (hl : s.size = 8) (hp : ¬ PTo s 8) (ev : Value) (w : World) (hv : w.cell? ⟨2, 0, none⟩ = some ev) (hev : ev = .nilIface ∨ ∃ te pe, ev = .iface te pe) :
    Calls Tryd.prog 15 #[.string s] w fun e w' => e = .returned (.tuple #[.float .f32 0, .int .i64 5]) ∧ Below w.heap.size w w' := by
  have h1 : ((s.size : Int) = 8) := by omega
  have hs : 2 < w.heap.size := Lib.lt_of_cell hv
  have hb := Lib.bytesWorld_below w 5 s
  have hv2 : (Lib.bytesWorld w 5 s).cell? ⟨2, 0, none⟩ = some ev := (Lib.bytesWorld_old w 5 s ⟨2, 0, none⟩ hs).trans hv
  have HP := hid (iPUbad s hl hp (fun w' => Below w.heap.size w w') w ((iToError ⟨#[80, 97, 114, 115, 101, 85, 105, 110, 116]⟩ s ev (Lib.bytesWorld w 5 s) (by omega) hv2 hev).mono (by
    rintro e w' ⟨N, rfl, k⟩
    exact ⟨N, rfl, hb.trans (k.mono hb.size)⟩)))
  clear hl hp hv hev hs hb hv2
  go_enter Tryd.func15, Tryd.ntmps15
  go_wp2_with fail
  refine HP.out.mono ?_
  rintro e w2 ⟨N, rfl, h2⟩
  go_wp2
  go_ret2
  exact ⟨rfl, h2⟩

theorem bytes_beq (a b : ByteArray) : (a.toList == b.toList) = decide (a = b) := by
  by_cases h : a = b
  · subst h; simp
  · rw [decide_eq_false h]
    refine beq_eq_false_iff_ne.2 (fun k => h ?_)
    rw [Lib.toList_data, Lib.toList_data] at k
    exact ByteArray.ext (Array.toList_inj.1 k)

set_option maxRecDepth 100000 in
set_option maxHeartbeats 1000000 in
theorem iRead8 (s : ByteArray) (hl : s.size = 8) (hp : PTo s 8) (q : Bool) (hq : decide (txN (valP s 8) = s) = q) (w : World) (ht : Tab64 w) :
    Calls Tryd.prog 15 #[.string s] w fun e w' => e = .returned (.tuple #[.float .f32 (if q = true then valP s 8 else 0), .int .i64 (if q = true then 0 else 5)]) ∧ Below w.heap.size w w' := by
  have h1 : ((s.size : Int) = 8) := by omega
  have hb := Lib.bytesWorld_below w 5 s
  have HP := hid (iPUok s hl hp w)
  have v32 : valP s 8 < 4294967296 := valP_lt 8 hp
  obtain ⟨v, hv⟩ : ∃ v, v = valP s 8 := ⟨_, rfl⟩
  rw [← hv] at HP v32 hq ⊢
  have HT := hid (ht.stay hb)
  have HN := hid (fun W hW => iNumberText v v32 W hW)
  have HQ := hid hq
  have cv : IntKind.u32.wrap (v : Int) = (v : Int) := w32 v32
  have hn9 : (v : Int).toNat = v := Int.toNat_natCast v
  have Hb := hid hb
  clear hl hp ht hv v32 hq hb
  go_enter Tryd.func15, Tryd.ntmps15
  go_wp2_with fail
  refine HP.out.mono ?_
  rintro e w2 ⟨rfl, rfl⟩
  go_wp2_with fail
  refine (HN.out _ HT.out).mono ?_
  rintro e w3 ⟨rfl, k3⟩
  have K := hid (Hb.out.trans (k3.mono Hb.out.size))
  clear k3
  have hE := HQ.out
  clear HQ
  cases q
  · have hE2 : ((txN v).toList == s.toList) = false := (bytes_beq _ _).trans hE
    clear hE
    go_wp2
    go_ret2
    exact ⟨rfl, K.out⟩
  · have hE2 : ((txN v).toList == s.toList) = true := (bytes_beq _ _).trans hE
    clear hE
    go_wp2
    go_ret2
    exact ⟨rfl, K.out⟩

theorem hexP_tab : ((List.range 256).all fun b => !isHexB b || (isPB b && decide (digP b = digB b) && decide (hexN (digB b) = b))) = true := by decide +kernel

theorem hexP {b : Nat} (hb : b < 256) (h : isHexB b = true) : isPB b = true ∧ digP b = digB b ∧ hexN (digB b) = b := by
  have := List.all_eq_true.1 hexP_tab b (List.mem_range.2 hb)
  rw [h] at this
  simpa [and_assoc] using this

theorem hexN_tab : ((List.range 16).all fun d => isHexB (hexN d) && decide (digB (hexN d) = d)) = true := by decide +kernel

theorem hexN_is {d : Nat} (h : d < 16) : isHexB (hexN d) = true ∧ digB (hexN d) = d := by
  have := List.all_eq_true.1 hexN_tab d (List.mem_range.2 h)
  simpa using this

theorem hex_P {s : ByteArray} : ∀ k, HexTo s k → PTo s k ∧ valP s k = valT s k
  | 0, _ => ⟨fun i h => absurd h (Nat.not_lt_zero i), rfl⟩
  | k + 1, h => by
    have ih := hex_P k (fun i hi => h i (by omega))
    have hx := hexP (byT_lt s k) (h k (by omega))
    refine ⟨ih.1.next hx.1, ?_⟩
    show valP s k * 16 + digP (byT s k) = valT s k * 16 + digB (byT s k)
    rw [ih.2, hx.2.1]

theorem byT_tx {n : Nat} {s : ByteArray} (h : (⟨(hexL n 8).toArray⟩ : ByteArray) = s) {i : Nat} (hi : i < 8) : byT s i = hexN (n / 16 ^ (7 - i) % 16) := by
  subst h
  unfold byT
  show ((hexL n 8).toArray.toList.getD i 0).toNat = _
  rw [List.getD_eq_getElem?_getD, List.toList_toArray, hexL_get 8 n i hi]
  show (hexD (n / 16 ^ (8 - 1 - i) % 16)).toNat = _
  rw [hexD_nat (Nat.mod_lt _ (by decide)), show 8 - 1 - i = 7 - i by omega]

theorem tx_hex {n : Nat} {s : ByteArray} (hn : n < 4294967296) (h : (⟨(hexL n 8).toArray⟩ : ByteArray) = s) : HexTo s 8 ∧ valT s 8 = n := by
  have hd : ∀ i, i < 8 → isHexB (byT s i) = true ∧ digB (byT s i) = n / 16 ^ (7 - i) % 16 := fun i hi => by
    rw [byT_tx h hi]
    exact hexN_is (Nat.mod_lt _ (by decide))
  refine ⟨fun i hi => (hd i hi).1, ?_⟩
  have go : ∀ k, k ≤ 8 → valT s k = n / 16 ^ (8 - k) := by
    intro k
    induction k with
    | zero => intro _; show 0 = n / 16 ^ 8; rw [Nat.div_eq_of_lt]; exact hn
    | succ k ih =>
      intro hk
      show valT s k * 16 + digB (byT s k) = _
      rw [ih (by omega), (hd k (by omega)).2, show 8 - k = (7 - k) + 1 by omega, show 8 - (k + 1) = 7 - k by omega, Nat.pow_succ, ← Nat.div_div_eq_div_mul]
      omega
  have := go 8 (Nat.le_refl _)
  simpa using this

theorem valT_div {s : ByteArray} {k : Nat} : ∀ j, HexTo s (k + j) → valT s (k + j) / 16 ^ j = valT s k
  | 0, _ => by simp
  | j + 1, h => by
    have ih := valT_div (s := s) (k := k) j (fun i hi => h i (by omega))
    have hd := digB_lt (h (k + j) (by omega))
    show (valT s (k + j) * 16 + digB (byT s (k + j))) / 16 ^ (j + 1) = _
    rw [Nat.pow_succ, Nat.mul_comm (16 ^ j) 16, ← Nat.div_div_eq_div_mul, show (valT s (k + j) * 16 + digB (byT s (k + j))) / 16 = valT s (k + j) by omega, ih]

theorem hex_tx {s : ByteArray} (hl : s.size = 8) (h : HexTo s 8) : (⟨(hexL (valT s 8) 8).toArray⟩ : ByteArray) = s := by
  have hsz : s.data.toList.length = 8 := by simpa using hl
  have key : hexL (valT s 8) 8 = s.data.toList := by
    refine List.ext_getElem? fun i => ?_
    by_cases hi : i < 8
    · rw [hexL_get 8 _ i hi, List.getElem?_eq_getElem (by omega)]
      have hx := h i hi
      have hdv : valT s 8 / 16 ^ (8 - 1 - i) = valT s (i + 1) := by
        have := valT_div (s := s) (k := i + 1) (7 - i) (by rw [show i + 1 + (7 - i) = 8 by omega]; exact h)
        rw [show i + 1 + (7 - i) = 8 by omega] at this
        rw [show 8 - 1 - i = 7 - i by omega]; exact this
      have hd := digB_lt hx
      have hm : valT s (i + 1) % 16 = digB (byT s i) := by
        show (valT s i * 16 + digB (byT s i)) % 16 = _
        omega
      rw [hdv, hm]
      unfold hexD
      rw [(hexP (byT_lt s i) hx).2.2]
      unfold byT
      rw [List.getD_eq_getElem?_getD, List.getElem?_eq_getElem (by omega)]
      simp
    · rw [List.getElem?_eq_none (by rw [hexL_length]; omega), List.getElem?_eq_none (by omega)]
  rw [key]

/-- What reading a number gives, and whether it is one. -/
theorem rd_same {s : ByteArray} (hl : s.size = 8) (hp : PTo s 8) : txN (valP s 8) = s ↔ HexTo s 8 ∧ nb (valT s 8) = valT s 8 := by
  have v32 : valP s 8 < 4294967296 := valP_lt 8 hp
  constructor
  · intro h
    have h2 := tx_hex (nb_lt v32) h
    have h3 := (hex_P 8 h2.1).2
    refine ⟨h2.1, ?_⟩
    rw [← h3]
    rw [← h3] at h2
    exact h2.2.symm
  · rintro ⟨h1, h2⟩
    unfold txN
    rw [(hex_P 8 h1).2, h2]
    exact hex_tx hl h1

/-- Both sides of ReadNumber. -/
theorem readBoth (s : ByteArray) (ev : Value) (hev : ev = .nilIface ∨ ∃ te pe, ev = .iface te pe) : ∃ (x : Nat) (k : Int), x < 4294967296 ∧
    (∀ W, Calls Tryd.prog 14 #[.string s] W fun e w' => e = .returned (.tuple #[.float .f32 x, .int .i64 k]) ∧ w' = W) ∧
    (∀ W, Tab64 W → W.cell? ⟨2, 0, none⟩ = some ev → Calls Tryd.prog 15 #[.string s] W fun e w' => e = .returned (.tuple #[.float .f32 x, .int .i64 k]) ∧ Below W.heap.size W w') := by
  by_cases hl : s.size = 8
  · by_cases hx : HexTo s 8
    · have hp := (hex_P 8 hx).1
      have he := (hex_P 8 hx).2
      have hr := rd_same hl hp
      by_cases hn : nb (valT s 8) = valT s 8
      · refine ⟨valT s 8, 0, valT_lt 8 hx, fun W => ?_, fun W hW hv => ?_⟩
        · have := sReadNumber s (valT s 8) true (fun w => sRead8 s hl _ (fun _ => by rw [decide_eq_true hn]) (fun h => absurd hx h) w) W
          simpa only [if_true] using this
        · have := iRead8 s hl hp true (decide_eq_true (hr.2 ⟨hx, hn⟩)) W hW
          rw [he] at this
          simpa only [if_true] using this
      · refine ⟨0, 5, by decide, fun W => ?_, fun W hW hv => ?_⟩
        · have := sReadNumber s (valT s 8) false (fun w => sRead8 s hl _ (fun _ => by rw [decide_eq_false hn]) (fun h => absurd hx h) w) W
          simpa only [Bool.false_eq_true, if_false] using this
        · have := iRead8 s hl hp false (decide_eq_false (fun h => hn (hr.1 h).2)) W hW
          simpa only [Bool.false_eq_true, if_false] using this
    · refine ⟨0, 5, by decide, fun W => ?_, fun W hW hv => ?_⟩
      · have := sReadNumber s 0 false (fun w => sRead8 s hl _ (fun h => absurd h hx) (fun _ => rfl) w) W
        simpa only [Bool.false_eq_true, if_false] using this
      · by_cases hp : PTo s 8
        · have := iRead8 s hl hp false (decide_eq_false (fun h => hx ((rd_same hl hp).1 h).1)) W hW
          simpa only [Bool.false_eq_true, if_false] using this
        · exact iReadBad s hl hp ev W hv hev
  · refine ⟨0, 5, by decide, fun W => ?_, fun W hW hv => iReadLen s hl W⟩
    have := sReadNumber s 0 false (fun w => sRead_len s hl w) W
    simpa only [Bool.false_eq_true, if_false] using this

set_option maxRecDepth 100000 in
set_option maxHeartbeats 2000000 in
theorem lawReadNumber (s : ByteArray) (ev : Value) (hev : ev = .nilIface ∨ ∃ te pe, ev = .iface te pe) {w : World} (ht : Tab64 w) (hv : w.cell? ⟨2, 0, none⟩ = some ev) :
    Calls Tryd.prog 4 #[.string s] w fun e w' => e = .returned (.bool true) ∧ Below w.heap.size w w' := by
  obtain ⟨x, k, hx, h1, h2⟩ := readBoth s ev hev
  obtain ⟨z0, f0, c0, d0, s0⟩ := conv_any (P := Tryd.prog) 22 28 x hx Tryd.underlying22 Tryd.underlying28
  have S0 := hid s0
  have D0 := hid d0
  have H1 := hid h1
  have H2 := hid h2
  have HT := hid ht
  have HV := hid hv
  clear hx h1 h2 ht hv s0 d0 hev
  by_cases hc : (s.size : Int) ≤ 1048576
  · go_enter Tryd.func4, Tryd.ntmps4
    go_wp2_with fail
    refine (H1.out _).mono ?_
    rintro e w1 ⟨rfl, rfl⟩
    go_wp2_with fail
    refine (H2.out _ HT.out HV.out).mono ?_
    rintro e w2 ⟨rfl, k2⟩
    have K0 : Hid (Kept _ [] w2) := hid ((Kept.nil _).stay k2)
    clear k2
    have K1 := hid (kept_wf K0.out (D0.out _))
    have K2 := hid (kept_wf K1.out (D0.out _))
    go_wp2_with fail
    refine (sameFloat2 _ _ (S0.out _ _) _).mono ?_
    rintro e w3 ⟨rfl, rfl⟩
    go_wp2
    go_ret
    exact ⟨rfl, K2.out.1⟩
  · have hc2 : (1048576 : Int) < (s.size : Int) := by omega
    clear hc
    go_enter Tryd.func4, Tryd.ntmps4
    go_wp2
    go_ret
    exact ⟨rfl, Below.refl _ _⟩

theorem gES : Tryd.prog.globalNamed "strconv.ErrSyntax" = some 2 := by kernel_rfl

theorem gESType : (Tryd.prog.globals[2]?).map (·.type) = some 70 := by kernel_rfl

theorem cells174 : Tryd.prog.cellsOf 174 = 1 := by kernel_rfl

theorem cells9 : Tryd.prog.cellsOf 9 = 1 := by kernel_rfl

theorem starE : "*" ++ "errors.errorString" = "*errors.errorString" := by decide

theorem row172 (u : TypeId) (h : Tryd.prog.typeName? 3 u = some "*errors.errorString") : u = 172 :=
  typeName_ptr_named (nm := "errors.errorString") (by rw [starE]; kernel_rfl) (by kernel_rfl) (by decide) u (by rw [starE]; exact h)

/-- The law under what the row's condition says of the tables and of the error's variable. -/
theorem lawRN {W : World} (h : laidMetH Tryd.prog Rows.fnExactReadNumberRow.laid W) (s : ByteArray) :
    Calls Tryd.prog 4 #[.string s] W fun e w' => e = .returned (.bool true) ∧ Below W.heap.size W w' := by
  rw [MakeChecks.laidMetH_plain _ _ _ (by kernel_rfl)] at h
  have h2 : laidMet Tryd.prog (("math/bits.deBruijn64tab", Lib.tabData .u8 tz64) :: [("internal/strconv.uint64pow10", Rows.laid_internal_strconv_uint64pow10), ("strconv.ErrRange", Rows.laid_strconv_ErrRange), ("strconv.ErrSyntax", Rows.laid_strconv_ErrSyntax)]) W := laidMet.tail h
  have hT := Lib.tabIs_of_head (g := 6) (t := 177) (e := 5) (by kernel_rfl) (by kernel_rfl) Tryd.underlying177 Tryd.underlying5 (by kernel_rfl) (by kernel_rfl) h2
  have ht : Tab64 W := hT.cell (by kernel_rfl) 15 (by decide)
  have h5 : laidMet Tryd.prog [("strconv.ErrSyntax", Rows.laid_strconv_ErrSyntax)] W := laidMet.tail (laidMet.tail (laidMet.tail h2))
  obtain ⟨a0, s0, hv0, -, -, -⟩ := laid_sentinel h5 gES gESType Tryd.underlying70 row172 Tryd.underlying172 Tryd.underlying174 rfl rfl Tryd.underlying9 cells174 cells9
  exact lawReadNumber s _ (Or.inr ⟨_, _, rfl⟩) ht (by have h0 := World.var?_cell gES hv0 0; simpa using h0)

/-- The door's own heap meets the row's condition. -/
theorem door_metR (os : Os) (args : Array Value) : laidMetH Tryd.prog Rows.fnExactReadNumberRow.laid ((World.doorLaid Tryd.prog 400 os).forCall (fun _ _ => 0) ⟨#[], args, []⟩).memory :=
  laidMetH_of_parts3 (fuel := 8) (laidMet_of_run' 8 (by kernel_rfl) (by kernel_rfl)) (by kernel_rfl) (by kernel_rfl)
end Go.Proofs.YtjcdfgcnnnaooaaDoor

namespace Go.Proofs.YtjcdfgcnnnaooaaDoor.fnExactReadNumber
open Go.RowKit Go.Fl Go.ChangeShapes Go.WideShapes Go.ChangeAt

set_option maxHeartbeats 2000000 in
theorem closed : joinedFacts Tryd.prog 4 Tryd.f4 Rows.fnExactReadNumberSpec Rows.fnExactReadNumberRow = true := by
  unfold joinedFacts
  simp only [Bool.and_eq_true]
  exact ⟨⟨⟨⟨⟨⟨⟨⟨⟨⟨⟨⟨⟨⟨⟨⟨⟨⟨⟨⟨⟨⟨⟨⟨⟨⟨⟨⟨⟨⟨⟨(by as_aux_lemma => kernel_rfl),
    laid⟩,
    rowed⟩,
    (by as_aux_lemma => kernel_rfl)⟩,
    (by as_aux_lemma => kernel_rfl)⟩,
    (by as_aux_lemma => kernel_rfl)⟩,
    (by rw [no_stops]; rfl)⟩,
    (by as_aux_lemma => kernel_rfl)⟩,
    (by rw [no_knobs]; rfl)⟩,
    (by as_aux_lemma => kernel_rfl)⟩,
    (by as_aux_lemma => kernel_rfl)⟩,
    (by as_aux_lemma => kernel_rfl)⟩,
    (by as_aux_lemma => kernel_rfl)⟩,
    (by as_aux_lemma => kernel_rfl)⟩,
    (by as_aux_lemma => kernel_rfl)⟩,
    (by as_aux_lemma => kernel_rfl)⟩,
    (by as_aux_lemma => kernel_rfl)⟩,
    (by as_aux_lemma => kernel_rfl)⟩,
    (by as_aux_lemma => kernel_rfl)⟩,
    (by as_aux_lemma => kernel_rfl)⟩,
    (by as_aux_lemma => kernel_rfl)⟩,
    (by as_aux_lemma => kernel_rfl)⟩,
    (show (Rows.fnExactReadNumberRow.plainKeys == Tryd.prog.plainKeys) = true by rw [plain_keys]; rfl)⟩,
    (by as_aux_lemma => kernel_rfl)⟩,
    stops_heard⟩,
    may_enter⟩,
    (show (Rows.fnExactReadNumberRow.lifted == Tryd.prog.liftsFinal) = true by rw [lifts_final]; rfl)⟩,
    (show (Tryd.prog.make == some Rows.fnExactReadNumberRow.make) = true by rw [made]; rfl)⟩,
    (by as_aux_lemma => kernel_rfl)⟩,
    (by as_aux_lemma => kernel_rfl)⟩,
    (by as_aux_lemma => kernel_rfl)⟩,
    (by as_aux_lemma => kernel_rfl)⟩

theorem rdS : Tryd.prog.readableRec 9 = true ∧ 9 < Tryd.prog.types.size := ⟨by kernel_rfl, of_decide_eq_true (by kernel_rfl)⟩
set_option maxRecDepth 100000 in
theorem lifted (os : Os) (started : os.Started) (H : Type) (enc : TypeId × Value → H) :
    ReturnsInHanded {} Tryd.checked os 4 .any (fun w args => (Rows.fnExactReadNumberSpec.pre enc Tryd.prog Tryd.f4 Rows.fnExactReadNumberRow.domain false w args ∧ laidMetH Tryd.prog Rows.fnExactReadNumberRow.laid w) ∧ sizedMet enc Tryd.prog Tryd.f4 (OpenSpec.ofChange Rows.fnExactReadNumberSpec) false w args) (Rows.fnExactReadNumberSpec.post enc Tryd.prog Tryd.f4 false true false false) := by
  refine LawFrame.lifted_vars (C := Tryd.checked) (fn := Tryd.f4) (n := 1) (tb := 4) (laidL := Rows.fnExactReadNumberRow.laid) started own (by kernel_rfl) Tryd.func4 laid ?_ rfl ?_ rfl Tryd.underlying4 ?_
    (ChangeSpec.witness_shaped (enc := enc) (C := Tryd.checked) (os := os) (X := fun w _ => laidMetH Tryd.prog Rows.fnExactReadNumberRow.laid w) false (World.doorLaid Tryd.prog 400 os) #[.string ⟨#[]⟩] 8 rfl (World.shaped_of_RefB (by kernel_rfl) (by kernel_rfl)) (by kernel_rfl) (by kernel_rfl) (by kernel_rfl) (door_metR os _)) ?_
  · intro t ht
    simp only [Tryd.params4, List.mem_cons, List.not_mem_nil, or_false] at ht
    subst ht; exact rdS
  · intro ds gs hd hg
    match ds, gs, hd, hg with
    | [d0], [], _, _ => rfl
  · intro W hL
    exact ⟨[], trivial⟩
  · intro W base args ds ps hval hn hT hL
    obtain ⟨v0, rfl⟩ : ∃ v0, args = #[v0] := arr1 hn
    have ht := id hL
    simp only [Tryd.params4] at hT
    obtain ⟨s0, rfl, -, -, -⟩ := Go.ChangeMaps.open_string Tryd.underlying9 (hval 0 9 v0 rfl rfl) (trodAll_head hT).choose_spec.choose_spec
    exact lawRN ht s0

theorem over : Rows.fnExactReadNumberRow.holds Tryd.pinned (OpenSpec.ofChange Rows.fnExactReadNumberSpec) :=
  OpenClaim.holds_of_wide 4 Tryd.f4 rfl rfl rfl rfl rfl rfl rfl ⟨rfl, rfl, rfl, rfl, rfl⟩ rfl rfl rfl rfl rfl (by kernel_rfl) Tryd.func4 closed
    (of_decide_eq_true (by kernel_rfl)) (by unfold Func.isWrapper; rw [if_neg (by decide +kernel)]; exact ⟨rfl, rfl⟩)
    (fun os started H enc _ => lifted os started H enc)

theorem named : Tryd.prog.funcNamed "loop.example/g01224/laws.FnExactReadNumber" = some 4 := by kernel_rfl
theorem c_wf : Rows.fnExactReadNumberRow.wfByText (OpenSpec.ofChange Rows.fnExactReadNumberSpec) = true := by kernel_rfl
theorem c_main : Tryd.pinned.checked.prog.mainIs = some (true, "329017af1714b06bb681f9385b1a25610dfe8a3e677e6ff2a465e5caa2c575ff".toList) := by kernel_rfl
theorem c_looks : true = Tryd.pinned.checked.prog.looks [] := by kernel_rfl
theorem c_goes : false = Rows.fnExactReadNumberRow.goesBy Tryd.pinned.checked.prog := by kernel_rfl
theorem proved : Rows.FnExactReadNumberCardSaid :=
  Claim7.holds_tied_plain_at .later [] [.data, .data, .data, .sentinel, .sentinel] true (true, "329017af1714b06bb681f9385b1a25610dfe8a3e677e6ff2a465e5caa2c575ff") true
    over (fun _ h => by cases h) c_wf (fun _ h => by cases h) fnExactReadNumber_row_tie rfl ⟨rfl, rfl⟩ c_main rfl
    (fun f fn hf hfn => by
      obtain rfl : f = 4 := Option.some.inj (named.symm.trans hf) |>.symm
      obtain rfl : fn = Tryd.f4 := (Option.some.inj (Tryd.func4.symm.trans hfn)).symm
      exact ⟨c_looks, fun j t ht => by
        have hm := Array.mem_of_getElem? ht
        rw [Tryd.params4] at hm
        simp only [List.mem_toArray, List.mem_cons, List.not_mem_nil, or_false] at hm
        subst hm; exact (show Tryd.prog.wantsStandIn 9 = false by kernel_rfl)⟩)
    c_goes
#print axioms proved
end Go.Proofs.YtjcdfgcnnnaooaaDoor.fnExactReadNumber
