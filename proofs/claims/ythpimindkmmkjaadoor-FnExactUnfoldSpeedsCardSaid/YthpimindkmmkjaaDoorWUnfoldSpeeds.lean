import Derived.Test.YthpimindkmmkjaaDoorEUnfoldSpeeds
import Derived.Test.YthpimindkmmkjaaDoorChecked
import Derived.Test.YthpimindkmmkjaaDoorRows
import Derived.Test.YthpimindkmmkjaaDoorCards
import Derived.Test.YthpimindkmmkjaaDoorTie
import Derived.Laws.FloatArith
import Derived.ProofKit
import Derived.WalkKit
import Derived.WalkLawsBesides
import Derived.WalkSpells
import Derived.Deep.QuietTactic
import Derived.BigQuiet
import Derived.Deep.RegionHeld3
import Derived.ChangeKeysEq
import Derived.Laws.BitsAllLaws
import Derived.Deep.MidRow
import Derived.Deep.WholeRow
import Derived.StillTailTactics
import Derived.Deep.Slices
import Derived.ChangeSame
import Derived.OrdersIn
import Derived.ControlIn
import Derived.RangeFuncSeq
import Derived.RangeFuncNested
import Derived.ArgAppend
import Derived.OwnWalkIn
import Derived.TacticsInMore
import Derived.Below
import Derived.Laws.AppendOwn
import Derived.Laws.ComplexArith
import Derived.Deep.Strs
import Derived.LaidEql
import Derived.Stop.Asserts
import Derived.RowKitTokens
import Derived.RangeFuncLeaves
import Derived.RangeFuncBox
import Derived.LoopNIn
import Derived.LoopIn
import Derived.Shelf.Abstract
import Derived.OpenShut
import Derived.Stop.LaidErr
import Derived.LaidMore
import Derived.Handed
import Derived.LaidHandle
import Derived.Stop.Joined
import Derived.MakeChecks
import Derived.Lib.SliceRun
import Derived.SevenTiedAt
/- The tied card of FnExactUnfoldSpeeds. -/
namespace Go.Proofs.YthpimindkmmkjaaDoor
open Go.RowKit Go.Fl

@[go_sem] theorem ext_f64bits (y : Nat) (w : World) : (callFunc 197 #[.float .f64 y]).run Tryd.prog w = .ok (.value (.int .u64 y)) w := by
  rw [run_callFunc_extern Tryd.func197 (by kernel_rfl) (by kernel_rfl) (by kernel_rfl) (e := Extern.MathFloatBits.float64bits) (by kernel_rfl)]
  rfl

@[go_sem] theorem ext_f64from (n : Int) (w : World) : (callFunc 169 #[.int .u64 n]).run Tryd.prog w = .ok (.value (.float .f64 n.toNat)) w := by
  rw [run_callFunc_extern Tryd.func169 (by kernel_rfl) (by kernel_rfl) (by kernel_rfl) (e := Extern.MathFloatBits.float64frombits) (by kernel_rfl)]
  rfl

theorem hid {p : Prop} (h : p) : Hid p := h

theorem clear_sign (y : Nat) (h : y < 18446744073709551616) : (bits BinOp.andNot IntKind.u64 (y : Int) 9223372036854775808).toNat = y % 9223372036854775808 := by
  rw [u64_andNot _ _ (by omega) (by omega) (by omega) (by omega)]
  rw [Int.toNat_natCast, Int.toNat_natCast]
  exact Nat.and_two_pow_sub_one_eq_mod y 63

theorem abs_f64 (y : Nat) (h : y < 18446744073709551616) (w : World) :
    Calls Tryd.prog 166 #[.float .f64 y] w fun e w' => e = .returned (.float .f64 (y % 9223372036854775808)) ∧ w = w' := by
  have hc := hid (clear_sign y h)
  clear h
  go_enter Tryd.func166, Tryd.ntmps166
  go_wp2
  go_ret
  exact ⟨by simp [hc.out], rfl⟩

theorem isNaN_f64 (y : Nat) (w : World) :
    Calls Tryd.prog 124 #[.float .f64 y] w fun e w' => e = .returned (.bool (FloatKind.f64.format.order y y != some .eq)) ∧ w = w' := by
  go_enter Tryd.func124, Tryd.ntmps124
  go_wp2
  go_ret
  exact ⟨rfl, rfl⟩

theorem isInf_f64 (y : Nat) (h : y < 18446744073709551616) (w : World) :
    Calls Tryd.prog 125 #[.float .f64 y, .int .i64 0] w fun e w' => e = .returned (.bool (FloatKind.f64.format.order (y % 9223372036854775808) 9218868437227405311 == some .gt)) ∧ w = w' := by
  have hc := hid h
  clear h
  go_enter Tryd.func125, Tryd.ntmps125
  go_wp2_with (go_at_call 166; refine (abs_f64 y hc.out _).mono ?_; rintro e w' ⟨rfl, rfl⟩)
  go_ret
  exact ⟨rfl, rfl⟩

theorem isFinite_t (x : Nat) (hx : x < 4294967296) (h : finB x = true) (w : World) :
    Calls Tryd.prog 61 #[.float .f32 x] w fun e w' => e = .returned (.bool true) ∧ w = w' := by
  rw [finB_iff] at h
  have hc := fun w => run_conv_wid (P := Tryd.prog) w 22 77 x hx Tryd.underlying22 Tryd.underlying77 h
  obtain ⟨a, b, m, e, hr⟩ := read_wid_fin hx h
  have hn : (FloatKind.f64.format.order (wid x) (wid x) != some .eq) = false := by
    show (D.order (wid x) (wid x) != some .eq) = false
    rw [order_self hr]; rfl
  have hi : (FloatKind.f64.format.order (wid x % 9223372036854775808) 9218868437227405311 == some .gt) = false := by
    show (D.order (wid x % 9223372036854775808) 9218868437227405311 == some .gt) = false
    rw [b, order_ltD a (by decide)]
    rw [DINF_val] at a
    have hle : wid (mg x) ≤ 9218868437227405311 := by omega
    rcases Nat.lt_or_eq_of_le hle with h' | h'
    · rw [Nat.compare_eq_lt.2 h']; rfl
    · rw [Nat.compare_eq_eq.2 h']; rfl
  have hw : wid x < 18446744073709551616 := D.write_lt _
  have Hn := hid hn
  have Hi := hid hi
  have Hw := hid hw
  clear hn hi hw hr a b h hx
  go_enter Tryd.func61, Tryd.ntmps61
  go_wp2_with (first | (go_at_call 124; refine (isNaN_f64 (wid x) _).mono ?_; rintro e w' ⟨rfl, rfl⟩; rw [Hn.out]) | (go_at_call 125; refine (isInf_f64 (wid x) Hw.out _).mono ?_; rintro e w' ⟨rfl, rfl⟩; rw [Hi.out]))
  go_ret
  exact ⟨rfl, rfl⟩

theorem isFinite_f (x : Nat) (hx : x < 4294967296) (h : finB x = false) (w : World) :
    Calls Tryd.prog 61 #[.float .f32 x] w fun e w' => e = .returned (.bool false) ∧ Below w.heap.size w w' := by
  rw [finB_iff'] at h
  rcases Nat.lt_or_eq_of_le h with h | h
  · obtain ⟨z, hc, h1, _⟩ := run_conv_nan (P := Tryd.prog) w 22 77 x Tryd.underlying22 Tryd.underlying77 h
    obtain ⟨s, t, hr⟩ := read_nanD h1
    have Hn := hid (show (FloatKind.f64.format.order z z != some .eq) = true by
      show (D.order z z != some .eq) = true
      rw [order_nan hr]; rfl)
    clear h h1 hr hx
    go_enter Tryd.func61, Tryd.ntmps61
    go_wp2_with (go_at_call 124; refine (isNaN_f64 z _).mono ?_; rintro e w' ⟨rfl, rfl⟩; rw [Hn.out])
    go_ret
    exact ⟨rfl, (Below.refl _ _).drew⟩
  · obtain ⟨z, hc, h1, h2⟩ := run_conv_inf (P := Tryd.prog) w 22 77 x hx Tryd.underlying22 Tryd.underlying77 h.symm
    have hr : D.read z = .infinity (decide (9223372036854775808 ≤ z)) := by rw [read_signD h2, h1, read_DINF]
    have Hn := hid (show (FloatKind.f64.format.order z z != some .eq) = false by
      show (D.order z z != some .eq) = false
      rw [order_inf hr]; rfl)
    have Hi := hid (show (FloatKind.f64.format.order (z % 9223372036854775808) 9218868437227405311 == some .gt) = true by
      rw [h1]; decide)
    have H2 := hid h2
    clear h h1 hr hx h2
    go_enter Tryd.func61, Tryd.ntmps61
    go_wp2_with (first | (go_at_call 124; refine (isNaN_f64 z _).mono ?_; rintro e w' ⟨rfl, rfl⟩; rw [Hn.out]) | (go_at_call 125; refine (isInf_f64 z H2.out _).mono ?_; rintro e w' ⟨rfl, rfl⟩; rw [Hi.out]))
    go_ret
    exact ⟨rfl, Below.refl _ _⟩

@[go_sem] theorem ext_f32bits (y : Nat) (w : World) : (callFunc 132 #[.float .f32 y]).run Tryd.prog w = .ok (.value (.int .u32 y)) w := by
  rw [run_callFunc_extern Tryd.func132 (by kernel_rfl) (by kernel_rfl) (by kernel_rfl) (e := Extern.MathFloatBits.float32bits) (by kernel_rfl)]
  rfl

theorem sFinite_t (x : Nat) (hx : x < 4294967296) (h : finB x = true) (w : World) :
    Calls Tryd.prog 58 #[.float .f32 x] w fun e w' => e = .returned (.bool true) ∧ w = w' := by
  have hr := fun w => run_float_arith (P := Tryd.prog) w .sub 22 .f32 x x 0 (sub_self_fin hx h)
  clear h hx
  go_enter Tryd.func58, Tryd.ntmps58
  go_wp2
  go_ret
  exact ⟨rfl, rfl⟩

theorem sFinite_f (x : Nat) (hx : x < 4294967296) (h : finB x = false) (w : World) :
    Calls Tryd.prog 58 #[.float .f32 x] w fun e w' => e = .returned (.bool false) ∧ Below w.heap.size w w' := by
  obtain ⟨z, hr, h1, _⟩ := run_arith_nan (P := Tryd.prog) w .sub (by simp) 22 x x (sub_self_none hx h)
  have Hn := hid (show (FloatKind.f32.format.order z 0 == some .eq) = false by
    show (S.order z 0 == some .eq) = false
    rw [order_nan32 h1]; rfl)
  clear h hx h1
  go_enter Tryd.func58, Tryd.ntmps58
  go_wp2
  go_ret
  exact ⟨by simp [Hn.out], (Below.refl _ _).drew⟩

theorem l00In_t (n a b : Int) (h1 : a ≤ n) (h2 : n ≤ b) (w : World) :
    Calls Tryd.prog 59 #[.int .i64 n, .int .i64 a, .int .i64 b] w fun e w' => e = .returned (.bool true) ∧ w = w' := by
  go_enter Tryd.func59, Tryd.ntmps59
  go_wp2
  go_ret
  exact ⟨by first | rfl | (simp; done) | (simp; omega), rfl⟩

theorem l00In_f (n a b : Int) (hn : ¬ (a ≤ n ∧ n ≤ b)) (w : World) :
    Calls Tryd.prog 59 #[.int .i64 n, .int .i64 a, .int .i64 b] w fun e w' => e = .returned (.bool false) ∧ w = w' := by
  by_cases h0 : a ≤ n
  · have h3 : b < n := by omega
    clear hn
    go_enter Tryd.func59, Tryd.ntmps59
    go_wp2
    go_ret
    exact ⟨by first | rfl | (simp; done) | (simp; omega), rfl⟩
  · have h3 : n < a := by omega
    have h4 : decide (a ≤ n) = false := by simp; omega
    clear hn h0
    go_enter Tryd.func59, Tryd.ntmps59
    go_wp2
    go_ret
    exact ⟨by simp, rfl⟩

def Fins (c : Nat → Nat) : Prop := ∀ i, i < 20 → finB (c i) = true

theorem zf : Fins (fun _ => 0) := fun _ _ => (by decide : finB 0 = true)

def left (c : Nat → Nat) (k x : Nat) : Nat → Nat := upd c k (fsub (c k) (fmul x (c k)))

theorem sameFloat2 (a b : Nat) (h : Same2 a b) (w : World) :
    Calls Tryd.prog 51 #[.float .f64 a, .float .f64 b] w fun e w' => e = .returned (.bool true) ∧ w = w' := by
  obtain ⟨h1, h2⟩ := h
  rcases h1 with ⟨h1, rfl⟩ | ⟨h1, h3, h4, h5⟩
  · have hn : (FloatKind.f64.format.order a a != some .eq) = false := by
      show (Ieee.Format.order D a a != some .eq) = false
      rw [h1]; rfl
    have hq : (FloatKind.f64.format.order a a == some .eq) = true := by
      show (Ieee.Format.order D a a == some .eq) = true
      rw [h1]; rfl
    rcases hz : (FloatKind.f64.format.order a 0 == some .eq) with _ | _
    · clear h1 h2
      go_enter Tryd.func51, Tryd.ntmps51
      go_wp2
      go_ret
      exact ⟨by simp, rfl⟩
    · obtain ⟨q, hd⟩ := h2 h1 (beq_iff_eq.1 hz)
      have hdiv := fun w => run_float_arith (P := Tryd.prog) w .quo 77 .f64 4607182418800017408 a q hd
      clear h1 h2 hd
      go_enter Tryd.func51, Tryd.ntmps51
      go_wp2
      go_ret
      exact ⟨by simp, rfl⟩
  · have hn : (FloatKind.f64.format.order a a != some .eq) = true := by
      show (Ieee.Format.order D a a != some .eq) = true
      rw [h1]; rfl
    have hm : (FloatKind.f64.format.order b b != some .eq) = true := by
      show (Ieee.Format.order D b b != some .eq) = true
      rw [h3]; rfl
    clear h1 h2 h3 h4 h5
    go_enter Tryd.func51, Tryd.ntmps51
    go_wp2
    go_ret
    exact ⟨by simp, rfl⟩

theorem infoz_f32 : (Tryd.prog.info? 22).map (fun i => (i.zero, i.size, i.bytes)) = some (some (.float .f32 0), 1, 4) := by kernel_rfl

theorem info_f1 : (Tryd.prog.info? 22).map (·.size) = some 1 := by kernel_rfl

/-- A slice of n words that a call made. -/
def MadeF (n : Nat) (x : Nat → Nat) (w : World) (v : Value) (w' : World) : Prop := ∃ B cs cap, v = .slice (some ⟨B, 0, none⟩) n cap ∧ w.heap.size ≤ B ∧ LvV cs n (flV x) ∧ Kept w [(B, cs, 22)] w'

set_option maxRecDepth 100000 in
set_option maxHeartbeats 2000000 in
theorem toFs (s : Value) (n : Nat) (x : Nat → Nat) (w : World) (hs : RdV w s n (flV x)) (hn : n ≤ 1048576) :
    Calls Tryd.prog 19 #[s] w fun e w' => ∃ v, e = .returned v ∧ MadeF n x w v w' := by
  obtain ⟨p, cap, rfl, hc⟩ := hs
  have HC := hid hc
  have HN := hid hn
  obtain ⟨cs0, hv0, hmk⟩ := run_makeV (P := Tryd.prog) (t := 30) (e := 22) Tryd.underlying30 (.float .f32 0) 4 rfl (by omega) infoz_f32 hn w
  have h0 : Hid (∃ cs', LvV cs' n (mrV (fun _ => .float .f32 0) (flV x) 0) ∧ Kept w [(w.heap.size, cs', 22)] (w.alloc (.cells cs0 22))) := hid ⟨cs0, by rw [mrV_zero]; exact hv0, (Kept.nil w).push _ _⟩
  clear hc hn hv0
  go_enter Tryd.func19, Tryd.ntmps19
  go_wp2_with fail
  go_loopw [4] (fun i wr => ∃ k : Nat, k ≤ n ∧ i = .int .i64 k ∧ Hid (∃ cs', LvV cs' n (mrV (fun _ => .float .f32 0) (flV x) k) ∧ Kept w [(w.heap.size, cs', 22)] wr)) (fun i _ => n - (intOf i).toNat)
  case atStart => exact ⟨0, by omega, rfl, h0⟩
  case round =>
    obtain ⟨k, hk, rfl, h1⟩ := hrel
    clear h0 hmk
    by_cases hlt : k < n
    · have HL := hid hlt
      have hn9 := HN.out
      have hk3 : (k : Int) < (n : Int) := by omega
      obtain ⟨cs', a1, a2⟩ := h1.out
      obtain ⟨b, o, rfl, hcell⟩ := HC.out (by omega)
      have c0 : wr.cell? ⟨b, o + k, none⟩ = some (.float .f32 (x k)) := by have h9 := hcell k hlt; rw [a2.1.cell (block_lt_of_cell h9)]; exact h9
      have i1 := fun w => run_indexAt (P := Tryd.prog) (t := 30) (e := 22) Tryd.underlying30 info_f1 (b := b) (o := o) (n := n) (cap := cap) (k := k) hlt w
      have i2 := fun w0 => run_indexAt (P := Tryd.prog) (t := 30) (e := 22) Tryd.underlying30 info_f1 (b := w.heap.size) (o := 0) (n := n) (cap := n) (k := k) hlt w0
      simp only [Nat.zero_add, Nat.mul_one] at i1 i2
      have A1 := hid a1
      have A2 := hid a2
      clear h1 a1 a2 hcell
      have tok1 : True := trivial
      go_wp2_with (have _t := tok1; clear tok1; refine store_lv1 rfl 22 _ _ rfl info_f1 w.heap.size k (.float .f32 (x k)) rfl rfl rfl rfl A2.out A1.out HL.out (Nat.le_refl _) (by simp) (fun w1 k1 v1 => ?_); replace k1 := hid k1; replace v1 := hid v1; clear A1 A2 c0)
      have b3 : Hid (∃ cs', LvV cs' n (mrV (fun _ => .float .f32 0) (flV x) (k + 1)) ∧ Kept w [(w.heap.size, cs', 22)] w1) := hid ⟨_, by have := v1.out; rw [show Value.float .f32 (x k) = flV x k from rfl, mrV_step (fun _ => .float .f32 0) (flV x) k] at this; exact this, k1.out⟩
      clear k1 v1
      have hw9 : wrap64 ((k : Int) + 1) = (k : Int) + 1 := by unfold wrap64; omega
      go_roundw
      case rel => exact ⟨k + 1, by have := HL.out; omega, by go_num, b3⟩
      case measure => have := HL.out; simp [intOf]; omega
    · obtain rfl : k = n := by omega
      have hk3 : ¬ (k : Int) < (k : Int) := by omega
      go_wp2
      go_ret
      obtain ⟨cs', a1, a2⟩ := h1.out
      exact ⟨_, rfl, w.heap.size, cs', k, rfl, Nat.le_refl _, a1.ext (fun j hj => if_pos hj), a2⟩

set_option maxRecDepth 100000 in
set_option maxHeartbeats 2000000 in
theorem eqFs (s t : Value) (n : Nat) (x : Nat → Nat) (hx : ∀ k, k < n → x k < 4294967296) (w : World) (hs : RdV w s n (flV x)) (ht : RdV w t n (flV x)) (hn : n ≤ 1048576) :
    Calls Tryd.prog 21 #[s, t] w fun e w' => e = .returned (.bool true) ∧ Below w.heap.size w w' := by
  obtain ⟨p, cap, rfl, hc⟩ := hs
  obtain ⟨p2, cap2, rfl, hc2⟩ := ht
  have HC := hid hc
  have HD := hid hc2
  have HN := hid hn
  have HX := hid hx
  clear hc hc2 hn hx
  go_enter Tryd.func21, Tryd.ntmps21
  go_wp2_with fail
  go_loopw [5] (fun i wr => ∃ k : Nat, k ≤ n ∧ i = .int .i64 k ∧ Hid (Kept w [] wr)) (fun i _ => n - (intOf i).toNat)
  case atStart => exact ⟨0, by omega, rfl, hid (Kept.nil w)⟩
  case round =>
    obtain ⟨k, hk, rfl, h0⟩ := hrel
    by_cases hlt : k < n
    · have hn9 := HN.out
      have hk3 : (k : Int) < (n : Int) := by omega
      obtain ⟨b, o, rfl, hcell⟩ := HC.out (by omega)
      obtain ⟨b2, o2, rfl, hcell2⟩ := HD.out (by omega)
      obtain ⟨zf, wf, c0, d0, s0⟩ := conv_any (P := Tryd.prog) 22 77 (x k) (HX.out k hlt) Tryd.underlying22 Tryd.underlying77
      have S0 := hid s0
      have D0 := hid d0
      have HK := hid hlt
      have R1 := hid (fun wq (hb : Below w.heap.size w wq) => show wq.cell? ⟨b, o + k, none⟩ = some (.float .f32 (x k)) from by have h1 := hcell k HK.out; rw [hb.cell (block_lt_of_cell h1), h1]; rfl)
      have R2 := hid (fun wq (hb : Below w.heap.size w wq) => show wq.cell? ⟨b2, o2 + k, none⟩ = some (.float .f32 (x k)) from by have h1 := hcell2 k HK.out; rw [hb.cell (block_lt_of_cell h1), h1]; rfl)
      have j1 : ∀ w, (Instr.indexAt 30 (.slice (some ⟨b, o, none⟩) n cap) (.int .i64 (k : Int))).run Tryd.prog w = .ok (.pointer (some ⟨b, o + k, none⟩)) w := fun w => by have := run_indexAt (P := Tryd.prog) (t := 30) (e := 22) Tryd.underlying30 info_f1 (b := b) (o := o) (n := n) (cap := cap) (k := k) HK.out w; simpa using this
      have j2 : ∀ w, (Instr.indexAt 30 (.slice (some ⟨b2, o2, none⟩) n cap2) (.int .i64 (k : Int))).run Tryd.prog w = .ok (.pointer (some ⟨b2, o2 + k, none⟩)) w := fun w => by have := run_indexAt (P := Tryd.prog) (t := 30) (e := 22) Tryd.underlying30 info_f1 (b := b2) (o := o2) (n := n) (cap := cap2) (k := k) HK.out w; simpa using this
      clear hcell hcell2 s0 d0
      go_wp2_with fail
      refine region_kept (w0 := w) (l := []) 12 #[false, false, false, false, false, false, false, false, false, false, false, false] (by kernel_rfl) rfl rfl ?_
      have kd := h0.out.drew
      generalize World.drew _ = wd at kd ⊢
      refine take_val 0 _ _ (.slice (some ⟨b, o, none⟩) n cap) rfl (by rfl) (by kernel_rfl) (by kernel_rfl) (by kernel_rfl) (fun w => by rfl) rfl rfl kd ?_
      simp only [Act.put, List.setIfInBounds_toArray, List.set_cons_zero, List.set_cons_succ]
      refine take_val 1 _ _ (.int .i64 (k : Int)) rfl (by rfl) (by kernel_rfl) (by kernel_rfl) (by kernel_rfl) (fun w => by rfl) rfl rfl kd ?_
      simp only [Act.put, List.setIfInBounds_toArray, List.set_cons_zero, List.set_cons_succ]
      refine take_val 2 _ _ (.pointer (some ⟨b, o + k, none⟩)) rfl (by rfl) (by kernel_rfl) (by kernel_rfl) (by kernel_rfl) (fun w => run_index_op _ _ rfl rfl (j1 w)) rfl rfl kd ?_
      simp only [Act.put, List.setIfInBounds_toArray, List.set_cons_zero, List.set_cons_succ]
      refine take_cell 3 _ _ (.float .f32 (x k)) rfl (by rfl) (by kernel_rfl) (by kernel_rfl) (by kernel_rfl) (fun wq hS => by have hcell : wq.cell? ⟨b, o + k, none⟩ = some (.float .f32 (x k)) := R1.out _ hS.1; clear hS; unfold execOp; go_simp) rfl rfl kd ?_
      simp only [Act.put, List.setIfInBounds_toArray, List.set_cons_zero, List.set_cons_succ]
      refine take_val 5 _ _ (.slice (some ⟨b2, o2, none⟩) n cap2) rfl (by rfl) (by kernel_rfl) (by kernel_rfl) (by kernel_rfl) (fun w => by rfl) rfl rfl kd ?_
      simp only [Act.put, List.setIfInBounds_toArray, List.set_cons_zero, List.set_cons_succ]
      refine take_val 6 _ _ (.int .i64 (k : Int)) rfl (by rfl) (by kernel_rfl) (by kernel_rfl) (by kernel_rfl) (fun w => by rfl) rfl rfl kd ?_
      simp only [Act.put, List.setIfInBounds_toArray, List.set_cons_zero, List.set_cons_succ]
      refine take_val 7 _ _ (.pointer (some ⟨b2, o2 + k, none⟩)) rfl (by rfl) (by kernel_rfl) (by kernel_rfl) (by kernel_rfl) (fun w => run_index_op _ _ rfl rfl (j2 w)) rfl rfl kd ?_
      simp only [Act.put, List.setIfInBounds_toArray, List.set_cons_zero, List.set_cons_succ]
      refine take_cell 8 _ _ (.float .f32 (x k)) rfl (by rfl) (by kernel_rfl) (by kernel_rfl) (by kernel_rfl) (fun wq hS => by have hcell : wq.cell? ⟨b2, o2 + k, none⟩ = some (.float .f32 (x k)) := R2.out _ hS.1; clear hS; unfold execOp; go_simp) rfl rfl kd ?_
      simp only [Act.put, List.setIfInBounds_toArray, List.set_cons_zero, List.set_cons_succ]
      refine wpAnyH_ready (rs := [4, 9]) (by kernel_rfl) (by simp) ?_
      refine valK 4 _ _ (.float .f64 (zf wd)) (wf wd) kd rfl (by rfl) (by have := c0 wd; unfold execOp; go_simp) (D0.out _) rfl rfl (fun kd1 => ?_) ?hother
      case hother =>
        refine valK 9 _ _ (.float .f64 (zf wd)) (wf wd) kd rfl (by rfl) (by have := c0 wd; unfold execOp; go_simp) (D0.out _) rfl rfl (fun kd1 => ?_) AllReadyH.nil
        refine ⟨kd1, ?_⟩
        simp only [Act.put, List.setIfInBounds_toArray, List.set_cons_zero, List.set_cons_succ]
        refine wpAnyH_ready (rs := [4]) (by kernel_rfl) (by simp) ?_
        refine valK 4 _ _ (.float .f64 (zf (wf wd))) (wf (wf wd)) kd1 rfl (by rfl) (by have := c0 (wf wd); unfold execOp; go_simp) (D0.out _) rfl rfl (fun kd2 => ?_) AllReadyH.nil
        refine ⟨kd2, ?_⟩
        simp only [Act.put, List.setIfInBounds_toArray, List.set_cons_zero, List.set_cons_succ]
        refine wpAnyH_ready (rs := [10]) (by kernel_rfl) (by simp) ?_
        refine callK 10 _ _ (.bool true) kd2 rfl (by rfl) 51 #[.float .f64 (zf (wf wd)), .float .f64 (zf (wd))] (fun w => by unfold execOp; go_simp) rfl rfl ?hc1 (fun w1 k1 => ?_) AllReadyH.nil
        case hc1 => exact (sameFloat2 _ _ (S0.out _ _) _).mono fun e w' h => ⟨h.1, h.2 ▸ Below.refl _ _⟩
        refine ⟨k1, ?_⟩
        simp only [Act.put, List.setIfInBounds_toArray, List.set_cons_zero, List.set_cons_succ]
        refine take_val 11 _ _ (.bool false) rfl (by rfl) (by kernel_rfl) (by kernel_rfl) (by kernel_rfl) (fun w => by unfold execOp; go_simp) rfl rfl k1 ?_
        simp only [Act.put, List.setIfInBounds_toArray, List.set_cons_zero, List.set_cons_succ]
        refine wpAnyH_done (by kernel_rfl) (NoPanic.normal ?_) _
        go_wp2
        go_roundw
        case rel => exact ⟨k + 1, by omega, by go_num, hid k1⟩
        case measure => simp [intOf]; omega
      refine ⟨kd1, ?_⟩
      simp only [Act.put, List.setIfInBounds_toArray, List.set_cons_zero, List.set_cons_succ]
      refine wpAnyH_ready (rs := [9]) (by kernel_rfl) (by simp) ?_
      refine valK 9 _ _ (.float .f64 (zf (wf wd))) (wf (wf wd)) kd1 rfl (by rfl) (by have := c0 (wf wd); unfold execOp; go_simp) (D0.out _) rfl rfl (fun kd2 => ?_) AllReadyH.nil
      refine ⟨kd2, ?_⟩
      simp only [Act.put, List.setIfInBounds_toArray, List.set_cons_zero, List.set_cons_succ]
      refine wpAnyH_ready (rs := [10]) (by kernel_rfl) (by simp) ?_
      refine callK 10 _ _ (.bool true) kd2 rfl (by rfl) 51 #[.float .f64 (zf (wd)), .float .f64 (zf (wf wd))] (fun w => by unfold execOp; go_simp) rfl rfl ?hc1 (fun w1 k1 => ?_) AllReadyH.nil
      case hc1 => exact (sameFloat2 _ _ (S0.out _ _) _).mono fun e w' h => ⟨h.1, h.2 ▸ Below.refl _ _⟩
      refine ⟨k1, ?_⟩
      simp only [Act.put, List.setIfInBounds_toArray, List.set_cons_zero, List.set_cons_succ]
      refine take_val 11 _ _ (.bool false) rfl (by rfl) (by kernel_rfl) (by kernel_rfl) (by kernel_rfl) (fun w => by unfold execOp; go_simp) rfl rfl k1 ?_
      simp only [Act.put, List.setIfInBounds_toArray, List.set_cons_zero, List.set_cons_succ]
      refine wpAnyH_done (by kernel_rfl) (NoPanic.normal ?_) _
      go_wp2
      go_roundw
      case rel => exact ⟨k + 1, by omega, by go_num, hid k1⟩
      case measure => simp [intOf]; omega
    · obtain rfl : k = n := by omega
      go_wp2
      go_ret
      exact ⟨rfl, h0.out.1⟩

set_option maxRecDepth 100000 in
set_option maxHeartbeats 2000000 in
theorem markFs (w0 : World) (l : List (Nat × Array Value × TypeId)) (B n cap : Nat) (cs : Array Value) (y : Nat → Value) (w : World) (hk : Kept w0 ((B, cs, 22) :: l) w) (hB : w0.heap.size ≤ B) (hne : ∀ x ∈ l, x.1 ≠ B) (h : LvV cs n y) (hn : n ≤ 1048576) :
    Calls Tryd.prog 22 #[.slice (some ⟨B, 0, none⟩) n cap, .int .i64 1] w fun e w' => e = .returned (.int .i64 (1 + n)) ∧ ∃ cs', LvV cs' n (fun k => mkV (k + 1)) ∧ Kept w0 ((B, cs', 22) :: l) w' := by
  have HN := hid hn
  have HNE := hid hne
  have HBB := hid hB
  have h0 : Hid (∃ cs', LvV cs' n (mrV y (fun k => mkV (k + 1)) 0) ∧ Kept w0 ((B, cs', 22) :: l) w) := hid ⟨cs, by rw [mrV_zero]; exact h, hk⟩
  clear hk h hn hB hne
  go_enter Tryd.func22, Tryd.ntmps22
  go_wp2_with fail
  go_loopw [1, 5] (fun u i wr => ∃ k : Nat, k ≤ n ∧ i = .int .i64 k ∧ u = .int .i64 (1 + k) ∧ Hid (∃ cs', LvV cs' n (mrV y (fun k => mkV (k + 1)) k) ∧ Kept w0 ((B, cs', 22) :: l) wr)) (fun _ i _ => n - (intOf i).toNat)
  case atStart => exact ⟨0, by omega, rfl, by simp, h0⟩
  case round =>
    obtain ⟨k, hk, rfl, rfl, h1⟩ := hrel
    clear h0
    by_cases hlt : k < n
    · have HL := hid hlt
      have hn9 := HN.out
      have hk3 : (k : Int) < (n : Int) := by omega
      obtain ⟨cs', a1, a2⟩ := h1.out
      have i1 := fun w => run_indexAt (P := Tryd.prog) (t := 30) (e := 22) Tryd.underlying30 info_f1 (b := B) (o := 0) (n := n) (cap := cap) (k := k) hlt w
      simp only [Nat.zero_add, Nat.mul_one] at i1
      have cv1 : ∀ w : World, (convert 3 22 (.int .i64 (1 + (k : Int)))).run Tryd.prog w = .ok (.float .f32 (wS (k + 1))) w := fun w => by
        have := run_convert_int_float (P := Tryd.prog) w 3 22 .i64 .f32 (1 + (k : Int)) (by rw [Tryd.underlying3]; rfl) Tryd.underlying22
        rw [show (1 + (k : Int)) = ((k + 1 : Nat) : Int) by omega] at this ⊢; exact this
      have A1 := hid a1
      have A2 := hid a2
      clear h1 a1 a2
      have tok1 : True := trivial
      go_wp2_with (have _t := tok1; clear tok1; refine store_lv1 rfl 22 _ _ rfl info_f1 B k (mkV (k + 1)) rfl rfl rfl rfl A2.out A1.out HL.out HBB.out HNE.out (fun w1 k1 v1 => ?_); replace k1 := hid k1; replace v1 := hid v1; clear A1 A2)
      have b3 : Hid (∃ cs', LvV cs' n (mrV y (fun k => mkV (k + 1)) (k + 1)) ∧ Kept w0 ((B, cs', 22) :: l) w1) := hid ⟨_, by have := v1.out; rw [mrV_step y (fun k => mkV (k + 1)) k] at this; exact this, k1.out⟩
      clear k1 v1 cv1
      have hw9 : wrap64 ((k : Int) + 1) = (k : Int) + 1 := by unfold wrap64; omega
      have hw8 : IntKind.i64.wrap (1 + (k : Int) + 1) = 1 + (k : Int) + 1 := by rw [IntKind.wrap_i64]; omega
      go_roundw
      case rel => exact ⟨k + 1, by have := HL.out; omega, by go_num, by first | (congr 1; omega) | (simp; omega), b3⟩
      case measure => have := HL.out; simp [intOf]; omega
    · obtain rfl : k = n := by omega
      have hk3 : ¬ (k : Int) < (k : Int) := by omega
      go_wp2
      go_ret
      obtain ⟨cs', a1, a2⟩ := h1.out
      exact ⟨rfl, cs', a1.ext (fun j hj => if_pos hj), a2⟩

set_option maxRecDepth 100000 in
set_option maxHeartbeats 2000000 in
theorem heldFs (s : Value) (n : Nat) (w : World) (hs : RdV w s n (fun k => mkV (k + 1))) (hn : n ≤ 64) :
    Calls Tryd.prog 23 #[s, .int .i64 1] w fun e w' => e = .returned (.int .i64 (1 + n)) ∧ w = w' := by
  obtain ⟨p, cap, rfl, hc⟩ := hs
  have HC := hid hc
  have HN := hid hn
  clear hc hn
  go_enter Tryd.func23, Tryd.ntmps23
  go_wp2_with fail
  go_loopw [1, 5] (fun u i wr => ∃ k : Nat, k ≤ n ∧ i = .int .i64 k ∧ u = .int .i64 (1 + k) ∧ w = wr) (fun _ i _ => n - (intOf i).toNat)
  case atStart => exact ⟨0, by omega, rfl, by simp, rfl⟩
  case round =>
    obtain ⟨k, hk, rfl, rfl, rfl⟩ := hrel
    by_cases hlt : k < n
    · have HL := hid hlt
      have hn9 := HN.out
      have hk3 : (k : Int) < (n : Int) := by omega
      obtain ⟨b, o, rfl, hcell⟩ := HC.out (by omega)
      have c0 : w.cell? ⟨b, o + k, none⟩ = some (.float .f32 (wS (k + 1))) := hcell k hlt
      have i1 := fun w => run_indexAt (P := Tryd.prog) (t := 30) (e := 22) Tryd.underlying30 info_f1 (b := b) (o := o) (n := n) (cap := cap) (k := k) hlt w
      simp only [Nat.mul_one] at i1
      have q2 : (FloatKind.f32.format.order (wS (k + 1)) (wS (k + 1)) != some .eq) = false := by have := mk_one (k := k + 1) (by omega); unfold bne; rw [this]; rfl
      have cv1 : ∀ w : World, (convert 3 22 (.int .i64 (1 + (k : Int)))).run Tryd.prog w = .ok (.float .f32 (wS (k + 1))) w := fun w => by
        have := run_convert_int_float (P := Tryd.prog) w 3 22 .i64 .f32 (1 + (k : Int)) (by rw [Tryd.underlying3]; rfl) Tryd.underlying22
        rw [show (1 + (k : Int)) = ((k + 1 : Nat) : Int) by omega] at this ⊢; exact this
      generalize wS (k + 1) = wk at cv1 q2 c0
      clear hcell
      go_wp2
      have hw9 : wrap64 ((k : Int) + 1) = (k : Int) + 1 := by unfold wrap64; omega
      go_roundw
      case rel => exact ⟨k + 1, by have := HL.out; omega, by go_num, by first | (congr 1; omega) | (simp; omega), trivial⟩
      case measure => have := HL.out; simp [intOf]; omega
    · obtain rfl : k = n := by omega
      have hk3 : ¬ (k : Int) < (k : Int) := by omega
      go_wp2
      go_ret
      exact ⟨rfl, rfl⟩

theorem held0F (p : Option Addr) (c : Nat) (w : World) : Calls Tryd.prog 23 #[.slice p 0 c, .int .i64 1] w fun e w' => e = .returned (.int .i64 1) ∧ w = w' := by
  have := heldFs (.slice p 0 c) 0 w (RdV.zero w p c _) (by omega)
  simpa using this

theorem mark0F (p : Option Addr) (c : Nat) (w : World) : Calls Tryd.prog 22 #[.slice p 0 c, .int .i64 1] w fun e w' => e = .returned (.int .i64 1) ∧ w = w' := by
  go_enter Tryd.func22, Tryd.ntmps22
  go_wp2_with fail
  go_loopw [1, 5] (fun u i wr => i = .int .i64 0 ∧ u = .int .i64 1 ∧ w = wr) (fun _ _ _ => 0)
  case atStart => exact ⟨rfl, rfl, rfl⟩
  case round =>
    obtain ⟨rfl, rfl, rfl⟩ := hrel
    go_wp2
    go_ret
    exact ⟨rfl, rfl⟩

theorem round_even (X K : Nat) (h : D.write ((D.read X).integral .even) = K) (hn : ∃ s m e, D.read X = .number s m e) (w : World) : (callFunc 129 #[.float .f64 X]).run Tryd.prog w = .ok (.value (.float .f64 K)) w := by
  rw [run_callFunc_extern Tryd.func129 (by kernel_rfl) (by kernel_rfl) (by kernel_rfl) (e := Extern.MathFloor.toIntegral "math.RoundToEven" .even) (by kernel_rfl)]
  obtain ⟨s, m, e, hr⟩ := hn
  have hr' : FloatKind.f64.decode X = .number s m e := hr
  rw [hr] at h
  have h' : FloatKind.f64.encode ((Ieee.Datum.number s m e).integral .even) = K := h
  have e2 : (Extern.MathFloor.toIntegral "math.RoundToEven" .even #[.float .f64 X]).run Tryd.prog w = .ok (.float .f64 K) w := by
    rw [← h']
    show Sem.run _ (match FloatKind.f64.decode X with | .nan _ _ => _ | d => (pure (Value.float .f64 (FloatKind.f64.encode (d.integral .even))) : Sem Value)) w = _
    rw [hr']
    rfl
  rw [e2]
  rfl

theorem iNearest_z (X K : Nat) (hx : ∀ w, (callFunc 129 #[.float .f64 X]).run Tryd.prog w = .ok (.value (.float .f64 K)) w) (ho : (FloatKind.f64.format.order K 0 == some .eq) = true) (w : World) :
    Calls Tryd.prog 128 #[.float .f64 X] w fun e w' => e = .returned (.float .f64 0) ∧ w = w' := by
  go_enter Tryd.func128, Tryd.ntmps128
  go_wp2
  go_ret
  exact ⟨rfl, rfl⟩

theorem iNearest_n (X K : Nat) (hx : ∀ w, (callFunc 129 #[.float .f64 X]).run Tryd.prog w = .ok (.value (.float .f64 K)) w) (ho : (FloatKind.f64.format.order K 0 == some .eq) = false) (w : World) :
    Calls Tryd.prog 128 #[.float .f64 X] w fun e w' => e = .returned (.float .f64 K) ∧ w = w' := by
  go_enter Tryd.func128, Tryd.ntmps128
  go_wp2
  go_ret
  exact ⟨rfl, rfl⟩

theorem isTypeOf (v : Value) (w : World) : (Extern.ReflectliteType.typeOf #[.iface 291 v]).run Tryd.prog w = .ok (.iface 245 (.agg #[.pointer (some ⟨15, 291, none⟩)])) w := by kernel_rfl

theorem isComparable (w : World) : ((Extern.ReflectliteType.method fun t => do Extern.Rtype.noPackHeld "Comparable" t; pure (.bool (← typeInfo t).comparable)) #[.agg #[.pointer (some ⟨15, 291, none⟩)]]).run Tryd.prog w = .ok (.bool true) w := by kernel_rfl

theorem isCompCall (w : World) : (callFunc 271 #[.agg #[.pointer (some ⟨15, 291, none⟩)]]).run Tryd.prog w = .ok (Next.value (.bool true)) w := by
  have h32 := @run_callFunc_extern Tryd.prog 271 _ (Extern.ReflectliteType.method fun t => do Extern.Rtype.noPackHeld "Comparable" t; pure (.bool (← typeInfo t).comparable)) Tryd.func271 (by kernel_rfl) (by kernel_rfl) (by kernel_rfl) (by kernel_rfl)
  rw [h32, isComparable]
  rfl

theorem isMethodComparable (v : Value) (w : World) : (Go.method 435 245 v "Comparable").run Tryd.prog w = .ok (271, v) w := by kernel_rfl

theorem isComp : (Tryd.prog.info? 291).map (·.comparable) = some true := by kernel_rfl

theorem isSize : (Tryd.prog.info? 293).map (·.size) = some 1 := by kernel_rfl

theorem noIsE (v : Value) (xT : TypeId) (w : World) : (Instr.typeAssert (.iface 291 v) xT 247 true).run Tryd.prog w = .ok (.tuple #[.nilIface, .bool false]) w := run_typeAssert_lacksB Tryd.underlying247 (by kernel_rfl) (by kernel_rfl) v xT w

theorem noUnwrapE (v : Value) (xT : TypeId) (w : World) : (Instr.typeAssert (.iface 291 v) xT 250 true).run Tryd.prog w = .ok (.tuple #[.nilIface, .bool false]) w := run_typeAssert_lacksB Tryd.underlying250 (by kernel_rfl) (by kernel_rfl) v xT w

theorem noUnwrapsE (v : Value) (xT : TypeId) (w : World) : (Instr.typeAssert (.iface 291 v) xT 252 true).run Tryd.prog w = .ok (.tuple #[.nilIface, .bool false]) w := run_typeAssert_lacksB Tryd.underlying252 (by kernel_rfl) (by kernel_rfl) v xT w

set_option maxRecDepth 100000 in
/-- errors.Is(x, x), x a pointer to an errors.errorString. -/
theorem is_same (a : Addr) (w : World) :
    Calls Tryd.prog 126 #[.iface 291 (.pointer (some a)), .iface 291 (.pointer (some a))] w fun e w' => e = .returned (.bool true) ∧ w' = w := by
  obtain ⟨i, hi, hcmp⟩ := Option.map_eq_some_iff.1 isComp
  obtain ⟨j, hj, hjs⟩ := Option.map_eq_some_iff.1 isSize
  have h8 := @run_callFunc_extern Tryd.prog 167 _ Extern.ReflectliteType.typeOf Tryd.func167 (by kernel_rfl) (by kernel_rfl) (by kernel_rfl) (by kernel_rfl)
  have tT := isTypeOf
  have cT := isCompCall
  have mR := isMethodComparable
  have heq := run_eql_iface_ptr_same (P := Tryd.prog) w a Tryd.underlying90 Tryd.underlying291 hi hcmp hj
  go_enter Tryd.func126, Tryd.ntmps126
  go_wp2
  refine wp_loop_rounds 1 ?_
  rw [rounds_succ]
  go_wp2
  go_ret
  exact ⟨rfl, rfl⟩

set_option maxRecDepth 100000 in
/-- errors.Is(x, y), two different pointers to errors.errorString. -/
theorem is_other (a b : Addr) (ca cb : Array Value) (ta tb : TypeId) (w : World) (hne : a ≠ b) (ha : w.heap[a.block]? = some (.cells ca ta (0, 0))) (hb : w.heap[b.block]? = some (.cells cb tb (0, 0))) :
    Calls Tryd.prog 126 #[.iface 291 (.pointer (some a)), .iface 291 (.pointer (some b))] w fun e w' => e = .returned (.bool false) ∧ w' = w := by
  obtain ⟨i, hi, hcmp⟩ := Option.map_eq_some_iff.1 isComp
  obtain ⟨j, hj, hjs⟩ := Option.map_eq_some_iff.1 isSize
  have h8 := @run_callFunc_extern Tryd.prog 167 _ Extern.ReflectliteType.typeOf Tryd.func167 (by kernel_rfl) (by kernel_rfl) (by kernel_rfl) (by kernel_rfl)
  have tT := isTypeOf
  have cT := isCompCall
  have mR := isMethodComparable
  have nE := noIsE
  have uE := noUnwrapE
  have vE := noUnwrapsE
  have heq := run_eql_iface_ptr_other (P := Tryd.prog) w Tryd.underlying90 Tryd.underlying291 hi hcmp hj (by rw [hjs]; decide) hne ha hb
  go_enter Tryd.func126, Tryd.ntmps126
  go_wp2
  refine wp_loop_rounds 1 ?_
  rw [rounds_succ]
  go_wp2
  go_ret
  exact ⟨rfl, rfl⟩

@[go_sem] theorem semAtSome (l : Nat) (ρ : Operand → Value) (o : Oper) (h : ∀ c, o.op ≠ .defer c) : Oper.semAt (some l) ρ o = execOp ρ o := Oper.semAt_some l ρ o h

def InK (n : Int) : Prop := -1000 ≤ n ∧ n ≤ 1000

def OkC (c : E4) : Prop := InK c.a ∧ InK c.b ∧ amtB c.q = true ∧ 1 ≤ c.s ∧ c.s ≤ 1000000

def MapP (n : Nat) (x : Nat → E4) : Prop := ∀ i, i < n → OkC (x i) ∧ (i = 0 ∨ Bef (x (i - 1)) (x i))

theorem MapP.step {k : Nat} {x : Nat → E4} (h : MapP k x) (h1 : OkC (x k)) (h2 : k = 0 ∨ Bef (x (k - 1)) (x k)) : MapP (k + 1) x := fun i hi => by
  rcases Nat.lt_or_eq_of_le (Nat.le_of_lt_succ hi) with h3 | rfl
  · exact h i h3
  · exact ⟨h1, h2⟩

/-- The errors that are variables: each points to a cell of its own. -/
structure Sent (w : World) (A : Nat → Addr) : Prop where
  c0 : w.cell? ⟨2, 0, none⟩ = some (.iface 291 (.pointer (some (A 0))))
  c1 : w.cell? ⟨0, 0, none⟩ = some (.iface 291 (.pointer (some (A 1))))
  c2 : w.cell? ⟨1, 0, none⟩ = some (.iface 291 (.pointer (some (A 2))))
  c3 : w.cell? ⟨3, 0, none⟩ = some (.iface 291 (.pointer (some (A 3))))
  c4 : w.cell? ⟨4, 0, none⟩ = some (.iface 291 (.pointer (some (A 4))))
  b : ∀ i, i < 5 → ∃ c t, w.heap[(A i).block]? = some (.cells c t (0, 0))
  ne : ∀ i j, i < 5 → j < 5 → i ≠ j → A i ≠ A j

theorem cell_below {w w' : World} {a : Addr} {v : Value} (h : w.cell? a = some v) (hb : Below w.heap.size w w') : w'.cell? a = some v := by
  have hlt : a.block < w.heap.size := by
    rcases Nat.lt_or_ge a.block w.heap.size with h' | h'
    · exact h'
    · simp [World.cell?, Array.getElem?_eq_none h'] at h
  unfold World.cell? at h ⊢
  rw [hb.block _ hlt]
  exact h

theorem Sent.stay {w w' : World} {A : Nat → Addr} (h : Sent w A) (hb : Below w.heap.size w w') : Sent w' A :=
  ⟨cell_below h.c0 hb, cell_below h.c1 hb, cell_below h.c2 hb, cell_below h.c3 hb, cell_below h.c4 hb, fun i hi => by
    obtain ⟨c, t, e⟩ := h.b i hi
    exact ⟨c, t, by rw [hb.block _ (lt_of_block e)]; exact e⟩, h.ne⟩

theorem code_1 (A : Nat → Addr) (w : World) (S : Sent w A) : Calls Tryd.prog 62 #[.iface 291 (.pointer (some (A 1)))] w fun e w' => e = .returned (.int .i64 2) ∧ w' = w := by
  have c0 := S.c0
  have c1 := S.c1
  have HS := hid S
  clear S
  go_enter Tryd.func62, Tryd.ntmps62
  go_wp2_with fail
  refine (is_other (A 1) (A 0) _ _ _ _ _ (HS.out.ne 1 0 (by omega) (by omega) (by omega)) (HS.out.b 1 (by omega)).choose_spec.choose_spec (HS.out.b 0 (by omega)).choose_spec.choose_spec).mono ?_
  rintro e0 u0 ⟨rfl, rfl⟩
  go_wp2_with fail
  refine (is_same (A 1) _).mono ?_
  rintro e9 u9 ⟨rfl, rfl⟩
  go_wp2
  go_ret
  exact ⟨rfl, rfl⟩

theorem err_star : "*" ++ "errors.errorString" = "*errors.errorString" := by decide

theorem row_err (u : TypeId) (h : Tryd.prog.typeName? 3 u = some "*errors.errorString") : u = 291 :=
  typeName_ptr_named (nm := "errors.errorString") (by rw [err_star]; kernel_rfl) (by kernel_rfl) (by decide) u (by rw [err_star]; exact h)

theorem round_any (X K : Nat) (h : D.write ((D.read X).integral .even) = K) (hn : (∃ s m e, D.read X = .number s m e) ∨ ∃ s, D.read X = .infinity s) (w : World) : (callFunc 129 #[.float .f64 X]).run Tryd.prog w = .ok (.value (.float .f64 K)) w := by
  rcases hn with hn | ⟨s, hr⟩
  · exact round_even X K h hn w
  · rw [run_callFunc_extern Tryd.func129 (by kernel_rfl) (by kernel_rfl) (by kernel_rfl) (e := Extern.MathFloor.toIntegral "math.RoundToEven" .even) (by kernel_rfl)]
    have hr' : FloatKind.f64.decode X = .infinity s := hr
    rw [hr] at h
    have h' : FloatKind.f64.encode ((Ieee.Datum.infinity s).integral .even) = K := h
    have e2 : (Extern.MathFloor.toIntegral "math.RoundToEven" .even #[.float .f64 X]).run Tryd.prog w = .ok (.float .f64 K) w := by
      rw [← h']
      show Sem.run _ (match FloatKind.f64.decode X with | .nan _ _ => _ | d => (pure (Value.float .f64 (FloatKind.f64.encode (d.integral .even))) : Sem Value)) w = _
      rw [hr']
      rfl
    rw [e2]
    rfl

def limB (l : Nat) : Bool := amtB l && decide (l ≠ 0)

theorem gt0_lim {l : Nat} (hl : l < 4294967296) (hf : finB l = true) : (FloatKind.f32.format.order l 0 == some .gt) = limB l := by
  have hw : FW l := ⟨hl, finB_iff.1 hf⟩
  have h0 : FW 0 := ⟨by decide, by decide⟩
  have hI := INF_val
  have hmg := hw.2
  rw [Bool.eq_iff_iff]
  refine (gt_sv hw h0).trans ?_
  unfold limB
  rw [Bool.and_eq_true, amtB_iff, decide_eq_true_eq, show sv 0 = 0 by decide]
  unfold sv
  by_cases hs : 2147483648 ≤ l
  · rw [if_pos hs]
    constructor
    · intro h; omega
    · intro h; omega
  · have hm : mg l = l := by unfold mg; omega
    rw [if_neg hs, hm]
    constructor
    · intro h
      refine ⟨by omega, ?_⟩
      rintro rfl
      rw [show val 0 = 0 by decide] at h
      omega
    · intro h
      have := valPos1 h.2
      omega

theorem lim_fin {l : Nat} (h : finB l = false) : limB l = false := by
  unfold limB
  cases ha : amtB l with
  | false => rfl
  | true => rw [amt_fin ha] at h; exact Bool.noConfusion h

theorem iLimit (l : Nat) (hl : l < 4294967296) (w : World) : Calls Tryd.prog 130 #[.float .f32 l] w fun e w' => e = .returned (.bool (limB l)) ∧ Below w.heap.size w w' := by
  have HL := hid hl
  rcases hf : finB l with _ | _
  · rw [lim_fin hf]
    have HF := hid hf
    clear hl hf
    go_enter Tryd.func130, Tryd.ntmps130
    go_wp2_with fail
    refine (isFinite_f l HL.out HF.out _).mono ?_
    rintro e u ⟨rfl, b⟩
    go_wp2
    go_ret
    exact ⟨rfl, b⟩
  · have hg := gt0_lim hl hf
    have HF := hid hf
    clear hl hf
    generalize limB l = r at hg ⊢
    go_enter Tryd.func130, Tryd.ntmps130
    go_wp2_with fail
    refine (isFinite_t l HL.out HF.out _).mono ?_
    rintro e u ⟨rfl, rfl⟩
    go_wp2
    go_ret
    exact ⟨rfl, Below.refl _ _⟩

theorem sLimit (l : Nat) (hl : l < 4294967296) (w : World) : Calls Tryd.prog 65 #[.float .f32 l] w fun e w' => e = .returned (.bool (limB l)) ∧ Below w.heap.size w w' := by
  have HL := hid hl
  rcases hf : finB l with _ | _
  · rw [lim_fin hf]
    have HF := hid hf
    clear hl hf
    go_enter Tryd.func65, Tryd.ntmps65
    go_wp2_with fail
    refine (sFinite_f l HL.out HF.out _).mono ?_
    rintro e u ⟨rfl, b⟩
    go_wp2
    go_ret
    exact ⟨rfl, b⟩
  · have hg := gt0_lim hl hf
    have HF := hid hf
    clear hl hf
    generalize limB l = r at hg ⊢
    go_enter Tryd.func65, Tryd.ntmps65
    go_wp2_with fail
    refine (sFinite_t l HL.out HF.out _).mono ?_
    rintro e u ⟨rfl, rfl⟩
    go_wp2
    go_ret
    exact ⟨rfl, Below.refl _ _⟩

theorem iFoldsG_n {x l w q Q K k : Nat} (hu : FoldG x l w q Q K k) (hz : (D.order K 0 == some .eq) = false) (W : World) :
    Calls Tryd.prog 69 #[.float .f32 x, .float .f32 l] W fun e W' => e = .returned (.float .f32 k) ∧ W = W' := by
  have cQ := fun w => run_convert_float_float (P := Tryd.prog) w 22 77 .f32 .f64 _ _ (by rw [Tryd.underlying22]; rfl) Tryd.underlying77 hu.cQ
  have ck := fun w => run_convert_float_float (P := Tryd.prog) w 77 22 .f64 .f32 _ _ (by rw [Tryd.underlying77]; rfl) Tryd.underlying22 hu.ck
  have mq := fun w => run_float_arith (P := Tryd.prog) w .quo 22 .f32 _ _ _ hu.hq
  have mw := fun w => run_float_arith (P := Tryd.prog) w .mul 22 .f32 _ _ _ hu.hw
  have rr := fun w => round_any Q K hu.hK hu.rd w
  have HR := hid rr
  have HZ := hid hz
  clear hu hz rr
  go_enter Tryd.func69, Tryd.ntmps69
  go_wp2_with fail
  refine (iNearest_n Q K HR.out HZ.out _).mono ?_
  rintro e u ⟨rfl, rfl⟩
  go_wp2
  go_ret
  exact ⟨rfl, rfl⟩

theorem iFoldsG_z {x l w q Q K k : Nat} (hu : FoldG x l w q Q K k) (hz : (D.order K 0 == some .eq) = true) (W : World) :
    Calls Tryd.prog 69 #[.float .f32 x, .float .f32 l] W fun e W' => e = .returned (.float .f32 0) ∧ W = W' := by
  have cQ := fun w => run_convert_float_float (P := Tryd.prog) w 22 77 .f32 .f64 _ _ (by rw [Tryd.underlying22]; rfl) Tryd.underlying77 hu.cQ
  have ck := fun w => run_convert_float_float (P := Tryd.prog) w 77 22 .f64 .f32 _ _ (by rw [Tryd.underlying77]; rfl) Tryd.underlying22 hu.ck
  have mq := fun w => run_float_arith (P := Tryd.prog) w .quo 22 .f32 _ _ _ hu.hq
  have mw := fun w => run_float_arith (P := Tryd.prog) w .mul 22 .f32 _ _ _ hu.hw
  have rr := fun w => round_any Q K hu.hK hu.rd w
  have c0 := fun w => run_convert_float_float (P := Tryd.prog) w 77 22 .f64 .f32 0 0 (by rw [Tryd.underlying77]; rfl) Tryd.underlying22 (by decide)
  have HR := hid rr
  have HZ := hid hz
  clear hu hz rr ck
  go_enter Tryd.func69, Tryd.ntmps69
  go_wp2_with fail
  refine (iNearest_z Q K HR.out HZ.out _).mono ?_
  rintro e u ⟨rfl, rfl⟩
  go_wp2
  go_ret
  exact ⟨rfl, rfl⟩

theorem sNearG {x l w q Q K k : Nat} (hu : FoldG x l w q Q K k) (W : World) :
    Calls Tryd.prog 66 #[.float .f32 q] W fun e W' => e = .returned (.float .f32 k) ∧ W = W' := by
  have cQ := fun w => run_convert_float_float (P := Tryd.prog) w 22 77 .f32 .f64 _ _ (by rw [Tryd.underlying22]; rfl) Tryd.underlying77 hu.cQ
  have ck := fun w => run_convert_float_float (P := Tryd.prog) w 77 22 .f64 .f32 _ _ (by rw [Tryd.underlying77]; rfl) Tryd.underlying22 hu.ck
  have mq := fun w => run_float_arith (P := Tryd.prog) w .quo 22 .f32 _ _ _ hu.hq
  have mw := fun w => run_float_arith (P := Tryd.prog) w .mul 22 .f32 _ _ _ hu.hw
  have rr := fun w => round_any Q K hu.hK hu.rd w
  clear hu mq mw
  go_enter Tryd.func66, Tryd.ntmps66
  go_wp2
  go_ret
  exact ⟨rfl, rfl⟩

theorem round_nan (X : Nat) (h : DINF < X % 9223372036854775808) (w : World) : ∃ K w1, (callFunc 129 #[.float .f64 X]).run Tryd.prog w = .ok (.value (.float .f64 K)) w1 ∧ (w1 = w ∨ w1 = w.drew) ∧ DINF < K % 9223372036854775808 := by
  obtain ⟨s, t, hr⟩ := read_nanD h
  have hr' : FloatKind.f64.decode X = .nan s t := hr
  rw [run_callFunc_extern Tryd.func129 (by kernel_rfl) (by kernel_rfl) (by kernel_rfl) (e := Extern.MathFloor.toIntegral "math.RoundToEven" .even) (by kernel_rfl)]
  have nq := quiet_nan s t
  have e1 : (Extern.MathFloor.toIntegral "math.RoundToEven" .even #[.float .f64 X]) = (match FloatKind.f64.decode X with
    | .nan s t => if FloatKind.f64.format.quiet t = t then pure (Value.float .f64 X) else (do
        let kept ← choose (.extern "math.Floor,Ceil,Trunc,RoundToEven.signallingNaN kept" 2)
        pure (Value.float .f64 (if kept == 1 then X else FloatKind.f64.encode (.nan s (FloatKind.f64.format.quiet t)))))
    | d => pure (Value.float .f64 (FloatKind.f64.encode (d.integral .even)))) := rfl
  rw [hr'] at e1
  have e2 : ∃ K w1, (Extern.MathFloor.toIntegral "math.RoundToEven" .even #[.float .f64 X]).run Tryd.prog w = .ok (.float .f64 K) w1 ∧ (w1 = w ∨ w1 = w.drew) ∧ DINF < K % 9223372036854775808 := by
    rw [e1]
    by_cases e : FloatKind.f64.format.quiet t = t
    · refine ⟨X, w, ?_, .inl rfl, h⟩
      simp only [if_pos e]
      rfl
    · simp only [if_neg e]
      refine ⟨_, w.drew, by simp [Question.forced]; rfl, .inr rfl, ?_⟩
      split
      · exact h
      · exact nq
  obtain ⟨K, w1, h1, h2, h3⟩ := e2
  exact ⟨K, w1, by rw [h1]; rfl, h2, h3⟩

theorem round_at (X : Nat) (w : World) : ∃ K w1, (callFunc 129 #[.float .f64 X]).run Tryd.prog w = .ok (.value (.float .f64 K)) w1 ∧ (w1 = w ∨ w1 = w.drew) := by
  by_cases h : DINF < X % 9223372036854775808
  · obtain ⟨K, w1, h1, h2, _⟩ := round_nan X h w
    exact ⟨K, w1, h1, h2⟩
  · refine ⟨_, w, round_any X _ rfl ?_ w, .inl rfl⟩
    rw [DINF_val] at h
    unfold Ieee.Format.read
    simp only [sw_D, bin_D, infRung_D]
    by_cases h1 : X % 9223372036854775808 < 4503599627370496
    · rw [if_pos h1]; exact .inl ⟨_, _, _, rfl⟩
    · rw [if_neg h1]
      by_cases h2 : X % 9223372036854775808 < 9218868437227405312
      · rw [if_pos h2]; exact .inl ⟨_, _, _, rfl⟩
      · rw [if_neg h2, if_pos (by omega)]; exact .inr ⟨_, rfl⟩

theorem iNearest_nan (X : Nat) (h : DINF < X % 9223372036854775808) (w : World) : Calls Tryd.prog 128 #[.float .f64 X] w fun e w' => ∃ K, e = .returned (.float .f64 K) ∧ DINF < K % 9223372036854775808 ∧ (w' = w ∨ w' = w.drew) := by
  obtain ⟨K, w1, h1, h2, h3⟩ := round_nan X h w
  have ho : (FloatKind.f64.format.order K 0 == some .eq) = false := by show (Ieee.Format.order D K 0 == some .eq) = false; rw [order_nan64 h3]; rfl
  have H3 := hid h3
  have H2 := hid h2
  clear h h3 h2
  go_enter Tryd.func128, Tryd.ntmps128
  go_wp2
  go_ret
  exact ⟨K, rfl, H3.out, H2.out⟩

theorem iNearest_any (X : Nat) (w : World) : Calls Tryd.prog 128 #[.float .f64 X] w fun e w' => ∃ K, e = .returned (.float .f64 K) ∧ (w' = w ∨ w' = w.drew) := by
  obtain ⟨K, w1, h1, h2⟩ := round_at X w
  have H2 := hid h2
  clear h2
  cases ho : (FloatKind.f64.format.order K 0 == some .eq) with
  | false =>
    go_enter Tryd.func128, Tryd.ntmps128
    go_wp2
    go_ret
    exact ⟨K, rfl, H2.out⟩
  | true =>
    go_enter Tryd.func128, Tryd.ntmps128
    go_wp2
    go_ret
    exact ⟨0, rfl, H2.out⟩

theorem sNear_nan (q : Nat) (h : INF < mg q) (w : World) : Calls Tryd.prog 66 #[.float .f32 q] w fun e w' => ∃ k, e = .returned (.float .f32 k) ∧ INF < mg k ∧ Below w.heap.size w w' := by
  obtain ⟨Q, c1, c2, _⟩ := run_conv_nan (P := Tryd.prog) w 22 77 q Tryd.underlying22 Tryd.underlying77 h
  obtain ⟨K, w1, h1, h2, h3⟩ := round_nan Q c2 w.drew
  obtain ⟨k, n1, n2, _⟩ := run_narrow_nan (P := Tryd.prog) w1 77 22 K Tryd.underlying77 Tryd.underlying22 h3
  have B := hid (show Below w.heap.size w w1.drew from (below_wf (Below.refl w.heap.size w).drew h2).drew)
  have N := hid n2
  clear h h2 h3 n2 c2
  go_enter Tryd.func66, Tryd.ntmps66
  go_wp2
  go_ret
  exact ⟨k, rfl, N.out, B.out⟩

theorem iFolds_nan (d l w9 : Nat) (hw : S.mul 1073741824 l = some w9) (hq : S.div d w9 = none) (w : World) : Calls Tryd.prog 69 #[.float .f32 d, .float .f32 l] w fun e w' => ∃ k, e = .returned (.float .f32 k) ∧ INF < mg k ∧ Below w.heap.size w w' := by
  have mw := fun w => run_float_arith (P := Tryd.prog) w .mul 22 .f32 _ _ _ hw
  obtain ⟨q, q1, q2, _⟩ := run_arith_nan (P := Tryd.prog) w .quo (.inr (.inr (.inr rfl))) 22 d w9 hq
  obtain ⟨Q, c1, c2, _⟩ := run_conv_nan (P := Tryd.prog) w.drew 22 77 q Tryd.underlying22 Tryd.underlying77 q2
  have C2 := hid c2
  have B := hid (show Below w.heap.size w w.drew.drew from (Below.refl w.heap.size w).drew.drew)
  clear hw hq q2 c2
  go_enter Tryd.func69, Tryd.ntmps69
  go_wp2_with fail
  refine (iNearest_nan Q C2.out _).mono ?_
  rintro e u ⟨K, rfl, h3, h2⟩
  obtain ⟨k, n1, n2, _⟩ := run_narrow_nan (P := Tryd.prog) u 77 22 K Tryd.underlying77 Tryd.underlying22 h3
  have B2 := hid (show Below w.heap.size w u.drew from (below_wf B.out h2).drew)
  have N := hid n2
  clear h3 h2 n2
  go_wp2
  go_ret
  exact ⟨k, rfl, N.out, B2.out⟩

theorem iFolds_any (d l w9 : Nat) (hw : S.mul 1073741824 l = some w9) (w : World) : Calls Tryd.prog 69 #[.float .f32 d, .float .f32 l] w fun e w' => ∃ k, e = .returned (.float .f32 k) ∧ Below w.heap.size w w' := by
  have mw := fun w => run_float_arith (P := Tryd.prog) w .mul 22 .f32 _ _ _ hw
  obtain ⟨q, wq, q1, q2, q3⟩ := arith_at (P := Tryd.prog) .quo (.inr (.inr (.inr rfl))) 22 d w9 w
  obtain ⟨zf, wf, c0, d0, _⟩ := conv_any (P := Tryd.prog) 22 77 q q3 Tryd.underlying22 Tryd.underlying77
  have B := hid (show Below w.heap.size w (wf wq) from below_wf (below_wf (Below.refl w.heap.size w) q2) (d0 _))
  clear hw q2 q3 d0
  go_enter Tryd.func69, Tryd.ntmps69
  go_wp2_with fail
  refine (iNearest_any _ _).mono ?_
  rintro e u ⟨K, rfl, h2⟩
  obtain ⟨k, w2, n1, n2⟩ := narrow_any (P := Tryd.prog) 77 22 K Tryd.underlying77 Tryd.underlying22 u
  have B2 := hid (show Below w.heap.size w w2 from below_wf (below_wf B.out h2) n2)
  clear h2 n2
  go_wp2
  go_ret
  exact ⟨k, rfl, B2.out⟩

/-- The errors that are variables, with the sixth. -/
structure Sent6 (w : World) (A : Nat → Addr) : Prop where
  s5 : Sent w A
  c5 : w.cell? ⟨5, 0, none⟩ = some (.iface 291 (.pointer (some (A 5))))
  b5 : ∃ c t, w.heap[(A 5).block]? = some (.cells c t (0, 0))
  n5 : ∀ j, j < 5 → A 5 ≠ A j

theorem Sent6.stay {w w' : World} {A : Nat → Addr} (h : Sent6 w A) (hb : Below w.heap.size w w') : Sent6 w' A :=
  ⟨h.s5.stay hb, cell_below h.c5 hb, by
    obtain ⟨c, t, e⟩ := h.b5
    exact ⟨c, t, by rw [hb.block _ (lt_of_block e)]; exact e⟩, h.n5⟩

theorem code_5 (A : Nat → Addr) (w : World) (S : Sent6 w A) : Calls Tryd.prog 62 #[.iface 291 (.pointer (some (A 5)))] w fun e w' => e = .returned (.int .i64 4) ∧ w' = w := by
  have c0 := S.s5.c0
  have c1 := S.s5.c1
  have c2 := S.s5.c2
  have c3 := S.s5.c3
  have c4 := S.s5.c4
  have HS := hid S
  clear S
  go_enter Tryd.func62, Tryd.ntmps62
  go_wp2_with fail
  refine (is_other (A 5) (A 0) _ _ _ _ _ (HS.out.n5 0 (by omega)) HS.out.b5.choose_spec.choose_spec (HS.out.s5.b 0 (by omega)).choose_spec.choose_spec).mono ?_
  rintro e0 u0 ⟨rfl, rfl⟩
  go_wp2_with fail
  refine (is_other (A 5) (A 1) _ _ _ _ _ (HS.out.n5 1 (by omega)) HS.out.b5.choose_spec.choose_spec (HS.out.s5.b 1 (by omega)).choose_spec.choose_spec).mono ?_
  rintro e1 u1 ⟨rfl, rfl⟩
  go_wp2_with fail
  refine (is_other (A 5) (A 2) _ _ _ _ _ (HS.out.n5 2 (by omega)) HS.out.b5.choose_spec.choose_spec (HS.out.s5.b 2 (by omega)).choose_spec.choose_spec).mono ?_
  rintro e2 u2 ⟨rfl, rfl⟩
  go_wp2_with fail
  refine (is_other (A 5) (A 3) _ _ _ _ _ (HS.out.n5 3 (by omega)) HS.out.b5.choose_spec.choose_spec (HS.out.s5.b 3 (by omega)).choose_spec.choose_spec).mono ?_
  rintro e3 u3 ⟨rfl, rfl⟩
  go_wp2_with fail
  refine (is_other (A 5) (A 4) _ _ _ _ _ (HS.out.n5 4 (by omega)) HS.out.b5.choose_spec.choose_spec (HS.out.s5.b 4 (by omega)).choose_spec.choose_spec).mono ?_
  rintro e4 u4 ⟨rfl, rfl⟩
  go_wp2
  go_ret
  exact ⟨rfl, rfl⟩

/-- What the rows' condition says of the six variables. -/
theorem sent6_of {W : World} (h : laidMetH Tryd.prog Rows.fnExactUnfoldSpeedsRow.laid W) : ∃ A, Sent6 W A ∧ (W.var? Tryd.prog "loop.example/g01224/impl.errUnfit" = some #[.iface 291 (.pointer (some (A 0)))] ∧ W.var? Tryd.prog "loop.example/g01224/impl.errBeyond" = some #[.iface 291 (.pointer (some (A 1)))] ∧ W.var? Tryd.prog "loop.example/g01224/impl.errCrowded" = some #[.iface 291 (.pointer (some (A 2)))] ∧ W.var? Tryd.prog "loop.example/g01224/impl.errNoText" = some #[.iface 291 (.pointer (some (A 3)))] ∧ W.var? Tryd.prog "loop.example/g01224/impl.errNowhere" = some #[.iface 291 (.pointer (some (A 4)))] ∧ W.var? Tryd.prog "loop.example/g01224/impl.errNoAnswer" = some #[.iface 291 (.pointer (some (A 5)))]) := by
  rw [MakeChecks.laidMetH_plain _ _ _ (by kernel_rfl)] at h
  obtain ⟨a0, a1, a2, a5, a3, a4, ⟨v0, v1, v2, v5, v3, v4⟩, ⟨b0, b1, b2, b5, b3, b4⟩, n01, n02, n05, n03, n04, n12, n15, n13, n14, n25, n23, n24, n53, n54, n34⟩ := laid_six (tp := 291) h
    (g0 := 2) (by kernel_rfl) (by kernel_rfl)
    (g1 := 0) (by kernel_rfl) (by kernel_rfl)
    (g2 := 1) (by kernel_rfl) (by kernel_rfl)
    (g3 := 5) (by kernel_rfl) (by kernel_rfl)
    (g4 := 3) (by kernel_rfl) (by kernel_rfl)
    (g5 := 4) (by kernel_rfl) (by kernel_rfl)
    Tryd.underlying90 row_err Tryd.underlying291 Tryd.underlying293 rfl rfl Tryd.underlying9 (by kernel_rfl) (by kernel_rfl)
  refine ⟨fun i => match i with | 0 => a0 | 1 => a1 | 2 => a2 | 3 => a3 | 4 => a4 | _ => a5, ⟨⟨?_, ?_, ?_, ?_, ?_, ?_, ?_⟩, ?_, b5, ?_⟩, v0, v1, v2, v3, v4, v5⟩
  · simpa using World.var?_cell (g := 2) (by kernel_rfl) v0 0
  · simpa using World.var?_cell (g := 0) (by kernel_rfl) v1 0
  · simpa using World.var?_cell (g := 1) (by kernel_rfl) v2 0
  · simpa using World.var?_cell (g := 3) (by kernel_rfl) v3 0
  · simpa using World.var?_cell (g := 4) (by kernel_rfl) v4 0
  · intro i hi
    match i, hi with
    | 0, _ => exact b0
    | 1, _ => exact b1
    | 2, _ => exact b2
    | 3, _ => exact b3
    | 4, _ => exact b4
  · intro i j hi hj hne
    match i, j, hi, hj, hne with
    | 0, 0, _, _, h => exact absurd rfl h
    | 0, 1, _, _, _ => exact n01
    | 0, 2, _, _, _ => exact n02
    | 0, 3, _, _, _ => exact n03
    | 0, 4, _, _, _ => exact n04
    | 1, 0, _, _, _ => exact n01.symm
    | 1, 1, _, _, h => exact absurd rfl h
    | 1, 2, _, _, _ => exact n12
    | 1, 3, _, _, _ => exact n13
    | 1, 4, _, _, _ => exact n14
    | 2, 0, _, _, _ => exact n02.symm
    | 2, 1, _, _, _ => exact n12.symm
    | 2, 2, _, _, h => exact absurd rfl h
    | 2, 3, _, _, _ => exact n23
    | 2, 4, _, _, _ => exact n24
    | 3, 0, _, _, _ => exact n03.symm
    | 3, 1, _, _, _ => exact n13.symm
    | 3, 2, _, _, _ => exact n23.symm
    | 3, 3, _, _, h => exact absurd rfl h
    | 3, 4, _, _, _ => exact n34
    | 4, 0, _, _, _ => exact n04.symm
    | 4, 1, _, _, _ => exact n14.symm
    | 4, 2, _, _, _ => exact n24.symm
    | 4, 3, _, _, _ => exact n34.symm
    | 4, 4, _, _, h => exact absurd rfl h
  · simpa using World.var?_cell (g := 5) (by kernel_rfl) v5 0
  · intro j hj
    match j, hj with
    | 0, _ => exact n05.symm
    | 1, _ => exact n15.symm
    | 2, _ => exact n25.symm
    | 3, _ => exact n53
    | 4, _ => exact n54

set_option maxRecDepth 100000 in
set_option maxHeartbeats 1000000 in
theorem iAllN_t (s : Value) (n : Nat) (x : Nat → Nat) (hx : ∀ k, k < n → x k < 4294967296) (hf : ∀ k, k < n → finB (x k) = true) (w : World) (hs : RdV w s n (flV x)) (hn : n ≤ 1048576) :
    Calls Tryd.prog 131 #[s, .func (.func 61) #[] #[]] w fun e w' => e = .returned (.bool true) ∧ Below w.heap.size w w' := by
  obtain ⟨p, cap, rfl, hc⟩ := hs
  have HC := hid hc
  have HN := hid hn
  have HX := hid hx
  have HF := hid hf
  clear hc hn hx hf
  go_enter Tryd.func131, Tryd.ntmps131
  go_wp2_with fail
  go_loopw [9] (fun i wr => ∃ k : Nat, k ≤ n ∧ i = .int .i64 k ∧ Hid (Below w.heap.size w wr)) (fun i _ => n - (intOf i).toNat)
  case atStart => exact ⟨0, by omega, rfl, hid (Below.refl _ _)⟩
  case round =>
    obtain ⟨k, hk, rfl, h0⟩ := hrel
    by_cases hlt : k < n
    · have HK := hid hlt
      have hn9 := HN.out
      have hkn : k < n := by omega
      have hk3 : (k : Int) < (n : Int) := by omega
      obtain ⟨b, o, rfl, hcell⟩ := HC.out (by omega)
      have c0 : wr.cell? ⟨b, o + k, none⟩ = some (.float .f32 (x k)) := by have h9 := hcell k hkn; rw [h0.out.cell (block_lt_of_cell h9)]; exact h9
      have i1 := fun w => run_indexAt (P := Tryd.prog) (t := 96) (e := 22) Tryd.underlying96 info_f1 (b := b) (o := o) (n := n) (cap := cap) (k := k) hkn w
      simp only [Nat.mul_one] at i1
      have KN := hid hkn
      have FX := hid (HF.out k hkn)
      clear hcell
      go_wp2_with fail
      refine (isFinite_t (x k) (HX.out k KN.out) FX.out _).mono ?_
      rintro e u ⟨rfl, rfl⟩
      clear c0
      have hw9 : wrap64 ((k : Int) + 1) = (k : Int) + 1 := by unfold wrap64; omega
      go_wp2
      go_roundw
      case rel => exact ⟨k + 1, by have := HK.out; omega, by go_num, h0⟩
      case measure => have := KN.out; simp [intOf]; omega
    · obtain rfl : k = n := by omega
      have hk3 : ¬ (k : Int) < (k : Int) := by omega
      go_wp2
      go_ret
      exact ⟨rfl, h0.out⟩

set_option maxRecDepth 100000 in
set_option maxHeartbeats 1000000 in
theorem iAllN_f (s : Value) (n : Nat) (x : Nat → Nat) (hx : ∀ k, k < n → x k < 4294967296) (hf : ¬ ∀ k, k < n → finB (x k) = true) (w : World) (hs : RdV w s n (flV x)) (hn : n ≤ 1048576) :
    Calls Tryd.prog 131 #[s, .func (.func 61) #[] #[]] w fun e w' => e = .returned (.bool false) ∧ Below w.heap.size w w' := by
  obtain ⟨p, cap, rfl, hc⟩ := hs
  have HC := hid hc
  have HN := hid hn
  have HX := hid hx
  have HF := hid hf
  obtain ⟨j, hj, hb, hg⟩ := first_bad (p := fun k => finB (x k)) hf
  have HJ := hid hj
  have HB := hid hb
  have HG := hid hg
  clear hb hg
  clear hc hn hx hf
  go_enter Tryd.func131, Tryd.ntmps131
  go_wp2_with fail
  go_loopw [9] (fun i wr => ∃ k : Nat, k ≤ j ∧ i = .int .i64 k ∧ Hid (Below w.heap.size w wr)) (fun i _ => n - (intOf i).toNat)
  case atStart => exact ⟨0, by omega, rfl, hid (Below.refl _ _)⟩
  case round =>
    obtain ⟨k, hk, rfl, h0⟩ := hrel
    by_cases hlt : k < j
    · have HK := hid hlt
      have hn9 := HN.out
      have hkn : k < n := by omega
      have hk3 : (k : Int) < (n : Int) := by omega
      obtain ⟨b, o, rfl, hcell⟩ := HC.out (by omega)
      have c0 : wr.cell? ⟨b, o + k, none⟩ = some (.float .f32 (x k)) := by have h9 := hcell k hkn; rw [h0.out.cell (block_lt_of_cell h9)]; exact h9
      have i1 := fun w => run_indexAt (P := Tryd.prog) (t := 96) (e := 22) Tryd.underlying96 info_f1 (b := b) (o := o) (n := n) (cap := cap) (k := k) hkn w
      simp only [Nat.mul_one] at i1
      have KN := hid hkn
      have FX := hid (HG.out k hlt)
      clear hcell
      go_wp2_with fail
      refine (isFinite_t (x k) (HX.out k KN.out) FX.out _).mono ?_
      rintro e u ⟨rfl, rfl⟩
      clear c0
      have hw9 : wrap64 ((k : Int) + 1) = (k : Int) + 1 := by unfold wrap64; omega
      go_wp2
      go_roundw
      case rel => exact ⟨k + 1, by have := HK.out; omega, by go_num, h0⟩
      case measure => have := KN.out; simp [intOf]; omega
    · obtain rfl : k = j := by omega
      have hn9 := HN.out
      have hk3 : (k : Int) < (n : Int) := by omega
      obtain ⟨b, o, rfl, hcell⟩ := HC.out (by omega)
      have c0 : wr.cell? ⟨b, o + k, none⟩ = some (.float .f32 (x k)) := by have h9 := hcell k hj; rw [h0.out.cell (block_lt_of_cell h9)]; exact h9
      have i1 := fun w => run_indexAt (P := Tryd.prog) (t := 96) (e := 22) Tryd.underlying96 info_f1 (b := b) (o := o) (n := n) (cap := cap) (k := k) hj w
      simp only [Nat.mul_one] at i1
      clear hcell
      go_wp2_with fail
      refine (isFinite_f (x k) (HX.out k HJ.out) HB.out _).mono ?_
      rintro e u ⟨rfl, b2⟩
      have B2 := hid (h0.out.trans (b2.mono h0.out.size))
      clear b2 c0
      go_wp2
      go_ret
      exact ⟨rfl, B2.out⟩

set_option maxRecDepth 100000 in
theorem iCheckN_t (s : Value) (n : Nat) (x : Nat → Nat) (hx : ∀ k, k < n → x k < 4294967296) (hf : ∀ k, k < n → finB (x k) = true) (l : Nat) (hl : l < 4294967296) (hb : limB l = true) (w : World) (hs : RdV w s n (flV x)) (hn : n ≤ 1048576) :
    Calls Tryd.prog 67 #[.float .f32 l, s] w fun e w' => e = .returned .nilIface ∧ Below w.heap.size w w' := by
  have HL := hid (fun w => by have := iLimit l hl w; rw [hb] at this; exact this)
  have HA := hid (fun w hs => iAllN_t s n x hx hf w hs hn)
  have RS := hid hs
  obtain ⟨p, cap, rfl, _⟩ := hs
  clear hl hb hx hf hn
  go_enter Tryd.func67, Tryd.ntmps67
  go_wp2_with fail
  refine (HL.out _).mono ?_
  rintro e u ⟨rfl, b⟩
  have B := hid b
  clear b
  go_wp2_with fail
  refine (HA.out _ (RS.out.stay B.out)).mono ?_
  rintro e u2 ⟨rfl, b2⟩
  have B2 := hid (B.out.trans (b2.mono B.out.size))
  clear b2
  go_wp2
  go_ret
  exact ⟨rfl, B2.out⟩

set_option maxRecDepth 100000 in
theorem iCheckN_l (A : Nat → Addr) (s : Value) (n : Nat) (x : Nat → Nat) (l : Nat) (hl : l < 4294967296) (hb : limB l = false) (w : World) (hs : RdV w s n (flV x)) (hA : Sent w A) :
    Calls Tryd.prog 67 #[.float .f32 l, s] w fun e w' => e = .returned (.iface 291 (.pointer (some (A 1)))) ∧ Below w.heap.size w w' := by
  have HL := hid (fun w => by have := iLimit l hl w; rw [hb] at this; exact this)
  have SA := hid hA
  obtain ⟨p, cap, rfl, _⟩ := hs
  clear hl hb hA
  go_enter Tryd.func67, Tryd.ntmps67
  go_wp2_with fail
  refine (HL.out _).mono ?_
  rintro e u ⟨rfl, b⟩
  have B := hid b
  have c1 := (SA.out.stay b).c1
  clear b
  go_wp2
  go_ret
  exact ⟨rfl, B.out⟩

set_option maxRecDepth 100000 in
theorem iCheckN_f (A : Nat → Addr) (s : Value) (n : Nat) (x : Nat → Nat) (hx : ∀ k, k < n → x k < 4294967296) (hf : ¬ ∀ k, k < n → finB (x k) = true) (l : Nat) (hl : l < 4294967296) (hb : limB l = true) (w : World) (hs : RdV w s n (flV x)) (hn : n ≤ 1048576) (hA : Sent w A) :
    Calls Tryd.prog 67 #[.float .f32 l, s] w fun e w' => e = .returned (.iface 291 (.pointer (some (A 1)))) ∧ Below w.heap.size w w' := by
  have HL := hid (fun w => by have := iLimit l hl w; rw [hb] at this; exact this)
  have HA := hid (fun w hs => iAllN_f s n x hx hf w hs hn)
  have RS := hid hs
  have SA := hid hA
  obtain ⟨p, cap, rfl, _⟩ := hs
  clear hl hb hx hf hn hA
  go_enter Tryd.func67, Tryd.ntmps67
  go_wp2_with fail
  refine (HL.out _).mono ?_
  rintro e u ⟨rfl, b⟩
  have B := hid b
  clear b
  go_wp2_with fail
  refine (HA.out _ (RS.out.stay B.out)).mono ?_
  rintro e u2 ⟨rfl, b2⟩
  have B2 := hid (B.out.trans (b2.mono B.out.size))
  have c1 := (SA.out.stay B2.out).c1
  clear b2
  go_wp2
  go_ret
  exact ⟨rfl, B2.out⟩

set_option maxRecDepth 100000 in
set_option maxHeartbeats 1000000 in
theorem iCloneF (s : Value) (n : Nat) (x : Nat → Nat) (h0 : 0 < n) (hn : n ≤ 1048576) (w : World) (hs : RdV w s n (flV x)) :
    Calls Tryd.prog 68 #[s] w fun e w' => ∃ B cs cap, e = .returned (.slice (some ⟨B, 0, none⟩) n cap) ∧ w.heap.size ≤ B ∧ LvV cs n (flV x) ∧ Kept w [(B, cs, 22)] w' := by
  obtain ⟨p, c, rfl, hc⟩ := hs
  obtain ⟨b, o, rfl, hcell⟩ := hc h0
  have H0 := hid h0
  have HN := hid hn
  have HD : Hid (∀ k, k < n → (w.alloc (.cells #[] 22)).cell? ((⟨b, o, none⟩ : Addr).add k) = some (flV x k)) := hid (fun k hk => by rw [Addr.add_lit]; exact (((Below.refl _ w).alloc (Nat.le_refl _) _).cell (block_lt_of_cell (hcell k hk))).trans (hcell k hk))
  have he : ∀ w, (binOp .eql 30 (.slice (some ⟨b, o, none⟩) n c) (.slice none 0 0)).run Tryd.prog w = .ok (.bool false) w := fun w => Go.Lib.run_eql_slice_nil w _ _ _ _ _ _ _ Tryd.underlying30
  clear hc hcell h0 hn
  go_enter Tryd.func68, Tryd.ntmps68
  go_wp2_with (at_builtin; refine wpList_append_allV rfl _ _ 30 rfl 22 Tryd.underlying30 _ 4 (by omega) infoz_f32 _ _ rfl rfl H0.out HN.out HD.out (fun B cs cap w1 hB h1 k1 => ?_))
  go_ret
  exact ⟨_, _, _, rfl, Nat.le_trans (by simp) hB, h1, ((Kept.nil w).alloc _).join k1⟩

set_option maxRecDepth 100000 in
theorem iResult_t (s : Value) (n : Nat) (x : Nat → Nat) (hx : ∀ k, k < n → x k < 4294967296) (hf : ∀ k, k < n → finB (x k) = true) (w : World) (hs : RdV w s n (flV x)) (hn : n ≤ 1048576) :
    Calls Tryd.prog 70 #[s, .func (.func 61) #[] #[]] w fun e w' => e = .returned (.tuple #[s, .int .i64 0]) ∧ Below w.heap.size w w' := by
  have HA := hid (fun w hs => iAllN_t s n x hx hf w hs hn)
  have RS := hid hs
  obtain ⟨p, cap, rfl, _⟩ := hs
  clear hx hf hn
  go_enter Tryd.func70, Tryd.ntmps70
  go_wp2_with fail
  refine (HA.out _ RS.out).mono ?_
  rintro e u ⟨rfl, b⟩
  have B := hid b
  clear b
  go_wp2
  exact bodyPost_ret (results_tmp2 rfl _ _ _) rfl ⟨rfl, B.out⟩

set_option maxRecDepth 100000 in
theorem iResult_f (A : Nat → Addr) (s : Value) (n : Nat) (x : Nat → Nat) (hx : ∀ k, k < n → x k < 4294967296) (hf : ¬ ∀ k, k < n → finB (x k) = true) (w : World) (hs : RdV w s n (flV x)) (hn : n ≤ 1048576) (hA : Sent6 w A) :
    Calls Tryd.prog 70 #[s, .func (.func 61) #[] #[]] w fun e w' => e = .returned (.tuple #[.slice none 0 0, .int .i64 4]) ∧ Below w.heap.size w w' := by
  have HA := hid (fun w hs => iAllN_f s n x hx hf w hs hn)
  have RS := hid hs
  have SA := hid hA
  obtain ⟨p, cap, rfl, _⟩ := hs
  clear hx hf hn hA
  go_enter Tryd.func70, Tryd.ntmps70
  go_wp2_with fail
  refine (HA.out _ RS.out).mono ?_
  rintro e u ⟨rfl, b⟩
  have B := hid b
  have S2 := hid (SA.out.stay b)
  have c5 := S2.out.c5
  clear b
  go_wp2_with fail
  refine (code_5 A _ S2.out).mono ?_
  rintro e u2 ⟨rfl, rfl⟩
  go_wp2
  exact bodyPost_ret (results_tmp2 rfl _ _ _) rfl ⟨rfl, B.out⟩

/-- What a step of the loop may rely on. -/
def Oracle (l w9 n : Nat) (Inv : Nat → (Nat → Nat) → Prop) : Prop := ∀ k z, 1 ≤ k → k < n → Inv k z → ∃ PF : Nat → Prop,
  (∀ d w1, d < 4294967296 → (∀ r, S.sub (z (k - 1)) (z k) = some r → d = r) → Calls Tryd.prog 69 #[.float .f32 d, .float .f32 l] w1 fun e w' => ∃ f, e = .returned (.float .f32 f) ∧ PF f ∧ Below w1.heap.size w1 w') ∧
  (∀ f, PF f → (S.order f 0 == some .eq) = true → Inv (k + 1) z) ∧
  (∀ f p2 v, PF f → (S.order f 0 == some .eq) = false → Vf w9 (z k) f p2 v → Inv (k + 1) (upN z k v))

set_option maxRecDepth 100000 in
set_option maxHeartbeats 4000000 in
theorem iUnf_any (s : Value) (n : Nat) (h1 : 1 ≤ n) (hn : n ≤ 32) (x : Nat → Nat) (l w9 : Nat) (hw9 : S.mul 1073741824 l = some w9) (Inv : Nat → (Nat → Nat) → Prop) (hO : Oracle l w9 n Inv) (hI : Inv 1 x) (w : World) (hs : RdV w s n (flV x))
    (hC : Calls Tryd.prog 67 #[.float .f32 l, s] w fun e w' => e = .returned .nilIface ∧ Below w.heap.size w w')
    (R : Ending → World → Prop)
    (hR : ∀ z B cs cap wr, Inv n z → w.heap.size ≤ B → LvV cs n (flV z) → Kept w [(B, cs, 22)] wr → Calls Tryd.prog 70 #[.slice (some ⟨B, 0, none⟩) n cap, .func (.func 61) #[] #[]] wr fun e w' => ∃ u v, e = .returned (.tuple #[u, v]) ∧ R (.returned (.tuple #[u, v])) w') :
    Calls Tryd.prog 20 #[s, .float .f32 l] w R := by
  have RS := hid hs
  obtain ⟨p, c, rfl, hc9⟩ := hs
  have HCL := hid (fun w1 hb => iCloneF (.slice p n c) n x (by omega) (by omega) w1 (RS.out.stay (w' := w1) hb))
  have HC := hid hC
  have H1 := hid h1
  have HN := hid hn
  have HO := hid hO
  have HI := hid hI
  have HR := hid hR
  have hlo : ¬ ((n : Int) < 1) := by omega
  have hhi : ¬ (32 < (n : Int)) := by omega
  have mw := fun w => run_float_arith (P := Tryd.prog) w .mul 22 .f32 _ _ _ hw9
  clear hC h1 hn hO hI hR hc9
  go_enter Tryd.func20, Tryd.ntmps20
  go_wp2_with fail
  refine HC.out.mono ?_
  rintro e u ⟨rfl, hb⟩
  have hbb := hid hb
  clear hb
  go_wp2_with fail
  refine (HCL.out _ hbb.out).mono ?_
  rintro e u2 ⟨B, cs0, cap, rfl, hB, hL, hK⟩
  have hwB : w.heap.size ≤ B := Nat.le_trans hbb.out.size hB
  have k0 : Hid (∃ z cs, Inv 1 z ∧ LvV cs n (flV z) ∧ Kept w [(B, cs, 22)] u2) := hid ⟨x, cs0, HI.out, hL, (show Kept w [] u from ⟨hbb.out, by simp⟩).join hK⟩
  clear hL hK hB
  go_wp2_with fail
  go_loopw [8] (fun i wr => ∃ k : Nat, 1 ≤ k ∧ k ≤ n ∧ i = .int .i64 k ∧ Hid (∃ z cs, Inv k z ∧ LvV cs n (flV z) ∧ Kept w [(B, cs, 22)] wr)) (fun i _ => n - (intOf i).toNat)
  case atStart => exact ⟨1, by omega, H1.out, rfl, k0⟩
  case round =>
    obtain ⟨k, hk1, hk, rfl, h0⟩ := hrel
    clear k0
    by_cases hlt : k < n
    · have HL := hid hlt
      have hn9 := HN.out
      have hk3 : (k : Int) < (n : Int) := by omega
      obtain ⟨z, cs, hInv, hLv, hKp⟩ := h0.out
      obtain ⟨PF, OF, OZ, ON⟩ := HO.out k z hk1 hlt hInv
      have hOF := hid OF
      have hOZ := hid OZ
      have hON := hid ON
      have LV := hid hLv
      have hm1 : IntKind.i64.wrap ((k : Int) - 1) = ((k - 1 : Nat) : Int) := by rw [IntKind.wrap_i64]; omega
      have j1 : ∀ w, (Instr.indexAt 96 (.slice (some ⟨B, 0, none⟩) n cap) (.int .i64 ((k - 1 : Nat) : Int))).run Tryd.prog w = .ok (.pointer (some ⟨B, k - 1, none⟩)) w := fun w => by have := run_indexAt (P := Tryd.prog) (t := 96) (e := 22) Tryd.underlying96 info_f1 (b := B) (o := 0) (n := n) (cap := cap) (k := k - 1) (by omega) w; simpa using this
      have j2 : ∀ w, (Instr.indexAt 96 (.slice (some ⟨B, 0, none⟩) n cap) (.int .i64 (k : Int))).run Tryd.prog w = .ok (.pointer (some ⟨B, k, none⟩)) w := fun w => by have := run_indexAt (P := Tryd.prog) (t := 96) (e := 22) Tryd.underlying96 info_f1 (b := B) (o := 0) (n := n) (cap := cap) (k := k) HL.out w; simpa using this
      have R1 := hid (fun wq (hq : Kept w [(B, cs, 22)] wq) => show wq.cell? ⟨B, k - 1, none⟩ = some (.float .f32 (z (k - 1))) from LV.out.cell (hq.at (x := (B, cs, 22)) (by simp)) (by have := HL.out; omega))
      have R2 := hid (fun wq (hq : Kept w [(B, cs, 22)] wq) => show wq.cell? ⟨B, k, none⟩ = some (.float .f32 (z k)) from LV.out.cell (hq.at (x := (B, cs, 22)) (by simp)) HL.out)
      have kp := hid hKp
      clear h0 hInv hLv hKp OF OZ ON
      go_wp2_with fail
      refine region_kept (w0 := w) (l := [(B, cs, 22)]) 13 #[false, false, false, false, false, false, false, false, false, false, false, false, false] (by kernel_rfl) rfl rfl ?_
      have kd := kp.out.drew
      generalize World.drew _ = wd at kd ⊢
      refine take_val 0 _ _ (.slice (some ⟨B, 0, none⟩) n cap) rfl (by rfl) (by kernel_rfl) (by kernel_rfl) (by kernel_rfl) (fun w => by rfl) rfl rfl kd ?_
      simp only [Act.put, List.setIfInBounds_toArray, List.set_cons_zero, List.set_cons_succ]
      refine take_val 1 _ _ (.int .i64 (k : Int)) rfl (by rfl) (by kernel_rfl) (by kernel_rfl) (by kernel_rfl) (fun w => by rfl) rfl rfl kd ?_
      simp only [Act.put, List.setIfInBounds_toArray, List.set_cons_zero, List.set_cons_succ]
      refine take_val 2 _ _ (.int .i64 ((k - 1 : Nat) : Int)) rfl (by rfl) (by kernel_rfl) (by kernel_rfl) (by kernel_rfl) (fun w => by have := hm1; unfold execOp; go_simp) rfl rfl kd ?_
      simp only [Act.put, List.setIfInBounds_toArray, List.set_cons_zero, List.set_cons_succ]
      refine take_val 3 _ _ (.pointer (some ⟨B, k - 1, none⟩)) rfl (by rfl) (by kernel_rfl) (by kernel_rfl) (by kernel_rfl) (fun w => run_index_op _ _ rfl rfl (j1 w)) rfl rfl kd ?_
      simp only [Act.put, List.setIfInBounds_toArray, List.set_cons_zero, List.set_cons_succ]
      refine take_cell 4 _ _ (.float .f32 (z (k - 1))) rfl (by rfl) (by kernel_rfl) (by kernel_rfl) (by kernel_rfl) (fun wq hS => by have hcell : wq.cell? ⟨B, k - 1, none⟩ = some (.float .f32 (z (k - 1))) := (R1.out wq hS); clear hS; unfold execOp; go_simp) rfl rfl kd ?_
      simp only [Act.put, List.setIfInBounds_toArray, List.set_cons_zero, List.set_cons_succ]
      refine take_val 5 _ _ (.slice (some ⟨B, 0, none⟩) n cap) rfl (by rfl) (by kernel_rfl) (by kernel_rfl) (by kernel_rfl) (fun w => by rfl) rfl rfl kd ?_
      simp only [Act.put, List.setIfInBounds_toArray, List.set_cons_zero, List.set_cons_succ]
      refine take_val 6 _ _ (.int .i64 (k : Int)) rfl (by rfl) (by kernel_rfl) (by kernel_rfl) (by kernel_rfl) (fun w => by rfl) rfl rfl kd ?_
      simp only [Act.put, List.setIfInBounds_toArray, List.set_cons_zero, List.set_cons_succ]
      refine take_val 7 _ _ (.pointer (some ⟨B, k, none⟩)) rfl (by rfl) (by kernel_rfl) (by kernel_rfl) (by kernel_rfl) (fun w => run_index_op _ _ rfl rfl (j2 w)) rfl rfl kd ?_
      simp only [Act.put, List.setIfInBounds_toArray, List.set_cons_zero, List.set_cons_succ]
      refine take_cell 8 _ _ (.float .f32 (z k)) rfl (by rfl) (by kernel_rfl) (by kernel_rfl) (by kernel_rfl) (fun wq hS => by have hcell : wq.cell? ⟨B, k, none⟩ = some (.float .f32 (z k)) := (R2.out wq hS); clear hS; unfold execOp; go_simp) rfl rfl kd ?_
      simp only [Act.put, List.setIfInBounds_toArray, List.set_cons_zero, List.set_cons_succ]
      refine take_val 10 _ _ (.float .f32 l) rfl (by rfl) (by kernel_rfl) (by kernel_rfl) (by kernel_rfl) (fun w => by rfl) rfl rfl kd ?_
      simp only [Act.put, List.setIfInBounds_toArray, List.set_cons_zero, List.set_cons_succ]
      refine wpAnyH_ready (rs := [9]) (by kernel_rfl) (by simp) ?_
      obtain ⟨d, wd1, r1, r2, r3, r4, _⟩ := arith_is (P := Tryd.prog) .sub (.inr (.inl rfl)) 22 (z (k - 1)) (z k) wd
      refine valK 9 _ _ (.float .f32 d) wd1 kd rfl (by rfl) (by unfold execOp; go_simp) r2 rfl rfl (fun kd1 => ?_) AllReadyH.nil
      refine ⟨kd1, ?_⟩
      simp only [Act.put, List.setIfInBounds_toArray, List.set_cons_zero, List.set_cons_succ]
      refine wpAnyH_ready (rs := [11]) (by kernel_rfl) (by simp) ?_
      refine callKQ 11 _ (fun v _ => ∃ f, v = .float .f32 f ∧ PF f) kd1 rfl (by rfl) 69 #[.float .f32 d, .float .f32 l] (fun w => by unfold execOp; go_simp) rfl ?hc1 (fun v w1 hv k1 _ => ?_) AllReadyH.nil
      case hc1 => exact (hOF.out d wd1 r3 r4).mono fun e w' ⟨f, e1, e2, e3⟩ => ⟨_, ⟨f, rfl, e2⟩, e1, e3⟩
      obtain ⟨f, rfl, pf⟩ := hv
      refine ⟨k1, ?_⟩
      simp only [Act.put, List.setIfInBounds_toArray, List.set_cons_zero, List.set_cons_succ]
      refine take_val 12 _ _ (.float .f32 f) rfl (by rfl) (by kernel_rfl) (by kernel_rfl) (by kernel_rfl) (fun w => by rfl) rfl rfl k1 ?_
      simp only [Act.put, List.setIfInBounds_toArray, List.set_cons_zero, List.set_cons_succ]
      refine wpAnyH_done (by kernel_rfl) (NoPanic.normal ?_) _
      have PFf := hid pf
      have K1 := hid k1
      have hw9 : wrap64 ((k : Int) + 1) = (k : Int) + 1 := by unfold wrap64; omega
      clear r1 r2 r3 r4 pf k1 kd1 kd
      cases ho : (FloatKind.f32.format.order f 0 == some .eq) with
      | true =>
        have ho2 : (FloatKind.f32.format.order f 0 != some .eq) = false := by unfold bne; rw [ho]; rfl
        go_wp2
        go_roundw
        case rel => exact ⟨k + 1, by omega, by have := HL.out; omega, by go_num, hid ⟨z, cs, hOZ.out f PFf.out ho, LV.out, K1.out⟩⟩
        case measure => have := HL.out; simp [intOf]; omega
      | false =>
        have ho2 : (FloatKind.f32.format.order f 0 != some .eq) = true := by unfold bne; rw [ho]; rfl
        have c2 := R2.out _ K1.out
        obtain ⟨p2, wa, a1, a2, a3, a4, a5⟩ := arith_is (P := Tryd.prog) .mul (.inr (.inr (.inl rfl))) 22 w9 f w1
        obtain ⟨v, wb, b1, b2, b3, b4, b5⟩ := arith_is (P := Tryd.prog) .add (.inl rfl) 22 (z k) p2 wa
        have kb := hid (kept_wf (kept_wf K1.out a2) b2)
        have VF := hid (show Vf w9 (z k) f p2 v from ⟨a4, a5, b4, b5, b3⟩)
        clear a2 a3 a4 a5 b2 b3 b4 b5
        have tok1 : True := trivial
        go_wp2_with (have _t := tok1; clear tok1; refine store_lv1 rfl 22 _ _ rfl info_f1 B k (.float .f32 v) rfl rfl rfl rfl kb.out LV.out HL.out hwB (by simp) (fun w3 k3 v3 => ?_); replace k3 := hid k3; replace v3 := hid v3)
        have nx := hid (show LvV _ n (flV (upN z k v)) from by have := v3.out; rw [upN_fl] at this; exact this)
        go_roundw
        case rel => exact ⟨k + 1, by omega, by have := HL.out; omega, by go_num, hid ⟨_, _, hON.out f p2 v PFf.out ho VF.out, nx.out, k3.out⟩⟩
        case measure => have := HL.out; simp [intOf]; omega
    · obtain rfl : k = n := by omega
      have hk3 : ¬ (k : Int) < (k : Int) := by omega
      obtain ⟨z, cs, hInv, hLv, hKp⟩ := h0.out
      have HRR := hid (HR.out z B cs cap wr hInv hwB hLv hKp)
      clear hInv hLv hKp
      go_wp2_with fail
      refine HRR.out.mono ?_
      rintro e u3 ⟨v1, v2, rfl, hr⟩
      have HRF := hid hr
      clear hr
      go_wp2
      exact HRF.out

/-- What a step of the model may rely on. -/
def OracleS (w9 n m : Nat) (x y : Nat → Nat) : Prop := ∀ k, 1 ≤ k → k < n → k ≤ m → ∃ PF : Nat → Prop,
  (∀ d q w1, (∀ r, S.sub (y (k - 1)) (x k) = some r → d = r) → (∀ r, S.div d w9 = some r → q = r) → (S.div d w9 = none → INF < mg q) → q < 4294967296 → Calls Tryd.prog 66 #[.float .f32 q] w1 fun e w' => ∃ f, e = .returned (.float .f32 f) ∧ PF f ∧ Below w1.heap.size w1 w') ∧
  (∀ f, PF f → (S.order f 0 == some .eq) = true → k < m ∧ y k = x k) ∧
  (∀ f p2 v, PF f → (S.order f 0 == some .eq) = false → Vf w9 (x k) f p2 v → (k < m ∧ v = y k ∧ finB v = true) ∨ (k = m ∧ finB v = false))

set_option maxRecDepth 100000 in
set_option maxHeartbeats 4000000 in
theorem sUnf_any (s : Value) (n : Nat) (h1 : 1 ≤ n) (hn : n ≤ 32) (x y : Nat → Nat) (hx : ∀ k, k < n → x k < 4294967296 ∧ finB (x k) = true) (l w9 m : Nat) (hl : l < 4294967296) (hb : limB l = true) (hw9 : S.mul 1073741824 l = some w9) (hO : OracleS w9 n m x y) (h0 : y 0 = x 0) (hm : 1 ≤ m) (w : World) (hs : RdV w s n (flV x)) (R : Ending → World → Prop)
    (hR1 : n ≤ m → ∀ v w', MadeF n y w v w' → R (.returned (.tuple #[v, .int .i64 0])) w')
    (hR2 : m < n → ∀ p k w', Below w.heap.size w w' → R (.returned (.tuple #[.slice p 0 k, .int .i64 4])) w') :
    Calls Tryd.prog 18 #[s, .float .f32 l] w R := by
  have HR1 := hid hR1
  have HR2 := hid hR2
  clear hR1 hR2
  obtain ⟨p, cap, rfl, hc⟩ := hs
  obtain ⟨b, o, rfl, hcell⟩ := hc (by omega)
  have HC := hid hcell
  have HX := hid hx
  have HN := hid hn
  have H1 := hid h1
  have HO := hid hO
  have H0 := hid h0
  have HM := hid hm
  have HI := hid (fun w => l00In_t (n : Int) 1 32 (by omega) (by omega) w)
  have HL := hid (fun w => by have := sLimit l hl w; rw [hb] at this; exact this)
  have mw := fun w => run_float_arith (P := Tryd.prog) w .mul 22 .f32 _ _ _ hw9
  clear hc hcell hx hO h0 hl hb hn h1 hm
  go_enter Tryd.func18, Tryd.ntmps18
  go_wp2_with fail
  refine (HI.out _).mono ?_
  rintro e u ⟨rfl, rfl⟩
  go_wp2_with fail
  refine (HL.out _).mono ?_
  rintro e u1 ⟨rfl, hb1⟩
  have B1 := hid hb1
  clear hb1
  go_wp2_with fail
  go_loopw [7, 6] (fun i ok wr => ∃ k : Nat, k ≤ n ∧ i = .int .i64 k ∧ ok = .bool true ∧ Hid (Below w.heap.size w wr)) (fun i _ _ => n - (intOf i).toNat)
  case atStart => exact ⟨0, by omega, rfl, rfl, B1⟩
  case round =>
    obtain ⟨k, hk, rfl, rfl, hB⟩ := hrel
    by_cases hlt : k < n
    · have HLT := hid hlt
      have hn9 := HN.out
      have hk3 : (k : Int) < (n : Int) := by omega
      have c0 : wr.cell? ⟨b, o + k, none⟩ = some (.float .f32 (x k)) := by have h9 := HC.out k hlt; rw [hB.out.cell (block_lt_of_cell h9)]; exact h9
      have i1 := fun w => run_indexAt (P := Tryd.prog) (t := 30) (e := 22) Tryd.underlying30 info_f1 (b := b) (o := o) (n := n) (cap := cap) (k := k) hlt w
      simp only [Nat.mul_one] at i1
      go_wp2_with fail
      refine (sFinite_t (x k) (HX.out k HLT.out).1 (HX.out k HLT.out).2 _).mono ?_
      rintro e u ⟨rfl, rfl⟩
      clear c0
      have hw9 : wrap64 ((k : Int) + 1) = (k : Int) + 1 := by unfold wrap64; omega
      go_wp2
      go_roundw
      case rel => exact ⟨k + 1, by have := HLT.out; omega, by go_num, rfl, hB⟩
      case measure => have := HLT.out; simp [intOf]; omega
    · obtain ⟨rfl⟩ : n = k := by omega
      have hk3 : ¬ (n : Int) < (n : Int) := by omega
      have hk0 := H1.out
      have c0 : wr.cell? ⟨b, o, none⟩ = some (.float .f32 (x 0)) := by have h9 := HC.out 0 (by omega); rw [Nat.add_zero] at h9; rw [hB.out.cell (block_lt_of_cell h9)]; exact h9
      have i1 := fun w => run_indexAt (P := Tryd.prog) (t := 30) (e := 22) Tryd.underlying30 info_f1 (b := b) (o := o) (n := n) (cap := cap) (k := 0) (by omega) w
      simp only [Nat.zero_mul, Nat.add_zero, Int.natCast_zero] at i1
      have q0 : Hid ((wr.alloc (.cells #[.float .f32 (x 0)] 22)).ownsRow w.heap.size 22 1 (.slice (some ⟨wr.heap.size, 0, none⟩) 1 1) 1 (wdv (flV y) 1)) := hid (by
        have h9 := World.ownsRow_lit (e := 22) (base := w.heap.size) (size := 1) wr #[.float .f32 (x 0)] 1 hB.out.size (by decide) rfl
        rw [show wdv (flV y) 1 = (#[Value.float .f32 (x 0)] : Array Value).toList from by rw [← H0.out]; rfl]
        exact h9)
      have q1 : Hid (Below w.heap.size w (wr.alloc (.cells #[.float .f32 (x 0)] 22))) := hid (hB.out.alloc hB.out.size _)
      clear hB
      go_wp2_with fail
      clear c0 i1
      go_loopw [10, 9] (fun i v wr => ∃ k : Nat, 1 ≤ k ∧ k ≤ n ∧ k ≤ m ∧ i = .int .i64 k ∧ Hid (wr.ownsRow w.heap.size 22 1 v k (wdv (flV y) k)) ∧ Hid (Below w.heap.size w wr)) (fun i _ _ => n - (intOf i).toNat)
      case atStart => exact ⟨1, by omega, H1.out, HM.out, rfl, q0, q1⟩
      case round =>
        obtain ⟨k, hk1, hk, hkm, rfl, hO9, hB⟩ := hrel
        clear q0 q1
        by_cases hlt : k < n
        · have HLT := hid hlt
          have HKM := hid hkm
          have hn9 := HN.out
          have hk3 : (k : Int) < (n : Int) := by omega
          obtain ⟨PF, OF, OZ, ON⟩ := HO.out k hk1 hlt hkm
          have hOF := hid OF
          have hOZ := hid OZ
          have hON := hid ON
          obtain ⟨B, cs, cap2, rfl, hB1, L1, K1⟩ := own_keptV (by omega) hO9.out hB.out
          have c0 : wr.cell? ⟨b, o + k, none⟩ = some (.float .f32 (x k)) := by have h9 := HC.out k hlt; rw [hB.out.cell (block_lt_of_cell h9)]; exact h9
          have hm1 : IntKind.i64.wrap ((k : Int) - 1) = ((k - 1 : Nat) : Int) := by rw [IntKind.wrap_i64]; omega
          have j1 : ∀ w, (Instr.indexAt 30 (.slice (some ⟨B, 0, none⟩) k cap2) (.int .i64 ((k - 1 : Nat) : Int))).run Tryd.prog w = .ok (.pointer (some ⟨B, k - 1, none⟩)) w := fun w => by have := run_indexAt (P := Tryd.prog) (t := 30) (e := 22) Tryd.underlying30 info_f1 (b := B) (o := 0) (n := k) (cap := cap2) (k := k - 1) (by omega) w; simpa using this
          have j2 : ∀ w, (Instr.indexAt 30 (.slice (some ⟨b, o, none⟩) n cap) (.int .i64 (k : Int))).run Tryd.prog w = .ok (.pointer (some ⟨b, o + k, none⟩)) w := fun w => by have := run_indexAt (P := Tryd.prog) (t := 30) (e := 22) Tryd.underlying30 info_f1 (b := b) (o := o) (n := n) (cap := cap) (k := k) HLT.out w; simpa using this
          have LV := hid L1
          have R1 := hid (fun wq (hq : Kept w [(B, cs, 22)] wq) => show wq.cell? ⟨B, k - 1, none⟩ = some (.float .f32 (y (k - 1))) from LV.out.cell (hq.at (x := (B, cs, 22)) (by simp)) (by omega))
          have R2 := hid (fun wq (hq : Kept w [(B, cs, 22)] wq) => show wq.cell? ⟨b, o + k, none⟩ = some (.float .f32 (x k)) from by have h9 := HC.out k HLT.out; rw [hq.1.cell (block_lt_of_cell h9)]; exact h9)
          have kp := hid K1
          clear L1 K1 OF OZ ON
          go_wp2_with fail
          refine region_kept (w0 := w) (l := [(B, cs, 22)]) 14 #[false, false, false, false, false, false, false, false, false, false, false, false, false, false] (by kernel_rfl) rfl rfl ?_
          have kd := kp.out.drew
          have od := hid (own_drew hO9.out)
          generalize World.drew _ = wd at kd od ⊢
          clear c0
          refine take_val 0 _ _ (.slice (some ⟨B, 0, none⟩) k cap2) rfl (by rfl) (by kernel_rfl) (by kernel_rfl) (by kernel_rfl) (fun w => by rfl) rfl rfl kd ?_
          simp only [Act.put, List.setIfInBounds_toArray, List.set_cons_zero, List.set_cons_succ]
          refine take_val 1 _ _ (.int .i64 (k : Int)) rfl (by rfl) (by kernel_rfl) (by kernel_rfl) (by kernel_rfl) (fun w => by rfl) rfl rfl kd ?_
          simp only [Act.put, List.setIfInBounds_toArray, List.set_cons_zero, List.set_cons_succ]
          refine take_val 2 _ _ (.int .i64 ((k - 1 : Nat) : Int)) rfl (by rfl) (by kernel_rfl) (by kernel_rfl) (by kernel_rfl) (fun w => by have := hm1; unfold execOp; go_simp) rfl rfl kd ?_
          simp only [Act.put, List.setIfInBounds_toArray, List.set_cons_zero, List.set_cons_succ]
          refine take_val 3 _ _ (.pointer (some ⟨B, k - 1, none⟩)) rfl (by rfl) (by kernel_rfl) (by kernel_rfl) (by kernel_rfl) (fun w => run_index_op _ _ rfl rfl (j1 w)) rfl rfl kd ?_
          simp only [Act.put, List.setIfInBounds_toArray, List.set_cons_zero, List.set_cons_succ]
          refine take_cell 4 _ _ (.float .f32 (y (k - 1))) rfl (by rfl) (by kernel_rfl) (by kernel_rfl) (by kernel_rfl) (fun wq hS => by have hcell : wq.cell? ⟨B, k - 1, none⟩ = some (.float .f32 (y (k - 1))) := (R1.out wq hS); clear hS; unfold execOp; go_simp) rfl rfl kd ?_
          simp only [Act.put, List.setIfInBounds_toArray, List.set_cons_zero, List.set_cons_succ]
          refine take_val 5 _ _ (.slice (some ⟨b, o, none⟩) n cap) rfl (by rfl) (by kernel_rfl) (by kernel_rfl) (by kernel_rfl) (fun w => by rfl) rfl rfl kd ?_
          simp only [Act.put, List.setIfInBounds_toArray, List.set_cons_zero, List.set_cons_succ]
          refine take_val 6 _ _ (.int .i64 (k : Int)) rfl (by rfl) (by kernel_rfl) (by kernel_rfl) (by kernel_rfl) (fun w => by rfl) rfl rfl kd ?_
          simp only [Act.put, List.setIfInBounds_toArray, List.set_cons_zero, List.set_cons_succ]
          refine take_val 7 _ _ (.pointer (some ⟨b, o + k, none⟩)) rfl (by rfl) (by kernel_rfl) (by kernel_rfl) (by kernel_rfl) (fun w => run_index_op _ _ rfl rfl (j2 w)) rfl rfl kd ?_
          simp only [Act.put, List.setIfInBounds_toArray, List.set_cons_zero, List.set_cons_succ]
          refine take_cell 8 _ _ (.float .f32 (x k)) rfl (by rfl) (by kernel_rfl) (by kernel_rfl) (by kernel_rfl) (fun wq hS => by have hcell : wq.cell? ⟨b, o + k, none⟩ = some (.float .f32 (x k)) := (R2.out wq hS); clear hS; unfold execOp; go_simp) rfl rfl kd ?_
          simp only [Act.put, List.setIfInBounds_toArray, List.set_cons_zero, List.set_cons_succ]
          refine take_val 10 _ _ (.float .f32 w9) rfl (by rfl) (by kernel_rfl) (by kernel_rfl) (by kernel_rfl) (fun w => by rfl) rfl rfl kd ?_
          simp only [Act.put, List.setIfInBounds_toArray, List.set_cons_zero, List.set_cons_succ]
          refine wpAnyH_ready (rs := [9]) (by kernel_rfl) (by simp) ?_
          obtain ⟨d, wd1, r1, r2, r3, r4, _⟩ := arith_is (P := Tryd.prog) .sub (.inr (.inl rfl)) 22 (y (k - 1)) (x k) wd
          refine valK 9 _ _ (.float .f32 d) wd1 kd rfl (by rfl) (by unfold execOp; go_simp) r2 rfl rfl (fun kd1 => ?_) AllReadyH.nil
          refine ⟨kd1, ?_⟩
          simp only [Act.put, List.setIfInBounds_toArray, List.set_cons_zero, List.set_cons_succ]
          refine wpAnyH_ready (rs := [11]) (by kernel_rfl) (by simp) ?_
          obtain ⟨q, wd2, s1, s2, s3, s4, s5⟩ := arith_is (P := Tryd.prog) .quo (.inr (.inr (.inr rfl))) 22 d w9 wd1
          refine valK 11 _ _ (.float .f32 q) wd2 kd1 rfl (by rfl) (by unfold execOp; go_simp) s2 rfl rfl (fun kd2 => ?_) AllReadyH.nil
          refine ⟨kd2, ?_⟩
          have od2 := hid (own_wf (own_wf od.out r2) s2)
          simp only [Act.put, List.setIfInBounds_toArray, List.set_cons_zero, List.set_cons_succ]
          refine wpAnyH_ready (rs := [12]) (by kernel_rfl) (by simp) ?_
          refine callKQ 12 _ (fun v _ => ∃ f, v = .float .f32 f ∧ PF f) kd2 rfl (by rfl) 66 #[.float .f32 q] (fun w => by unfold execOp; go_simp) rfl ?hc1 (fun v w1 hv k1 hbl => ?_) AllReadyH.nil
          case hc1 => exact (hOF.out d q wd2 r4 s4 s5 s3).mono fun e w' ⟨f, e1, e2, e3⟩ => ⟨_, ⟨f, rfl, e2⟩, e1, e3⟩
          obtain ⟨f, rfl, pf⟩ := hv
          refine ⟨k1, ?_⟩
          have od3 := hid (own_stayB od2.out hbl)
          simp only [Act.put, List.setIfInBounds_toArray, List.set_cons_zero, List.set_cons_succ]
          refine take_val 13 _ _ (.float .f32 f) rfl (by rfl) (by kernel_rfl) (by kernel_rfl) (by kernel_rfl) (fun w => by rfl) rfl rfl k1 ?_
          simp only [Act.put, List.setIfInBounds_toArray, List.set_cons_zero, List.set_cons_succ]
          refine wpAnyH_done (by kernel_rfl) (NoPanic.normal ?_) _
          have PFf := hid pf
          have BK := hid k1.1
          have hw9 : wrap64 ((k : Int) + 1) = (k : Int) + 1 := by unfold wrap64; omega
          clear r1 r2 r3 r4 s1 s2 s3 s4 s5 pf k1 kd1 kd kd2 hbl od od2
          cases ho : (FloatKind.f32.format.order f 0 == some .eq) with
          | true =>
            have ho2 : (FloatKind.f32.format.order f 0 != some .eq) = false := by unfold bne; rw [ho]; rfl
            obtain ⟨km, yk⟩ := hOZ.out f PFf.out ho
            have KM := hid km
            have YK := hid yk
            clear km yk
            go_wp2_with fail
            refine (sFinite_t (x k) (HX.out k HLT.out).1 (HX.out k HLT.out).2 _).mono ?_
            rintro e u ⟨rfl, rfl⟩
            have OW := od3
            have BW := BK
            have tok2 : True := trivial
            go_wp2_with (have _t := tok2; clear tok2; refine append_one (w0 := w) rfl _ _ 30 rfl 22 Tryd.underlying30 (.float .f32 0) 4 rfl (by omega) infoz_f32 (.slice (some ⟨B, 0, none⟩) k cap2) k (flV y) rfl (OW.out.alloc _) (BW.out.alloc BW.out.size _) (w1.heap.size) (.float .f32 (x k)) (by unfold flV; rw [YK.out]) rfl rfl (heap_alloc_new _ _) (by omega) (fun v9 w3 O9 B9 => ?_); replace O9 := hid O9; replace B9 := hid B9)
            go_roundw
            case rel => exact ⟨k + 1, by omega, by have := HLT.out; omega, by have := KM.out; omega, by go_num, O9, B9⟩
            case measure => have := HLT.out; simp [intOf]; omega
          | false =>
            have ho2 : (FloatKind.f32.format.order f 0 != some .eq) = true := by unfold bne; rw [ho]; rfl
            obtain ⟨p2, wa, a1, a2, a3, a4, a5⟩ := arith_is (P := Tryd.prog) .mul (.inr (.inr (.inl rfl))) 22 w9 f w1
            obtain ⟨v, wb, b1, b2, b3, b4, b5⟩ := arith_is (P := Tryd.prog) .add (.inl rfl) 22 (x k) p2 wa
            have OW := hid (own_wf (own_wf od3.out a2) b2)
            have BW := hid (below_wf (below_wf BK.out a2) b2)
            have LVV := hid b3
            have DEC := hON.out f p2 v PFf.out ho ⟨a4, a5, b4, b5, b3⟩
            clear a2 a3 a4 a5 b2 b3 b4 b5
            rcases DEC with ⟨km, yk, fv⟩ | ⟨km, fv⟩
            · have KM := hid km
              have YK := hid yk
              have FV := hid fv
              clear km yk fv
              go_wp2_with fail
              refine (sFinite_t v LVV.out FV.out _).mono ?_
              rintro e u ⟨rfl, rfl⟩
              have tok2 : True := trivial
              go_wp2_with (have _t := tok2; clear tok2; refine append_one (w0 := w) rfl _ _ 30 rfl 22 Tryd.underlying30 (.float .f32 0) 4 rfl (by omega) infoz_f32 (.slice (some ⟨B, 0, none⟩) k cap2) k (flV y) rfl (OW.out.alloc _) (BW.out.alloc BW.out.size _) (wb.heap.size) (.float .f32 v) (by unfold flV; rw [YK.out]) rfl rfl (heap_alloc_new _ _) (by omega) (fun v9 w3 O9 B9 => ?_); replace O9 := hid O9; replace B9 := hid B9)
              go_roundw
              case rel => exact ⟨k + 1, by omega, by have := HLT.out; omega, by have := KM.out; omega, by go_num, O9, B9⟩
              case measure => have := HLT.out; simp [intOf]; omega
            · have KM := hid km
              have FV := hid fv
              clear km fv
              go_wp2_with fail
              refine (sFinite_f v LVV.out FV.out _).mono ?_
              rintro e u ⟨rfl, hb9⟩
              have BF := hid ((BW.out.trans (hb9.mono BW.out.size)))
              have BG := hid (BF.out.alloc BF.out.size (.cells #[] 22))
              clear hb9
              go_wp2
              have HRF := hid (HR2.out (by have := KM.out; have := HLT.out; omega) (some ⟨u.heap.size, 0, none⟩) 0 _ BG.out)
              first | exact HRF.out | exact bodyPost_ret (results_tmp2 rfl _ _ _) rfl HRF.out
        · obtain rfl : k = n := by omega
          have hk3 : ¬ (k : Int) < (k : Int) := by omega
          obtain ⟨B, cs, cap2, rfl, hB1, L1, K1⟩ := own_keptV (by omega) hO9.out hB.out
          have E := hid (show MadeF k y w (.slice (some ⟨B, 0, none⟩) k cap2) wr from ⟨B, cs, cap2, rfl, hB1, L1, K1⟩)
          have HKM := hid hkm
          clear hB1 L1 K1
          go_wp2
          have HRF := hid (HR1.out HKM.out _ _ E.out)
          first | exact HRF.out | exact bodyPost_ret (results_tmp2 rfl _ _ _) rfl HRF.out

set_option maxRecDepth 100000 in
theorem iUnf_len (A : Nat → Addr) (p : Option Addr) (n cap l : Nat) (hn : ¬ (1 ≤ n ∧ n ≤ 32)) (w : World) (hA : Sent w A) : Calls Tryd.prog 20 #[.slice p n cap, .float .f32 l] w fun e w' => ∃ p k, e = .returned (.tuple #[.slice p 0 k, .int .i64 2]) ∧ Below w.heap.size w w' := by
  have SA := hid hA
  have c1 := hA.c1
  clear hA
  by_cases h : n < 1
  · have hlo : ((n : Int) < 1) := by omega
    go_enter Tryd.func20, Tryd.ntmps20
    go_wp2_with fail
    refine (code_1 A _ SA.out).mono ?_
    rintro e u ⟨rfl, rfl⟩
    go_wp2
    first | exact ⟨_, _, rfl, Below.refl _ _⟩ | exact Below.refl _ _ | exact bodyPost_ret (results_tmp2 rfl _ _ _) rfl ⟨_, _, rfl, Below.refl _ _⟩ | exact bodyPost_ret (results_tmp2 rfl _ _ _) rfl ⟨⟨_, _, rfl⟩, Below.refl _ _⟩ | exact bodyPost_ret (results_tmp2 rfl _ _ _) rfl Below.refl _ _
  · have hlo : ¬ ((n : Int) < 1) := by omega
    have hhi : (32 < (n : Int)) := by omega
    go_enter Tryd.func20, Tryd.ntmps20
    go_wp2_with fail
    refine (code_1 A _ SA.out).mono ?_
    rintro e u ⟨rfl, rfl⟩
    go_wp2
    first | exact ⟨_, _, rfl, Below.refl _ _⟩ | exact Below.refl _ _ | exact bodyPost_ret (results_tmp2 rfl _ _ _) rfl ⟨_, _, rfl, Below.refl _ _⟩ | exact bodyPost_ret (results_tmp2 rfl _ _ _) rfl ⟨⟨_, _, rfl⟩, Below.refl _ _⟩ | exact bodyPost_ret (results_tmp2 rfl _ _ _) rfl Below.refl _ _

set_option maxRecDepth 100000 in
theorem iUnf_chk (A : Nat → Addr) (p : Option Addr) (n cap l : Nat) (h1 : 1 ≤ n) (hn : n ≤ 32) (w : World) (hA : Sent w A)
    (hM : Calls Tryd.prog 67 #[.float .f32 l, .slice p n cap] w fun e w' => e = .returned (.iface 291 (.pointer (some (A 1)))) ∧ Below w.heap.size w w') : Calls Tryd.prog 20 #[.slice p n cap, .float .f32 l] w fun e w' => ∃ p k, e = .returned (.tuple #[.slice p 0 k, .int .i64 2]) ∧ Below w.heap.size w w' := by
  have SA := hid hA
  have HM := hid hM
  have hlo : ¬ ((n : Int) < 1) := by omega
  have hhi : ¬ (32 < (n : Int)) := by omega
  clear hA hM h1 hn
  go_enter Tryd.func20, Tryd.ntmps20
  go_wp2_with fail
  refine HM.out.mono ?_
  rintro e u ⟨rfl, hb⟩
  have HB := hid hb
  have S2 := hid (SA.out.stay hb)
  clear hb
  go_wp2_with fail
  refine (code_1 A _ S2.out).mono ?_
  rintro e u2 ⟨rfl, rfl⟩
  go_wp2
  first | exact ⟨_, _, rfl, HB.out⟩ | exact HB.out | exact bodyPost_ret (results_tmp2 rfl _ _ _) rfl ⟨_, _, rfl, HB.out⟩ | exact bodyPost_ret (results_tmp2 rfl _ _ _) rfl ⟨⟨_, _, rfl⟩, HB.out⟩ | exact bodyPost_ret (results_tmp2 rfl _ _ _) rfl HB.out

set_option maxRecDepth 100000 in
theorem sUnf_len (p : Option Addr) (n cap l : Nat) (hn : ¬ (1 ≤ n ∧ n ≤ 32)) (w : World) : Calls Tryd.prog 18 #[.slice p n cap, .float .f32 l] w fun e w' => ∃ p k, e = .returned (.tuple #[.slice p 0 k, .int .i64 2]) ∧ Below w.heap.size w w' := by
  have HI := hid (fun w => l00In_f (n : Int) 1 32 (by omega) w)
  have b0 := hid (Below.refl w.heap.size w)
  clear hn
  go_enter Tryd.func18, Tryd.ntmps18
  go_wp2_with fail
  refine (HI.out _).mono ?_
  rintro e u ⟨rfl, rfl⟩
  go_wp2_with fail
  go_loopw [7, 6] (fun i ok wr => i = .int .i64 0 ∧ ok = .bool false ∧ Hid (Below w.heap.size w wr)) (fun _ _ _ => 0)
  case atStart => exact ⟨rfl, rfl, b0⟩
  case round =>
    obtain ⟨rfl, rfl, hB⟩ := hrel
    have HB := hid (hB.out.alloc hB.out.size (.cells #[] 22))
    by_cases hz : (0 : Int) < (n : Int)
    · go_wp2
      first | exact ⟨_, _, rfl, HB.out⟩ | exact HB.out | exact bodyPost_ret (results_tmp2 rfl _ _ _) rfl ⟨_, _, rfl, HB.out⟩ | exact bodyPost_ret (results_tmp2 rfl _ _ _) rfl ⟨⟨_, _, rfl⟩, HB.out⟩ | exact bodyPost_ret (results_tmp2 rfl _ _ _) rfl HB.out
    · go_wp2
      first | exact ⟨_, _, rfl, HB.out⟩ | exact HB.out | exact bodyPost_ret (results_tmp2 rfl _ _ _) rfl ⟨_, _, rfl, HB.out⟩ | exact bodyPost_ret (results_tmp2 rfl _ _ _) rfl ⟨⟨_, _, rfl⟩, HB.out⟩ | exact bodyPost_ret (results_tmp2 rfl _ _ _) rfl HB.out

set_option maxRecDepth 100000 in
theorem sUnf_lim (p : Option Addr) (n cap l : Nat) (h1 : 1 ≤ n) (hn : n ≤ 32) (hl : l < 4294967296) (hb : limB l = false) (w : World) : Calls Tryd.prog 18 #[.slice p n cap, .float .f32 l] w fun e w' => ∃ p k, e = .returned (.tuple #[.slice p 0 k, .int .i64 2]) ∧ Below w.heap.size w w' := by
  have HI := hid (fun w => l00In_t (n : Int) 1 32 (by omega) (by omega) w)
  have HL := hid (fun w => by have := sLimit l hl w; rw [hb] at this; exact this)
  clear hn h1 hl hb
  go_enter Tryd.func18, Tryd.ntmps18
  go_wp2_with fail
  refine (HI.out _).mono ?_
  rintro e u ⟨rfl, rfl⟩
  go_wp2_with fail
  refine (HL.out _).mono ?_
  rintro e u1 ⟨rfl, hb1⟩
  have b0 := hid hb1
  clear hb1
  go_wp2_with fail
  go_loopw [7, 6] (fun i ok wr => i = .int .i64 0 ∧ ok = .bool false ∧ Hid (Below w.heap.size w wr)) (fun _ _ _ => 0)
  case atStart => exact ⟨rfl, rfl, b0⟩
  case round =>
    obtain ⟨rfl, rfl, hB⟩ := hrel
    have HB := hid (hB.out.alloc hB.out.size (.cells #[] 22))
    by_cases hz : (0 : Int) < (n : Int)
    · go_wp2
      first | exact ⟨_, _, rfl, HB.out⟩ | exact HB.out | exact bodyPost_ret (results_tmp2 rfl _ _ _) rfl ⟨_, _, rfl, HB.out⟩ | exact bodyPost_ret (results_tmp2 rfl _ _ _) rfl ⟨⟨_, _, rfl⟩, HB.out⟩ | exact bodyPost_ret (results_tmp2 rfl _ _ _) rfl HB.out
    · go_wp2
      first | exact ⟨_, _, rfl, HB.out⟩ | exact HB.out | exact bodyPost_ret (results_tmp2 rfl _ _ _) rfl ⟨_, _, rfl, HB.out⟩ | exact bodyPost_ret (results_tmp2 rfl _ _ _) rfl ⟨⟨_, _, rfl⟩, HB.out⟩ | exact bodyPost_ret (results_tmp2 rfl _ _ _) rfl HB.out

set_option maxRecDepth 100000 in
set_option maxHeartbeats 1000000 in
theorem sUnf_nf (s : Value) (n : Nat) (h1 : 1 ≤ n) (hn : n ≤ 32) (x : Nat → Nat) (hx : ∀ k, k < n → x k < 4294967296) (hf : ¬ ∀ k, k < n → finB (x k) = true) (l : Nat) (hl : l < 4294967296) (hb : limB l = true) (w : World) (hs : RdV w s n (flV x)) : Calls Tryd.prog 18 #[s, .float .f32 l] w fun e w' => ∃ p k, e = .returned (.tuple #[.slice p 0 k, .int .i64 2]) ∧ Below w.heap.size w w' := by
  obtain ⟨p, cap, rfl, hc⟩ := hs
  obtain ⟨b, o, rfl, hcell⟩ := hc (by omega)
  obtain ⟨j, hj, hbj, hg⟩ := first_bad (p := fun k => finB (x k)) hf
  have HJ := hid hj
  have HBJ := hid hbj
  have HG := hid hg
  have HC := hid hcell
  have HX := hid hx
  have HN := hid hn
  have HI := hid (fun w => l00In_t (n : Int) 1 32 (by omega) (by omega) w)
  have HL := hid (fun w => by have := sLimit l hl w; rw [hb] at this; exact this)
  clear hc hcell hx hl hb hn h1 hf hbj hg
  go_enter Tryd.func18, Tryd.ntmps18
  go_wp2_with fail
  refine (HI.out _).mono ?_
  rintro e u ⟨rfl, rfl⟩
  go_wp2_with fail
  refine (HL.out _).mono ?_
  rintro e u1 ⟨rfl, hb1⟩
  have B1 := hid hb1
  clear hb1
  go_wp2_with fail
  go_loopw [7, 6] (fun i ok wr => ∃ (k : Nat) (bk : Bool), k ≤ j + 1 ∧ bk = decide (k ≤ j) ∧ i = .int .i64 k ∧ ok = .bool bk ∧ Hid (Below w.heap.size w wr)) (fun i _ _ => n - (intOf i).toNat)
  case atStart => exact ⟨0, true, by omega, by simp, rfl, rfl, B1⟩
  case round =>
    obtain ⟨k, bk, hk, hbk, rfl, rfl, hB⟩ := hrel
    by_cases hlt : k ≤ j
    · obtain rfl : bk = true := by rw [hbk]; exact decide_eq_true hlt
      have hkn : k < n := by omega
      have HLT := hid hlt
      have HKN := hid hkn
      have hn9 := HN.out
      have hk3 : (k : Int) < (n : Int) := by omega
      have c0 : wr.cell? ⟨b, o + k, none⟩ = some (.float .f32 (x k)) := by have h9 := HC.out k hkn; rw [hB.out.cell (block_lt_of_cell h9)]; exact h9
      have i1 := fun w => run_indexAt (P := Tryd.prog) (t := 30) (e := 22) Tryd.underlying30 info_f1 (b := b) (o := o) (n := n) (cap := cap) (k := k) hkn w
      simp only [Nat.mul_one] at i1
      have hw9 : wrap64 ((k : Int) + 1) = (k : Int) + 1 := by unfold wrap64; omega
      clear hbk
      by_cases hkj : k = j
      · subst hkj
        go_wp2_with fail
        refine (sFinite_f (x k) (HX.out k HKN.out) HBJ.out _).mono ?_
        rintro e u ⟨rfl, hb2⟩
        have BN := hid (hB.out.trans (hb2.mono hB.out.size))
        clear c0 hb2
        go_wp2
        go_roundw
        case rel => exact ⟨k + 1, false, by omega, by simp, by go_num, rfl, BN⟩
        case measure => have := HKN.out; simp [intOf]; omega
      · go_wp2_with fail
        refine (sFinite_t (x k) (HX.out k HKN.out) (HG.out k (by have := HLT.out; omega)) _).mono ?_
        rintro e u ⟨rfl, rfl⟩
        clear c0
        go_wp2
        go_roundw
        case rel => exact ⟨k + 1, true, by have := HLT.out; omega, by have := HLT.out; simp; omega, by go_num, rfl, hB⟩
        case measure => have := HKN.out; simp [intOf]; omega
    · obtain rfl : bk = false := by rw [hbk]; exact decide_eq_false hlt
      clear hbk
      have HB := hid (hB.out.alloc hB.out.size (.cells #[] 22))
      by_cases hz : (k : Int) < (n : Int)
      · go_wp2
        first | exact ⟨_, _, rfl, HB.out⟩ | exact HB.out | exact bodyPost_ret (results_tmp2 rfl _ _ _) rfl ⟨_, _, rfl, HB.out⟩ | exact bodyPost_ret (results_tmp2 rfl _ _ _) rfl ⟨⟨_, _, rfl⟩, HB.out⟩ | exact bodyPost_ret (results_tmp2 rfl _ _ _) rfl HB.out
      · go_wp2
        first | exact ⟨_, _, rfl, HB.out⟩ | exact HB.out | exact bodyPost_ret (results_tmp2 rfl _ _ _) rfl ⟨_, _, rfl, HB.out⟩ | exact bodyPost_ret (results_tmp2 rfl _ _ _) rfl ⟨⟨_, _, rfl⟩, HB.out⟩ | exact bodyPost_ret (results_tmp2 rfl _ _ _) rfl HB.out

/-- The state of the program's loop: m speeds are finite. -/
def InvU (n m : Nat) (x y : Nat → Nat) (k : Nat) (z : Nat → Nat) : Prop := (∀ i, i < n → z i < 4294967296) ∧ ((k ≤ m ∧ ∀ i, i < n → z i = if i < k then y i else x i) ∨ (m < n ∧ ∃ i, i < k ∧ i < n ∧ finB (z i) = false))

theorem pf_self (k : Nat) : Pf k k := ⟨rfl, fun _ => rfl⟩

theorem folds_is {d l w q Q K k : Nat} (h : FoldG d l w q Q K k) (w1 : World) : Calls Tryd.prog 69 #[.float .f32 d, .float .f32 l] w1 fun e w' => ∃ f, e = .returned (.float .f32 f) ∧ Pf k f ∧ Below w1.heap.size w1 w' := by
  cases hz : (D.order K 0 == some .eq) with
  | true =>
    refine (iFoldsG_z h hz w1).mono ?_
    rintro e w' ⟨rfl, rfl⟩
    have hk := h.zk hz
    exact ⟨0, rfl, ⟨by rw [hk]; decide, fun e => by rw [e] at hk; cases hk⟩, Below.refl _ _⟩
  | false =>
    refine (iFoldsG_n h hz w1).mono ?_
    rintro e w' ⟨rfl, rfl⟩
    exact ⟨k, rfl, pf_self k, Below.refl _ _⟩

theorem inv_same {n m : Nat} {x y z : Nat → Nat} {k : Nat} (hk : k < m) (hz : (∀ i, i < n → z i < 4294967296) ∧ ∀ i, i < n → z i = if i < k then y i else x i) (e : y k = x k) : InvU n m x y (k + 1) z :=
  ⟨hz.1, .inl ⟨hk, fun i hi => by
    rw [hz.2 i hi]
    by_cases h : i = k
    · subst h; rw [if_neg (by omega), if_pos (by omega), e]
    · by_cases h2 : i < k
      · rw [if_pos h2, if_pos (by omega)]
      · rw [if_neg h2, if_neg (by omega)]⟩⟩

theorem inv_set {n m : Nat} {x y z : Nat → Nat} {k v : Nat} (hk : k < m) (hz : (∀ i, i < n → z i < 4294967296) ∧ ∀ i, i < n → z i = if i < k then y i else x i) (e : v = y k) (lv : v < 4294967296) : InvU n m x y (k + 1) (upN z k v) := by
  refine ⟨fun i hi => ?_, .inl ⟨hk, fun i hi => ?_⟩⟩
  · unfold upN; by_cases h : i = k
    · rw [if_pos h]; exact lv
    · rw [if_neg h]; exact hz.1 i hi
  · unfold upN
    by_cases h : i = k
    · subst h; rw [if_pos rfl, if_pos (by omega), e]
    · rw [if_neg h, hz.2 i hi]
      by_cases h2 : i < k
      · rw [if_pos h2, if_pos (by omega)]
      · rw [if_neg h2, if_neg (by omega)]

theorem inv_bad {n m : Nat} {x y z : Nat → Nat} {k v : Nat} (hkn : k < n) (hm : m < n) (hz : ∀ i, i < n → z i < 4294967296) (lv : v < 4294967296) (hf : finB v = false) : InvU n m x y (k + 1) (upN z k v) := by
  refine ⟨fun i hi => ?_, .inr ⟨hm, k, by omega, hkn, ?_⟩⟩
  · unfold upN; by_cases h : i = k
    · rw [if_pos h]; exact lv
    · rw [if_neg h]; exact hz i hi
  · unfold upN; rw [if_pos rfl]; exact hf

theorem oracle_i {l w9 n m : Nat} {x y : Nat → Nat} (hw : S.mul 1073741824 l = some w9) (hm : m ≤ n) (hs : ∀ k, k + 1 < m → StO l (y k) (x (k + 1)) (y (k + 1))) (hb : m = n ∨ StB l (y (m - 1)) (x m)) : Oracle l w9 n (InvU n m x y) := by
  intro k z hk1 hkn hI
  obtain ⟨hz, hI⟩ := hI
  rcases hI with ⟨hkm, hzy⟩ | ⟨hmn, i, hik, hin, hfi⟩
  · have ep : z (k - 1) = y (k - 1) := by rw [hzy (k - 1) (by omega), if_pos (by omega)]
    have ec : z k = x k := by rw [hzy k hkn, if_neg (by omega)]
    rcases Nat.lt_or_eq_of_le hkm with hlt | rfl
    · obtain ⟨d0, w, q, Q, K, k', h⟩ := hs (k - 1) (by omega)
      rw [show k - 1 + 1 = k by omega] at h
      obtain rfl : w = w9 := Option.some.inj (h.hg.hw.symm.trans hw)
      refine ⟨Pf k', fun d w1 _ hd => ?_, fun f pf h0 => inv_same hlt ⟨hz, hzy⟩ (ok_z h pf h0), fun f p2 v pf h0 hv => inv_set hlt ⟨hz, hzy⟩ (ok_n h pf h0 (by rw [ec] at hv; exact hv)) hv.lv⟩
      obtain rfl := hd d0 (by rw [ep, ec]; exact h.hd)
      exact folds_is h.hg w1
    · rcases hb with rfl | hb
      · omega
      · rcases hb with ⟨v0, d0, w, q, Q, K, k', h⟩ | ⟨d0, w, h⟩
        · obtain rfl : w = w9 := Option.some.inj (h.hg.hw.symm.trans hw)
          refine ⟨Pf k', fun d w1 _ hd => ?_, fun f pf h0 => (by rw [inf_z h pf] at h0; cases h0), fun f p2 v pf h0 hv => inv_bad hkn hkn hz hv.lv (inf_n h pf (by rw [ec] at hv; exact hv))⟩
          obtain rfl := hd d0 (by rw [ep, ec]; exact h.hd)
          exact folds_is h.hg w1
        · obtain rfl : w = w9 := Option.some.inj (h.hw.symm.trans hw)
          refine ⟨fun f => INF < mg f, fun d w1 _ hd => ?_, fun f pf h0 => (by rw [nan_z pf] at h0; cases h0), fun f p2 v pf h0 hv => inv_bad hkn hkn hz hv.lv (nan_n pf hv)⟩
          obtain rfl := hd d0 (by rw [ep, ec]; exact h.hd)
          exact iFolds_nan d l w h.hw h.hq w1
  · refine ⟨fun _ => True, fun d w1 _ _ => (iFolds_any d l w9 hw w1).mono fun e w' ⟨f, e1, e2⟩ => ⟨f, e1, trivial, e2⟩, fun f _ _ => ⟨hz, .inr ⟨hmn, i, by omega, hin, hfi⟩⟩, fun f p2 v _ _ hv => ⟨fun j hj => ?_, .inr ⟨hmn, i, by omega, hin, ?_⟩⟩⟩
    · unfold upN; by_cases h : j = k
      · rw [if_pos h]; exact hv.lv
      · rw [if_neg h]; exact hz j hj
    · unfold upN; rw [if_neg (by omega)]; exact hfi

theorem oracle_s {l w9 n m : Nat} {x y : Nat → Nat} (hw : S.mul 1073741824 l = some w9) (hs : ∀ k, k + 1 < m → StO l (y k) (x (k + 1)) (y (k + 1))) (hb : m = n ∨ StB l (y (m - 1)) (x m)) : OracleS w9 n m x y := by
  intro k hk1 hkn hkm
  rcases Nat.lt_or_eq_of_le hkm with hlt | rfl
  · obtain ⟨d0, w, q0, Q, K, k', h⟩ := hs (k - 1) (by omega)
    rw [show k - 1 + 1 = k by omega] at h
    obtain rfl : w = w9 := Option.some.inj (h.hg.hw.symm.trans hw)
    refine ⟨Pf k', fun d q w1 hd hq _ _ => ?_, fun f pf h0 => ⟨hlt, ok_z h pf h0⟩, fun f p2 v pf h0 hv => .inl ⟨hlt, ok_n h pf h0 hv, by rw [ok_n h pf h0 hv]; exact finB_iff.2 h.fv.2⟩⟩
    obtain rfl := hd d0 h.hd
    obtain rfl := hq q0 h.hg.hq
    exact (sNearG h.hg w1).mono fun e w' ⟨e1, e2⟩ => ⟨k', e1, pf_self k', e2 ▸ Below.refl _ _⟩
  · rcases hb with rfl | hb
    · omega
    · rcases hb with ⟨v0, d0, w, q0, Q, K, k', h⟩ | ⟨d0, w, h⟩
      · obtain rfl : w = w9 := Option.some.inj (h.hg.hw.symm.trans hw)
        refine ⟨Pf k', fun d q w1 hd hq _ _ => ?_, fun f pf h0 => (by rw [inf_z h pf] at h0; cases h0), fun f p2 v pf h0 hv => .inr ⟨rfl, inf_n h pf hv⟩⟩
        obtain rfl := hd d0 h.hd
        obtain rfl := hq q0 h.hg.hq
        exact (sNearG h.hg w1).mono fun e w' ⟨e1, e2⟩ => ⟨k', e1, pf_self k', e2 ▸ Below.refl _ _⟩
      · obtain rfl : w = w9 := Option.some.inj (h.hw.symm.trans hw)
        refine ⟨fun f => INF < mg f, fun d q w1 hd _ hq _ => ?_, fun f pf h0 => (by rw [nan_z pf] at h0; cases h0), fun f p2 v pf h0 hv => .inr ⟨rfl, nan_n pf hv⟩⟩
        obtain rfl := hd d0 h.hd
        exact (sNear_nan q (hq h.hq) w1).mono fun e w' ⟨f, e1, e2, e3⟩ => ⟨f, e1, e2, e3⟩

set_option maxRecDepth 100000 in
set_option maxHeartbeats 4000000 in
theorem coreUnfOk (s : Value) (n : Nat) (hn : n ≤ 32) (x : Nat → Nat) (hx : ∀ k, k < n → x k < 4294967296) (l : Nat) (y : Nat → Nat) (hy : ∀ k, k < n → y k < 4294967296) (w : World) (hs : RdV w s n (flV x))
    (hS : ∀ w1 s1, Below w.heap.size w w1 → RdV w1 s1 n (flV x) → Calls Tryd.prog 18 #[s1, .float .f32 l] w1 fun e w' => ∃ v, e = .returned (.tuple #[v, .int .i64 0]) ∧ MadeF n y w1 v w')
    (hI : ∀ w1 s1, Below w.heap.size w w1 → RdV w1 s1 n (flV x) → Calls Tryd.prog 20 #[s1, .float .f32 l] w1 fun e w' => ∃ v, e = .returned (.tuple #[v, .int .i64 0]) ∧ MadeF n y w1 v w') :
    Calls Tryd.prog 4 #[s, .float .f32 l] w fun e w' => e = .returned (.bool true) ∧ Below w.heap.size w w' := by
  have HS := hid hS
  have HI := hid hI
  have HX := hid hx
  have RS := hid hs
  have k0 : Hid (Kept w [] w) := hid (Kept.nil w)
  have HN := hid (show n ≤ 1048576 by omega)
  have HM := hid (show n ≤ 64 by omega)
  have HY := hid hy
  have hbig : ¬ (1048576 < (n : Int)) := by omega
  have hneg0 : ¬ (1 + (n : Int) < 0) := by omega
  clear hS hI hx hn hy
  obtain ⟨p, cap, rfl, _⟩ := hs
  go_enter Tryd.func4, Tryd.ntmps4
  go_wp2_with fail
  refine (toFs _ n x _ (RS.out.stay k0.out.1) HN.out).mono ?_
  rintro e u1 ⟨_, rfl, C, csC, capC, rfl, hBC, LC, KC⟩
  have hwC := Nat.le_trans k0.out.size hBC
  have k1 : Hid (Kept w [(C, csC, 22)] u1) := hid (k0.out.join KC)
  have vC := hid LC
  clear KC LC hBC
  go_wp2_with fail
  refine (HS.out _ _ k1.out.1 (Kept.rdV (T := 22) k1.out vC.out (by simp) capC)).mono ?_
  rintro e u2 ⟨_, rfl, D, csD, capD, rfl, hBD, LD, KD⟩
  have h0D : C < D := Nat.lt_of_lt_of_le (k1.out.lt (x := (C, csC, 22)) (by simp)) hBD
  have hwD := Nat.le_trans k1.out.size hBD
  have k2 : Hid (Kept w [(D, csD, 22), (C, csC, 22)] u2) := hid (k1.out.join KD)
  have vD := hid LD
  clear KD LD hBD
  have k3 := hid (Kept.sub (l' := [(D, csD, 22)]) k2.out (by simp))
  go_wp2_with fail
  refine (toFs _ n x _ (RS.out.stay k3.out.1) HN.out).mono ?_
  rintro e u4 ⟨_, rfl, X, csX, capX, rfl, hBX, LX, KX⟩
  have h0X : D < X := Nat.lt_of_lt_of_le (k3.out.lt (x := (D, csD, 22)) (by simp)) hBX
  have hwX := Nat.le_trans k3.out.size hBX
  have k4 : Hid (Kept w [(X, csX, 22), (D, csD, 22)] u4) := hid (k3.out.join KX)
  have vX := hid LX
  clear KX LX hBX
  go_wp2_with fail
  refine (HI.out _ _ k4.out.1 (Kept.rdV (T := 22) k4.out vX.out (by simp) capX)).mono ?_
  rintro e u5 ⟨_, rfl, G, csG, capG, rfl, hBG, LG, KG⟩
  have h0G : X < G := Nat.lt_of_lt_of_le (k4.out.lt (x := (X, csX, 22)) (by simp)) hBG
  have h1G : D < G := Nat.lt_of_lt_of_le (k4.out.lt (x := (D, csD, 22)) (by simp)) hBG
  have hwG := Nat.le_trans k4.out.size hBG
  have k5 : Hid (Kept w [(G, csG, 22), (X, csX, 22), (D, csD, 22)] u5) := hid (k4.out.join KG)
  have vG := hid LG
  clear KG LG hBG
  go_wp2_with fail
  refine (eqFs _ _ n y HY.out _ (Kept.rdV (T := 22) k5.out vG.out (by simp) capG) (Kept.rdV (T := 22) k5.out vD.out (by simp) capD) HN.out).mono ?_
  rintro e u6 ⟨rfl, hb6⟩
  have k6 : Hid (Kept w [(G, csG, 22), (X, csX, 22), (D, csD, 22)] u6) := hid (k5.out.stay hb6)
  clear hb6
  go_wp2_with fail
  refine (toFs _ n x _ (RS.out.stay k6.out.1) HN.out).mono ?_
  rintro e u7 ⟨_, rfl, Y, csY, capY, rfl, hBY, LY, KY⟩
  have h0Y : G < Y := Nat.lt_of_lt_of_le (k6.out.lt (x := (G, csG, 22)) (by simp)) hBY
  have h1Y : X < Y := Nat.lt_of_lt_of_le (k6.out.lt (x := (X, csX, 22)) (by simp)) hBY
  have h2Y : D < Y := Nat.lt_of_lt_of_le (k6.out.lt (x := (D, csD, 22)) (by simp)) hBY
  have hwY := Nat.le_trans k6.out.size hBY
  have k7 : Hid (Kept w [(Y, csY, 22), (G, csG, 22), (X, csX, 22), (D, csD, 22)] u7) := hid (k6.out.join KY)
  have vY := hid LY
  clear KY LY hBY
  go_wp2_with fail
  refine (eqFs _ _ n x HX.out _ (Kept.rdV (T := 22) k7.out vX.out (by simp) capX) (Kept.rdV (T := 22) k7.out vY.out (by simp) capY) HN.out).mono ?_
  rintro e u8 ⟨rfl, hb8⟩
  have k8 : Hid (Kept w [(Y, csY, 22), (G, csG, 22), (X, csX, 22), (D, csD, 22)] u8) := hid (k7.out.stay hb8)
  clear hb8
  have k9 := hid (Kept.sub (l' := [(G, csG, 22), (X, csX, 22), (D, csD, 22)]) k8.out (by simp))
  go_wp2_with fail
  refine (markFs w [(G, csG, 22), (D, csD, 22)] X n capX csX _ _ (Kept.sub (l' := [(X, csX, 22), (G, csG, 22), (D, csD, 22)]) k9.out (by simp)) hwX (by intro z hz; simp at hz; rcases hz with rfl | rfl <;> simp <;> omega) vX.out HN.out).mono ?_
  rintro e u10 ⟨rfl, csMX, wM, kk⟩
  have k10 : Hid (Kept w [(X, csMX, 22), (G, csG, 22), (D, csD, 22)] u10) := hid kk
  replace vX := hid wM
  clear kk wM
  go_wp2_with fail
  refine (eqFs _ _ n y HY.out _ (Kept.rdV (T := 22) k10.out vG.out (by simp) capG) (Kept.rdV (T := 22) k10.out vD.out (by simp) capD) HN.out).mono ?_
  rintro e u11 ⟨rfl, hb11⟩
  have k11 : Hid (Kept w [(X, csMX, 22), (G, csG, 22), (D, csD, 22)] u11) := hid (k10.out.stay hb11)
  clear hb11
  have k12 := hid (Kept.sub (l' := [(G, csG, 22), (D, csD, 22)]) k11.out (by simp))
  go_wp2_with fail
  refine (markFs w [(D, csD, 22)] G n capG csG _ _ (Kept.sub (l' := [(G, csG, 22), (D, csD, 22)]) k12.out (by simp)) hwG (by intro z hz; simp at hz; rcases hz with rfl <;> simp <;> omega) vG.out HN.out).mono ?_
  rintro e u13 ⟨rfl, csMG, wM, kk⟩
  have k13 : Hid (Kept w [(G, csMG, 22), (D, csD, 22)] u13) := hid kk
  replace vG := hid wM
  clear kk wM
  go_wp2_with fail
  refine (heldFs _ n _ (Kept.rdV (T := 22) k13.out vG.out (by simp) capG) HM.out).mono ?_
  rintro e z2 ⟨rfl, rfl⟩
  go_wp2_with fail
  refine (toFs _ n x _ (RS.out.stay k13.out.1) HN.out).mono ?_
  rintro e u14 ⟨_, rfl, Z, csZ, capZ, rfl, hBZ, LZ, KZ⟩
  have h0Z : G < Z := Nat.lt_of_lt_of_le (k13.out.lt (x := (G, csMG, 22)) (by simp)) hBZ
  have h1Z : D < Z := Nat.lt_of_lt_of_le (k13.out.lt (x := (D, csD, 22)) (by simp)) hBZ
  have hwZ := Nat.le_trans k13.out.size hBZ
  have k14 : Hid (Kept w [(Z, csZ, 22), (G, csMG, 22), (D, csD, 22)] u14) := hid (k13.out.join KZ)
  have vZ := hid LZ
  clear KZ LZ hBZ
  go_wp2_with fail
  refine (HI.out _ _ k14.out.1 (Kept.rdV (T := 22) k14.out vZ.out (by simp) capZ)).mono ?_
  rintro e u15 ⟨_, rfl, H, csH, capH, rfl, hBH, LH, KH⟩
  have h0H : Z < H := Nat.lt_of_lt_of_le (k14.out.lt (x := (Z, csZ, 22)) (by simp)) hBH
  have h1H : G < H := Nat.lt_of_lt_of_le (k14.out.lt (x := (G, csMG, 22)) (by simp)) hBH
  have h2H : D < H := Nat.lt_of_lt_of_le (k14.out.lt (x := (D, csD, 22)) (by simp)) hBH
  have hwH := Nat.le_trans k14.out.size hBH
  have k15 : Hid (Kept w [(H, csH, 22), (Z, csZ, 22), (G, csMG, 22), (D, csD, 22)] u15) := hid (k14.out.join KH)
  have vH := hid LH
  clear KH LH hBH
  go_wp2_with fail
  refine (eqFs _ _ n y HY.out _ (Kept.rdV (T := 22) k15.out vH.out (by simp) capH) (Kept.rdV (T := 22) k15.out vD.out (by simp) capD) HN.out).mono ?_
  rintro e u16 ⟨rfl, hb16⟩
  have k16 : Hid (Kept w [(H, csH, 22), (Z, csZ, 22), (G, csMG, 22), (D, csD, 22)] u16) := hid (k15.out.stay hb16)
  clear hb16
  go_wp2_with fail
  refine (heldFs _ n _ (Kept.rdV (T := 22) k16.out vG.out (by simp) capG) HM.out).mono ?_
  rintro e z2 ⟨rfl, rfl⟩
  go_wp2
  go_ret
  exact ⟨rfl, k16.out.1⟩

set_option maxRecDepth 100000 in
set_option maxHeartbeats 4000000 in
theorem coreUnfErr (s : Value) (n : Nat) (hn : n ≤ 1048576) (x : Nat → Nat) (hx : ∀ k, k < n → x k < 4294967296) (l : Nat) (c : Int) (w : World) (hs : RdV w s n (flV x))
    (hS : ∀ w1 s1, Below w.heap.size w w1 → RdV w1 s1 n (flV x) → Calls Tryd.prog 18 #[s1, .float .f32 l] w1 fun e w' => ∃ p k, e = .returned (.tuple #[.slice p 0 k, .int .i64 c]) ∧ Below w1.heap.size w1 w')
    (hI : ∀ w1 s1, Below w.heap.size w w1 → RdV w1 s1 n (flV x) → Calls Tryd.prog 20 #[s1, .float .f32 l] w1 fun e w' => ∃ p k, e = .returned (.tuple #[.slice p 0 k, .int .i64 c]) ∧ Below w1.heap.size w1 w') :
    Calls Tryd.prog 4 #[s, .float .f32 l] w fun e w' => e = .returned (.bool true) ∧ Below w.heap.size w w' := by
  have HS := hid hS
  have HI := hid hI
  have HX := hid hx
  have RS := hid hs
  have k0 : Hid (Kept w [] w) := hid (Kept.nil w)
  have HN := hid (show n ≤ 1048576 by omega)
  have hbig : ¬ (1048576 < (n : Int)) := by omega
  have hneg0 : ¬ (1 + (n : Int) < 0) := by omega
  clear hS hI hx hn
  obtain ⟨p, cap, rfl, _⟩ := hs
  go_enter Tryd.func4, Tryd.ntmps4
  go_wp2_with fail
  refine (toFs _ n x _ (RS.out.stay k0.out.1) HN.out).mono ?_
  rintro e u1 ⟨_, rfl, C, csC, capC, rfl, hBC, LC, KC⟩
  have hwC := Nat.le_trans k0.out.size hBC
  have k1 : Hid (Kept w [(C, csC, 22)] u1) := hid (k0.out.join KC)
  have vC := hid LC
  clear KC LC hBC
  go_wp2_with fail
  refine (HS.out _ _ k1.out.1 (Kept.rdV (T := 22) k1.out vC.out (by simp) capC)).mono ?_
  rintro e u2 ⟨p0, p0c, rfl, hb2⟩
  have k2 : Hid (Kept w [(C, csC, 22)] u2) := hid (k1.out.stay hb2)
  clear hb2
  have k3 := hid (Kept.sub (l' := []) k2.out (by simp))
  go_wp2_with fail
  refine (toFs _ n x _ (RS.out.stay k3.out.1) HN.out).mono ?_
  rintro e u4 ⟨_, rfl, X, csX, capX, rfl, hBX, LX, KX⟩
  have hwX := Nat.le_trans k3.out.size hBX
  have k4 : Hid (Kept w [(X, csX, 22)] u4) := hid (k3.out.join KX)
  have vX := hid LX
  clear KX LX hBX
  go_wp2_with fail
  refine (HI.out _ _ k4.out.1 (Kept.rdV (T := 22) k4.out vX.out (by simp) capX)).mono ?_
  rintro e u5 ⟨p1, p1c, rfl, hb5⟩
  have k5 : Hid (Kept w [(X, csX, 22)] u5) := hid (k4.out.stay hb5)
  clear hb5
  go_wp2_with fail
  refine (eqFs _ _ 0 (fun _ => 0) (fun _ h => absurd h (Nat.not_lt_zero _)) _ (RdV.zero _ _ _ _) (RdV.zero _ _ _ _) (by omega)).mono ?_
  rintro e u6 ⟨rfl, hb6⟩
  have k6 : Hid (Kept w [(X, csX, 22)] u6) := hid (k5.out.stay hb6)
  clear hb6
  go_wp2_with fail
  refine (toFs _ n x _ (RS.out.stay k6.out.1) HN.out).mono ?_
  rintro e u7 ⟨_, rfl, Y, csY, capY, rfl, hBY, LY, KY⟩
  have h0Y : X < Y := Nat.lt_of_lt_of_le (k6.out.lt (x := (X, csX, 22)) (by simp)) hBY
  have hwY := Nat.le_trans k6.out.size hBY
  have k7 : Hid (Kept w [(Y, csY, 22), (X, csX, 22)] u7) := hid (k6.out.join KY)
  have vY := hid LY
  clear KY LY hBY
  go_wp2_with fail
  refine (eqFs _ _ n x HX.out _ (Kept.rdV (T := 22) k7.out vX.out (by simp) capX) (Kept.rdV (T := 22) k7.out vY.out (by simp) capY) HN.out).mono ?_
  rintro e u8 ⟨rfl, hb8⟩
  have k8 : Hid (Kept w [(Y, csY, 22), (X, csX, 22)] u8) := hid (k7.out.stay hb8)
  clear hb8
  have k9 := hid (Kept.sub (l' := [(X, csX, 22)]) k8.out (by simp))
  go_wp2_with fail
  refine (markFs w [] X n capX csX _ _ (Kept.sub (l' := [(X, csX, 22)]) k9.out (by simp)) hwX (by intro z hz; simp at hz; skip) vX.out HN.out).mono ?_
  rintro e u10 ⟨rfl, csMX, wM, kk⟩
  have k10 : Hid (Kept w [(X, csMX, 22)] u10) := hid kk
  replace vX := hid wM
  clear kk wM
  go_wp2_with fail
  refine (eqFs _ _ 0 (fun _ => 0) (fun _ h => absurd h (Nat.not_lt_zero _)) _ (RdV.zero _ _ _ _) (RdV.zero _ _ _ _) (by omega)).mono ?_
  rintro e u11 ⟨rfl, hb11⟩
  have k11 : Hid (Kept w [(X, csMX, 22)] u11) := hid (k10.out.stay hb11)
  clear hb11
  go_wp2_with fail
  refine (mark0F _ _ _).mono ?_
  rintro e z1 ⟨rfl, rfl⟩
  go_wp2_with fail
  refine (held0F _ _ _).mono ?_
  rintro e z2 ⟨rfl, rfl⟩
  go_wp2_with fail
  refine (toFs _ n x _ (RS.out.stay k11.out.1) HN.out).mono ?_
  rintro e u12 ⟨_, rfl, Z, csZ, capZ, rfl, hBZ, LZ, KZ⟩
  have h0Z : X < Z := Nat.lt_of_lt_of_le (k11.out.lt (x := (X, csMX, 22)) (by simp)) hBZ
  have hwZ := Nat.le_trans k11.out.size hBZ
  have k12 : Hid (Kept w [(Z, csZ, 22), (X, csMX, 22)] u12) := hid (k11.out.join KZ)
  have vZ := hid LZ
  clear KZ LZ hBZ
  go_wp2_with fail
  refine (HI.out _ _ k12.out.1 (Kept.rdV (T := 22) k12.out vZ.out (by simp) capZ)).mono ?_
  rintro e u13 ⟨p2, p2c, rfl, hb13⟩
  have k13 : Hid (Kept w [(Z, csZ, 22), (X, csMX, 22)] u13) := hid (k12.out.stay hb13)
  clear hb13
  go_wp2_with fail
  refine (eqFs _ _ 0 (fun _ => 0) (fun _ h => absurd h (Nat.not_lt_zero _)) _ (RdV.zero _ _ _ _) (RdV.zero _ _ _ _) (by omega)).mono ?_
  rintro e u14 ⟨rfl, hb14⟩
  have k14 : Hid (Kept w [(Z, csZ, 22), (X, csMX, 22)] u14) := hid (k13.out.stay hb14)
  clear hb14
  go_wp2_with fail
  refine (held0F _ _ _).mono ?_
  rintro e z2 ⟨rfl, rfl⟩
  go_wp2
  go_ret
  exact ⟨rfl, k14.out.1⟩

set_option maxRecDepth 100000 in
theorem unf_big (p : Option Addr) (n cap l : Nat) (hn : 1048576 < n) (w : World) : Calls Tryd.prog 4 #[.slice p n cap, .float .f32 l] w fun e w' => e = .returned (.bool true) ∧ Below w.heap.size w w' := by
  have hb : (1048576 < (n : Int)) := by omega
  go_enter Tryd.func4, Tryd.ntmps4
  go_wp2
  go_ret
  exact ⟨rfl, Below.refl _ _⟩

theorem lawUnfoldSpeeds (A : Nat → Addr) (s : Value) (n : Nat) (x : Nat → Nat) (hx : ∀ k, k < n → x k < 4294967296) (l : Nat) (hl : l < 4294967296) {w : World} (hs : RdV w s n (flV x)) (hA : Sent6 w A) :
    Calls Tryd.prog 4 #[s, .float .f32 l] w fun e w' => e = .returned (.bool true) ∧ Below w.heap.size w w' := by
  by_cases hbig : n ≤ 1048576
  · by_cases hn : 1 ≤ n ∧ n ≤ 32
    · obtain ⟨h1, h32⟩ := hn
      rcases hb : limB l with _ | _
      · refine coreUnfErr s n hbig x hx l 2 w hs (fun w1 s1 _ h => ?_) (fun w1 s1 b h => ?_)
        · obtain ⟨p, cap, rfl, _⟩ := h; exact sUnf_lim p n cap l h1 h32 hl hb w1
        · have hM := iCheckN_l A s1 n x l hl hb w1 h (hA.s5.stay b)
          obtain ⟨p, cap, rfl, _⟩ := h
          exact iUnf_chk A p n cap l h1 h32 w1 (hA.s5.stay b) hM
      · by_cases hf : ∀ k, k < n → finB (x k) = true
        · have hb' := hb
          unfold limB at hb'
          rw [Bool.and_eq_true, decide_eq_true_eq] at hb'
          obtain ⟨w9, hw9, _⟩ := two_mul hb'.1 hb'.2
          obtain ⟨y, y0, j, hj, hst, he⟩ := seq_any hb'.1 hb'.2 x (fun k hk => ⟨hx k hk, finB_iff.1 (hf k hk)⟩) (n - 1) (by omega)
          have hs' : ∀ k, k + 1 < j + 1 → StO l (y k) (x (k + 1)) (y (k + 1)) := fun k hk => hst k (by omega)
          have he' : j + 1 = n ∨ StB l (y (j + 1 - 1)) (x (j + 1)) := by
            rcases he with h | h
            · left; omega
            · right; exact h
          have OI := oracle_i hw9 (show j + 1 ≤ n by omega) hs' he'
          have OS := oracle_s (n := n) hw9 hs' he'
          have fy : ∀ k, k < j + 1 → FW (y k) := fun k hk => by
            cases k with
            | zero => rw [y0]; exact ⟨hx 0 (by omega), finB_iff.1 (hf 0 (by omega))⟩
            | succ k => obtain ⟨_, _, _, _, _, _, h⟩ := hst k (by omega); exact h.fv
          have i1 : InvU n (j + 1) x y 1 x := ⟨hx, .inl ⟨by omega, fun i hi => by
            by_cases h : i < 1
            · obtain rfl : i = 0 := by omega
              rw [if_pos h, y0]
            · rw [if_neg h]⟩⟩
          by_cases hjn : j + 1 = n
          · refine coreUnfOk s n h32 x hx l y (fun k hk => (fy k (by omega)).1) w hs (fun w1 s1 _ h => ?_) (fun w1 s1 b h => ?_)
            · exact sUnf_any s1 n h1 h32 x y (fun k hk => ⟨hx k hk, hf k hk⟩) l w9 (j + 1) hl hb hw9 OS y0 (by omega) w1 h _ (fun _ v w' hM => ⟨v, rfl, hM⟩) (fun h => by omega)
            · refine iUnf_any s1 n h1 h32 x l w9 hw9 _ OI i1 w1 h (iCheckN_t s1 n x hx hf l hl hb w1 h hbig) _ (fun z B cs cap wr hI hB hL hK => ?_)
              have ez : ∀ k, k < n → z k = y k := by
                obtain ⟨_, hI⟩ := hI
                rcases hI with ⟨_, h⟩ | ⟨h, _⟩
                · intro k hk; rw [h k hk, if_pos hk]
                · omega
              have hL2 : LvV cs n (flV y) := hL.ext fun k hk => by unfold flV; rw [ez k hk]
              refine (iResult_t _ n y (fun k hk => (fy k (by omega)).1) (fun k hk => finB_iff.2 (fy k (by omega)).2) wr (Kept.rdV (T := 22) hK hL2 (by simp) cap) hbig).mono ?_
              rintro e w' ⟨rfl, hb9⟩
              exact ⟨_, _, rfl, _, rfl, B, cs, cap, rfl, hB, hL2, hK.stay hb9⟩
          · refine coreUnfErr s n hbig x hx l 4 w hs (fun w1 s1 _ h => ?_) (fun w1 s1 b h => ?_)
            · exact sUnf_any s1 n h1 h32 x y (fun k hk => ⟨hx k hk, hf k hk⟩) l w9 (j + 1) hl hb hw9 OS y0 (by omega) w1 h _ (fun h => by omega) (fun _ p k w' hb9 => ⟨p, k, rfl, hb9⟩)
            · refine iUnf_any s1 n h1 h32 x l w9 hw9 _ OI i1 w1 h (iCheckN_t s1 n x hx hf l hl hb w1 h hbig) _ (fun z B cs cap wr hI hB hL hK => ?_)
              have hbz : ¬ ∀ k, k < n → finB (z k) = true := by
                obtain ⟨_, hI⟩ := hI
                rcases hI with ⟨h, _⟩ | ⟨_, i, _, h2, h3⟩
                · omega
                · intro h; rw [h i h2] at h3; cases h3
              refine (iResult_f A _ n z hI.1 hbz wr (Kept.rdV (T := 22) hK hL (by simp) cap) hbig ((hA.stay b).stay hK.1)).mono ?_
              rintro e w' ⟨rfl, hb9⟩
              exact ⟨_, _, rfl, _, _, rfl, (hK.stay hb9).1⟩
        · refine coreUnfErr s n hbig x hx l 2 w hs (fun w1 s1 _ h => sUnf_nf s1 n h1 h32 x hx hf l hl hb w1 h) (fun w1 s1 b h => ?_)
          have hM := iCheckN_f A s1 n x hx hf l hl hb w1 h hbig (hA.s5.stay b)
          obtain ⟨p, cap, rfl, _⟩ := h
          exact iUnf_chk A p n cap l h1 h32 w1 (hA.s5.stay b) hM
    · refine coreUnfErr s n hbig x hx l 2 w hs (fun w1 s1 _ h => ?_) (fun w1 s1 b h => ?_)
      · obtain ⟨p, cap, rfl, _⟩ := h; exact sUnf_len p n cap l hn w1
      · obtain ⟨p, cap, rfl, _⟩ := h; exact iUnf_len A p n cap l hn w1 (hA.s5.stay b)
  · obtain ⟨p, cap, rfl, _⟩ := hs
    exact unf_big p n cap l (by omega) w

theorem words_cons : ∀ (v : List Char) (r : List Char), (∀ c ∈ v, c ≠ Char.ofNat 32) → wordsSigns (v ++ Char.ofNat 32 :: r) = v :: wordsSigns r
  | [], r, _ => rfl
  | c :: v, r, h => by
    have ih := words_cons v r (fun x hx => h x (by simp [hx]))
    have hc : c ≠ Char.ofNat 32 := h c (by simp)
    show wordsSigns (c :: (v ++ Char.ofNat 32 :: r)) = _
    rw [wordsSigns.eq_3 _ _ (fun e => hc e), ih]

def w0 : List Nat := [104, 97, 114, 110, 101, 115, 115]

def w1 : List Nat := [54, 55, 54, 48, 57, 49, 98, 54, 50, 51, 48, 54, 102, 51, 102, 102, 57, 52, 48, 49, 101, 52, 54, 56, 56, 98, 52, 53, 52, 100, 48, 49, 52, 54, 53, 57, 51, 99, 48, 50, 48, 101, 98, 101, 98, 54, 52, 50, 100, 56, 102, 100, 97, 51, 49, 101, 100, 97, 48, 54, 51, 98, 51, 53]

def w2 : List Nat := [99, 117, 116]

def w3 : List Nat := [97, 116, 32, 108, 111, 111, 112, 46, 101, 120, 97, 109, 112, 108, 101, 47, 103, 48, 49, 50, 50, 52, 47, 108, 97, 119, 115, 46, 70, 110, 69, 120, 97, 99, 116, 83, 112, 111, 116, 79, 102, 32, 108, 111, 111, 112, 46, 101, 120, 97, 109, 112, 108, 101, 47, 103, 48, 49, 50, 50, 52, 47, 108, 97, 119, 115, 46, 70, 110, 69, 120, 97, 99, 116, 85, 110, 102, 111, 108, 100, 83, 112, 101, 101, 100, 115, 32, 108, 111, 111, 112, 46, 101, 120, 97, 109, 112, 108, 101, 47, 103, 48, 49, 50, 50, 52, 47, 108, 97, 119, 115, 46, 70, 110, 69, 120, 97, 99, 116, 78, 111, 105, 115, 101, 80, 117, 108, 115, 101, 115, 32, 108, 111, 111, 112, 46, 101, 120, 97, 109, 112, 108, 101, 47, 103, 48, 49, 50, 50, 52, 47, 108, 97, 119, 115, 46, 70, 110, 69, 120, 97, 99, 116, 80, 117, 108, 115, 101, 115, 79, 102, 32, 108, 111, 111, 112, 46, 101, 120, 97, 109, 112, 108, 101, 47, 103, 48, 49, 50, 50, 52, 47, 108, 97, 119, 115, 46, 70, 110, 69, 120, 97, 99, 116, 65, 100, 100, 66, 101, 97, 109, 32, 108, 111, 111, 112, 46, 101, 120, 97, 109, 112, 108, 101, 47, 103, 48, 49, 50, 50, 52, 47, 108, 97, 119, 115, 46, 70, 110, 69, 120, 97, 99, 116, 68, 101, 101, 100, 84, 101, 120, 116, 32, 108, 111, 111, 112, 46, 101, 120, 97, 109, 112, 108, 101, 47, 103, 48, 49, 50, 50, 52, 47, 108, 97, 119, 115, 46, 70, 110, 69, 120, 97, 99, 116, 82, 101, 97, 100, 68, 101, 101, 100, 32, 108, 111, 111, 112, 46, 101, 120, 97, 109, 112, 108, 101, 47, 103, 48, 49, 50, 50, 52, 47, 108, 97, 119, 115, 46, 70, 110, 69, 120, 97, 99, 116, 65, 99, 116, 84, 101, 120, 116, 32, 108, 111, 111, 112, 46, 101, 120, 97, 109, 112, 108, 101, 47, 103, 48, 49, 50, 50, 52, 47, 108, 97, 119, 115, 46, 70, 110, 69, 120, 97, 99, 116, 78, 117, 109, 98, 101, 114, 84, 101, 120, 116, 32, 108, 111, 111, 112, 46, 101, 120, 97, 109, 112, 108, 101, 47, 103, 48, 49, 50, 50, 52, 47, 108, 97, 119, 115, 46, 70, 110, 69, 120, 97, 99, 116, 82, 101, 97, 100, 78, 117, 109, 98, 101, 114, 32, 108, 111, 111, 112, 46, 101, 120, 97, 109, 112, 108, 101, 47, 103, 48, 49, 50, 50, 52, 47, 108, 97, 119, 115, 46, 70, 110, 69, 120, 97, 99, 116, 83, 105, 122, 101, 115, 84, 101, 120, 116, 32, 108, 111, 111, 112, 46, 101, 120, 97, 109, 112, 108, 101, 47, 103, 48, 49, 50, 50, 52, 47, 108, 97, 119, 115, 46, 70, 110, 69, 120, 97, 99, 116, 82, 101, 97, 100, 83, 105, 122, 101, 115]

def letters (l : List Nat) : List Char := l.map Char.ofNat

theorem head_reads : Tryd.prog.initOrder = String.ofList (letters w0 ++ Char.ofNat 32 :: (letters w1 ++ Char.ofNat 32 :: (letters w2 ++ Char.ofNat 32 :: letters w3))) := by kernel_rfl

theorem no_blank {l : List Nat} (h : l.all (fun n => Char.ofNat n != Char.ofNat 32) = true) : ∀ c ∈ letters l, c ≠ Char.ofNat 32 := by
  intro c hc
  obtain ⟨n, hn, rfl⟩ := List.mem_map.1 hc
  have := List.all_eq_true.1 h n hn
  simpa using this

theorem h0 : letters w0 = "harness".toList := by kernel_rfl

theorem h2 : letters w2 = "cut".toList := by kernel_rfl

theorem sums : isSumSigns (letters w1) = true := by kernel_rfl

theorem words : wordsSigns Tryd.prog.initOrder.toList = "harness".toList :: letters w1 :: "cut".toList :: wordsSigns (letters w3) := by
  rw [head_reads, String.toList_ofList, words_cons _ _ (no_blank (by decide +kernel)), words_cons _ _ (no_blank (by decide +kernel)), words_cons _ _ (no_blank (by decide +kernel)), h0, h2]

theorem behind : ∃ r, behindMainWord (wordsSigns Tryd.prog.initOrder.toList) = "cut".toList :: r := by
  refine ⟨wordsSigns (letters w3), ?_⟩
  rw [words]
  generalize wordsSigns (letters w3) = r
  have hs := sums
  generalize letters w1 = v at hs
  unfold behindMainWord
  simp [hs]

theorem not_later : Tryd.prog.laysLater = false := by kernel_rfl

theorem no_reflect : Tryd.prog.bearsReflect = false := by kernel_rfl

theorem no_doors : Tryd.prog.doorFits [] = true := by kernel_rfl

theorem strips (r : List (List Char)) : stripLifts liftWords ("cut".toList :: r) = ([], "cut".toList :: r) := by kernel_rfl

theorem may_enter_of (P : Program) (r : List (List Char)) (h : behindMainWord (wordsSigns P.initOrder.toList) = "cut".toList :: r) (h1 : P.laysLater = false) (h2 : P.bearsReflect = false) (h3 : P.doorFits [] = true) : P.mayEnter = true := by
  unfold Program.mayEnter
  rw [h]
  dsimp only
  rw [strips, h1, h2, h3]
  kernel_rfl

theorem lifts_final_of (P : Program) (r : List (List Char)) (h : behindMainWord (wordsSigns P.initOrder.toList) = "cut".toList :: r) : P.liftsFinal = false := by
  unfold Program.liftsFinal Program.headLifts
  rw [h]
  dsimp only
  rw [strips]
  kernel_rfl

theorem made_of (P : Program) (r : List (List Char)) (h : behindMainWord (wordsSigns P.initOrder.toList) = "cut".toList :: r) : P.make = some .cut := by
  unfold Program.make
  rw [h]
  kernel_rfl

theorem may_enter : Tryd.prog.mayEnter = true := let ⟨r, h⟩ := behind; may_enter_of _ r h not_later no_reflect no_doors

theorem lifts_final : Tryd.prog.liftsFinal = false := let ⟨r, h⟩ := behind; lifts_final_of _ r h

theorem made : Tryd.prog.make = some .cut := let ⟨r, h⟩ := behind; made_of _ r h

theorem laid : laidOutB Tryd.prog = true := by kernel_rfl

theorem rowed : mapsRowed Tryd.prog = true := by kernel_rfl

theorem no_stops : Tryd.prog.stops = [] := by kernel_rfl

theorem no_knobs : Tryd.prog.stopKnobs = [] := by kernel_rfl

theorem plain_keys : Tryd.prog.plainKeys = false := by kernel_rfl

theorem stops_heard : Tryd.prog.stopsHeard = true := by kernel_rfl

theorem arr2 {α : Type} {cs : Array α} (h : cs.size = 2) : ∃ c0 c1, cs = #[c0, c1] := by
  obtain ⟨l⟩ := cs
  match l, h with
  | [a, b], _ => exact ⟨a, b, rfl⟩

theorem own : ownKnob Tryd.prog.godebug = none := by kernel_rfl

theorem rdf : Tryd.prog.readableRec 22 = true ∧ 22 < Tryd.prog.types.size := ⟨by kernel_rfl, of_decide_eq_true (by kernel_rfl)⟩

/-- A variable of the five, as a reading of it wants. -/
theorem var_is {W : World} {n : String} {g : Nat} {a : Addr} (hg : Tryd.prog.globalNamed n = some g) (ht : (Tryd.prog.globals[g]?).map (·.type) = some 90) (h : W.var? Tryd.prog n = some #[.iface 291 (.pointer (some a))]) :
    ∃ g ti ms, Tryd.prog.globalNamed n = some g ∧ (Tryd.prog.globals[g]?).map (·.type) = some ti ∧ Tryd.prog.underlying ti = some (.interface ms) ∧ W.var? Tryd.prog n = some #[.iface 291 (.pointer (some a))] ∧ IsIface (.iface 291 (.pointer (some a))) :=
  ⟨g, _, _, hg, ht, Tryd.underlying90, h, trivial⟩

theorem rdF : Tryd.prog.readableRec 30 = true ∧ 30 < Tryd.prog.types.size := ⟨by kernel_rfl, of_decide_eq_true (by kernel_rfl)⟩

theorem cellsF1 : Tryd.prog.cellsOf 22 = 1 := by kernel_rfl

/-- The door's own heap meets the condition of the rows with six variables. -/
theorem door_met6 (os : Os) (args : Array Value) : laidMetH Tryd.prog Rows.fnExactUnfoldSpeedsRow.laid ((World.doorLaid Tryd.prog 400 os).forCall (fun _ _ => 0) ⟨#[], args, []⟩).memory :=
  laidMetH_of_parts3 (fuel := 8) (laidMet_of_run' 8 (by kernel_rfl) (by kernel_rfl)) (by kernel_rfl) (by kernel_rfl)
end Go.Proofs.YthpimindkmmkjaaDoor

namespace Go.Proofs.YthpimindkmmkjaaDoor.fnExactUnfoldSpeeds
open Go.RowKit Go.Fl Go.ChangeShapes Go.WideShapes Go.ChangeAt

set_option maxHeartbeats 2000000 in
theorem closed : joinedFacts Tryd.prog 4 Tryd.f4 Rows.fnExactUnfoldSpeedsSpec Rows.fnExactUnfoldSpeedsRow = true := by
  unfold joinedFacts
  simp only [Bool.and_eq_true]
  exact ⟨⟨⟨⟨⟨⟨⟨⟨⟨⟨⟨⟨⟨⟨⟨⟨⟨⟨⟨⟨⟨⟨⟨⟨⟨⟨⟨⟨⟨⟨⟨(by as_aux_lemma => kernel_rfl),
    laid⟩,
    rowed⟩,
    (by as_aux_lemma => kernel_rfl)⟩,
    (by as_aux_lemma => kernel_rfl)⟩,
    (by as_aux_lemma => kernel_rfl)⟩,
    (by rw [no_stops]; rfl)⟩,
    (by as_aux_lemma => kernel_rfl)⟩,
    (by rw [no_knobs]; rfl)⟩,
    (by as_aux_lemma => kernel_rfl)⟩,
    (by as_aux_lemma => kernel_rfl)⟩,
    (by as_aux_lemma => kernel_rfl)⟩,
    (by as_aux_lemma => kernel_rfl)⟩,
    (by as_aux_lemma => kernel_rfl)⟩,
    (by as_aux_lemma => kernel_rfl)⟩,
    (by as_aux_lemma => kernel_rfl)⟩,
    (by as_aux_lemma => kernel_rfl)⟩,
    (by as_aux_lemma => kernel_rfl)⟩,
    (by as_aux_lemma => kernel_rfl)⟩,
    (by as_aux_lemma => kernel_rfl)⟩,
    (by as_aux_lemma => kernel_rfl)⟩,
    (by as_aux_lemma => kernel_rfl)⟩,
    (show (Rows.fnExactUnfoldSpeedsRow.plainKeys == Tryd.prog.plainKeys) = true by rw [plain_keys]; rfl)⟩,
    (by as_aux_lemma => kernel_rfl)⟩,
    stops_heard⟩,
    may_enter⟩,
    (show (Rows.fnExactUnfoldSpeedsRow.lifted == Tryd.prog.liftsFinal) = true by rw [lifts_final]; rfl)⟩,
    (show (Tryd.prog.make == some Rows.fnExactUnfoldSpeedsRow.make) = true by rw [made]; rfl)⟩,
    (by as_aux_lemma => kernel_rfl)⟩,
    (by as_aux_lemma => kernel_rfl)⟩,
    (by as_aux_lemma => kernel_rfl)⟩,
    (by as_aux_lemma => kernel_rfl)⟩

set_option maxRecDepth 100000 in
theorem lifted (os : Os) (started : os.Started) (H : Type) (enc : TypeId × Value → H) :
    ReturnsInHanded {} Tryd.checked os 4 .any (fun w args => (Rows.fnExactUnfoldSpeedsSpec.pre enc Tryd.prog Tryd.f4 Rows.fnExactUnfoldSpeedsRow.domain false w args ∧ laidMetH Tryd.prog Rows.fnExactUnfoldSpeedsRow.laid w) ∧ sizedMet enc Tryd.prog Tryd.f4 (OpenSpec.ofChange Rows.fnExactUnfoldSpeedsSpec) false w args) (Rows.fnExactUnfoldSpeedsSpec.post enc Tryd.prog Tryd.f4 false true false false) := by
  refine LawFrame.lifted_vars (C := Tryd.checked) (fn := Tryd.f4) (n := 2) (tb := 4) (laidL := Rows.fnExactUnfoldSpeedsRow.laid) started own (by kernel_rfl) Tryd.func4 laid ?_ rfl ?_ rfl Tryd.underlying4 ?_
    (ChangeSpec.witness_shaped (enc := enc) (C := Tryd.checked) (os := os) (X := fun w _ => laidMetH Tryd.prog Rows.fnExactUnfoldSpeedsRow.laid w) false (World.doorLaid Tryd.prog 400 os) #[.slice none 0 0, .float .f32 0] 8 rfl (World.shaped_of_RefB (by kernel_rfl) (by kernel_rfl)) (by kernel_rfl) (by kernel_rfl) (by kernel_rfl) (door_met6 os _)) ?_
  · intro t ht
    simp only [Tryd.params4, List.mem_cons, List.not_mem_nil, or_false] at ht
    rcases ht with rfl | rfl <;> first | exact rdF | exact rdf
  · intro ds gs hd hg
    match ds, gs, hd, hg with
    | [d0, d1], [g0, g1, g2, g3, g4, g5], _, _ => rfl
  · intro W hL
    obtain ⟨A, -, v0, v1, v2, v3, v4, v5⟩ := sent6_of hL
    exact ⟨[.iface 291 (.pointer (some (A 1))), .iface 291 (.pointer (some (A 0))), .iface 291 (.pointer (some (A 2))), .iface 291 (.pointer (some (A 3))), .iface 291 (.pointer (some (A 4))), .iface 291 (.pointer (some (A 5)))], var_is (g := 0) (by kernel_rfl) (by kernel_rfl) v1, var_is (g := 2) (by kernel_rfl) (by kernel_rfl) v0, var_is (g := 1) (by kernel_rfl) (by kernel_rfl) v2, var_is (g := 3) (by kernel_rfl) (by kernel_rfl) v3, var_is (g := 4) (by kernel_rfl) (by kernel_rfl) v4, var_is (g := 5) (by kernel_rfl) (by kernel_rfl) v5, trivial⟩
  · intro W base args ds ps hval hn hT hL
    obtain ⟨v0, v1, rfl⟩ : ∃ v0 v1, args = #[v0, v1] := arr2 hn
    simp only [Tryd.params4] at hT
    obtain ⟨A, hA, -⟩ := sent6_of hL
    obtain ⟨d0, p0, t0⟩ := trodAll_head hT
    obtain ⟨n0, x0, R0, M0, X0⟩ := open_f32s Tryd.underlying30 Tryd.underlying22 cellsF1 t0 (open_sl Tryd.underlying30 (hval 0 30 v0 rfl rfl))
    obtain ⟨c1, rfl, hb1⟩ := open_f32 Tryd.underlying22 (hval 1 22 v1 rfl rfl)
    exact lawUnfoldSpeeds A v0 n0 x0 X0 c1 hb1 R0 hA

theorem over : Rows.fnExactUnfoldSpeedsRow.holds Tryd.pinned (OpenSpec.ofChange Rows.fnExactUnfoldSpeedsSpec) :=
  OpenClaim.holds_of_wide 4 Tryd.f4 rfl rfl rfl rfl rfl rfl rfl ⟨rfl, rfl, rfl, rfl, rfl⟩ rfl rfl rfl rfl rfl (by kernel_rfl) Tryd.func4 closed
    (of_decide_eq_true (by kernel_rfl)) (by unfold Func.isWrapper; rw [if_neg (by decide +kernel)]; exact ⟨rfl, rfl⟩)
    (fun os started H enc _ => lifted os started H enc)

theorem named : Tryd.prog.funcNamed "loop.example/g01224/laws.FnExactUnfoldSpeeds" = some 4 := by kernel_rfl
theorem c_wf : Rows.fnExactUnfoldSpeedsRow.wfByText (OpenSpec.ofChange Rows.fnExactUnfoldSpeedsSpec) = true := by kernel_rfl
theorem c_main : Tryd.pinned.checked.prog.mainIs = some (true, "676091b62306f3ff9401e4688b454d0146593c020ebeb642d8fda31eda063b35".toList) := by kernel_rfl
theorem c_looks : true = Tryd.pinned.checked.prog.looks [] := by kernel_rfl
theorem c_goes : false = Rows.fnExactUnfoldSpeedsRow.goesBy Tryd.pinned.checked.prog := by kernel_rfl
theorem proved : Rows.FnExactUnfoldSpeedsCardSaid :=
  Claim7.holds_tied_plain_at .later [] [.sentinel, .sentinel, .sentinel, .sentinel, .sentinel, .sentinel] true (true, "676091b62306f3ff9401e4688b454d0146593c020ebeb642d8fda31eda063b35") true
    over (fun _ h => by cases h) c_wf (fun _ h => by cases h) fnExactUnfoldSpeeds_row_tie rfl ⟨rfl, rfl⟩ c_main rfl
    (fun f fn hf hfn => by
      obtain rfl : f = 4 := Option.some.inj (named.symm.trans hf) |>.symm
      obtain rfl : fn = Tryd.f4 := (Option.some.inj (Tryd.func4.symm.trans hfn)).symm
      exact ⟨c_looks, fun j t ht => by
        have hm := Array.mem_of_getElem? ht
        rw [Tryd.params4] at hm
        simp only [List.mem_toArray, List.mem_cons, List.not_mem_nil, or_false] at hm
        rcases hm with rfl | rfl
        · exact (show Tryd.prog.wantsStandIn 30 = false by kernel_rfl)
        · exact (show Tryd.prog.wantsStandIn 22 = false by kernel_rfl)⟩)
    c_goes
#print axioms proved
end Go.Proofs.YthpimindkmmkjaaDoor.fnExactUnfoldSpeeds
