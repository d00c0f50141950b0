import Derived.Test.YtllkjockdogagaaCSameColumn
import Derived.Test.YtllkjockdogagaaChecked
import Derived.Test.YtllkjockdogagaaRows
import Derived.Laws.FloatArith
import Derived.ProofKit
import Derived.WalkKit
import Derived.WalkLawsBesides
import Derived.WalkSpells
import Derived.Deep.QuietTactic
import Derived.BigQuiet
import Derived.Deep.RegionHeld3
import Derived.ChangeKeysEq
import Derived.Laws.BitsAllLaws
import Derived.Deep.MidRow
import Derived.Deep.WholeRow
import Derived.StillTailTactics
import Derived.Deep.Slices
import Derived.ChangeSame
import Derived.OrdersIn
import Derived.ControlIn
import Derived.RangeFuncSeq
import Derived.RangeFuncNested
import Derived.ArgAppend
import Derived.OwnWalkIn
import Derived.TacticsInMore
import Derived.Below
import Derived.Laws.AppendOwn
import Derived.RangeFuncLeaves
import Derived.RangeFuncBox
import Derived.LoopNIn
import Derived.LoopIn
import Derived.Shelf.Abstract
import Derived.Laws.StructEq
import Derived.OpenShut
/- The law FnExactSameColumn of chapter 1: at every argument the call returns true, and what was there before it is as it was. -/
namespace Go.Proofs.Ytllkjockdogagaa
open Go.RowKit Go.Fl

@[go_sem] theorem ext_f64bits (y : Nat) (w : World) : (callFunc 217 #[.float .f64 y]).run Try.prog w = .ok (.value (.int .u64 y)) w := by
  rw [run_callFunc_extern Try.func217 (by kernel_rfl) (by kernel_rfl) (by kernel_rfl) (e := Extern.MathFloatBits.float64bits) (by kernel_rfl)]
  rfl

@[go_sem] theorem ext_f64from (n : Int) (w : World) : (callFunc 187 #[.int .u64 n]).run Try.prog w = .ok (.value (.float .f64 n.toNat)) w := by
  rw [run_callFunc_extern Try.func187 (by kernel_rfl) (by kernel_rfl) (by kernel_rfl) (e := Extern.MathFloatBits.float64frombits) (by kernel_rfl)]
  rfl

theorem hid {p : Prop} (h : p) : Hid p := h

theorem isNaN_f64 (y : Nat) (w : World) :
    Calls Try.prog 185 #[.float .f64 y] w fun e w' => e = .returned (.bool (FloatKind.f64.format.order y y != some .eq)) ∧ w = w' := by
  go_enter Try.func185, Try.ntmps185
  go_wp2
  go_ret
  exact ⟨rfl, rfl⟩

theorem info_f32 : ∃ i, Try.prog.info? 22 = some i ∧ i.size = 1 := by
  have h : (Try.prog.info? 22).map (·.size) = some 1 := by kernel_rfl
  cases hi : Try.prog.info? 22 with
  | none => rw [hi] at h; cases h
  | some i => rw [hi] at h; exact ⟨i, rfl, Option.some.inj h⟩

theorem ix (T : TypeId) (hT : Try.prog.underlying T = some (.array 20 22)) (c : Nat → Nat) (k : Nat) (hk : k < 20) (w : World) :
    (Instr.index T (.agg (fls c)) (.int .i64 (k : Int))).run Try.prog w = .ok (.float .f32 (c k)) w := by
  obtain ⟨i, h1, h2⟩ := info_f32
  exact run_index_arr hT Try.underlying22 rfl h1 h2 _ _ hk _ (fls_get c hk) w

theorem info_arr : (Try.prog.info? 31).map (·.size) = some 20 := by kernel_rfl

@[go_sem] theorem ext_f32bits (y : Nat) (w : World) : (callFunc 195 #[.float .f32 y]).run Try.prog w = .ok (.value (.int .u32 y)) w := by
  rw [run_callFunc_extern Try.func195 (by kernel_rfl) (by kernel_rfl) (by kernel_rfl) (e := Extern.MathFloatBits.float32bits) (by kernel_rfl)]
  rfl

theorem info_a20 : (Try.prog.info? 23).map (·.size) = some 20 := by kernel_rfl

set_option maxRecDepth 100000 in
theorem toSizes (c : Nat → Nat) (w : World) :
    Calls Try.prog 60 #[.agg (fls c)] w fun e w' => e = .returned (.agg (fls c)) ∧ Below w.heap.size w w' := by
  have b0 : Below w.heap.size w (w.alloc (.cells (fls c) 23)) := (Below.refl _ _).alloc (Nat.le_refl _) _
  have a0 := hid (arrAt.new w c 23)
  go_enter Try.func60, Try.ntmps60
  go_wp2
  go_loopw [4] (fun i wr => ∃ k : Nat, k ≤ 20 ∧ i = .int .i64 k ∧ Hid (arrAt wr w.heap.size c 23) ∧ Hid (arrAt wr (w.heap.size + 1) (fun _ => 0) 31) ∧ Hid (arrAt wr (w.heap.size + 1 + 1) (cut c k) 31) ∧ Hid (Below w.heap.size w wr)) (fun i _ => 20 - (intOf i).toNat)
  case atStart =>
    refine ⟨0, by omega, rfl, hid ((a0.out.alloc _).alloc _), hid ?_, hid ?_, hid ((b0.alloc (by simp) _).alloc (by simp; omega) _)⟩
    · have := arrAt.new (w.alloc (.cells (fls c) 23)) (fun _ => 0) 31
      have e : (w.alloc (.cells (fls c) 23)).heap.size = w.heap.size + 1 := by simp
      rw [e] at this
      exact this.alloc _
    · have := arrAt.new ((w.alloc (.cells (fls c) 23)).alloc (.cells (fls fun _ => 0) 31)) (fun _ => 0) 31
      have e : ((w.alloc (.cells (fls c) 23)).alloc (.cells (fls fun _ => 0) 31)).heap.size = w.heap.size + 1 + 1 := by simp
      rw [e] at this
      exact this.ext (fun i _ => (cut_zero' c i).symm)
  case round =>
    obtain ⟨k, hk, rfl, h0, h1, h2, hb⟩ := hrel
    by_cases hlt : k < 20
    · have q0 := h0.out.cell hlt
      have q2 := h2.out.cell hlt
      have f2 := h2.out.frozen k
      go_wp2
      go_roundw
      case rel => exact ⟨k + 1, by omega, by go_num, hid (h0.out.setOther (by simp; omega) _), hid (h1.out.setOther (by simp) _), hid ((h2.out.set k (c k)).ext (fun i _ => cut_succ c k i)), hid (hb.out.setCell (by simp; omega) _)⟩
      case measure => simp [intOf]; omega
    · obtain rfl : k = 20 := by omega
      have h2' := hid (h2.out.ext (cut_all c))
      clear h2
      go_wp2_with (first | (refine wpList_load_row rfl 31 _ rfl (w.heap.size + 1 + 1) rfl 31 (fls c) (0, 0) _ h2'.out Try.underlying31 rfl (by rw [fls_size]; exact info_arr) ?_) | (refine wpList_store_row rfl 31 _ _ rfl (w.heap.size + 1) (fls c) rfl rfl 31 _ h1.out (by rw [fls_size]; exact info_arr) (by simp) (fls_one c) ?_))
      exact bodyPost_ret (results_cell_row rfl _ _ (w.heap.size + 1) 31 (fls c) (0, 0) _ rfl (h1.out.setRow c) Try.underlying31 rfl (by rw [fls_size]; exact info_arr)) rfl ⟨rfl, below_row hb.out (by omega) _⟩

theorem back {P : Program} {f : FuncId} {args : Array Value} {w : World} {v : Value} (h : Calls P f args w fun e w' => e = .returned v ∧ w = w') : Calls P f args w fun e w' => e = .returned v ∧ w' = w :=
  h.mono fun _ _ ⟨a, b⟩ => ⟨a, b.symm⟩

theorem sSame (a b : Nat) (ha : a < 4294967296) (hb : b < 4294967296) (w : World) :
    Calls Try.prog 163 #[.float .f32 a, .float .f32 b] w fun e w' => e = .returned (.bool (sameB a b)) ∧ w = w' := by
  have n1 := neq_self a ha
  have n2 := neq_self b hb
  have hq : ((a : Int) == (b : Int)) = decide (a = b) := by
    by_cases e : a = b
    · subst e; simp
    · simp [e]; omega
  have hs : sameB a b = if (nanB a || nanB b) = true then nanB a && nanB b else decide (a = b) := rfl
  have Hs := hid hs
  have Hq := hid hq
  clear ha hb hs hq
  rcases h1 : nanB a with _ | _ <;> rcases h2 : nanB b with _ | _ <;> rw [h1] at n1 <;> rw [h2] at n2 <;> rw [Hs.out, h1, h2] <;> clear Hs h1 h2
  · go_enter Try.func163, Try.ntmps163
    go_wp2
    go_ret
    exact ⟨by simp [← Hq.out], rfl⟩
  · go_enter Try.func163, Try.ntmps163
    go_wp2
    go_ret
    exact ⟨by simp, rfl⟩
  · go_enter Try.func163, Try.ntmps163
    go_wp2
    go_ret
    exact ⟨by simp, rfl⟩
  · go_enter Try.func163, Try.ntmps163
    go_wp2
    go_ret
    exact ⟨by simp, rfl⟩

theorem iBits (x : Nat) (hx : x < 4294967296) (w : World) :
    Calls Try.prog 164 #[.float .f32 x] w fun e w' => e = .returned (.int .u32 (nb x : Int)) ∧ Below w.heap.size w w' := by
  have hnb : nb x = if nanB x = true then 2143289344 else x := rfl
  rcases hn : nanB x with _ | _
  · have hle : mg x ≤ INF := by simpa [nanB] using hn
    rw [hn] at hnb
    have Hnb := hid hnb
    rcases Nat.lt_or_eq_of_le hle with h | h
    · have hc := fun w => run_conv_wid (P := Try.prog) w 22 53 x hx Try.underlying22 Try.underlying53 h
      obtain ⟨_, _, m, e, hr⟩ := read_wid_fin hx h
      have Hn := hid (show (FloatKind.f64.format.order (wid x) (wid x) != some .eq) = false by
        show (D.order (wid x) (wid x) != some .eq) = false
        rw [order_self hr]; rfl)
      clear hnb hn hle h hr hx
      go_enter Try.func164, Try.ntmps164
      go_wp2_with (go_at_call 185; refine (isNaN_f64 (wid x) _).mono ?_; rintro e w' ⟨rfl, rfl⟩; rw [Hn.out])
      go_ret
      exact ⟨by rw [Hnb.out]; simp, Below.refl _ _⟩
    · obtain ⟨z, hc, h1, h2⟩ := run_conv_inf (P := Try.prog) w 22 53 x hx Try.underlying22 Try.underlying53 h
      have hr : D.read z = .infinity (decide (9223372036854775808 ≤ z)) := by rw [read_signD h2, h1, read_DINF]
      have Hn := hid (show (FloatKind.f64.format.order z z != some .eq) = false by
        show (D.order z z != some .eq) = false
        rw [order_inf hr]; rfl)
      clear hnb hn hle h hr hx h1 h2
      go_enter Try.func164, Try.ntmps164
      go_wp2_with (go_at_call 185; refine (isNaN_f64 z _).mono ?_; rintro e w' ⟨rfl, rfl⟩; rw [Hn.out])
      go_ret
      exact ⟨by rw [Hnb.out]; simp, Below.refl _ _⟩
  · have h : INF < mg x := by simpa [nanB] using hn
    rw [hn] at hnb
    have Hnb := hid hnb
    obtain ⟨z, hc, h1, _⟩ := run_conv_nan (P := Try.prog) w 22 53 x Try.underlying22 Try.underlying53 h
    obtain ⟨s, t, hr⟩ := read_nanD h1
    have Hn := hid (show (FloatKind.f64.format.order z z != some .eq) = true by
      show (D.order z z != some .eq) = true
      rw [order_nan hr]; rfl)
    clear hnb hn h hr hx h1
    go_enter Try.func164, Try.ntmps164
    go_wp2_with (go_at_call 185; refine (isNaN_f64 z _).mono ?_; rintro e w' ⟨rfl, rfl⟩; rw [Hn.out])
    go_ret
    exact ⟨by rw [Hnb.out]; simp, (Below.refl _ _).drew⟩

theorem info_air : (Try.prog.info? 33).map (·.size) = some 2 := by kernel_rfl

theorem info_lair : (Try.prog.info? 26).map (·.size) = some 2 := by kernel_rfl

theorem sSame_is (a b : Nat) (ha : a < 4294967296) (hb : b < 4294967296) (q : Bool) (hq : sameB a b = q) (w : World) :
    Calls Try.prog 163 #[.float .f32 a, .float .f32 b] w fun e w' => e = .returned (.bool q) ∧ w = w' := hq ▸ sSame a b ha hb w

theorem info_u32 : ∃ i, Try.prog.info? 119 = some i ∧ i.size = 1 := by
  have h : (Try.prog.info? 119).map (·.size) = some 1 := by kernel_rfl
  cases hi : Try.prog.info? 119 with
  | none => rw [hi] at h; cases h
  | some i => rw [hi] at h; exact ⟨i, rfl, Option.some.inj h⟩

theorem info_u20 : (Try.prog.info? 120).map (·.size) = some 20 := by kernel_rfl

set_option maxRecDepth 100000 in
theorem iBitsOfSizes (c : Nat → Nat) (hc : ∀ i, i < 20 → c i < 4294967296) (w : World) :
    Calls Try.prog 165 #[.agg (fls c)] w fun e w' => e = .returned (.agg (vls 20 (ilv fun i => nb (c i)))) ∧ Below w.heap.size w w' := by
  have A0 := hid (((arrAt.new w c 31).alloc (.cells (vls 20 fun _ => .int .u32 0) 120)).alloc (.cells (vls 20 fun _ => .int .u32 0) 120))
  have A1 := hid ((vAt.new1 w (.cells (fls c) 31) 20 (fun _ => .int .u32 0) 120).alloc (.cells (vls 20 fun _ => .int .u32 0) 120))
  have A2 := hid (vAt.new2 w (.cells (fls c) 31) (.cells (vls 20 fun _ => .int .u32 0) 120) 20 (fun _ => .int .u32 0) 120)
  have b0 := boxed3 w (.cells (fls c) 31) (.cells (vls 20 fun _ => .int .u32 0) 120) (.cells (vls 20 fun _ => .int .u32 0) 120)
  have HC := hid hc
  clear hc
  go_enter Try.func165, Try.ntmps165
  go_wp2_with (refine wpList_load_row rfl 31 _ rfl (w.heap.size) rfl 31 (fls c) (0, 0) _ A0.out Try.underlying31 rfl (by rw [fls_size]; exact info_arr) ?_)
  go_loopw [7] (fun i wr => ∃ k : Nat, k ≤ 20 ∧ i = .int .i64 k ∧ Hid (vAt wr (w.heap.size + 1) 20 (fun _ => .int .u32 0) 120) ∧ Hid (vAt wr (w.heap.size + 1 + 1) 20 (prtV (ilv fun i => nb (c i)) (fun _ => .int .u32 0) k) 120) ∧ Hid (Below w.heap.size w wr)) (fun i _ => 20 - (intOf i).toNat)
  case atStart => exact ⟨0, by omega, rfl, A1, hid (A2.out.ext (fun i _ => (prtV_zero (ilv fun i => nb (c i)) (fun _ => .int .u32 0) i).symm)), hid b0⟩
  case round =>
    obtain ⟨k, hk, rfl, h1, h2, hb⟩ := hrel
    by_cases hlt : k < 20
    · have hix := ix 31 Try.underlying31 c k hlt
      go_wp2_with fail
      refine (iBits (c k) (HC.out k hlt) _).mono ?_
      rintro e w1 ⟨rfl, hb1⟩
      have B1 := hid (h1.out.stay hb1)
      have B2 := hid (h2.out.stay hb1)
      have q2 := B2.out.cell hlt
      have f2 := B2.out.frozen k
      go_wp2
      go_roundw
      case rel => exact ⟨k + 1, by omega, by go_num, hid (B1.out.setOther (by simp) _), hid ((B2.out.set k (.int .u32 (nb (c k)))).ext (fun i _ => prtV_succ (ilv fun i => nb (c i)) _ k i)), hid ((stp hb.out (Nat.le_refl _) hb1).setCell (by simp; omega) _)⟩
      case measure => simp [intOf]; omega
    · obtain rfl : k = 20 := by omega
      have g2 := hid (h2.out.ext (prtV_all _ _ 20))
      clear h2
      go_wp2_with (first | (refine wpList_load_row rfl 120 _ rfl (w.heap.size + 1 + 1) rfl 120 (vls 20 (ilv fun i => nb (c i))) (0, 0) _ g2.out Try.underlying120 rfl (by rw [vls_size]; exact info_u20) ?_) | (refine wpList_store_row rfl 120 _ _ rfl (w.heap.size + 1) (vls 20 (ilv fun i => nb (c i))) rfl rfl 120 _ h1.out (by rw [vls_size]; exact info_u20) (by simp) (vls_one (fun _ => rfl)) ?_))
      exact bodyPost_ret (results_cell_row rfl _ _ (w.heap.size + 1) 120 (vls 20 (ilv fun i => nb (c i))) (0, 0) _ rfl (h1.out.setRow _) Try.underlying120 rfl (by rw [vls_size]; exact info_u20)) rfl ⟨rfl, below_row hb.out (by omega) _⟩

set_option maxRecDepth 100000 in
theorem toAir (h v : Nat) (w : World) :
    Calls Try.prog 61 #[.agg #[.float .f32 h, .float .f32 v]] w fun e w' => e = .returned (.agg #[.float .f32 h, .float .f32 v]) ∧ Below w.heap.size w w' := by
  have k0 : Hid (Kept w [(w.heap.size + 1, #[.float .f32 h, .float .f32 v], 33)] (((w.alloc (.cells #[.float .f32 h, .float .f32 v] 26)).alloc (.cells #[.float .f32 h, .float .f32 v] 33)).alloc (.cells #[.float .f32 h, .float .f32 v] 33))) := hid (((((Kept.nil w).push _ _).push _ _).push _ _).sub (by simp))
  go_enter Try.func61, Try.ntmps61
  go_wp2
  exact bodyPost_ret (results_cell_row rfl _ _ (w.heap.size + 1) 33 #[.float .f32 h, .float .f32 v] (0, 0) _ rfl (k0.out.at (x := (w.heap.size + 1, #[.float .f32 h, .float .f32 v], 33)) (by simp)) Try.underlying33 rfl info_air) rfl ⟨rfl, k0.out.1⟩

def sameA (ah av bh bv : Nat) : Bool := sameB ah bh && sameB av bv

theorem info_bits : (Try.prog.info? 123).map (·.size) = some 2 := by kernel_rfl

theorem run_bitsOf1 (a : Act) (x0 : Operand) (v0 : Value) (h0 : a.eval x0 = v0) (d : Option Tmp) (ats : Array TypeId) (t : TypeId) (ps : String) (af : Array Edge) (gd : Option (Nat × Bool)) (w : World) :
    (execOp a.eval ⟨d, .call { callee := .value (.func 164), args := #[x0], argTypes := ats }, t, ps, af, gd⟩).run Try.prog w = .ok (.enter 164 #[v0]) w := by
  subst h0
  unfold execOp
  go_simp

set_option maxRecDepth 100000 in
set_option maxHeartbeats 1000000 in
theorem iBitsOfAir (h v : Nat) (hh : h < 4294967296) (hv : v < 4294967296) (w : World) :
    Calls Try.prog 166 #[.agg #[.float .f32 h, .float .f32 v]] w fun e w' => e = .returned (.agg #[.int .u32 (nb h : Int), .int .u32 (nb v : Int)]) ∧ Below w.heap.size w w' := by
  have k0 : Hid (Kept w [(w.heap.size + 1, #[.int .u32 0, .int .u32 0], 123), (w.heap.size, #[.float .f32 h, .float .f32 v], 33)] ((w.alloc (.cells #[.float .f32 h, .float .f32 v] 33)).alloc (.cells #[.int .u32 0, .int .u32 0] 123))) := hid ((((Kept.nil w).push _ _).push _ _).sub (by simp))
  have hB0 : w.heap.size ≤ w.heap.size + 1 := by omega
  have hn0 : ∀ x ∈ [((w.heap.size, #[.float .f32 h, .float .f32 v], 33) : Nat × Array Value × TypeId)], x.1 ≠ w.heap.size + 1 := by simp
  have HN0 := hid hn0
  have HB0 := hid hB0
  have Hh := hid hh
  have Hv := hid hv
  clear hh hv hn0 hB0
  go_enter Try.func166, Try.ntmps166
  go_wp2_with fail
  refine region_kept (w0 := w) (l := [(w.heap.size, #[.float .f32 h, .float .f32 v], 33)]) 8 #[false, false, false, false, false, false, false, false] (by kernel_rfl) rfl rfl ?_
  have kd := k0.out.drew
  clear k0
  generalize World.drew _ = wd at kd ⊢
  refine take_val 0 { tmps := (.agg #[.float .f32 h, .float .f32 v] :: .pointer (some ⟨w.heap.size, 0, none⟩) :: .pointer (some ⟨w.heap.size + 1, 0, none⟩) :: .pointer (some ⟨w.heap.size, 0, none⟩) :: undef :: undef :: undef :: undef :: undef :: undef :: []).toArray, defers := [] } #[true, false, false, false, false, false, false, false] (.pointer (some ⟨w.heap.size, 0, none⟩)) rfl (by rfl) (by kernel_rfl) (by kernel_rfl) (by kernel_rfl) (fun w => by unfold execOp; go_simp) (by rfl) (by rfl) (kd.tail) ?_
  refine take_cell 1 { tmps := (.agg #[.float .f32 h, .float .f32 v] :: .pointer (some ⟨w.heap.size, 0, none⟩) :: .pointer (some ⟨w.heap.size + 1, 0, none⟩) :: .pointer (some ⟨w.heap.size, 0, none⟩) :: .float .f32 h :: undef :: undef :: undef :: undef :: undef :: []).toArray, defers := [] } #[true, true, false, false, false, false, false, false] (.float .f32 h) rfl (by rfl) (by kernel_rfl) (by kernel_rfl) (by kernel_rfl) (fun wq hS => by have hcell : wq.cell? ⟨w.heap.size, 0, none⟩ = some (.float .f32 h) := (cell_of_row wq (w.heap.size) 0 _ _ _ (hS.at (x := (w.heap.size, #[.float .f32 h, .float .f32 v], 33)) (by simp))).trans rfl; clear hS; unfold execOp; go_simp) (by rfl) (by rfl) (kd.tail) ?_
  refine take_val 3 { tmps := (.agg #[.float .f32 h, .float .f32 v] :: .pointer (some ⟨w.heap.size, 0, none⟩) :: .pointer (some ⟨w.heap.size + 1, 0, none⟩) :: .pointer (some ⟨w.heap.size, 0, none⟩) :: .float .f32 h :: undef :: .pointer (some ⟨w.heap.size, 1, none⟩) :: undef :: undef :: undef :: []).toArray, defers := [] } #[true, true, false, true, false, false, false, false] (.pointer (some ⟨w.heap.size, 1, none⟩)) rfl (by rfl) (by kernel_rfl) (by kernel_rfl) (by kernel_rfl) (fun w => by unfold execOp; go_simp) (by rfl) (by rfl) (kd.tail) ?_
  refine take_cell 4 { tmps := (.agg #[.float .f32 h, .float .f32 v] :: .pointer (some ⟨w.heap.size, 0, none⟩) :: .pointer (some ⟨w.heap.size + 1, 0, none⟩) :: .pointer (some ⟨w.heap.size, 0, none⟩) :: .float .f32 h :: undef :: .pointer (some ⟨w.heap.size, 1, none⟩) :: .float .f32 v :: undef :: undef :: []).toArray, defers := [] } #[true, true, false, true, true, false, false, false] (.float .f32 v) rfl (by rfl) (by kernel_rfl) (by kernel_rfl) (by kernel_rfl) (fun wq hS => by have hcell : wq.cell? ⟨w.heap.size, 1, none⟩ = some (.float .f32 v) := (cell_of_row wq (w.heap.size) 1 _ _ _ (hS.at (x := (w.heap.size, #[.float .f32 h, .float .f32 v], 33)) (by simp))).trans rfl; clear hS; unfold execOp; go_simp) (by rfl) (by rfl) (kd.tail) ?_
  refine wpAnyH_ready (rs := [2]) (by kernel_rfl) (by simp) ?_
  refine callK 2 { tmps := (.agg #[.float .f32 h, .float .f32 v] :: .pointer (some ⟨w.heap.size, 0, none⟩) :: .pointer (some ⟨w.heap.size + 1, 0, none⟩) :: .pointer (some ⟨w.heap.size, 0, none⟩) :: .float .f32 h :: .int .u32 (nb h : Int) :: .pointer (some ⟨w.heap.size, 1, none⟩) :: .float .f32 v :: undef :: undef :: []).toArray, defers := [] } #[true, true, true, true, true, false, false, false] (.int .u32 (nb h : Int)) kd rfl (by rfl) 164 #[.float .f32 h] (run_bitsOf1 _ _ _ rfl _ _ _ _ _ _) (by rfl) (by rfl) (iBits h Hh.out _) (fun w1 k1 => ?_) AllReadyH.nil
  refine ⟨k1.tail, ?_⟩
  refine wpAnyH_ready (rs := [5]) (by kernel_rfl) (by simp) ?_
  refine callK 5 { tmps := (.agg #[.float .f32 h, .float .f32 v] :: .pointer (some ⟨w.heap.size, 0, none⟩) :: .pointer (some ⟨w.heap.size + 1, 0, none⟩) :: .pointer (some ⟨w.heap.size, 0, none⟩) :: .float .f32 h :: .int .u32 (nb h : Int) :: .pointer (some ⟨w.heap.size, 1, none⟩) :: .float .f32 v :: .int .u32 (nb v : Int) :: undef :: []).toArray, defers := [] } #[true, true, true, true, true, true, false, false] (.int .u32 (nb v : Int)) k1 rfl (by rfl) 164 #[.float .f32 v] (run_bitsOf1 _ _ _ rfl _ _ _ _ _ _) (by rfl) (by rfl) (iBits v Hv.out _) (fun w2 k2 => ?_) AllReadyH.nil
  refine ⟨k2.tail, ?_⟩
  refine take_val 6 { tmps := (.agg #[.float .f32 h, .float .f32 v] :: .pointer (some ⟨w.heap.size, 0, none⟩) :: .pointer (some ⟨w.heap.size + 1, 0, none⟩) :: .pointer (some ⟨w.heap.size, 0, none⟩) :: .float .f32 h :: .int .u32 (nb h : Int) :: .pointer (some ⟨w.heap.size, 1, none⟩) :: .float .f32 v :: .int .u32 (nb v : Int) :: .agg #[.int .u32 (nb h : Int), .int .u32 (nb v : Int)] :: []).toArray, defers := [] } #[true, true, true, true, true, true, true, false] (.agg #[.int .u32 (nb h : Int), .int .u32 (nb v : Int)]) rfl (by rfl) (by kernel_rfl) (by kernel_rfl) (by kernel_rfl) (fun w => by unfold execOp; go_simp) (by rfl) (by rfl) (k2.tail) ?_
  refine wpAnyH_ready (rs := [7]) (by kernel_rfl) (by simp) ?_
  refine storeK 7 { tmps := (.agg #[.float .f32 h, .float .f32 v] :: .pointer (some ⟨w.heap.size, 0, none⟩) :: .pointer (some ⟨w.heap.size + 1, 0, none⟩) :: .pointer (some ⟨w.heap.size, 0, none⟩) :: .float .f32 h :: .int .u32 (nb h : Int) :: .pointer (some ⟨w.heap.size, 1, none⟩) :: .float .f32 v :: .int .u32 (nb v : Int) :: .agg #[.int .u32 (nb h : Int), .int .u32 (nb v : Int)] :: []).toArray, defers := [] } #[true, true, true, true, true, true, true, true] k2 HB0.out HN0.out rfl (by rfl) 123 _ _ rfl (#[.int .u32 (nb h : Int), .int .u32 (nb v : Int)]) (by rfl) (by rfl) (info_bits) (by simp) (by simp [Value.oneCell']) (by rfl) (by rfl) (fun w3 k3 => ?_) AllReadyH.nil
  refine ⟨k3.tail, ?_⟩
  refine wpAnyH_done (by kernel_rfl) (NoPanic.normal ?_) _
  go_wp2
  exact bodyPost_ret (results_cell_row rfl _ _ (w.heap.size + 1) 123 (#[.int .u32 (nb h : Int), .int .u32 (nb v : Int)]) (0, 0) _ rfl (k3.at (x := (w.heap.size + 1, _, _)) (by simp)) Try.underlying123 rfl info_bits) rfl ⟨rfl, k3.1⟩

theorem info_col : (Try.prog.info? 36).map (·.size) = some 178 := by kernel_rfl

theorem info_ld : (Try.prog.info? 24).map (·.size) = some 160 := by kernel_rfl

theorem info_la : (Try.prog.info? 27).map (·.size) = some 16 := by kernel_rfl

theorem info_sz8 : (Try.prog.info? 32).map (·.size) = some 160 := by kernel_rfl

theorem info_air8 : (Try.prog.info? 34).map (·.size) = some 16 := by kernel_rfl

theorem info_lcol : (Try.prog.info? 29).map (·.size) = some 178 := by kernel_rfl

@[go_sem] theorem zero_sz8 : Try.zeroCells32 = vls 160 (flw fun _ => 0) := by kernel_rfl

@[go_sem] theorem zeros16 : (#[.float .f32 0, .float .f32 0, .float .f32 0, .float .f32 0, .float .f32 0, .float .f32 0, .float .f32 0, .float .f32 0, .float .f32 0, .float .f32 0, .float .f32 0, .float .f32 0, .float .f32 0, .float .f32 0, .float .f32 0, .float .f32 0] : Array Value) = vls 16 (flw fun _ => 0) := rfl

@[go_sem] theorem zero_col : Try.zeroCells36 = vls 178 (clw (fun _ => 0) 0) := by kernel_rfl

set_option maxRecDepth 100000 in
theorem toSizesA8 (c : Nat → Nat) (w : World) :
    Calls Try.prog 83 #[.agg (vls 160 (flw c))] w fun e w' => e = .returned (.agg (vls 160 (flw c))) ∧ Below w.heap.size w w' := by
  have A0 := hid (((vAt.new w 160 (flw c) 24).alloc (.cells (vls 160 (flw fun _ => 0)) 32)).alloc (.cells (vls 160 (flw fun _ => 0)) 32))
  have A1 := hid ((vAt.new1 w (.cells (vls 160 (flw c)) 24) 160 (flw fun _ => 0) 32).alloc (.cells (vls 160 (flw fun _ => 0)) 32))
  have A2 := hid (vAt.new2 w (.cells (vls 160 (flw c)) 24) (.cells (vls 160 (flw fun _ => 0)) 32) 160 (flw fun _ => 0) 32)
  have b0 := boxed3 w (.cells (vls 160 (flw c)) 24) (.cells (vls 160 (flw fun _ => 0)) 32) (.cells (vls 160 (flw fun _ => 0)) 32)
  go_enter Try.func83, Try.ntmps83
  go_wp2_with fail
  go_loopw [4] (fun i wr => ∃ k : Nat, k ≤ 8 ∧ i = .int .i64 k ∧ Hid (vAt wr w.heap.size 160 (flw c) 24) ∧ Hid (vAt wr (w.heap.size + 1) 160 (flw fun _ => 0) 32) ∧ Hid (vAt wr (w.heap.size + 1 + 1) 160 (flw (rowsP c (fun _ => 0) k)) 32) ∧ Hid (Below w.heap.size w wr)) (fun i _ => 8 - (intOf i).toNat)
  case atStart => exact ⟨0, by omega, rfl, A0, A1, hid (A2.out.ext fun i _ => by unfold flw; rw [rowsP_zero]), hid b0⟩
  case round =>
    obtain ⟨k, hk, rfl, h0, h1, h2, hb⟩ := hrel
    by_cases hlt : k < 8
    · go_wp2_with (refine wpList_load_as (by rfl) 23 _ (by rfl) w.heap.size (k * 20) (by rfl) 160 (flw c) 24 h0.out 20 (by omega) (fls (rowK c k)) (row_isN c k) _ Try.underlying23 (by rfl) info_a20 ?_)
      refine (toSizes (rowK c k) _).mono ?_
      rintro e w1 ⟨rfl, hb1⟩
      have g0 := hid (h0.out.stay hb1)
      have g1 := hid (h1.out.stay hb1)
      have g2 := hid (h2.out.stay hb1)
      have c1 := stp hb.out (Nat.le_refl _) hb1
      have n0 := hid (g0.out.setPartOther (k := w.heap.size + 1 + 1) (by omega) (k * 20) (fls (rowK c k)).toList)
      have n1 := hid (g1.out.setPartOther (k := w.heap.size + 1 + 1) (by omega) (k * 20) (fls (rowK c k)).toList)
      have n2 := hid g2.out.setRowN
      have nb := below_cells (g := w.heap.size + 1 + 1) (by omega) (fls (rowK c k)).toList (k * 20) c1
      clear h0 h1 h2 hb
      go_wp2_with (refine wpList_store_as (by rfl) 31 _ _ (by rfl) (w.heap.size + 1 + 1) (k * 20) (fls (rowK c k)) (by rfl) (by rfl) 160 (flw (rowsP c (fun _ => 0) k)) 32 g2.out 20 (fls_size _) (by omega) info_arr (fls_one _) ?_; intro w9 hw9; rw [← hw9] at n0 n1 n2 nb; clear hw9 g0 g1 g2)
      go_roundw
      case rel => exact ⟨k + 1, by omega, by go_num, n0, n1, n2, hid nb⟩
      case measure => simp [intOf]; omega
    · obtain rfl : k = 8 := by omega
      have h2' := hid (h2.out.ext (d := flw c) fun i hi => by unfold flw; rw [rowsP_all8 _ _ i hi])
      clear h2
      go_wp2_with (first | (refine wpList_load_row rfl 32 _ rfl (w.heap.size + 1 + 1) rfl 32 (vls 160 (flw c)) (0, 0) _ h2'.out Try.underlying32 rfl (by rw [vls_size]; exact info_sz8) ?_) | (refine wpList_store_row rfl 32 _ _ rfl (w.heap.size + 1) (vls 160 (flw c)) rfl rfl 32 _ h1.out (by rw [vls_size]; exact info_sz8) (by simp) (vls_one (flw_one c)) ?_))
      exact bodyPost_ret (results_cell_row rfl _ _ (w.heap.size + 1) 32 (vls 160 (flw c)) (0, 0) _ rfl (h1.out.setRow (flw c)) Try.underlying32 rfl (by rw [vls_size]; exact info_sz8)) rfl ⟨rfl, below_row hb.out (by omega) _⟩

set_option maxRecDepth 100000 in
theorem toAirA8 (c : Nat → Nat) (w : World) :
    Calls Try.prog 84 #[.agg (vls 16 (flw c))] w fun e w' => e = .returned (.agg (vls 16 (flw c))) ∧ Below w.heap.size w w' := by
  have A0 := hid (((vAt.new w 16 (flw c) 27).alloc (.cells (vls 16 (flw fun _ => 0)) 34)).alloc (.cells (vls 16 (flw fun _ => 0)) 34))
  have A1 := hid ((vAt.new1 w (.cells (vls 16 (flw c)) 27) 16 (flw fun _ => 0) 34).alloc (.cells (vls 16 (flw fun _ => 0)) 34))
  have A2 := hid (vAt.new2 w (.cells (vls 16 (flw c)) 27) (.cells (vls 16 (flw fun _ => 0)) 34) 16 (flw fun _ => 0) 34)
  have b0 := boxed3 w (.cells (vls 16 (flw c)) 27) (.cells (vls 16 (flw fun _ => 0)) 34) (.cells (vls 16 (flw fun _ => 0)) 34)
  go_enter Try.func84, Try.ntmps84
  go_wp2_with fail
  go_loopw [4] (fun i wr => ∃ k : Nat, k ≤ 8 ∧ i = .int .i64 k ∧ Hid (vAt wr w.heap.size 16 (flw c) 27) ∧ Hid (vAt wr (w.heap.size + 1) 16 (flw fun _ => 0) 34) ∧ Hid (vAt wr (w.heap.size + 1 + 1) 16 (flw (twosP c (fun _ => 0) k)) 34) ∧ Hid (Below w.heap.size w wr)) (fun i _ => 8 - (intOf i).toNat)
  case atStart => exact ⟨0, by omega, rfl, A0, A1, hid (A2.out.ext fun i _ => by unfold flw; rw [twosP_zero]), hid b0⟩
  case round =>
    obtain ⟨k, hk, rfl, h0, h1, h2, hb⟩ := hrel
    by_cases hlt : k < 8
    · go_wp2_with (refine wpList_load_as (by rfl) 26 _ (by rfl) w.heap.size (k * 2) (by rfl) 16 (flw c) 27 h0.out 2 (by omega) #[.float .f32 (c (k * 2)), .float .f32 (c (k * 2 + 1))] (two_is c k) _ Try.underlying26 (by rfl) info_lair ?_)
      refine (toAir (c (k * 2)) (c (k * 2 + 1)) _).mono ?_
      rintro e w1 ⟨rfl, hb1⟩
      have g0 := hid (h0.out.stay hb1)
      have g1 := hid (h1.out.stay hb1)
      have g2 := hid (h2.out.stay hb1)
      have c1 := stp hb.out (Nat.le_refl _) hb1
      have n0 := hid (g0.out.setPartOther (k := w.heap.size + 1 + 1) (by omega) (k * 2) (#[.float .f32 (c (k * 2)), .float .f32 (c (k * 2 + 1))] : Array Value).toList)
      have n1 := hid (g1.out.setPartOther (k := w.heap.size + 1 + 1) (by omega) (k * 2) (#[.float .f32 (c (k * 2)), .float .f32 (c (k * 2 + 1))] : Array Value).toList)
      have n2 := hid (show vAt (w1.setCells (w.heap.size + 1 + 1) (k * 2) (#[.float .f32 (c (k * 2)), .float .f32 (c (k * 2 + 1))] : Array Value).toList) (w.heap.size + 1 + 1) 16 (flw (twosP c (fun _ => 0) (k + 1))) 34 from g2.out.setTwo)
      have nb := below_cells (g := w.heap.size + 1 + 1) (by omega) (#[.float .f32 (c (k * 2)), .float .f32 (c (k * 2 + 1))] : Array Value).toList (k * 2) c1
      clear h0 h1 h2 hb
      go_wp2_with (refine wpList_store_as (by rfl) 33 _ _ (by rfl) (w.heap.size + 1 + 1) (k * 2) #[.float .f32 (c (k * 2)), .float .f32 (c (k * 2 + 1))] (by rfl) (by rfl) 16 (flw (twosP c (fun _ => 0) k)) 34 g2.out 2 rfl (by omega) info_air (two_one _ _) ?_; intro w9 hw9; rw [← hw9] at n0 n1 n2 nb; clear hw9 g0 g1 g2)
      go_roundw
      case rel => exact ⟨k + 1, by omega, by go_num, n0, n1, n2, hid nb⟩
      case measure => simp [intOf]; omega
    · obtain rfl : k = 8 := by omega
      have h2' := hid (h2.out.ext (d := flw c) fun i hi => by unfold flw; rw [twosP_all8 _ _ i hi])
      clear h2
      go_wp2_with (first | (refine wpList_load_row rfl 34 _ rfl (w.heap.size + 1 + 1) rfl 34 (vls 16 (flw c)) (0, 0) _ h2'.out Try.underlying34 rfl (by rw [vls_size]; exact info_air8) ?_) | (refine wpList_store_row rfl 34 _ _ rfl (w.heap.size + 1) (vls 16 (flw c)) rfl rfl 34 _ h1.out (by rw [vls_size]; exact info_air8) (by simp) (vls_one (flw_one c)) ?_))
      exact bodyPost_ret (results_cell_row rfl _ _ (w.heap.size + 1) 34 (vls 16 (flw c)) (0, 0) _ rfl (h1.out.setRow (flw c)) Try.underlying34 rfl (by rw [vls_size]; exact info_air8)) rfl ⟨rfl, below_row hb.out (by omega) _⟩

theorem info_f32c : (Try.prog.info? 22).map (·.size) = some 1 := by kernel_rfl

theorem info_i64c : (Try.prog.info? 2).map (·.size) = some 1 := by kernel_rfl

/-- A column with the droplets of one, the airs of one. -/
theorem col_parts (c : Nat → Nat) (t : Int) (i : Nat) (hi : i < 178) : updV (updV (updR (updR (clw (fun _ => 0) 0) 0 160 (flw c)) 160 16 (flw (airsC c))) 176 (.float .f32 (c 176))) 177 (.int .i64 t) i = clw c t i := by
  unfold updV updR clw flw airsC
  by_cases h1 : i = 177
  · simp [h1]
  · by_cases h2 : i = 176
    · simp [h2]
    · by_cases h3 : 160 ≤ i
      · rw [if_neg h1, if_neg h2, if_pos (by omega), if_neg h1, show 160 + (i - 160) = i by omega]
      · rw [if_neg h1, if_neg h2, if_neg (by omega), if_pos (by omega), if_neg h1]; rfl

set_option maxHeartbeats 1000000 in
set_option maxRecDepth 100000 in
theorem toColumn (c : Nat → Nat) (t : Int) (w : World) :
    Calls Try.prog 23 #[.agg (vls 178 (clw c t))] w fun e w' => e = .returned (.agg (vls 178 (clw c t))) ∧ Below w.heap.size w w' := by
  have k0 : Hid (Kept w [(w.heap.size + 1 + 1, vls 178 (clw (fun _ => 0) 0), 36), (w.heap.size + 1, vls 178 (clw (fun _ => 0) 0), 36), (w.heap.size, vls 178 (clw c t), 29)] (((w.alloc (.cells (vls 178 (clw c t)) 29)).alloc (.cells (vls 178 (clw (fun _ => 0) 0)) 36)).alloc (.cells (vls 178 (clw (fun _ => 0) 0)) 36))) := hid (((((Kept.nil w).push _ _).push _ _).push _ _).sub (by simp))
  go_enter Try.func23, Try.ntmps23
  go_wp2_with (refine load_cut (by rfl) 24 _ (by rfl) (w.heap.size) 0 160 (by rfl) (k0.out.v in2) (by omega) (vls 160 (flw c)) (drops_is c t) _ Try.underlying24 (by rfl) info_ld ?_)
  refine (toSizesA8 c _).mono ?_
  rintro e w1 ⟨rfl, hb1⟩
  have k1 := hid (k0.out.stay hb1)
  clear k0 hb1
  have tok1 : True := trivial
  go_wp2_with (first | (have _t := tok1; refine store_cut (by rfl) 32 _ _ (by rfl) (w.heap.size + 1 + 1) 0 160 (flw c) (vls 160 (flw c)) (by rfl) (by rfl) rfl info_sz8 (flw_one c) k1.out (by omega) (by omega) (neC (by omega) (neC (by omega) ne0)) ?_; intro w2 k2; replace k2 := hid k2; clear k1 tok1) | (refine load_cut (by rfl) 27 _ (by rfl) (w.heap.size) 160 16 (by rfl) (k2.out.v in2) (by omega) (vls 16 (flw (airsC c))) (airs_is c t) _ Try.underlying27 (by rfl) info_la ?_))
  refine (toAirA8 (airsC c) _).mono ?_
  rintro e w3 ⟨rfl, hb3⟩
  have k3 := hid (k2.out.stay hb3)
  clear k2 hb3
  have tok1 : True := trivial
  go_wp2_with (first
    | (have _t := k6; refine wpList_load_row rfl 36 _ rfl (w.heap.size + 1 + 1) rfl 36 (vls 178 (clw c t)) (0, 0) _ (k6.out.v in0) Try.underlying36 rfl (by rw [vls_size]; exact info_col) ?_)
    | (have _t := k6; refine wpList_store_row rfl 36 _ _ rfl (w.heap.size + 1) (vls 178 (clw c t)) rfl rfl 36 _ (k6.out.v in1) (by rw [vls_size]; exact info_col) (by simp) (vls_one (clw_one c t)) ?_)
    | (have _t := k5; refine load_one (by rfl) 2 _ (by rfl) (w.heap.size) 177 (by rfl) (k5.out.v in2) (by omega) (.int .i64 t) clw_t _ Try.underlying2 (by rfl) ?_)
    | (have _t := k5; refine store_one (by rfl) 2 _ _ (by rfl) info_i64c (w.heap.size + 1 + 1) 177 (.int .i64 t) (by rfl) (by rfl) rfl rfl k5.out (by omega) (by omega) (neC (by omega) (neC (by omega) ne0)) ?_; intro w6 k6; replace k6 := hid (k6.ext (col_parts c t)); clear k5)
    | (have _t := k4; refine load_one (by rfl) 22 _ (by rfl) (w.heap.size) 176 (by rfl) (k4.out.v in2) (by omega) (.float .f32 (c 176)) (clw_f (by omega)) _ Try.underlying22 (by rfl) ?_)
    | (have _t := k4; refine store_one (by rfl) 22 _ _ (by rfl) info_f32c (w.heap.size + 1 + 1) 176 (.float .f32 (c 176)) (by rfl) (by rfl) rfl rfl k4.out (by omega) (by omega) (neC (by omega) (neC (by omega) ne0)) ?_; intro w5 k5; replace k5 := hid k5; clear k4)
    | (have _t := tok1; refine store_cut (by rfl) 34 _ _ (by rfl) (w.heap.size + 1 + 1) 160 16 (flw (airsC c)) (vls 16 (flw (airsC c))) (by rfl) (by rfl) rfl info_air8 (flw_one _) k3.out (by omega) (by omega) (neC (by omega) (neC (by omega) ne0)) ?_; intro w4 k4; replace k4 := hid k4; clear k3 tok1))
  have k7 := Kept.v (B := w.heap.size + 1) (f := clw (fun _ => 0) 0) (T := 36) k6.out in1
  exact bodyPost_ret (results_cell_row rfl _ _ (w.heap.size + 1) 36 (vls 178 (clw c t)) (0, 0) _ rfl (k7.setRow (clw c t)) Try.underlying36 rfl (by rw [vls_size]; exact info_col)) rfl ⟨rfl, below_row k6.out.1 (by omega) _⟩

@[go_sem] theorem semAtSome (l : Nat) (ρ : Operand → Value) (o : Oper) (h : ∀ c, o.op ≠ .defer c) : Oper.semAt (some l) ρ o = execOp ρ o := Oper.semAt_some l ρ o h

set_option maxRecDepth 100000 in
theorem sSameAirAtQ (ah av bh bv : Nat) (h1 : ah < 4294967296) (h2 : av < 4294967296) (h3 : bh < 4294967296) (h4 : bv < 4294967296) (w : World) (g k o p : Nat) (c0 : w.cell? ⟨g, o, none⟩ = some (.float .f32 ah)) (c1 : w.cell? ⟨g, o + 1, none⟩ = some (.float .f32 av)) (c2 : w.cell? ⟨k, p, none⟩ = some (.float .f32 bh)) (c3 : w.cell? ⟨k, p + 1, none⟩ = some (.float .f32 bv)) :
    Calls Try.prog 162 #[.pointer (some ⟨g, o, none⟩), .pointer (some ⟨k, p, none⟩)] w fun e w' => e = .returned (.bool (sameA ah av bh bv)) ∧ ∃ m, w' = w.drewN m := by
  have H1 := hid h1
  have H2 := hid h2
  have H3 := hid h3
  have H4 := hid h4
  have e1 : sameA ah av bh bv = (sameB ah bh && sameB av bv) := rfl
  rw [e1]
  clear h1 h2 h3 h4 e1
  rcases a : sameB ah bh with _ | _
  · have Ha := hid a
    clear a
    go_enter Try.func162, Try.ntmps162
    go_wp2
    go_quiet ((go_at_call 163; exact Calls.quiet_of_same (back (sSame_is ah bh H1.out H3.out false Ha.out _))))
    go_wp2
    go_ret
    exact ⟨rfl, _, rfl⟩
  · rcases b : sameB av bv with _ | _
    all_goals
      go_enter Try.func162, Try.ntmps162
      go_wp2
      go_quiet ((go_at_call 163; exact Calls.quiet_of_same (back (sSame _ _ (by first | exact H1.out | exact H2.out) (by first | exact H3.out | exact H4.out) _))))
      go_wp2
      go_ret
      exact ⟨rfl, _, rfl⟩

theorem sSameAirAtR (ah av bh bv : Nat) (h1 : ah < 4294967296) (h2 : av < 4294967296) (h3 : bh < 4294967296) (h4 : bv < 4294967296) (q : Bool) (hq : sameA ah av bh bv = q) (w : World) (g k o p : Nat) (c0 : w.cell? ⟨g, o, none⟩ = some (.float .f32 ah)) (c1 : w.cell? ⟨g, o + 1, none⟩ = some (.float .f32 av)) (c2 : w.cell? ⟨k, p, none⟩ = some (.float .f32 bh)) (c3 : w.cell? ⟨k, p + 1, none⟩ = some (.float .f32 bv)) :
    Calls Try.prog 162 #[.pointer (some ⟨g, o, none⟩), .pointer (some ⟨k, p, none⟩)] w fun e w' => e = .returned (.bool q) ∧ ∃ m, w' = w.drewN m := by
  subst hq
  exact sSameAirAtQ ah av bh bv h1 h2 h3 h4 w g k o p c0 c1 c2 c3

set_option maxHeartbeats 1000000 in
set_option maxRecDepth 100000 in
theorem sSameSizesQ (c d : Nat → Nat) (hc : ∀ i, i < 20 → c i < 4294967296) (hd : ∀ i, i < 20 → d i < 4294967296) (q : Bool) (hq : q = true ↔ ∀ j, j < 20 → sameB (c j) (d j) = true) (w : World) (g o h p : Nat)
    (hg : ∀ k, k < 20 → w.cell? ⟨g, o + k, none⟩ = some (.float .f32 (c k))) (hh : ∀ k, k < 20 → w.cell? ⟨h, p + k, none⟩ = some (.float .f32 (d k))) :
    Calls Try.prog 161 #[.pointer (some ⟨g, o, none⟩), .pointer (some ⟨h, p, none⟩)] w fun e w' => e = .returned (.bool q) ∧ ∃ m, w' = w.drewN m := by
  have HC := hid hc
  have HD := hid hd
  have HQ := hid hq
  have G0 := hid hg
  have G1 := hid hh
  clear hc hd hg hh hq
  go_enter Try.func161, Try.ntmps161
  go_wp2
  go_loopw [5] (fun i wr => ∃ k : Nat, k ≤ 20 ∧ i = .int .i64 k ∧ Hid (∀ i, i < k → sameB (c i) (d i) = true) ∧ Hid (∃ n, wr = w.drewN n)) (fun i _ => 20 - (intOf i).toNat)
  case atStart => exact ⟨0, by omega, rfl, hid (fun i hi => by omega), hid ⟨0, rfl⟩⟩
  case round =>
    obtain ⟨k, hk, rfl, HK, hb⟩ := hrel
    by_cases hlt : k < 20
    · obtain ⟨n, hn⟩ := hb.out
      have q0 : wr.cell? ⟨g, o + k, none⟩ = some (.float .f32 (c k)) := by rw [hn]; exact G0.out k hlt
      have q1 : wr.cell? ⟨h, p + k, none⟩ = some (.float .f32 (d k)) := by rw [hn]; exact G1.out k hlt
      have HN := hid hn
      clear hn hb
      rcases hs : sameB (c k) (d k) with _ | _
      · have hqf : q = false := by
          rw [← Bool.not_eq_true]
          intro ht
          have := HQ.out.1 ht k hlt
          rw [hs] at this; cases this
        subst hqf
        have HS := hid hs
        clear hs
        go_wp2
        go_quiet ((go_at_call 163; exact Calls.quiet_of_same (back (sSame_is (c k) (d k) (HC.out k hlt) (HD.out k hlt) false HS.out _))))
        go_wp2
        go_ret
        exact ⟨rfl, _, by rw [HN.out, World.drewN_drewN]⟩
      · have HS := hid hs
        clear hs
        go_wp2
        go_quiet ((go_at_call 163; exact Calls.quiet_of_same (back (sSame_is (c k) (d k) (HC.out k hlt) (HD.out k hlt) true HS.out _))))
        go_wp2
        go_roundw
        case rel => exact ⟨k + 1, by omega, by go_num, hid (all_step HK.out HS.out), hid ⟨_, by rw [HN.out, World.drewN_drewN]⟩⟩
        case measure => simp [intOf]; omega
    · have hqt : q = true := HQ.out.2 (fun j hj => HK.out j (by omega))
      subst hqt
      go_wp2
      go_ret
      exact ⟨rfl, hb.out⟩

set_option maxHeartbeats 2000000 in
set_option maxRecDepth 100000 in
theorem sSameCol (c d : Nat → Nat) (s t : Int) (hc : ∀ i, i < 177 → c i < 4294967296) (hd : ∀ i, i < 177 → d i < 4294967296) (q : Bool) (hq : q = true ↔ ColEq c d s t) (w : World) (g h : Nat) (T T' : TypeId) (hg : vAt w g 178 (clw c s) T) (hh : vAt w h 178 (clw d t) T') :
    Calls Try.prog 88 #[.pointer (some ⟨g, 0, none⟩), .pointer (some ⟨h, 0, none⟩)] w fun e w' => e = .returned (.bool q) ∧ Below w.heap.size w w' := by
  have HC := hid hc
  have HD := hid hd
  have HQ := hid hq
  have G0 := hid hg
  have G1 := hid hh
  clear hc hd hg hh hq
  go_enter Try.func88, Try.ntmps88
  go_wp2
  go_loopw [5] (fun i wr => ∃ k : Nat, k ≤ 8 ∧ i = .int .i64 k ∧ Hid (∀ i, i < k → (∀ j, j < 20 → sameB (rowK c i j) (rowK d i j) = true) ∧ sameB (heC c i) (heC d i) = true ∧ sameB (vaC c i) (vaC d i) = true) ∧ Hid (vAt wr g 178 (clw c s) T) ∧ Hid (vAt wr h 178 (clw d t) T') ∧ Hid (Below w.heap.size w wr)) (fun i _ => 8 - (intOf i).toNat)
  case atStart => exact ⟨0, by omega, rfl, hid (fun i hi => by omega), G0, G1, hid (Below.refl _ _)⟩
  case round =>
    clear G0 G1
    obtain ⟨k, hk, rfl, HK, g0, g1, hb⟩ := hrel
    by_cases hlt : k < 8
    · have HL := hid hlt
      have hk3 : (k : Int) < 8 := by omega
      have x0 := hid (g0.out.cd hlt)
      have x1 := hid (g1.out.cd hlt)
      have y0 := hid (fun n : Nat => (g0.out.ch hlt : (wr.drewN n).cell? ⟨g, 160 + k * 2, none⟩ = some (.float .f32 (heC c k))))
      have y1 := hid (fun n : Nat => (g0.out.cv hlt : (wr.drewN n).cell? ⟨g, 160 + k * 2 + 1, none⟩ = some (.float .f32 (vaC c k))))
      have z0 := hid (fun n : Nat => (g1.out.ch hlt : (wr.drewN n).cell? ⟨h, 160 + k * 2, none⟩ = some (.float .f32 (heC d k))))
      have z1 := hid (fun n : Nat => (g1.out.cv hlt : (wr.drewN n).cell? ⟨h, 160 + k * 2 + 1, none⟩ = some (.float .f32 (vaC d k))))
      have L1 : ∀ j, j < 20 → rowK c k j < 4294967296 := fun j hj => HC.out _ (by omega)
      have L2 : ∀ j, j < 20 → rowK d k j < 4294967296 := fun j hj => HD.out _ (by omega)
      have M1 := HC.out (160 + k * 2) (by omega)
      have M2 := HC.out (160 + k * 2 + 1) (by omega)
      have M3 := HD.out (160 + k * 2) (by omega)
      have M4 := HD.out (160 + k * 2 + 1) (by omega)
      have HM := hid (And.intro L1 (And.intro L2 (And.intro M1 (And.intro M2 (And.intro M3 M4)))))
      clear L1 L2 M1 M2 M3 M4
      rcases Classical.em (∀ j, j < 20 → sameB (rowK c k j) (rowK d k j) = true) with hs | hs
      · have QS := hid (⟨fun _ => hs, fun _ => rfl⟩ : true = true ↔ ∀ j, j < 20 → sameB (rowK c k j) (rowK d k j) = true)
        have HS := hid hs
        clear hs
        rcases ha : sameA (heC c k) (vaC c k) (heC d k) (vaC d k) with _ | _
        · have hqf : q = false := by
            rw [← Bool.not_eq_true]
            intro ht
            have := ((HQ.out.1 ht).1 k hlt).2
            unfold sameA at ha
            rw [this.1, this.2] at ha; cases ha
          subst hqf
          have HA := hid ha
          clear ha
          go_wp2_with fail
          go_quiet ((first | (go_at_call 161; exact Calls.quiet_of (sSameSizesQ _ _ HM.out.1 HM.out.2.1 true ⟨fun _ => HS.out, fun _ => rfl⟩ _ _ _ _ _ x0.out x1.out)) | (go_at_call 162; exact Calls.quiet_of (sSameAirAtR _ _ _ _ HM.out.2.2.1 HM.out.2.2.2.1 HM.out.2.2.2.2.1 HM.out.2.2.2.2.2 _ HA.out _ _ _ _ _ (y0.out 0) (y1.out 0) (z0.out 0) (z1.out 0)))))
          go_wp2
          go_ret
          exact ⟨rfl, below_drewN hb.out _⟩
        · have e2 : sameB (heC c k) (heC d k) = true ∧ sameB (vaC c k) (vaC d k) = true := by
            unfold sameA at ha
            simpa using ha
          have HE := hid e2
          have HA := hid ha
          clear ha e2
          go_wp2_with fail
          go_quiet ((first | (go_at_call 161; exact Calls.quiet_of (sSameSizesQ _ _ HM.out.1 HM.out.2.1 true ⟨fun _ => HS.out, fun _ => rfl⟩ _ _ _ _ _ x0.out x1.out)) | (go_at_call 162; exact Calls.quiet_of (sSameAirAtR _ _ _ _ HM.out.2.2.1 HM.out.2.2.2.1 HM.out.2.2.2.2.1 HM.out.2.2.2.2.2 _ HA.out _ _ _ _ _ (y0.out 0) (y1.out 0) (z0.out 0) (z1.out 0)))))
          go_wp2
          go_roundw
          case rel =>
            refine ⟨k + 1, by omega, by go_num, hid (fun i hi => ?_), g0, g1, hid (below_drewN hb.out _)⟩
            by_cases e : i = k
            · subst e; exact ⟨HS.out, HE.out⟩
            · exact HK.out i (by omega)
          case measure => simp [intOf]; omega
      · have hqf : q = false := by
          rw [← Bool.not_eq_true]
          exact fun ht => hs ((HQ.out.1 ht).1 k hlt).1
        subst hqf
        have QS := hid (⟨fun x => (by cases x), fun x => absurd x hs⟩ : false = true ↔ ∀ j, j < 20 → sameB (rowK c k j) (rowK d k j) = true)
        clear hs
        go_wp2_with fail
        go_quiet ((go_at_call 161; exact Calls.quiet_of (sSameSizesQ _ _ HM.out.1 HM.out.2.1 false QS.out _ _ _ _ _ x0.out x1.out)))
        go_wp2
        go_ret
        exact ⟨rfl, below_drewN hb.out _⟩
    · obtain rfl : k = 8 := by omega
      have q0 := g0.out.cf (i := 176) (by omega)
      have q1 := g1.out.cf (i := 176) (by omega)
      have q2 := g0.out.ct
      have q3 := g1.out.ct
      have M1 := HC.out 176 (by omega)
      have M2 := HD.out 176 (by omega)
      have HM := hid (And.intro M1 M2)
      clear M1 M2
      rcases ha : sameB (c 176) (d 176) with _ | _
      · have hqf : q = false := by
          rw [← Bool.not_eq_true]
          intro ht
          have := (HQ.out.1 ht).2.1
          rw [ha] at this; cases this
        subst hqf
        have HA := hid ha
        clear ha
        go_wp2_with fail
        go_quiet ((go_at_call 163; exact Calls.quiet_of_same (back (sSame_is _ _ HM.out.1 HM.out.2 false HA.out _))))
        go_wp2
        go_ret
        exact ⟨rfl, below_drewN hb.out _⟩
      · have hqe : (s == t) = q := by
          rw [Bool.eq_iff_iff, HQ.out, beq_iff_eq]
          exact ⟨fun e => ⟨fun k hk => HK.out k hk, ha, e⟩, fun e => e.2.2⟩
        have HE := hid hqe
        have HA := hid ha
        clear ha hqe
        go_wp2_with fail
        go_quiet ((go_at_call 163; exact Calls.quiet_of_same (back (sSame_is _ _ HM.out.1 HM.out.2 true HA.out _))))
        go_wp2
        go_ret
        exact ⟨by first | rfl | (rw [HE.out]; rfl), below_drewN hb.out _⟩

theorem info_cb : (Try.prog.info? 126).map (·.size) = some 178 := by kernel_rfl

theorem info_ab : (Try.prog.info? 123).map (·.size) = some 2 := by kernel_rfl

theorem info_db8 : (Try.prog.info? 121).map (·.size) = some 160 := by kernel_rfl

theorem info_ab8 : (Try.prog.info? 124).map (·.size) = some 16 := by kernel_rfl

/-- The columns of bits that are begun: the gauge and the ticks are there, and the cells up to k. -/
def bitP (c : Nat → Nat) (t : Int) (a b : Nat) : Nat → Value := fun i => if i = 177 then .int .i64 t else if i = 176 then .int .u32 (nb (c 176) : Int) else if i < a * 20 then .int .u32 (nb (c i) : Int) else if 160 ≤ i ∧ i < 160 + b * 2 then .int .u32 (nb (c i) : Int) else .int .u32 0

@[go_sem] theorem zero_cb : Try.zeroCells126 = vls 178 (fun i => if i = 177 then .int .i64 0 else .int .u32 0) := by kernel_rfl

theorem built_cb (x t : Int) : Try.prog.built 126 [(2, .int .u32 x), (3, .int .i64 t)] = some (vls 178 fun i => if i = 177 then .int .i64 t else if i = 176 then .int .u32 x else .int .u32 0) := by kernel_rfl

theorem bitP_zero (c : Nat → Nat) (t : Int) : (vls 178 fun i => if i = 177 then Value.int .i64 t else if i = 176 then .int .u32 (nb (c 176) : Int) else .int .u32 0) = vls 178 (bitP c t 0 0) := vls_ext fun i hi => by
  unfold bitP
  repeat' split
  all_goals first | rfl | (exfalso; omega)

theorem run_build_cb (a : Act) (p q : Tmp) (x t : Int) (h1 : a.eval (.tmp p) = .int .u32 x) (h2 : a.eval (.tmp q) = .int .i64 t) (d : Option Tmp) (ty : TypeId) (ps : String) (af : Array Edge) (gd : Option (Nat × Bool)) (w : World) :
    (execOp a.eval ⟨d, .build 126 #[(2, .tmp p), (3, .tmp q)], ty, ps, af, gd⟩).run Try.prog w = .ok (.value (.agg (vls 178 fun i => if i = 177 then .int .i64 t else if i = 176 then .int .u32 x else .int .u32 0))) w := by
  have hb := run_build (P := Try.prog) w 126 #[(2, .int .u32 x), (3, .int .i64 t)] _ (built_cb x t)
  unfold execOp
  simp [h1, h2, hb]

theorem bitP_all (c : Nat → Nat) (t : Int) (i : Nat) (hi : i < 178) : bitP c t 8 8 i = bitw c t i := by
  unfold bitP bitw
  repeat' split
  all_goals first | rfl | (exfalso; omega) | (congr 3; omega) | (subst_vars; rfl)

theorem bitP_one (c : Nat → Nat) (t : Int) (a b i : Nat) : (bitP c t a b i).oneCell' = true := by
  unfold bitP
  repeat' split
  all_goals rfl

theorem bitP_row (c : Nat → Nat) (t : Int) {k : Nat} (hk : k < 8) (i : Nat) (_ : i < 178) : updR (bitP c t k k) (k * 20) 20 (ilv fun j => nb (rowK c k j)) i = bitP c t (k + 1) k i := by
  unfold updR ilv rowK
  by_cases h1 : k * 20 ≤ i ∧ i < k * 20 + 20
  · rw [if_pos h1]
    show Value.int .u32 (nb (c (k * 20 + (i - k * 20))) : Int) = _
    rw [show k * 20 + (i - k * 20) = i by omega]
    unfold bitP
    rw [if_neg (by omega), if_neg (by omega), if_pos (by omega)]
  · rw [if_neg h1]
    unfold bitP
    repeat' split
    all_goals first | (exfalso; omega) | rfl

/-- Two words of bits. -/
def twoI (a b : Nat) : Nat → Value := fun j => if j = 0 then .int .u32 (a : Int) else .int .u32 (b : Int)

theorem twoI_cell (a b : Nat) (i : Nat) : (twoI a b i).oneCell' = true := by
  unfold twoI
  split <;> rfl

theorem bitP_air (c : Nat → Nat) (t : Int) {k : Nat} (hk : k < 8) (i : Nat) (_ : i < 178) : updR (bitP c t (k + 1) k) (160 + k * 2) 2 (twoI (nb (heC c k)) (nb (vaC c k))) i = bitP c t (k + 1) (k + 1) i := by
  unfold updR twoI heC vaC
  by_cases h1 : 160 + k * 2 ≤ i ∧ i < 160 + k * 2 + 2
  · rw [if_pos h1]
    unfold bitP
    rw [if_neg (by omega : ¬ i = 177), if_neg (by omega : ¬ i = 176), if_neg (by omega : ¬ i < (k + 1) * 20), if_pos (by omega : 160 ≤ i ∧ i < 160 + (k + 1) * 2)]
    by_cases h2 : i = 160 + k * 2
    · rw [if_pos (by omega : i - (160 + k * 2) = 0), h2]
    · rw [if_neg (by omega : ¬ i - (160 + k * 2) = 0), show 160 + k * 2 + 1 = i by omega]
  · rw [if_neg h1]
    unfold bitP
    repeat' split
    all_goals first | (exfalso; omega) | rfl

set_option maxHeartbeats 4000000 in
set_option maxRecDepth 100000 in
theorem iBitsOfColumn (c : Nat → Nat) (t : Int) (hb : ∀ i, i < 177 → c i < 4294967296) (w : World) :
    Calls Try.prog 89 #[.agg (vls 178 (clw c t))] w fun e w' => e = .returned (.agg (vls 178 (bitw c t))) ∧ Below w.heap.size w w' := by
  have k0 : Hid (Kept w [(w.heap.size + 1, vls 178 fun i => if i = 177 then .int .i64 0 else .int .u32 0, 126), (w.heap.size, vls 178 (clw c t), 36)] ((w.alloc (.cells (vls 178 (clw c t)) 36)).alloc (.cells (vls 178 fun i => if i = 177 then .int .i64 0 else .int .u32 0) 126))) := hid ((((Kept.nil w).push _ _).push _ _).sub (by simp))
  have HB := hid hb
  clear hb
  go_enter Try.func89, Try.ntmps89
  go_wp2_with fail
  refine region_kept (w0 := w) (l := [(w.heap.size + 1, vls 178 fun i => if i = 177 then .int .i64 0 else .int .u32 0, 126), (w.heap.size, vls 178 (clw c t), 36)]) 8 #[false, false, false, false, false, false, false, false] (by kernel_rfl) rfl rfl ?_
  have kd := k0.out.drew
  generalize World.drew _ = wd at kd ⊢
  clear k0
  refine take_val 0 _ _ (.pointer (some ⟨w.heap.size, 176, none⟩)) rfl (by rfl) (by kernel_rfl) (by kernel_rfl) (by kernel_rfl) (fun w => by unfold execOp; go_simp) rfl rfl kd ?_
  simp only [Act.put, List.setIfInBounds_toArray, List.set_cons_zero, List.set_cons_succ]
  refine take_cell 1 _ _ (.float .f32 (c 176)) rfl (by rfl) (by kernel_rfl) (by kernel_rfl) (by kernel_rfl) (fun wq hS => by have hcell : wq.cell? ⟨w.heap.size, 176, none⟩ = some (.float .f32 (c 176)) := (hS.v in1).cf (by omega); clear hS; unfold execOp; go_simp) rfl rfl kd ?_
  simp only [Act.put, List.setIfInBounds_toArray, List.set_cons_zero, List.set_cons_succ]
  refine take_val 3 _ _ (.pointer (some ⟨w.heap.size, 177, none⟩)) rfl (by rfl) (by kernel_rfl) (by kernel_rfl) (by kernel_rfl) (fun w => by unfold execOp; go_simp) rfl rfl kd ?_
  simp only [Act.put, List.setIfInBounds_toArray, List.set_cons_zero, List.set_cons_succ]
  refine take_cell 4 _ _ (.int .i64 t) rfl (by rfl) (by kernel_rfl) (by kernel_rfl) (by kernel_rfl) (fun wq hS => by have hcell : wq.cell? ⟨w.heap.size, 177, none⟩ = some (.int .i64 t) := (hS.v in1).ct; clear hS; unfold execOp; go_simp) rfl rfl kd ?_
  simp only [Act.put, List.setIfInBounds_toArray, List.set_cons_zero, List.set_cons_succ]
  refine wpAnyH_ready (rs := [2, 6]) (by kernel_rfl) (by simp) ?_
  refine callK 2 _ _ (.int .u32 (nb (c 176) : Int)) kd rfl (by rfl) 164 #[.float .f32 (c 176)] (fun w => by unfold execOp; go_simp) rfl rfl ?hc1 (fun w1 k1 => ?_) ?_
  case hc1 => exact iBits (c 176) (HB.out 176 (by omega)) _
  · refine ⟨k1, ?_⟩
    simp only [Act.put, List.setIfInBounds_toArray, List.set_cons_zero, List.set_cons_succ]
    refine take_val 5 _ _ (.agg (vls 178 (bitP c t 0 0))) rfl (by rfl) (by kernel_rfl) (by kernel_rfl) (by kernel_rfl) (fun w => (run_build_cb _ 7 9 (nb (c 176)) t (by rfl) (by rfl) _ _ _ _ _ w).trans (by rw [bitP_zero])) rfl rfl k1 ?_
    simp only [Act.put, List.setIfInBounds_toArray, List.set_cons_zero, List.set_cons_succ]
    refine wpAnyH_ready (rs := [6]) (by kernel_rfl) (by simp) ?_
    refine allocK 6 (fun g => _) _ k1 rfl (by rfl) (vls 178 fun i => if i = 177 then .int .i64 0 else .int .u32 0) 126 (by unfold execOp; go_simp) (fun g => rfl) rfl (fun w2 g2 k2 hB2 hn2 => ?_) AllReadyH.nil
    refine ⟨k2.tail, ?_⟩
    simp only [Act.put, List.setIfInBounds_toArray, List.set_cons_zero, List.set_cons_succ]
    refine wpAnyH_ready (rs := [7]) (by kernel_rfl) (by simp) ?_
    refine storeK 7 _ _ k2 hB2 hn2 rfl (by rfl) 126 _ _ rfl (vls 178 (bitP c t 0 0)) rfl rfl (by rw [vls_size]; exact info_cb) (by simp) (vls_one (bitP_one c t 0 0)) rfl rfl (fun w3 k3 => ?_) AllReadyH.nil
    refine ⟨k3.tail, ?_⟩
    refine wpAnyH_done (by kernel_rfl) (NoPanic.normal ?_) _
    simp only [Act.put]
    have K1 : Hid (Kept w [(g2, vls 178 (bitP c t 0 0), 126), (w.heap.size + 1, vls 178 fun i => if i = 177 then .int .i64 0 else .int .u32 0, 126), (w.heap.size, vls 178 (clw c t), 36)] w3) := hid k3
    have HG := hB2
    have HN := hid hn2
    generalize w3 = wz at K1 ⊢
    clear hB2 hn2
    go_wp2_with fail
    go_loopw [11] (fun i wr => ∃ k : Nat, k ≤ 8 ∧ i = .int .i64 k ∧ Hid (Kept w [(g2, vls 178 (bitP c t k k), 126), (w.heap.size + 1, vls 178 fun i => if i = 177 then .int .i64 0 else .int .u32 0, 126), (w.heap.size, vls 178 (clw c t), 36)] wr)) (fun i _ => 8 - (intOf i).toNat)
    case atStart => exact ⟨0, by omega, rfl, K1⟩
    case round =>
      clear K1
      obtain ⟨k, hk, rfl, h0⟩ := hrel
      by_cases hlt : k < 8
      · have HL := hid hlt
        have hk3 : (k : Int) < 8 := by omega
        have tok1 : True := trivial
        go_wp2_with (refine load_cut (by rfl) 31 _ (by rfl) (w.heap.size) (k * 20) 20 (by rfl) (h0.out.v in2) (by omega) (fls (rowK c k)) (dr_is c t k HL.out) _ Try.underlying31 (by rfl) info_arr ?_)
        refine (iBitsOfSizes (rowK c k) (fun i hi => HB.out _ (by have := HL.out; omega)) _).mono ?_
        rintro e w1 ⟨rfl, hb1⟩
        have k1 := hid (h0.out.stay hb1)
        clear h0 hb1
        go_wp2_with (first
          | (have _t := tok1; refine store_cut (by rfl) 120 _ _ (by rfl) g2 (k * 20) 20 (ilv fun i => nb (rowK c k i)) (vls 20 (ilv fun i => nb (rowK c k i))) (by rfl) (by rfl) rfl info_u20 (fun _ => rfl) k1.out (by omega) HG HN.out ?_; intro w2 k2; replace k2 := hid (k2.ext (bitP_row c t HL.out)); clear k1 tok1)
          | (refine load_cut (by rfl) 33 _ (by rfl) (w.heap.size) (160 + k * 2) 2 (by rfl) (k2.out.v in2) (by omega) #[.float .f32 (heC c k), .float .f32 (vaC c k)] (part_air c t HL.out) _ Try.underlying33 (by rfl) info_air ?_))
        refine (iBitsOfAir (heC c k) (vaC c k) (HB.out _ (by have := HL.out; omega)) (HB.out _ (by have := HL.out; omega)) _).mono ?_
        rintro e w3 ⟨rfl, hb3⟩
        have k3 := hid (k2.out.stay hb3)
        have tok1 : True := trivial
        clear k2 hb3
        go_wp2_with (have _t := tok1; refine store_cut (by rfl) 123 _ _ (by rfl) g2 (160 + k * 2) 2 (twoI (nb (heC c k)) (nb (vaC c k))) #[.int .u32 (nb (heC c k) : Int), .int .u32 (nb (vaC c k) : Int)] (by rfl) (by rfl) rfl info_ab (twoI_cell _ _) k3.out (by omega) HG HN.out ?_; intro w4 k4; replace k4 := hid (k4.ext (bitP_air c t HL.out)); clear k3 tok1)
        go_roundw
        case rel => exact ⟨k + 1, by omega, by go_num, k4⟩
        case measure => simp [intOf]; omega
      · obtain rfl : k = 8 := by omega
        have h1 := hid (h0.out.ext (bitP_all c t))
        have tok1 : True := trivial
        clear h0
        have A1 := hid (h1.out.at (x := (w.heap.size + 1, vls 178 fun i => if i = 177 then .int .i64 0 else .int .u32 0, 126)) in1)
        have A0 := hid (h1.out.at (x := (g2, vls 178 (bitw c t), 126)) in0)
        have hb9 := h1.out.1
        clear h1
        go_wp2_with (first
          | (refine wpList_load_row rfl 126 _ rfl g2 rfl 126 (vls 178 (bitw c t)) (0, 0) _ A0.out Try.underlying126 rfl (by rw [vls_size]; exact info_cb) ?_)
          | (refine wpList_store_row rfl 126 _ _ rfl (w.heap.size + 1) (vls 178 (bitw c t)) rfl rfl 126 _ A1.out (by rw [vls_size]; exact info_cb) (by simp) (vls_one (bitw_one c t)) ?_))
        exact bodyPost_ret (results_cell_row rfl _ _ (w.heap.size + 1) 126 (vls 178 (bitw c t)) (0, 0) _ rfl (setRow_heap _ (w.heap.size + 1) _ _ _ _ A1.out) Try.underlying126 rfl (by rw [vls_size]; exact info_cb)) rfl ⟨rfl, below_row hb9 (by omega) _⟩
  refine allocK 6 (fun g => _) _ kd rfl (by rfl) (vls 178 fun i => if i = 177 then .int .i64 0 else .int .u32 0) 126 (by unfold execOp; go_simp) (fun g => rfl) rfl (fun w4 g4 k4 hB4 hn4 => ?_) AllReadyH.nil
  refine ⟨k4.tail, ?_⟩
  simp only [Act.put, List.setIfInBounds_toArray, List.set_cons_zero, List.set_cons_succ]
  refine wpAnyH_ready (rs := [2]) (by kernel_rfl) (by simp) ?_
  refine callK 2 _ _ (.int .u32 (nb (c 176) : Int)) k4 rfl (by rfl) 164 #[.float .f32 (c 176)] (fun w => by unfold execOp; go_simp) rfl rfl ?hc5 (fun w5 k5 => ?_) AllReadyH.nil
  case hc5 => exact iBits (c 176) (HB.out 176 (by omega)) _
  refine ⟨k5.tail, ?_⟩
  simp only [Act.put, List.setIfInBounds_toArray, List.set_cons_zero, List.set_cons_succ]
  refine take_val 5 _ _ (.agg (vls 178 (bitP c t 0 0))) rfl (by rfl) (by kernel_rfl) (by kernel_rfl) (by kernel_rfl) (fun w => (run_build_cb _ 7 9 (nb (c 176)) t (by rfl) (by rfl) _ _ _ _ _ w).trans (by rw [bitP_zero])) rfl rfl k5.tail ?_
  simp only [Act.put, List.setIfInBounds_toArray, List.set_cons_zero, List.set_cons_succ]
  refine wpAnyH_ready (rs := [7]) (by kernel_rfl) (by simp) ?_
  refine storeK 7 _ _ k5 hB4 hn4 rfl (by rfl) 126 _ _ rfl (vls 178 (bitP c t 0 0)) rfl rfl (by rw [vls_size]; exact info_cb) (by simp) (vls_one (bitP_one c t 0 0)) rfl rfl (fun w6 k6 => ?_) AllReadyH.nil
  refine ⟨k6.tail, ?_⟩
  refine wpAnyH_done (by kernel_rfl) (NoPanic.normal ?_) _
  simp only [Act.put]
  have K1 : Hid (Kept w [(g4, vls 178 (bitP c t 0 0), 126), (w.heap.size + 1, vls 178 fun i => if i = 177 then .int .i64 0 else .int .u32 0, 126), (w.heap.size, vls 178 (clw c t), 36)] w6) := hid k6
  have HG := hB4
  have HN := hid hn4
  generalize w6 = wz at K1 ⊢
  clear hB4 hn4
  go_wp2_with fail
  go_loopw [11] (fun i wr => ∃ k : Nat, k ≤ 8 ∧ i = .int .i64 k ∧ Hid (Kept w [(g4, vls 178 (bitP c t k k), 126), (w.heap.size + 1, vls 178 fun i => if i = 177 then .int .i64 0 else .int .u32 0, 126), (w.heap.size, vls 178 (clw c t), 36)] wr)) (fun i _ => 8 - (intOf i).toNat)
  case atStart => exact ⟨0, by omega, rfl, K1⟩
  case round =>
    clear K1
    obtain ⟨k, hk, rfl, h0⟩ := hrel
    by_cases hlt : k < 8
    · have HL := hid hlt
      have hk3 : (k : Int) < 8 := by omega
      have tok1 : True := trivial
      go_wp2_with (refine load_cut (by rfl) 31 _ (by rfl) (w.heap.size) (k * 20) 20 (by rfl) (h0.out.v in2) (by omega) (fls (rowK c k)) (dr_is c t k HL.out) _ Try.underlying31 (by rfl) info_arr ?_)
      refine (iBitsOfSizes (rowK c k) (fun i hi => HB.out _ (by have := HL.out; omega)) _).mono ?_
      rintro e w1 ⟨rfl, hb1⟩
      have k1 := hid (h0.out.stay hb1)
      clear h0 hb1
      go_wp2_with (first
        | (have _t := tok1; refine store_cut (by rfl) 120 _ _ (by rfl) g4 (k * 20) 20 (ilv fun i => nb (rowK c k i)) (vls 20 (ilv fun i => nb (rowK c k i))) (by rfl) (by rfl) rfl info_u20 (fun _ => rfl) k1.out (by omega) HG HN.out ?_; intro w2 k2; replace k2 := hid (k2.ext (bitP_row c t HL.out)); clear k1 tok1)
        | (refine load_cut (by rfl) 33 _ (by rfl) (w.heap.size) (160 + k * 2) 2 (by rfl) (k2.out.v in2) (by omega) #[.float .f32 (heC c k), .float .f32 (vaC c k)] (part_air c t HL.out) _ Try.underlying33 (by rfl) info_air ?_))
      refine (iBitsOfAir (heC c k) (vaC c k) (HB.out _ (by have := HL.out; omega)) (HB.out _ (by have := HL.out; omega)) _).mono ?_
      rintro e w3 ⟨rfl, hb3⟩
      have k3 := hid (k2.out.stay hb3)
      have tok1 : True := trivial
      clear k2 hb3
      go_wp2_with (have _t := tok1; refine store_cut (by rfl) 123 _ _ (by rfl) g4 (160 + k * 2) 2 (twoI (nb (heC c k)) (nb (vaC c k))) #[.int .u32 (nb (heC c k) : Int), .int .u32 (nb (vaC c k) : Int)] (by rfl) (by rfl) rfl info_ab (twoI_cell _ _) k3.out (by omega) HG HN.out ?_; intro w4 k4; replace k4 := hid (k4.ext (bitP_air c t HL.out)); clear k3 tok1)
      go_roundw
      case rel => exact ⟨k + 1, by omega, by go_num, k4⟩
      case measure => simp [intOf]; omega
    · obtain rfl : k = 8 := by omega
      have h1 := hid (h0.out.ext (bitP_all c t))
      have tok1 : True := trivial
      clear h0
      have A1 := hid (h1.out.at (x := (w.heap.size + 1, vls 178 fun i => if i = 177 then .int .i64 0 else .int .u32 0, 126)) in1)
      have A0 := hid (h1.out.at (x := (g4, vls 178 (bitw c t), 126)) in0)
      have hb9 := h1.out.1
      clear h1
      go_wp2_with (first
        | (refine wpList_load_row rfl 126 _ rfl g4 rfl 126 (vls 178 (bitw c t)) (0, 0) _ A0.out Try.underlying126 rfl (by rw [vls_size]; exact info_cb) ?_)
        | (refine wpList_store_row rfl 126 _ _ rfl (w.heap.size + 1) (vls 178 (bitw c t)) rfl rfl 126 _ A1.out (by rw [vls_size]; exact info_cb) (by simp) (vls_one (bitw_one c t)) ?_))
      exact bodyPost_ret (results_cell_row rfl _ _ (w.heap.size + 1) 126 (vls 178 (bitw c t)) (0, 0) _ rfl (setRow_heap _ (w.heap.size + 1) _ _ _ _ A1.out) Try.underlying126 rfl (by rw [vls_size]; exact info_cb)) rfl ⟨rfl, below_row hb9 (by omega) _⟩

set_option maxRecDepth 100000 in
theorem eq_col (c d : Nat → Nat) (s t : Int) (w : World) : (binOp .eql 126 (.agg (vls 178 (bitw c s))) (.agg (vls 178 (bitw d t)))).run Try.prog w = .ok (.bool (eqCol c d s t)) w := by
  have hR : (Try.prog.info? 120).map (·.size) = some 20 := info_u20
  have hB : (Try.prog.info? 123).map (·.size) = some 2 := info_ab
  cases hi : Try.prog.info? 120 with
  | none => rw [hi] at hR; cases hR
  | some iR =>
    cases hj : Try.prog.info? 123 with
    | none => rw [hj] at hB; cases hB
    | some iB =>
      rw [hi] at hR
      rw [hj] at hB
      obtain ⟨iE, h1, _⟩ := info_u32
      exact run_eq_col (T := 126) (D := 121) (R := 120) (E := 119) (A := 124) (B := 123) (F := 119) (G := 2) Try.underlying126 (by kernel_rfl) rfl (by decide) (by decide) (by decide) (by decide) rfl rfl rfl rfl rfl rfl rfl rfl
        Try.underlying121 Try.underlying120 Try.underlying119 hi (by simpa using hR) h1 (by kernel_rfl) (by kernel_rfl) info_db8 info_ab8 Try.underlying124 Try.underlying123 (by kernel_rfl) hj (by simpa using hB) (by kernel_rfl) rfl (by decide) (by decide) rfl rfl rfl rfl Try.underlying119 Try.underlying2 c d s t w

set_option maxHeartbeats 1000000 in
set_option maxRecDepth 100000 in
theorem iSameColumn (c d : Nat → Nat) (s t : Int) (hc : ∀ i, i < 177 → c i < 4294967296) (hd : ∀ i, i < 177 → d i < 4294967296) (q : Bool) (hq : eqCol c d s t = q) (w : World) :
    Calls Try.prog 26 #[.agg (vls 178 (clw c s)), .agg (vls 178 (clw d t))] w fun e w' => e = .returned (.bool q) ∧ Below w.heap.size w w' := by
  have k0 : Hid (Kept w [(w.heap.size + 1, vls 178 (clw d t), 36), (w.heap.size, vls 178 (clw c s), 36)] ((w.alloc (.cells (vls 178 (clw c s)) 36)).alloc (.cells (vls 178 (clw d t)) 36))) := hid ((((Kept.nil w).push _ _).push _ _).sub (by simp))
  have HC := hid hc
  have HD := hid hd
  have HE := hid hq
  clear hc hd hq
  go_enter Try.func26, Try.ntmps26
  go_wp2_with fail
  refine region_kept (w0 := w) (l := [(w.heap.size + 1, vls 178 (clw d t), 36), (w.heap.size, vls 178 (clw c s), 36)]) 6 #[false, false, false, false, false, false] (by kernel_rfl) rfl rfl ?_
  have kd := k0.out.drew
  generalize World.drew _ = wd at kd ⊢
  clear k0
  refine take_load 0 _ _ rfl (by rfl) (by kernel_rfl) (by kernel_rfl) (by kernel_rfl) 36 _ rfl (w.heap.size) (vls 178 (clw c s)) 36 rfl (by simp) _ Try.underlying36 rfl (by rw [vls_size]; exact info_col) rfl rfl kd ?_
  simp only [Act.put, List.setIfInBounds_toArray, List.set_cons_zero, List.set_cons_succ]
  refine take_load 2 _ _ rfl (by rfl) (by kernel_rfl) (by kernel_rfl) (by kernel_rfl) 36 _ rfl (w.heap.size + 1) (vls 178 (clw d t)) 36 rfl (by simp) _ Try.underlying36 rfl (by rw [vls_size]; exact info_col) rfl rfl kd ?_
  simp only [Act.put, List.setIfInBounds_toArray, List.set_cons_zero, List.set_cons_succ]
  refine wpAnyH_ready (rs := [1]) (by kernel_rfl) (by simp) ?_
  refine callK 1 _ _ (.agg (vls 178 (bitw c s))) kd rfl (by rfl) 89 #[.agg (vls 178 (clw c s))] (fun w => by unfold execOp; go_simp) rfl rfl ?hc1 (fun w1 k1 => ?_) AllReadyH.nil
  case hc1 => exact iBitsOfColumn c s HC.out _
  refine ⟨k1, ?_⟩
  simp only [Act.put, List.setIfInBounds_toArray, List.set_cons_zero, List.set_cons_succ]
  refine wpAnyH_ready (rs := [3]) (by kernel_rfl) (by simp) ?_
  refine callK 3 _ _ (.agg (vls 178 (bitw d t))) k1 rfl (by rfl) 89 #[.agg (vls 178 (clw d t))] (fun w => by unfold execOp; go_simp) rfl rfl ?hc2 (fun w2 k2 => ?_) AllReadyH.nil
  case hc2 => exact iBitsOfColumn d t HD.out _
  refine ⟨k2, ?_⟩
  simp only [Act.put, List.setIfInBounds_toArray, List.set_cons_zero, List.set_cons_succ]
  refine take_val 4 _ _ (.bool q) rfl (by rfl) (by kernel_rfl) (by kernel_rfl) (by kernel_rfl) (fun w => run_binop_val _ _ _ _ (by rfl) (by rfl) (run_eqGuard_agg _ _ _ _ _ _ _ (by kernel_rfl)) (by have := eq_col c d s t w; rwa [HE.out] at this)) rfl rfl k2 ?_
  simp only [Act.put, List.setIfInBounds_toArray, List.set_cons_zero, List.set_cons_succ]
  refine take_val 5 _ _ (.bool q) rfl (by rfl) (by kernel_rfl) (by kernel_rfl) (by kernel_rfl) (fun w => by rfl) rfl rfl k2 ?_
  simp only [Act.put, List.setIfInBounds_toArray, List.set_cons_zero, List.set_cons_succ]
  refine wpAnyH_done (by kernel_rfl) (NoPanic.normal ?_) _
  go_wp2
  go_ret
  exact ⟨rfl, k2.1⟩

set_option maxRecDepth 100000 in
theorem sSameColumn (c d : Nat → Nat) (s t : Int) (hc : ∀ i, i < 177 → c i < 4294967296) (hd : ∀ i, i < 177 → d i < 4294967296) (q : Bool) (hq : eqCol c d s t = q) (w : World) :
    Calls Try.prog 25 #[.agg (vls 178 (clw c s)), .agg (vls 178 (clw d t))] w fun e w' => e = .returned (.bool q) ∧ Below w.heap.size w w' := by
  have k0 : Hid (Kept w [(w.heap.size + 1, vls 178 (clw d t), 36), (w.heap.size, vls 178 (clw c s), 36)] ((w.alloc (.cells (vls 178 (clw c s)) 36)).alloc (.cells (vls 178 (clw d t)) 36))) := hid ((((Kept.nil w).push _ _).push _ _).sub (by simp))
  have HC := hid hc
  have HD := hid hd
  have hp : q = true ↔ ColEq c d s t := by rw [← hq]; exact eqCol_iff c d s t
  have HP := hid hp
  clear hc hd hq hp
  go_enter Try.func25, Try.ntmps25
  go_wp2_with fail
  refine (sSameCol c d s t HC.out HD.out q HP.out _ w.heap.size (w.heap.size + 1) 36 36 (k0.out.v in1) (k0.out.v in0)).mono ?_
  rintro e w1 ⟨rfl, hb1⟩
  have k1 := hid (k0.out.stay hb1)
  go_wp2
  go_ret
  exact ⟨rfl, k1.out.1⟩

set_option maxHeartbeats 1000000 in
set_option maxRecDepth 100000 in
theorem lawSameColumn (c : Nat → Nat) (s : Int) (hc : ∀ i, i < 177 → c i < 4294967296) (d : Nat → Nat) (t : Int) (hd : ∀ i, i < 177 → d i < 4294967296) (w : World) :
    Calls Try.prog 4 #[.agg (vls 178 (clw c s)), .agg (vls 178 (clw d t))] w fun e w' => e = .returned (.bool true) ∧ Below w.heap.size w w' := by
  have k0 : Hid (Kept w [(w.heap.size + 1, vls 178 (clw d t), 29), (w.heap.size, vls 178 (clw c s), 29)] ((w.alloc (.cells (vls 178 (clw c s)) 29)).alloc (.cells (vls 178 (clw d t)) 29))) := hid ((((Kept.nil w).push _ _).push _ _).sub (by simp))
  obtain ⟨q, hq⟩ : ∃ q, eqCol c d s t = q := ⟨_, rfl⟩
  have HS := hid (fun w => sSameColumn c d s t hc hd q hq w)
  have HI := hid (fun w => iSameColumn c d s t hc hd q hq w)
  clear hc hd hq
  go_enter Try.func4, Try.ntmps4
  go_wp2_with fail
  refine region_kept (w0 := w) (l := [(w.heap.size + 1, vls 178 (clw d t), 29), (w.heap.size, vls 178 (clw c s), 29)]) 6 #[false, false, false, false, false, false] (by kernel_rfl) rfl rfl ?_
  have kd := k0.out.drew
  generalize World.drew _ = wd at kd ⊢
  clear k0
  refine take_load 0 _ _ rfl (by rfl) (by kernel_rfl) (by kernel_rfl) (by kernel_rfl) 29 _ rfl (w.heap.size) (vls 178 (clw c s)) 29 rfl (by simp) _ Try.underlying29 rfl (by rw [vls_size]; exact info_lcol) rfl rfl kd ?_
  simp only [Act.put, List.setIfInBounds_toArray, List.set_cons_zero, List.set_cons_succ]
  refine take_load 2 _ _ rfl (by rfl) (by kernel_rfl) (by kernel_rfl) (by kernel_rfl) 29 _ rfl (w.heap.size + 1) (vls 178 (clw d t)) 29 rfl (by simp) _ Try.underlying29 rfl (by rw [vls_size]; exact info_lcol) rfl rfl kd ?_
  simp only [Act.put, List.setIfInBounds_toArray, List.set_cons_zero, List.set_cons_succ]
  refine wpAnyH_ready (rs := [1]) (by kernel_rfl) (by simp) ?_
  refine callK 1 _ _ (.agg (vls 178 (clw c s))) kd rfl (by rfl) 23 #[.agg (vls 178 (clw c s))] (fun w => by unfold execOp; go_simp) rfl rfl ?hc1 (fun w1 k1 => ?_) AllReadyH.nil
  case hc1 => exact toColumn c s _
  refine ⟨k1, ?_⟩
  simp only [Act.put, List.setIfInBounds_toArray, List.set_cons_zero, List.set_cons_succ]
  refine wpAnyH_ready (rs := [3]) (by kernel_rfl) (by simp) ?_
  refine callK 3 _ _ (.agg (vls 178 (clw d t))) k1 rfl (by rfl) 23 #[.agg (vls 178 (clw d t))] (fun w => by unfold execOp; go_simp) rfl rfl ?hc2 (fun w2 k2 => ?_) AllReadyH.nil
  case hc2 => exact toColumn d t _
  refine ⟨k2, ?_⟩
  simp only [Act.put, List.setIfInBounds_toArray, List.set_cons_zero, List.set_cons_succ]
  refine wpAnyH_ready (rs := [4]) (by kernel_rfl) (by simp) ?_
  refine callK 4 _ _ (.bool q) k2 rfl (by rfl) 25 #[.agg (vls 178 (clw c s)), .agg (vls 178 (clw d t))] (fun w => by unfold execOp; go_simp) rfl rfl ?hc3 (fun w3 k3 => ?_) AllReadyH.nil
  case hc3 => exact HS.out _
  refine ⟨k3, ?_⟩
  simp only [Act.put, List.setIfInBounds_toArray, List.set_cons_zero, List.set_cons_succ]
  refine take_val 5 _ _ (.bool q) rfl (by rfl) (by kernel_rfl) (by kernel_rfl) (by kernel_rfl) (fun w => by rfl) rfl rfl k3 ?_
  simp only [Act.put, List.setIfInBounds_toArray, List.set_cons_zero, List.set_cons_succ]
  refine wpAnyH_done (by kernel_rfl) (NoPanic.normal ?_) _
  have kx := hid k3
  generalize w3 = wx at kx ⊢
  go_wp2_with fail
  refine region_kept (w0 := w) (l := [(w.heap.size + 1, vls 178 (clw d t), 29), (w.heap.size, vls 178 (clw c s), 29)]) 6 #[false, false, false, false, false, false] (by kernel_rfl) rfl rfl ?_
  have kd := kx.out.drew
  generalize World.drew _ = wd at kd ⊢
  clear kx
  refine take_load 0 _ _ rfl (by rfl) (by kernel_rfl) (by kernel_rfl) (by kernel_rfl) 29 _ rfl (w.heap.size) (vls 178 (clw c s)) 29 rfl (by simp) _ Try.underlying29 rfl (by rw [vls_size]; exact info_lcol) rfl rfl kd ?_
  simp only [Act.put, List.setIfInBounds_toArray, List.set_cons_zero, List.set_cons_succ]
  refine take_load 2 _ _ rfl (by rfl) (by kernel_rfl) (by kernel_rfl) (by kernel_rfl) 29 _ rfl (w.heap.size + 1) (vls 178 (clw d t)) 29 rfl (by simp) _ Try.underlying29 rfl (by rw [vls_size]; exact info_lcol) rfl rfl kd ?_
  simp only [Act.put, List.setIfInBounds_toArray, List.set_cons_zero, List.set_cons_succ]
  refine wpAnyH_ready (rs := [1]) (by kernel_rfl) (by simp) ?_
  refine callK 1 _ _ (.agg (vls 178 (clw c s))) kd rfl (by rfl) 23 #[.agg (vls 178 (clw c s))] (fun w => by unfold execOp; go_simp) rfl rfl ?hc51 (fun w51 k51 => ?_) AllReadyH.nil
  case hc51 => exact toColumn c s _
  refine ⟨k51, ?_⟩
  simp only [Act.put, List.setIfInBounds_toArray, List.set_cons_zero, List.set_cons_succ]
  refine wpAnyH_ready (rs := [3]) (by kernel_rfl) (by simp) ?_
  refine callK 3 _ _ (.agg (vls 178 (clw d t))) k51 rfl (by rfl) 23 #[.agg (vls 178 (clw d t))] (fun w => by unfold execOp; go_simp) rfl rfl ?hc52 (fun w52 k52 => ?_) AllReadyH.nil
  case hc52 => exact toColumn d t _
  refine ⟨k52, ?_⟩
  simp only [Act.put, List.setIfInBounds_toArray, List.set_cons_zero, List.set_cons_succ]
  refine wpAnyH_ready (rs := [4]) (by kernel_rfl) (by simp) ?_
  refine callK 4 _ _ (.bool q) k52 rfl (by rfl) 26 #[.agg (vls 178 (clw c s)), .agg (vls 178 (clw d t))] (fun w => by unfold execOp; go_simp) rfl rfl ?hc53 (fun w53 k53 => ?_) AllReadyH.nil
  case hc53 => exact HI.out _
  refine ⟨k53, ?_⟩
  simp only [Act.put, List.setIfInBounds_toArray, List.set_cons_zero, List.set_cons_succ]
  refine take_val 5 _ _ (.bool q) rfl (by rfl) (by kernel_rfl) (by kernel_rfl) (by kernel_rfl) (fun w => by rfl) rfl rfl k53 ?_
  simp only [Act.put, List.setIfInBounds_toArray, List.set_cons_zero, List.set_cons_succ]
  refine wpAnyH_done (by kernel_rfl) (NoPanic.normal ?_) _
  go_wp2
  go_ret
  exact ⟨by simp, k53.1⟩

theorem words_cons : ∀ (v : List Char) (r : List Char), (∀ c ∈ v, c ≠ Char.ofNat 32) → wordsSigns (v ++ Char.ofNat 32 :: r) = v :: wordsSigns r
  | [], r, _ => rfl
  | c :: v, r, h => by
    have ih := words_cons v r (fun x hx => h x (by simp [hx]))
    have hc : c ≠ Char.ofNat 32 := h c (by simp)
    show wordsSigns (c :: (v ++ Char.ofNat 32 :: r)) = _
    rw [wordsSigns.eq_3 _ _ (fun e => hc e), ih]

def w0 : List Nat := [104, 97, 114, 110, 101, 115, 115]

def w1 : List Nat := [53, 97, 52, 54, 101, 53, 53, 98, 52, 48, 102, 99, 98, 48, 100, 53, 101, 48, 49, 101, 56, 48, 53, 99, 49, 55, 97, 101, 51, 99, 102, 101, 51, 57, 102, 97, 57, 48, 50, 97, 52, 102, 51, 54, 53, 53, 99, 101, 97, 98, 98, 53, 98, 48, 101, 56, 48, 101, 102, 55, 55, 99, 53, 48]

def w2 : List Nat := [99, 117, 116]

def w3 : List Nat := [97, 116, 32, 108, 111, 111, 112, 46, 101, 120, 97, 109, 112, 108, 101, 47, 103, 48, 49, 50, 50, 52, 47, 108, 97, 119, 115, 46, 70, 110, 69, 120, 97, 99, 116, 86, 97, 108, 105, 100, 67, 111, 108, 117, 109, 110, 32, 108, 111, 111, 112, 46, 101, 120, 97, 109, 112, 108, 101, 47, 103, 48, 49, 50, 50, 52, 47, 108, 97, 119, 115, 46, 70, 110, 69, 120, 97, 99, 116, 83, 97, 109, 101, 67, 111, 108, 117, 109, 110, 32, 108, 111, 111, 112, 46, 101, 120, 97, 109, 112, 108, 101, 47, 103, 48, 49, 50, 50, 52, 47, 108, 97, 119, 115, 46, 70, 110, 69, 120, 97, 99, 116, 83, 116, 105, 108, 108, 67, 111, 108, 117, 109, 110, 32, 108, 111, 111, 112, 46, 101, 120, 97, 109, 112, 108, 101, 47, 103, 48, 49, 50, 50, 52, 47, 108, 97, 119, 115, 46, 70, 110, 69, 120, 97, 99, 116, 70, 97, 108, 108, 83, 104, 97, 114, 101, 115, 32, 108, 111, 111, 112, 46, 101, 120, 97, 109, 112, 108, 101, 47, 103, 48, 49, 50, 50, 52, 47, 108, 97, 119, 115, 46, 70, 110, 69, 120, 97, 99, 116, 83, 101, 116, 116, 108, 101, 79, 110, 99, 101, 32, 108, 111, 111, 112, 46, 101, 120, 97, 109, 112, 108, 101, 47, 103, 48, 49, 50, 50, 52, 47, 108, 97, 119, 115, 46, 70, 110, 69, 120, 97, 99, 116, 71, 114, 111, 119, 67, 111, 108, 117, 109, 110, 32, 108, 111, 111, 112, 46, 101, 120, 97, 109, 112, 108, 101, 47, 103, 48, 49, 50, 50, 52, 47, 108, 97, 119, 115, 46, 70, 110, 69, 120, 97, 99, 116, 83, 116, 105, 114, 67, 111, 108, 117, 109, 110, 32, 108, 111, 111, 112, 46, 101, 120, 97, 109, 112, 108, 101, 47, 103, 48, 49, 50, 50, 52, 47, 108, 97, 119, 115, 46, 70, 110, 69, 120, 97, 99, 116, 87, 97, 116, 101, 114, 79, 102, 67, 111, 108, 117, 109, 110, 32, 108, 111, 111, 112, 46, 101, 120, 97, 109, 112, 108, 101, 47, 103, 48, 49, 50, 50, 52, 47, 108, 97, 119, 115, 46, 70, 110, 69, 120, 97, 99, 116, 82, 97, 105, 110, 79, 102, 32, 108, 111, 111, 112, 46, 101, 120, 97, 109, 112, 108, 101, 47, 103, 48, 49, 50, 50, 52, 47, 108, 97, 119, 115, 46, 70, 110, 69, 120, 97, 99, 116, 67, 108, 111, 117, 100, 66, 97, 115, 101, 32, 108, 111, 111, 112, 46, 101, 120, 97, 109, 112, 108, 101, 47, 103, 48, 49, 50, 50, 52, 47, 108, 97, 119, 115, 46, 70, 110, 69, 120, 97, 99, 116, 86, 97, 108, 105, 100, 65, 99, 116, 32, 108, 111, 111, 112, 46, 101, 120, 97, 109, 112, 108, 101, 47, 103, 48, 49, 50, 50, 52, 47, 108, 97, 119, 115, 46, 70, 110, 69, 120, 97, 99, 116, 85, 110, 105, 116, 65, 116, 32, 108, 111, 111, 112, 46, 101, 120, 97, 109, 112, 108, 101, 47, 103, 48, 49, 50, 50, 52, 47, 108, 97, 119, 115, 46, 70, 110, 69, 120, 97, 99, 116, 67, 111, 108, 108, 105, 100, 101, 80, 97, 105, 114, 115, 32, 108, 111, 111, 112, 46, 101, 120, 97, 109, 112, 108, 101, 47, 103, 48, 49, 50, 50, 52, 47, 108, 97, 119, 115, 46, 70, 110, 69, 120, 97, 99, 116, 71, 114, 111, 119, 79, 110, 99, 101, 32, 108, 111, 111, 112, 46, 101, 120, 97, 109, 112, 108, 101, 47, 103, 48, 49, 50, 50, 52, 47, 108, 97, 119, 115, 46, 70, 110, 69, 120, 97, 99, 116, 71, 114, 111, 119, 83, 116, 101, 112, 115, 32, 108, 111, 111, 112, 46, 101, 120, 97, 109, 112, 108, 101, 47, 103, 48, 49, 50, 50, 52, 47, 108, 97, 119, 115, 46, 70, 110, 69, 120, 97, 99, 116, 83, 116, 101, 112, 115, 84, 111, 68, 114, 121, 32, 108, 111, 111, 112, 46, 101, 120, 97, 109, 112, 108, 101, 47, 103, 48, 49, 50, 50, 52, 47, 108, 97, 119, 115, 46, 70, 110, 69, 120, 97, 99, 116, 83, 116, 101, 97, 100, 121, 83, 111, 117, 110, 100, 105, 110, 103, 32, 108, 111, 111, 112, 46, 101, 120, 97, 109, 112, 108, 101, 47, 103, 48, 49, 50, 50, 52, 47, 108, 97, 119, 115, 46, 70, 110, 69, 120, 97, 99, 116, 82, 105, 115, 101, 73, 110, 32, 108, 111, 111, 112, 46, 101, 120, 97, 109, 112, 108, 101, 47, 103, 48, 49, 50, 50, 52, 47, 108, 97, 119, 115, 46, 70, 110, 69, 120, 97, 99, 116, 84, 104, 105, 114, 100, 82, 111, 111, 116]

def letters (l : List Nat) : List Char := l.map Char.ofNat

theorem head_reads : Try.prog.initOrder = String.ofList (letters w0 ++ Char.ofNat 32 :: (letters w1 ++ Char.ofNat 32 :: (letters w2 ++ Char.ofNat 32 :: letters w3))) := by kernel_rfl

theorem no_blank {l : List Nat} (h : l.all (fun n => Char.ofNat n != Char.ofNat 32) = true) : ∀ c ∈ letters l, c ≠ Char.ofNat 32 := by
  intro c hc
  obtain ⟨n, hn, rfl⟩ := List.mem_map.1 hc
  have := List.all_eq_true.1 h n hn
  simpa using this

theorem h0 : letters w0 = "harness".toList := by kernel_rfl

theorem h2 : letters w2 = "cut".toList := by kernel_rfl

theorem sums : isSumSigns (letters w1) = true := by kernel_rfl

theorem words : wordsSigns Try.prog.initOrder.toList = "harness".toList :: letters w1 :: "cut".toList :: wordsSigns (letters w3) := by
  rw [head_reads, String.toList_ofList, words_cons _ _ (no_blank (by decide +kernel)), words_cons _ _ (no_blank (by decide +kernel)), words_cons _ _ (no_blank (by decide +kernel)), h0, h2]

theorem behind : ∃ r, behindMainWord (wordsSigns Try.prog.initOrder.toList) = "cut".toList :: r := by
  refine ⟨wordsSigns (letters w3), ?_⟩
  rw [words]
  generalize wordsSigns (letters w3) = r
  have hs := sums
  generalize letters w1 = v at hs
  unfold behindMainWord
  simp [hs]

theorem not_later : Try.prog.laysLater = false := by kernel_rfl

theorem no_reflect : Try.prog.bearsReflect = false := by kernel_rfl

theorem no_doors : Try.prog.doorFits [] = true := by kernel_rfl

theorem strips (r : List (List Char)) : stripLifts liftWords ("cut".toList :: r) = ([], "cut".toList :: r) := by kernel_rfl

theorem may_enter_of (P : Program) (r : List (List Char)) (h : behindMainWord (wordsSigns P.initOrder.toList) = "cut".toList :: r) (h1 : P.laysLater = false) (h2 : P.bearsReflect = false) (h3 : P.doorFits [] = true) : P.mayEnter = true := by
  unfold Program.mayEnter
  rw [h]
  dsimp only
  rw [strips, h1, h2, h3]
  kernel_rfl

theorem lifts_final_of (P : Program) (r : List (List Char)) (h : behindMainWord (wordsSigns P.initOrder.toList) = "cut".toList :: r) : P.liftsFinal = false := by
  unfold Program.liftsFinal Program.headLifts
  rw [h]
  dsimp only
  rw [strips]
  kernel_rfl

theorem made_of (P : Program) (r : List (List Char)) (h : behindMainWord (wordsSigns P.initOrder.toList) = "cut".toList :: r) : P.make = some .cut := by
  unfold Program.make
  rw [h]
  kernel_rfl

theorem may_enter : Try.prog.mayEnter = true := let ⟨r, h⟩ := behind; may_enter_of _ r h not_later no_reflect no_doors

theorem lifts_final : Try.prog.liftsFinal = false := let ⟨r, h⟩ := behind; lifts_final_of _ r h

theorem made : Try.prog.make = some .cut := let ⟨r, h⟩ := behind; made_of _ r h

theorem laid : laidOutB Try.prog = true := by kernel_rfl

theorem rowed : mapsRowed Try.prog = true := by kernel_rfl

theorem no_stops : Try.prog.stops = [] := by kernel_rfl

theorem no_knobs : Try.prog.stopKnobs = [] := by kernel_rfl

theorem plain_keys : Try.prog.plainKeys = false := by kernel_rfl

theorem stops_heard : Try.prog.stopsHeard = true := by kernel_rfl

theorem arr2 {α : Type} {cs : Array α} (h : cs.size = 2) : ∃ c0 c1, cs = #[c0, c1] := by
  obtain ⟨l⟩ := cs
  match l, h with
  | [a, b], _ => exact ⟨a, b, rfl⟩

theorem own : ownKnob Try.prog.godebug = none := by kernel_rfl

theorem cells178 : Try.prog.cellsOf 29 = 178 := by kernel_rfl

theorem types178 : Try.prog.cellTypes Try.prog.depth 29 = some (List.replicate 177 22 ++ [2]) := by kernel_rfl

theorem rdc : Try.prog.readableRec 29 = true ∧ 29 < Try.prog.types.size := ⟨by kernel_rfl, of_decide_eq_true (by kernel_rfl)⟩
end Go.Proofs.Ytllkjockdogagaa

namespace Go.Proofs.Ytllkjockdogagaa.fnExactSameColumn
open Go.RowKit Go.Fl Go.ChangeShapes Go.WideShapes Go.ChangeAt

set_option maxHeartbeats 2000000 in
theorem closed : joinedFacts Try.prog 4 Try.f4 Rows.fnExactSameColumnSpec Rows.fnExactSameColumnRow = true := by
  unfold joinedFacts
  simp only [Bool.and_eq_true]
  exact ⟨⟨⟨⟨⟨⟨⟨⟨⟨⟨⟨⟨⟨⟨⟨⟨⟨⟨⟨⟨⟨⟨⟨⟨⟨⟨⟨⟨⟨⟨⟨(by as_aux_lemma => kernel_rfl),
    laid⟩,
    rowed⟩,
    (by as_aux_lemma => kernel_rfl)⟩,
    (by as_aux_lemma => kernel_rfl)⟩,
    (by as_aux_lemma => kernel_rfl)⟩,
    (by rw [no_stops]; rfl)⟩,
    (by as_aux_lemma => kernel_rfl)⟩,
    (by rw [no_knobs]; rfl)⟩,
    (by as_aux_lemma => kernel_rfl)⟩,
    (by as_aux_lemma => kernel_rfl)⟩,
    (by as_aux_lemma => kernel_rfl)⟩,
    (by as_aux_lemma => kernel_rfl)⟩,
    (by as_aux_lemma => kernel_rfl)⟩,
    (by as_aux_lemma => kernel_rfl)⟩,
    (by as_aux_lemma => kernel_rfl)⟩,
    (by as_aux_lemma => kernel_rfl)⟩,
    (by as_aux_lemma => kernel_rfl)⟩,
    (by as_aux_lemma => kernel_rfl)⟩,
    (by as_aux_lemma => kernel_rfl)⟩,
    (by as_aux_lemma => kernel_rfl)⟩,
    (by as_aux_lemma => kernel_rfl)⟩,
    (show (Rows.fnExactSameColumnRow.plainKeys == Try.prog.plainKeys) = true by rw [plain_keys]; rfl)⟩,
    (by as_aux_lemma => kernel_rfl)⟩,
    stops_heard⟩,
    may_enter⟩,
    (show (Rows.fnExactSameColumnRow.lifted == Try.prog.liftsFinal) = true by rw [lifts_final]; rfl)⟩,
    (show (Try.prog.make == some Rows.fnExactSameColumnRow.make) = true by rw [made]; rfl)⟩,
    (by as_aux_lemma => kernel_rfl)⟩,
    (by as_aux_lemma => kernel_rfl)⟩,
    (by as_aux_lemma => kernel_rfl)⟩,
    (by as_aux_lemma => kernel_rfl)⟩

set_option maxRecDepth 100000 in
theorem lifted (os : Os) (started : os.Started) (H : Type) (enc : TypeId × Value → H) :
    ReturnsInHanded {} Try.checked os 4 .any (Rows.fnExactSameColumnSpec.pre6 enc Try.prog Try.f4 Rows.fnExactSameColumnRow.domain false) (Rows.fnExactSameColumnSpec.post enc Try.prog Try.f4 false true false false) := by
  refine LawFrame.lifted (C := Try.checked) (fn := Try.f4) (n := 2) (tb := 4) started own (by kernel_rfl) Try.func4 laid ?_ rfl rfl ?_ rfl Try.underlying4
    (ChangeSpec.witness6 (enc := enc) (C := Try.checked) false ⟨#[], #[.agg ((Array.replicate 177 (.float .f32 0)).push (.int .i64 0)), .agg ((Array.replicate 177 (.float .f32 0)).push (.int .i64 0))], []⟩ 8 (by kernel_rfl) (by kernel_rfl) (by kernel_rfl) (by kernel_rfl)) ?_
  · intro t ht
    simp only [Try.params4, List.mem_cons, List.not_mem_nil, or_false] at ht
    rcases ht with rfl | rfl <;> first | exact rdc
  · intro ds hd
    match ds, hd with
    | [_, _], _ => rfl
  · intro W base args ds ps hval hn _
    obtain ⟨v0, v1, rfl⟩ : ∃ v0 v1, args = #[v0, v1] := arr2 hn
    obtain ⟨c0, n0, rfl, hb0, hi0⟩ := open_col Try.underlying29 rfl Try.underlying22 Try.underlying2 cells178 types178 (hval 0 29 v0 rfl rfl)
    obtain ⟨c1, n1, rfl, hb1, hi1⟩ := open_col Try.underlying29 rfl Try.underlying22 Try.underlying2 cells178 types178 (hval 1 29 v1 rfl rfl)
    exact lawSameColumn c0 n0 hb0 c1 n1 hb1 W

theorem over : Rows.fnExactSameColumnRow.holds Try.pinned (OpenSpec.ofChange Rows.fnExactSameColumnSpec) :=
  OpenClaim.holds_of_wide 4 Try.f4 rfl rfl rfl rfl rfl rfl rfl ⟨rfl, rfl, rfl, rfl, rfl⟩ rfl rfl rfl rfl rfl (by kernel_rfl) Try.func4 closed
    (of_decide_eq_true (by kernel_rfl)) (by unfold Func.isWrapper; rw [if_neg (by decide +kernel)]; exact ⟨rfl, rfl⟩)
    (fun os started H enc _ => lifted os started H enc)

theorem proved : Rows.FnExactSameColumnSaid := over
#print axioms proved
end Go.Proofs.Ytllkjockdogagaa.fnExactSameColumn
