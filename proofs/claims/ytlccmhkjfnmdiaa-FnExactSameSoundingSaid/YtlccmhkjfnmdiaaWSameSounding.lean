import Derived.Test.YtlccmhkjfnmdiaaCSameSounding
import Derived.Test.YtlccmhkjfnmdiaaChecked
import Derived.Test.YtlccmhkjfnmdiaaRows
import Derived.Laws.FloatArith
import Derived.ProofKit
import Derived.WalkKit
import Derived.WalkLawsBesides
import Derived.WalkSpells
import Derived.Deep.QuietTactic
import Derived.BigQuiet
import Derived.Deep.RegionHeld3
import Derived.ChangeKeysEq
import Derived.Laws.BitsAllLaws
import Derived.Deep.MidRow
import Derived.Deep.WholeRow
import Derived.StillTailTactics
import Derived.Deep.Slices
import Derived.ChangeSame
import Derived.OrdersIn
import Derived.ControlIn
import Derived.RangeFuncSeq
import Derived.RangeFuncNested
import Derived.RangeFuncLeaves
import Derived.RangeFuncBox
import Derived.OwnWalkIn
import Derived.TacticsInMore
import Derived.LoopNIn
import Derived.LoopIn
import Derived.Shelf.Abstract
import Derived.OpenShut
/- The law FnExactSameSounding of chapter 1: at every argument the call returns true, and what was there before it is as it was. -/
namespace Go.Proofs.Ytlccmhkjfnmdiaa
open Go.RowKit Go.Fl

@[go_sem] theorem ext_f64bits (y : Nat) (w : World) : (callFunc 260 #[.float .f64 y]).run Try.prog w = .ok (.value (.int .u64 y)) w := by
  rw [run_callFunc_extern Try.func260 (by kernel_rfl) (by kernel_rfl) (by kernel_rfl) (e := Extern.MathFloatBits.float64bits) (by kernel_rfl)]
  rfl

@[go_sem] theorem ext_f64from (n : Int) (w : World) : (callFunc 273 #[.int .u64 n]).run Try.prog w = .ok (.value (.float .f64 n.toNat)) w := by
  rw [run_callFunc_extern Try.func273 (by kernel_rfl) (by kernel_rfl) (by kernel_rfl) (e := Extern.MathFloatBits.float64frombits) (by kernel_rfl)]
  rfl

theorem hid {p : Prop} (h : p) : Hid p := h

theorem isNaN_f64 (y : Nat) (w : World) :
    Calls Try.prog 216 #[.float .f64 y] w fun e w' => e = .returned (.bool (FloatKind.f64.format.order y y != some .eq)) ∧ w = w' := by
  go_enter Try.func216, Try.ntmps216
  go_wp2
  go_ret
  exact ⟨rfl, rfl⟩

@[go_sem] theorem ext_f32bits (y : Nat) (w : World) : (callFunc 210 #[.float .f32 y]).run Try.prog w = .ok (.value (.int .u32 y)) w := by
  rw [run_callFunc_extern Try.func210 (by kernel_rfl) (by kernel_rfl) (by kernel_rfl) (e := Extern.MathFloatBits.float32bits) (by kernel_rfl)]
  rfl

theorem back {P : Program} {f : FuncId} {args : Array Value} {w : World} {v : Value} (h : Calls P f args w fun e w' => e = .returned v ∧ w = w') : Calls P f args w fun e w' => e = .returned v ∧ w' = w :=
  h.mono fun _ _ ⟨a, b⟩ => ⟨a, b.symm⟩

theorem sSame (a b : Nat) (ha : a < 4294967296) (hb : b < 4294967296) (w : World) :
    Calls Try.prog 171 #[.float .f32 a, .float .f32 b] w fun e w' => e = .returned (.bool (sameB a b)) ∧ w = w' := by
  have n1 := neq_self a ha
  have n2 := neq_self b hb
  have hq : ((a : Int) == (b : Int)) = decide (a = b) := by
    by_cases e : a = b
    · subst e; simp
    · simp [e]; omega
  have hs : sameB a b = if (nanB a || nanB b) = true then nanB a && nanB b else decide (a = b) := rfl
  have Hs := hid hs
  have Hq := hid hq
  clear ha hb hs hq
  rcases h1 : nanB a with _ | _ <;> rcases h2 : nanB b with _ | _ <;> rw [h1] at n1 <;> rw [h2] at n2 <;> rw [Hs.out, h1, h2] <;> clear Hs h1 h2
  · go_enter Try.func171, Try.ntmps171
    go_wp2
    go_ret
    exact ⟨by simp [← Hq.out], rfl⟩
  · go_enter Try.func171, Try.ntmps171
    go_wp2
    go_ret
    exact ⟨by simp, rfl⟩
  · go_enter Try.func171, Try.ntmps171
    go_wp2
    go_ret
    exact ⟨by simp, rfl⟩
  · go_enter Try.func171, Try.ntmps171
    go_wp2
    go_ret
    exact ⟨by simp, rfl⟩

theorem iBits (x : Nat) (hx : x < 4294967296) (w : World) :
    Calls Try.prog 242 #[.float .f32 x] w fun e w' => e = .returned (.int .u32 (nb x : Int)) ∧ Below w.heap.size w w' := by
  have hnb : nb x = if nanB x = true then 2143289344 else x := rfl
  rcases hn : nanB x with _ | _
  · have hle : mg x ≤ INF := by simpa [nanB] using hn
    rw [hn] at hnb
    have Hnb := hid hnb
    rcases Nat.lt_or_eq_of_le hle with h | h
    · have hc := fun w => run_conv_wid (P := Try.prog) w 22 26 x hx Try.underlying22 Try.underlying26 h
      obtain ⟨_, _, m, e, hr⟩ := read_wid_fin hx h
      have Hn := hid (show (FloatKind.f64.format.order (wid x) (wid x) != some .eq) = false by
        show (D.order (wid x) (wid x) != some .eq) = false
        rw [order_self hr]; rfl)
      clear hnb hn hle h hr hx
      go_enter Try.func242, Try.ntmps242
      go_wp2_with (go_at_call 216; refine (isNaN_f64 (wid x) _).mono ?_; rintro e w' ⟨rfl, rfl⟩; rw [Hn.out])
      go_ret
      exact ⟨by rw [Hnb.out]; simp, Below.refl _ _⟩
    · obtain ⟨z, hc, h1, h2⟩ := run_conv_inf (P := Try.prog) w 22 26 x hx Try.underlying22 Try.underlying26 h
      have hr : D.read z = .infinity (decide (9223372036854775808 ≤ z)) := by rw [read_signD h2, h1, read_DINF]
      have Hn := hid (show (FloatKind.f64.format.order z z != some .eq) = false by
        show (D.order z z != some .eq) = false
        rw [order_inf hr]; rfl)
      clear hnb hn hle h hr hx h1 h2
      go_enter Try.func242, Try.ntmps242
      go_wp2_with (go_at_call 216; refine (isNaN_f64 z _).mono ?_; rintro e w' ⟨rfl, rfl⟩; rw [Hn.out])
      go_ret
      exact ⟨by rw [Hnb.out]; simp, Below.refl _ _⟩
  · have h : INF < mg x := by simpa [nanB] using hn
    rw [hn] at hnb
    have Hnb := hid hnb
    obtain ⟨z, hc, h1, _⟩ := run_conv_nan (P := Try.prog) w 22 26 x Try.underlying22 Try.underlying26 h
    obtain ⟨s, t, hr⟩ := read_nanD h1
    have Hn := hid (show (FloatKind.f64.format.order z z != some .eq) = true by
      show (D.order z z != some .eq) = true
      rw [order_nan hr]; rfl)
    clear hnb hn h hr hx h1
    go_enter Try.func242, Try.ntmps242
    go_wp2_with (go_at_call 216; refine (isNaN_f64 z _).mono ?_; rintro e w' ⟨rfl, rfl⟩; rw [Hn.out])
    go_ret
    exact ⟨by rw [Hnb.out]; simp, (Below.refl _ _).drew⟩

theorem info_air : (Try.prog.info? 38).map (·.size) = some 2 := by kernel_rfl

theorem info_lair : (Try.prog.info? 37).map (·.size) = some 2 := by kernel_rfl

theorem sSame_is (a b : Nat) (ha : a < 4294967296) (hb : b < 4294967296) (q : Bool) (hq : sameB a b = q) (w : World) :
    Calls Try.prog 171 #[.float .f32 a, .float .f32 b] w fun e w' => e = .returned (.bool q) ∧ w = w' := hq ▸ sSame a b ha hb w

set_option maxRecDepth 100000 in
theorem toAir (h v : Nat) (w : World) :
    Calls Try.prog 42 #[.agg #[.float .f32 h, .float .f32 v]] w fun e w' => e = .returned (.agg #[.float .f32 h, .float .f32 v]) ∧ Below w.heap.size w w' := by
  have k0 : Hid (Kept w [(w.heap.size + 1, #[.float .f32 h, .float .f32 v], 38)] (((w.alloc (.cells #[.float .f32 h, .float .f32 v] 37)).alloc (.cells #[.float .f32 h, .float .f32 v] 38)).alloc (.cells #[.float .f32 h, .float .f32 v] 38))) := hid (((((Kept.nil w).push _ _).push _ _).push _ _).sub (by simp))
  go_enter Try.func42, Try.ntmps42
  go_wp2
  exact bodyPost_ret (results_cell_row rfl _ _ (w.heap.size + 1) 38 #[.float .f32 h, .float .f32 v] (0, 0) _ rfl (k0.out.at (x := (w.heap.size + 1, #[.float .f32 h, .float .f32 v], 38)) (by simp)) Try.underlying38 rfl info_air) rfl ⟨rfl, k0.out.1⟩

def sameA (ah av bh bv : Nat) : Bool := sameB ah bh && sameB av bv

theorem info_bits : (Try.prog.info? 194).map (·.size) = some 2 := by kernel_rfl

theorem run_bitsOf1 (a : Act) (x0 : Operand) (v0 : Value) (h0 : a.eval x0 = v0) (d : Option Tmp) (ats : Array TypeId) (t : TypeId) (ps : String) (af : Array Edge) (gd : Option (Nat × Bool)) (w : World) :
    (execOp a.eval ⟨d, .call { callee := .value (.func 242), args := #[x0], argTypes := ats }, t, ps, af, gd⟩).run Try.prog w = .ok (.enter 242 #[v0]) w := by
  subst h0
  unfold execOp
  go_simp

set_option maxRecDepth 100000 in
set_option maxHeartbeats 1000000 in
theorem iBitsOfAir (h v : Nat) (hh : h < 4294967296) (hv : v < 4294967296) (w : World) :
    Calls Try.prog 243 #[.agg #[.float .f32 h, .float .f32 v]] w fun e w' => e = .returned (.agg #[.int .u32 (nb h : Int), .int .u32 (nb v : Int)]) ∧ Below w.heap.size w w' := by
  have k0 : Hid (Kept w [(w.heap.size + 1, #[.int .u32 0, .int .u32 0], 194), (w.heap.size, #[.float .f32 h, .float .f32 v], 38)] ((w.alloc (.cells #[.float .f32 h, .float .f32 v] 38)).alloc (.cells #[.int .u32 0, .int .u32 0] 194))) := hid ((((Kept.nil w).push _ _).push _ _).sub (by simp))
  have hB0 : w.heap.size ≤ w.heap.size + 1 := by omega
  have hn0 : ∀ x ∈ [((w.heap.size, #[.float .f32 h, .float .f32 v], 38) : Nat × Array Value × TypeId)], x.1 ≠ w.heap.size + 1 := by simp
  have HN0 := hid hn0
  have HB0 := hid hB0
  have Hh := hid hh
  have Hv := hid hv
  clear hh hv hn0 hB0
  go_enter Try.func243, Try.ntmps243
  go_wp2_with fail
  refine region_kept (w0 := w) (l := [(w.heap.size, #[.float .f32 h, .float .f32 v], 38)]) 8 #[false, false, false, false, false, false, false, false] (by kernel_rfl) rfl rfl ?_
  have kd := k0.out.drew
  clear k0
  generalize World.drew _ = wd at kd ⊢
  refine take_val 0 { tmps := (.agg #[.float .f32 h, .float .f32 v] :: .pointer (some ⟨w.heap.size, 0, none⟩) :: .pointer (some ⟨w.heap.size + 1, 0, none⟩) :: .pointer (some ⟨w.heap.size, 0, none⟩) :: undef :: undef :: undef :: undef :: undef :: undef :: []).toArray, defers := [] } #[true, false, false, false, false, false, false, false] (.pointer (some ⟨w.heap.size, 0, none⟩)) rfl (by rfl) (by kernel_rfl) (by kernel_rfl) (by kernel_rfl) (fun w => by unfold execOp; go_simp) (by rfl) (by rfl) (kd.tail) ?_
  refine take_cell 1 { tmps := (.agg #[.float .f32 h, .float .f32 v] :: .pointer (some ⟨w.heap.size, 0, none⟩) :: .pointer (some ⟨w.heap.size + 1, 0, none⟩) :: .pointer (some ⟨w.heap.size, 0, none⟩) :: .float .f32 h :: undef :: undef :: undef :: undef :: undef :: []).toArray, defers := [] } #[true, true, false, false, false, false, false, false] (.float .f32 h) rfl (by rfl) (by kernel_rfl) (by kernel_rfl) (by kernel_rfl) (fun wq hS => by have hcell : wq.cell? ⟨w.heap.size, 0, none⟩ = some (.float .f32 h) := (cell_of_row wq (w.heap.size) 0 _ _ _ (hS.at (x := (w.heap.size, #[.float .f32 h, .float .f32 v], 38)) (by simp))).trans rfl; clear hS; unfold execOp; go_simp) (by rfl) (by rfl) (kd.tail) ?_
  refine take_val 3 { tmps := (.agg #[.float .f32 h, .float .f32 v] :: .pointer (some ⟨w.heap.size, 0, none⟩) :: .pointer (some ⟨w.heap.size + 1, 0, none⟩) :: .pointer (some ⟨w.heap.size, 0, none⟩) :: .float .f32 h :: undef :: .pointer (some ⟨w.heap.size, 1, none⟩) :: undef :: undef :: undef :: []).toArray, defers := [] } #[true, true, false, true, false, false, false, false] (.pointer (some ⟨w.heap.size, 1, none⟩)) rfl (by rfl) (by kernel_rfl) (by kernel_rfl) (by kernel_rfl) (fun w => by unfold execOp; go_simp) (by rfl) (by rfl) (kd.tail) ?_
  refine take_cell 4 { tmps := (.agg #[.float .f32 h, .float .f32 v] :: .pointer (some ⟨w.heap.size, 0, none⟩) :: .pointer (some ⟨w.heap.size + 1, 0, none⟩) :: .pointer (some ⟨w.heap.size, 0, none⟩) :: .float .f32 h :: undef :: .pointer (some ⟨w.heap.size, 1, none⟩) :: .float .f32 v :: undef :: undef :: []).toArray, defers := [] } #[true, true, false, true, true, false, false, false] (.float .f32 v) rfl (by rfl) (by kernel_rfl) (by kernel_rfl) (by kernel_rfl) (fun wq hS => by have hcell : wq.cell? ⟨w.heap.size, 1, none⟩ = some (.float .f32 v) := (cell_of_row wq (w.heap.size) 1 _ _ _ (hS.at (x := (w.heap.size, #[.float .f32 h, .float .f32 v], 38)) (by simp))).trans rfl; clear hS; unfold execOp; go_simp) (by rfl) (by rfl) (kd.tail) ?_
  refine wpAnyH_ready (rs := [2]) (by kernel_rfl) (by simp) ?_
  refine callK 2 { tmps := (.agg #[.float .f32 h, .float .f32 v] :: .pointer (some ⟨w.heap.size, 0, none⟩) :: .pointer (some ⟨w.heap.size + 1, 0, none⟩) :: .pointer (some ⟨w.heap.size, 0, none⟩) :: .float .f32 h :: .int .u32 (nb h : Int) :: .pointer (some ⟨w.heap.size, 1, none⟩) :: .float .f32 v :: undef :: undef :: []).toArray, defers := [] } #[true, true, true, true, true, false, false, false] (.int .u32 (nb h : Int)) kd rfl (by rfl) 242 #[.float .f32 h] (run_bitsOf1 _ _ _ rfl _ _ _ _ _ _) (by rfl) (by rfl) (iBits h Hh.out _) (fun w1 k1 => ?_) AllReadyH.nil
  refine ⟨k1.tail, ?_⟩
  refine wpAnyH_ready (rs := [5]) (by kernel_rfl) (by simp) ?_
  refine callK 5 { tmps := (.agg #[.float .f32 h, .float .f32 v] :: .pointer (some ⟨w.heap.size, 0, none⟩) :: .pointer (some ⟨w.heap.size + 1, 0, none⟩) :: .pointer (some ⟨w.heap.size, 0, none⟩) :: .float .f32 h :: .int .u32 (nb h : Int) :: .pointer (some ⟨w.heap.size, 1, none⟩) :: .float .f32 v :: .int .u32 (nb v : Int) :: undef :: []).toArray, defers := [] } #[true, true, true, true, true, true, false, false] (.int .u32 (nb v : Int)) k1 rfl (by rfl) 242 #[.float .f32 v] (run_bitsOf1 _ _ _ rfl _ _ _ _ _ _) (by rfl) (by rfl) (iBits v Hv.out _) (fun w2 k2 => ?_) AllReadyH.nil
  refine ⟨k2.tail, ?_⟩
  refine take_val 6 { tmps := (.agg #[.float .f32 h, .float .f32 v] :: .pointer (some ⟨w.heap.size, 0, none⟩) :: .pointer (some ⟨w.heap.size + 1, 0, none⟩) :: .pointer (some ⟨w.heap.size, 0, none⟩) :: .float .f32 h :: .int .u32 (nb h : Int) :: .pointer (some ⟨w.heap.size, 1, none⟩) :: .float .f32 v :: .int .u32 (nb v : Int) :: .agg #[.int .u32 (nb h : Int), .int .u32 (nb v : Int)] :: []).toArray, defers := [] } #[true, true, true, true, true, true, true, false] (.agg #[.int .u32 (nb h : Int), .int .u32 (nb v : Int)]) rfl (by rfl) (by kernel_rfl) (by kernel_rfl) (by kernel_rfl) (fun w => by unfold execOp; go_simp) (by rfl) (by rfl) (k2.tail) ?_
  refine wpAnyH_ready (rs := [7]) (by kernel_rfl) (by simp) ?_
  refine storeK 7 { tmps := (.agg #[.float .f32 h, .float .f32 v] :: .pointer (some ⟨w.heap.size, 0, none⟩) :: .pointer (some ⟨w.heap.size + 1, 0, none⟩) :: .pointer (some ⟨w.heap.size, 0, none⟩) :: .float .f32 h :: .int .u32 (nb h : Int) :: .pointer (some ⟨w.heap.size, 1, none⟩) :: .float .f32 v :: .int .u32 (nb v : Int) :: .agg #[.int .u32 (nb h : Int), .int .u32 (nb v : Int)] :: []).toArray, defers := [] } #[true, true, true, true, true, true, true, true] k2 HB0.out HN0.out rfl (by rfl) 194 _ _ rfl (#[.int .u32 (nb h : Int), .int .u32 (nb v : Int)]) (by rfl) (by rfl) (info_bits) (by simp) (by simp [Value.oneCell']) (by rfl) (by rfl) (fun w3 k3 => ?_) AllReadyH.nil
  refine ⟨k3.tail, ?_⟩
  refine wpAnyH_done (by kernel_rfl) (NoPanic.normal ?_) _
  go_wp2
  exact bodyPost_ret (results_cell_row rfl _ _ (w.heap.size + 1) 194 (#[.int .u32 (nb h : Int), .int .u32 (nb v : Int)]) (0, 0) _ rfl (k3.at (x := (w.heap.size + 1, _, _)) (by simp)) Try.underlying194 rfl info_bits) rfl ⟨rfl, k3.1⟩

def sameP (aa ah av ba bh bv : Nat) : Bool := sameB aa ba && sameA ah av bh bv

theorem info_lbits : (Try.prog.info? 196).map (·.size) = some 3 := by kernel_rfl

theorem info_lev : (Try.prog.info? 198).map (·.size) = some 3 := by kernel_rfl

set_option maxRecDepth 100000 in
set_option maxHeartbeats 1000000 in
theorem iBitsOfLevel (a h v : Nat) (ha : a < 4294967296) (hh : h < 4294967296) (hv : v < 4294967296) (w : World) :
    Calls Try.prog 173 #[.agg #[.float .f32 a, .float .f32 h, .float .f32 v]] w fun e w' => e = .returned (.agg #[.int .u32 (nb a : Int), .int .u32 (nb h : Int), .int .u32 (nb v : Int)]) ∧ Below w.heap.size w w' := by
  have k0 : Hid (Kept w [(w.heap.size + 1, #[.int .u32 0, .int .u32 0, .int .u32 0], 196), (w.heap.size, #[.float .f32 a, .float .f32 h, .float .f32 v], 198)] ((w.alloc (.cells #[.float .f32 a, .float .f32 h, .float .f32 v] 198)).alloc (.cells #[.int .u32 0, .int .u32 0, .int .u32 0] 196))) := hid ((((Kept.nil w).push _ _).push _ _).sub (by simp))
  have hB0 : w.heap.size ≤ w.heap.size + 1 := by omega
  have hn0 : ∀ x ∈ [((w.heap.size, #[.float .f32 a, .float .f32 h, .float .f32 v], 198) : Nat × Array Value × TypeId)], x.1 ≠ w.heap.size + 1 := by simp
  have HN0 := hid hn0
  have HB0 := hid hB0
  have Ha := hid ha
  have Hh := hid hh
  have Hv := hid hv
  clear ha hh hv hn0 hB0
  go_enter Try.func173, Try.ntmps173
  go_wp2_with fail
  refine region_kept (w0 := w) (l := [(w.heap.size, #[.float .f32 a, .float .f32 h, .float .f32 v], 198)]) 8 #[false, false, false, false, false, false, false, false] (by kernel_rfl) rfl rfl ?_
  have kd := k0.out.drew
  clear k0
  generalize World.drew _ = wd at kd ⊢
  refine take_val 0 _ _ (.pointer (some ⟨w.heap.size, 0, none⟩)) rfl (by rfl) (by kernel_rfl) (by kernel_rfl) (by kernel_rfl) (fun w => by unfold execOp; go_simp) rfl rfl kd.tail ?_
  refine take_val 3 _ _ (.pointer (some ⟨w.heap.size, 1, none⟩)) rfl (by rfl) (by kernel_rfl) (by kernel_rfl) (by kernel_rfl) (fun w => by unfold execOp; go_simp) rfl rfl kd.tail ?_
  simp only [Act.put, List.setIfInBounds_toArray, List.set_cons_zero, List.set_cons_succ]
  refine take_cell 1 _ _ (.float .f32 a) rfl (by rfl) (by kernel_rfl) (by kernel_rfl) (by kernel_rfl) (fun wq hS => by have hcell := (show parAt wq w.heap.size a h v 198 from hS.at (x := (w.heap.size, _, _)) (by simp)).c0; clear hS; unfold execOp; go_simp) rfl rfl kd.tail ?_
  refine take_cell 4 _ _ (.agg #[.float .f32 h, .float .f32 v]) rfl (by rfl) (by kernel_rfl) (by kernel_rfl) (by kernel_rfl) (fun wq hS => run_load_air 38 _ w.heap.size (by rfl) a h v 198 (hS.at (x := (w.heap.size, _, _)) (by simp)) _ Try.underlying38 rfl info_air) rfl rfl kd.tail ?_
  simp only [Act.put, List.setIfInBounds_toArray, List.set_cons_zero, List.set_cons_succ]
  refine wpAnyH_ready (rs := [2]) (by kernel_rfl) (by simp) ?_
  refine callK 2 _ _ (.int .u32 (nb a : Int)) kd rfl (by rfl) 242 #[.float .f32 a] (fun w => by unfold execOp; go_simp) rfl rfl ?hc (fun w1 k1 => ?_) AllReadyH.nil
  case hc => exact iBits a Ha.out _
  refine ⟨k1.tail, ?_⟩
  simp only [Act.put, List.setIfInBounds_toArray, List.set_cons_zero, List.set_cons_succ]
  refine wpAnyH_ready (rs := [5]) (by kernel_rfl) (by simp) ?_
  refine callK 5 _ _ (.agg #[.int .u32 (nb h : Int), .int .u32 (nb v : Int)]) k1 rfl (by rfl) 243 #[.agg #[.float .f32 h, .float .f32 v]] (fun w => by unfold execOp; go_simp) rfl rfl ?hc (fun w2 k2 => ?_) AllReadyH.nil
  case hc => exact iBitsOfAir h v Hh.out Hv.out _
  refine ⟨k2.tail, ?_⟩
  simp only [Act.put, List.setIfInBounds_toArray, List.set_cons_zero, List.set_cons_succ]
  refine take_val 6 _ _ (.agg #[.int .u32 (nb a : Int), .int .u32 (nb h : Int), .int .u32 (nb v : Int)]) rfl (by rfl) (by kernel_rfl) (by kernel_rfl) (by kernel_rfl) (fun w => by unfold execOp; go_simp) rfl rfl k2.tail ?_
  simp only [Act.put, List.setIfInBounds_toArray, List.set_cons_zero, List.set_cons_succ]
  refine wpAnyH_ready (rs := [7]) (by kernel_rfl) (by simp) ?_
  refine storeK 7 _ _ k2 HB0.out HN0.out rfl (by rfl) 196 _ _ rfl #[.int .u32 (nb a : Int), .int .u32 (nb h : Int), .int .u32 (nb v : Int)] rfl rfl info_lbits (by simp) (by simp [Value.oneCell']) rfl rfl (fun w3 k3 => ?_) AllReadyH.nil
  refine ⟨k3.tail, ?_⟩
  refine wpAnyH_done (by kernel_rfl) (NoPanic.normal ?_) _
  go_wp2
  exact bodyPost_ret (results_cell_row rfl _ _ (w.heap.size + 1) 196 (#[.int .u32 (nb a : Int), .int .u32 (nb h : Int), .int .u32 (nb v : Int)]) (0, 0) _ rfl (k3.at (x := (w.heap.size + 1, _, _)) (by simp)) Try.underlying196 rfl info_lbits) rfl ⟨rfl, k3.1⟩

theorem eq_lbits (a b c d e f : Nat) (w : World) : (binOp .eql 196 (.agg #[.int .u32 (nb a : Int), .int .u32 (nb b : Int), .int .u32 (nb c : Int)]) (.agg #[.int .u32 (nb d : Int), .int .u32 (nb e : Int), .int .u32 (nb f : Int)])).run Try.prog w = .ok (.bool (sameP a b c d e f)) w := by
  have h1 := sameB_nb a d
  have h2 := sameB_nb b e
  have h3 := sameB_nb c f
  unfold sameP sameA
  rw [← h1, ← h2, ← h3]
  go_simp
  generalize sameB a d = p at *
  generalize sameB b e = q at *
  generalize sameB c f = r at *
  cases p <;> cases q <;> cases r <;> rfl

theorem info_llev : (Try.prog.info? 213).map (·.size) = some 3 := by kernel_rfl

theorem infoz_lev : (Try.prog.info? 198).map (fun i => (i.zero, i.size, i.bytes)) = some (some (.agg #[.float .f32 0, .float .f32 0, .float .f32 0]), 3, 12) := by kernel_rfl

theorem sameFloat2 (a b : Nat) (h : Same2 a b) (w : World) :
    Calls Try.prog 35 #[.float .f64 a, .float .f64 b] w fun e w' => e = .returned (.bool true) ∧ w = w' := by
  obtain ⟨h1, h2⟩ := h
  rcases h1 with ⟨h1, rfl⟩ | ⟨h1, h3, h4, h5⟩
  · have hn : (FloatKind.f64.format.order a a != some .eq) = false := by
      show (Ieee.Format.order D a a != some .eq) = false
      rw [h1]; rfl
    have hq : (FloatKind.f64.format.order a a == some .eq) = true := by
      show (Ieee.Format.order D a a == some .eq) = true
      rw [h1]; rfl
    rcases hz : (FloatKind.f64.format.order a 0 == some .eq) with _ | _
    · clear h1 h2
      go_enter Try.func35, Try.ntmps35
      go_wp2
      go_ret
      exact ⟨by simp, rfl⟩
    · obtain ⟨q, hd⟩ := h2 h1 (beq_iff_eq.1 hz)
      have hdiv := fun w => run_float_arith (P := Try.prog) w .quo 26 .f64 4607182418800017408 a q hd
      clear h1 h2 hd
      go_enter Try.func35, Try.ntmps35
      go_wp2
      go_ret
      exact ⟨by simp, rfl⟩
  · have hn : (FloatKind.f64.format.order a a != some .eq) = true := by
      show (Ieee.Format.order D a a != some .eq) = true
      rw [h1]; rfl
    have hm : (FloatKind.f64.format.order b b != some .eq) = true := by
      show (Ieee.Format.order D b b != some .eq) = true
      rw [h3]; rfl
    clear h1 h2 h3 h4 h5
    go_enter Try.func35, Try.ntmps35
    go_wp2
    go_ret
    exact ⟨by simp, rfl⟩

theorem eqAir_any (h v : Nat) (hh : h < 4294967296) (hv : v < 4294967296) (w : World) :
    Calls Try.prog 44 #[.agg #[.float .f32 h, .float .f32 v], .agg #[.float .f32 h, .float .f32 v]] w fun e w' => e = .returned (.bool true) ∧ Below w.heap.size w w' := by
  obtain ⟨z0, f0, c0, d0, s0⟩ := conv_any (P := Try.prog) 22 26 h hh Try.underlying22 Try.underlying26
  obtain ⟨z1, f1, c1, d1, s1⟩ := conv_any (P := Try.prog) 22 26 v hv Try.underlying22 Try.underlying26
  have S0 := hid s0
  have S1 := hid s1
  have D0 := hid d0
  have D1 := hid d1
  have k0 : Hid (Kept w [(w.heap.size + 1, #[.float .f32 h, .float .f32 v], 38), (w.heap.size, #[.float .f32 h, .float .f32 v], 38)] ((w.alloc (.cells #[.float .f32 h, .float .f32 v] 38)).alloc (.cells #[.float .f32 h, .float .f32 v] 38))) := hid ((((Kept.nil w).push _ _).push _ _).sub (by simp))
  have k2 := hid (kept_wf (kept_wf k0.out (D0.out _)) (D0.out _))
  have e0 : (f0 (f0 ((w.alloc (.cells #[.float .f32 h, .float .f32 v] 38)).alloc (.cells #[.float .f32 h, .float .f32 v] 38)))).cell? ⟨w.heap.size, 1, none⟩ = some (.float .f32 v) := (cell_of_row _ (w.heap.size) 1 _ _ _ (k2.out.at (x := (w.heap.size, #[.float .f32 h, .float .f32 v], 38)) (by simp))).trans rfl
  have e1 : (f0 ((w.alloc (.cells #[.float .f32 h, .float .f32 v] 38)).alloc (.cells #[.float .f32 h, .float .f32 v] 38))).cell? ⟨w.heap.size + 1, 0, none⟩ = some (.float .f32 h) := (cell_of_row _ (w.heap.size + 1) 0 _ _ _ ((kept_wf k0.out (D0.out _)).at (x := (w.heap.size + 1, #[.float .f32 h, .float .f32 v], 38)) (by simp))).trans rfl
  have e2 : (f1 (f0 (f0 ((w.alloc (.cells #[.float .f32 h, .float .f32 v] 38)).alloc (.cells #[.float .f32 h, .float .f32 v] 38))))).cell? ⟨w.heap.size + 1, 1, none⟩ = some (.float .f32 v) := (cell_of_row _ (w.heap.size + 1) 1 _ _ _ ((kept_wf k2.out (D1.out _)).at (x := (w.heap.size + 1, #[.float .f32 h, .float .f32 v], 38)) (by simp))).trans rfl
  clear hh hv s0 s1 d0 d1
  go_enter Try.func44, Try.ntmps44
  go_wp2_with fail
  refine (sameFloat2 _ _ (S0.out _ _) _).mono ?_
  rintro e w1 ⟨rfl, rfl⟩
  go_wp2_with fail
  refine (sameFloat2 _ _ (S1.out _ _) _).mono ?_
  rintro e w1 ⟨rfl, rfl⟩
  go_wp2
  go_ret
  exact ⟨rfl, (kept_wf (kept_wf k2.out (D1.out _)) (D1.out _)).1⟩

set_option maxRecDepth 100000 in
theorem eqLevel_any (a h v : Nat) (ha : a < 4294967296) (hh : h < 4294967296) (hv : v < 4294967296) (w : World) :
    Calls Try.prog 190 #[.agg #[.float .f32 a, .float .f32 h, .float .f32 v], .agg #[.float .f32 a, .float .f32 h, .float .f32 v]] w fun e w' => e = .returned (.bool true) ∧ Below w.heap.size w w' := by
  obtain ⟨z0, f0, c0, d0, s0⟩ := conv_any (P := Try.prog) 22 26 a ha Try.underlying22 Try.underlying26
  have S0 := hid s0
  have D0 := hid d0
  have Hh := hid hh
  have Hv := hid hv
  have k0 : Hid (Kept w [(w.heap.size + 1, #[.float .f32 a, .float .f32 h, .float .f32 v], 198), (w.heap.size, #[.float .f32 a, .float .f32 h, .float .f32 v], 198)] ((w.alloc (.cells #[.float .f32 a, .float .f32 h, .float .f32 v] 198)).alloc (.cells #[.float .f32 a, .float .f32 h, .float .f32 v] 198))) := hid ((((Kept.nil w).push _ _).push _ _).sub (by simp))
  have k2 := hid (kept_wf (kept_wf k0.out (D0.out _)) (D0.out _))
  have e1 : (f0 ((w.alloc (.cells #[.float .f32 a, .float .f32 h, .float .f32 v] 198)).alloc (.cells #[.float .f32 a, .float .f32 h, .float .f32 v] 198))).cell? ⟨w.heap.size + 1, 0, none⟩ = some (.float .f32 a) := (cell_of_row _ (w.heap.size + 1) 0 _ _ _ ((kept_wf k0.out (D0.out _)).at (x := (w.heap.size + 1, #[.float .f32 a, .float .f32 h, .float .f32 v], 198)) (by simp))).trans rfl
  have A0 : Hid (parAt (f0 (f0 ((w.alloc (.cells #[.float .f32 a, .float .f32 h, .float .f32 v] 198)).alloc (.cells #[.float .f32 a, .float .f32 h, .float .f32 v] 198)))) w.heap.size a h v 198) := hid (k2.out.at (x := (w.heap.size, _, _)) (by simp))
  have A1 : Hid (parAt (f0 (f0 ((w.alloc (.cells #[.float .f32 a, .float .f32 h, .float .f32 v] 198)).alloc (.cells #[.float .f32 a, .float .f32 h, .float .f32 v] 198)))) (w.heap.size + 1) a h v 198) := hid (k2.out.at (x := (w.heap.size + 1, _, _)) (by simp))
  clear ha hh hv s0 d0
  go_enter Try.func190, Try.ntmps190
  go_wp2_with fail
  refine (sameFloat2 _ _ (S0.out _ _) _).mono ?_
  rintro e w1 ⟨rfl, rfl⟩
  go_wp2_with (first | (refine wpList_load_air (by rfl) 38 _ rfl w.heap.size rfl a h v 198 A0.out _ Try.underlying38 rfl info_air ?_) | (refine wpList_load_air (by rfl) 38 _ rfl (w.heap.size + 1) rfl a h v 198 A1.out _ Try.underlying38 rfl info_air ?_))
  refine (eqAir_any h v Hh.out Hv.out _).mono ?_
  rintro e w2 ⟨rfl, hb2⟩
  go_wp2
  go_ret
  exact ⟨rfl, (k2.out.stay hb2).1⟩

set_option maxRecDepth 100000 in
theorem toLevel (a h v : Nat) (w : World) :
    Calls Try.prog 188 #[.agg #[.float .f32 a, .float .f32 h, .float .f32 v]] w fun e w' => e = .returned (.agg #[.float .f32 a, .float .f32 h, .float .f32 v]) ∧ Below w.heap.size w w' := by
  have k0 : Hid (Kept w [(w.heap.size + 1 + 1, #[.float .f32 a, .float .f32 0, .float .f32 0], 198), (w.heap.size + 1, #[.float .f32 0, .float .f32 0, .float .f32 0], 198)] (((w.alloc (.cells #[.float .f32 a, .float .f32 h, .float .f32 v] 213)).alloc (.cells #[.float .f32 0, .float .f32 0, .float .f32 0] 198)).alloc (.cells #[.float .f32 a, .float .f32 0, .float .f32 0] 198))) := hid (((((Kept.nil w).push _ _).push _ _).push _ _).sub (by simp))
  have A0 : Hid (parAt (((w.alloc (.cells #[.float .f32 a, .float .f32 h, .float .f32 v] 213)).alloc (.cells #[.float .f32 0, .float .f32 0, .float .f32 0] 198)).alloc (.cells #[.float .f32 a, .float .f32 0, .float .f32 0] 198)) w.heap.size a h v 213) := hid (((((Kept.nil w).push _ _).push _ _).push _ _).at (x := (w.heap.size, #[.float .f32 a, .float .f32 h, .float .f32 v], 213)) (by simp))
  go_enter Try.func188, Try.ntmps188
  go_wp2_with (refine wpList_load_air (by rfl) 37 _ rfl w.heap.size rfl a h v 213 A0.out _ Try.underlying37 rfl info_lair ?_)
  refine (toAir h v _).mono ?_
  rintro e w1 ⟨rfl, hb1⟩
  have k1 := hid (k0.out.stay hb1)
  clear k0 A0 hb1
  have tok1 : True := trivial
  go_wp2_with (first | (have _t := tok1; refine store_air (w0 := w) (l := [(w.heap.size + 1, #[.float .f32 0, .float .f32 0, .float .f32 0], 198)]) rfl 38 _ _ rfl (w.heap.size + 1 + 1) rfl h v rfl a 0 0 198 k1.out (by omega) (by simp) info_air ?_; intro w2 k2; have k2 := hid k2; clear tok1) | (have _t := k2; refine wpList_load_row rfl 198 _ rfl (w.heap.size + 1 + 1) rfl 198 (#[.float .f32 a, .float .f32 h, .float .f32 v]) (0, 0) _ (k2.out.at (x := (w.heap.size + 1 + 1, #[.float .f32 a, .float .f32 h, .float .f32 v], 198)) (by simp)) Try.underlying198 rfl (info_lev) ?_) | (have _t := k2; refine store_kept (w0 := w) (l := []) rfl 198 _ _ rfl (w.heap.size + 1) (#[.float .f32 a, .float .f32 h, .float .f32 v]) rfl rfl 198 (#[.float .f32 0, .float .f32 0, .float .f32 0]) (k2.out.sub (by simp)) (by omega) (by simp) (info_lev) (by simp) (by simp [Value.oneCell']) ?_; intro w3 k3; have k3 := hid k3))
  exact bodyPost_ret (results_cell_row rfl _ _ (w.heap.size + 1) 198 #[.float .f32 a, .float .f32 h, .float .f32 v] (0, 0) _ rfl (k3.out.at (x := (w.heap.size + 1, #[.float .f32 a, .float .f32 h, .float .f32 v], 198)) (by simp)) Try.underlying198 rfl info_lev) rfl ⟨rfl, k3.out.1⟩

theorem szLevels_ok (p : Option Addr) (n cap : Nat) (hn : n ≤ 1048576) (w : World) :
    Calls Try.prog 88 #[.slice p n cap, .int .i64 1048576] w fun e w' => e = .returned (.int .i64 (1048576 - (n : Int))) ∧ w = w' := by
  have h1 : IntKind.i64.wrap (1048576 - (n : Int)) = 1048576 - (n : Int) := by rw [IntKind.wrap_i64]; omega
  have h2 : ¬ (1048576 - (n : Int) < 0) := by omega
  go_enter Try.func88, Try.ntmps88
  go_wp2
  go_ret
  exact ⟨rfl, rfl⟩

theorem szLevels_no (p : Option Addr) (n cap : Nat) (hn : 1048576 < n) (hm : n ≤ maxLen) (w : World) :
    Calls Try.prog 88 #[.slice p n cap, .int .i64 1048576] w fun e w' => e = .returned (.int .i64 (-1)) ∧ w = w' := by
  have hm' : n ≤ 9223372036854775807 := hm
  have h1 : IntKind.i64.wrap (1048576 - (n : Int)) = 1048576 - (n : Int) := by rw [IntKind.wrap_i64]; omega
  have h2 : (1048576 - (n : Int) < 0) := by omega
  go_enter Try.func88, Try.ntmps88
  go_wp2
  go_ret
  exact ⟨rfl, rfl⟩

set_option maxRecDepth 100000 in
set_option maxHeartbeats 1000000 in
theorem toLevels (s : Value) (n : Nat) (x : Nat → Nat) (_hx : ∀ k, x k < 4294967296) (w : World) (hs : Rd w s n x) (hn : n ≤ 1048576) :
    Calls Try.prog 90 #[s] w fun e w' => ∃ g, e = .returned (.slice (some ⟨g, 0, none⟩) n n) ∧ Rd w' (.slice (some ⟨g, 0, none⟩) n n) n x ∧ Below w.heap.size w w' := by
  obtain ⟨p, cap, rfl, hc⟩ := hs
  have HC := hid hc
  have hmk := fun w => run_make3 (P := Try.prog) (t := 105) (e := 198) Try.underlying105 infoz_lev hn w
  have k0 : Hid (Kept w [(w.heap.size, vls (3 * n) (flw (part3 x 0)), 198)] (w.alloc (.cells (vls (3 * n) (flw fun _ => 0)) 198))) := hid (by rw [part3_zero]; exact (Kept.nil w).push _ _)
  clear hc
  go_enter Try.func90, Try.ntmps90
  go_wp2_with fail
  go_loopw [4] (fun i wr => ∃ k : Nat, k ≤ n ∧ i = .int .i64 k ∧ Hid (Kept w [(w.heap.size, vls (3 * n) (flw (part3 x k)), 198)] wr)) (fun i _ => n - (intOf i).toNat)
  case atStart => exact ⟨0, by omega, rfl, k0⟩
  case round =>
    obtain ⟨k, hk, rfl, h0⟩ := hrel
    clear k0 hmk
    by_cases hlt : k < n
    · have HK := hid hlt
      have hk3 : (k : Int) < (n : Int) := by omega
      obtain ⟨b, o, rfl, hcell⟩ := HC.out (by omega)
      have R1 := hid (fun wq (hb : Below w.heap.size w wq) => row3 (w := wq) (n := n) (x := x) (b := b) (o := o) (fun j hj => by have h1 := hcell j hj; rw [hb.cell (block_lt_of_cell h1)]; exact h1) HK.out)
      clear hcell
      have i1 := fun w => run_indexAt (P := Try.prog) (t := 102) (e := 213) Try.underlying102 info_llev (b := b) (o := o) (n := n) (cap := cap) (k := k) hlt w
      have i2 := fun w9 => run_indexAt (P := Try.prog) (t := 105) (e := 198) Try.underlying105 info_lev (b := w.heap.size) (o := 0) (n := n) (cap := n) (k := k) hlt w9
      simp only [Nat.zero_add] at i2
      go_wp2_with (refine wpList_load_mid rfl 213 _ rfl b (o + k * 3) rfl _ _ (R1.out _ h0.out.1) Try.underlying213 rfl info_llev ?_)
      refine (toLevel _ _ _ _).mono ?_
      rintro e w1 ⟨rfl, hb1⟩
      have h1 := hid (h0.out.stay hb1)
      have V1 : Hid (vAt w1 w.heap.size (3 * n) (flw (part3 x k)) 198) := hid (h1.out.at (x := (w.heap.size, vls (3 * n) (flw (part3 x k)), 198)) (by simp))
      clear i1
      go_wp2_with (refine wpList_store_mid rfl 198 _ _ rfl w.heap.size (k * 3) #[.float .f32 (x (k * 3)), .float .f32 (x (k * 3 + 1)), .float .f32 (x (k * 3 + 2))] rfl rfl (V1.out.there (k * 3) 3 (by have := HK.out; omega)) info_lev (by simp [Value.oneCell']) ?_)
      clear i2
      go_wp2
      go_roundw
      case rel => exact ⟨k + 1, by omega, by go_num, hid (by have h2 := h1.out.three (Nat.le_refl _) (by simp) (k * 3) (x (k * 3)) (x (k * 3 + 1)) (x (k * 3 + 2)); rw [part3_step] at h2; exact h2)⟩
      case measure => simp [intOf]; omega
    · obtain rfl : k = n := by omega
      go_wp2
      go_ret
      exact ⟨w.heap.size, rfl, Rd.of_vAt (vAt.part (T := 198) (k := k) (h0.out.at (x := (w.heap.size, vls (3 * k) (flw (part3 x k)), 198)) (by simp)) (Nat.le_refl _)) (Nat.le_refl _) _, h0.out.1⟩

set_option maxRecDepth 100000 in
set_option maxHeartbeats 1000000 in
theorem eqLevels (s t : Value) (n : Nat) (x : Nat → Nat) (hx : ∀ k, x k < 4294967296) (w : World) (hs : Rd w s n x) (ht : Rd w t n x) (hn : n ≤ 1048576) :
    Calls Try.prog 92 #[s, t] w fun e w' => e = .returned (.bool true) ∧ Below w.heap.size w w' := by
  obtain ⟨p, cap, rfl, hc⟩ := hs
  obtain ⟨p', cap', rfl, hc'⟩ := ht
  have HC := hid hc
  have HC' := hid hc'
  have HX := hid hx
  clear hc hc' hx
  go_enter Try.func92, Try.ntmps92
  go_wp2_with fail
  go_loopw [5] (fun i wr => ∃ k : Nat, k ≤ n ∧ i = .int .i64 k ∧ Hid (Kept w [] wr)) (fun i _ => n - (intOf i).toNat)
  case atStart => exact ⟨0, by omega, rfl, hid (Kept.nil w)⟩
  case round =>
    obtain ⟨k, hk, rfl, h0⟩ := hrel
    by_cases hlt : k < n
    · have HK := hid hlt
      have hk3 : (k : Int) < (n : Int) := by omega
      obtain ⟨b, o, rfl, hcell⟩ := HC.out (by omega)
      obtain ⟨b', o', rfl, hcell'⟩ := HC'.out (by omega)
      have R1 := hid (fun wq (hb : Below w.heap.size w wq) => row3 (w := wq) (n := n) (x := x) (b := b) (o := o) (fun j hj => by have h1 := hcell j hj; rw [hb.cell (block_lt_of_cell h1)]; exact h1) HK.out)
      have R2 := hid (fun wq (hb : Below w.heap.size w wq) => row3 (w := wq) (n := n) (x := x) (b := b') (o := o') (fun j hj => by have h1 := hcell' j hj; rw [hb.cell (block_lt_of_cell h1)]; exact h1) HK.out)
      clear hcell hcell'
      go_wp2_with fail
      refine region_kept (w0 := w) (l := []) 10 #[false, false, false, false, false, false, false, false, false, false] (by kernel_rfl) rfl rfl ?_
      have kd := h0.out.drew
      generalize World.drew _ = wd at kd ⊢
      refine take_val 0 _ _ (.slice (some ⟨b, o, none⟩) n cap) rfl (by rfl) (by kernel_rfl) (by kernel_rfl) (by kernel_rfl) (fun w => by rfl) rfl rfl kd ?_
      simp only [Act.put, List.setIfInBounds_toArray, List.set_cons_zero, List.set_cons_succ]
      refine take_val 1 _ _ (.int .i64 (k : Int)) rfl (by rfl) (by kernel_rfl) (by kernel_rfl) (by kernel_rfl) (fun w => by rfl) rfl rfl kd ?_
      simp only [Act.put, List.setIfInBounds_toArray, List.set_cons_zero, List.set_cons_succ]
      refine take_val 2 _ _ (.pointer (some ⟨b, o + k * 3, none⟩)) rfl (by rfl) (by kernel_rfl) (by kernel_rfl) (by kernel_rfl) (fun w => run_index_op _ _ rfl rfl (run_indexAt Try.underlying105 info_lev HK.out w)) rfl rfl kd ?_
      simp only [Act.put, List.setIfInBounds_toArray, List.set_cons_zero, List.set_cons_succ]
      refine take_cell 3 _ _ (.agg #[.float .f32 (x (k * 3)), .float .f32 (x (k * 3 + 1)), .float .f32 (x (k * 3 + 2))]) rfl (by rfl) (by kernel_rfl) (by kernel_rfl) (by kernel_rfl) (fun wq hS => run_load_mid 198 _ b (o + k * 3) [.float .f32 (x (k * 3)), .float .f32 (x (k * 3 + 1)), .float .f32 (x (k * 3 + 2))] rfl (R1.out _ hS.1) _ Try.underlying198 rfl info_lev) rfl rfl kd ?_
      simp only [Act.put, List.setIfInBounds_toArray, List.set_cons_zero, List.set_cons_succ]
      refine take_val 4 _ _ (.slice (some ⟨b', o', none⟩) n cap') rfl (by rfl) (by kernel_rfl) (by kernel_rfl) (by kernel_rfl) (fun w => by rfl) rfl rfl kd ?_
      simp only [Act.put, List.setIfInBounds_toArray, List.set_cons_zero, List.set_cons_succ]
      refine take_val 5 _ _ (.int .i64 (k : Int)) rfl (by rfl) (by kernel_rfl) (by kernel_rfl) (by kernel_rfl) (fun w => by rfl) rfl rfl kd ?_
      simp only [Act.put, List.setIfInBounds_toArray, List.set_cons_zero, List.set_cons_succ]
      refine take_val 6 _ _ (.pointer (some ⟨b', o' + k * 3, none⟩)) rfl (by rfl) (by kernel_rfl) (by kernel_rfl) (by kernel_rfl) (fun w => run_index_op _ _ rfl rfl (run_indexAt Try.underlying105 info_lev HK.out w)) rfl rfl kd ?_
      simp only [Act.put, List.setIfInBounds_toArray, List.set_cons_zero, List.set_cons_succ]
      refine take_cell 7 _ _ (.agg #[.float .f32 (x (k * 3)), .float .f32 (x (k * 3 + 1)), .float .f32 (x (k * 3 + 2))]) rfl (by rfl) (by kernel_rfl) (by kernel_rfl) (by kernel_rfl) (fun wq hS => run_load_mid 198 _ b' (o' + k * 3) [.float .f32 (x (k * 3)), .float .f32 (x (k * 3 + 1)), .float .f32 (x (k * 3 + 2))] rfl (R2.out _ hS.1) _ Try.underlying198 rfl info_lev) rfl rfl kd ?_
      simp only [Act.put, List.setIfInBounds_toArray, List.set_cons_zero, List.set_cons_succ]
      refine wpAnyH_ready (rs := [8]) (by kernel_rfl) (by simp) ?_
      refine callK 8 _ _ (.bool true) kd rfl (by rfl) 190 #[.agg #[.float .f32 (x (k * 3)), .float .f32 (x (k * 3 + 1)), .float .f32 (x (k * 3 + 2))], .agg #[.float .f32 (x (k * 3)), .float .f32 (x (k * 3 + 1)), .float .f32 (x (k * 3 + 2))]] (fun w => by unfold execOp; go_simp) rfl rfl ?hc1 (fun w1 k1 => ?_) AllReadyH.nil
      case hc1 => exact eqLevel_any _ _ _ (HX.out _) (HX.out _) (HX.out _) _
      refine ⟨k1, ?_⟩
      simp only [Act.put, List.setIfInBounds_toArray, List.set_cons_zero, List.set_cons_succ]
      refine take_val 9 _ _ (.bool false) rfl (by rfl) (by kernel_rfl) (by kernel_rfl) (by kernel_rfl) (fun w => by unfold execOp; go_simp) rfl rfl k1 ?_
      simp only [Act.put, List.setIfInBounds_toArray, List.set_cons_zero, List.set_cons_succ]
      refine wpAnyH_done (by kernel_rfl) (NoPanic.normal ?_) _
      go_wp2
      go_roundw
      case rel => exact ⟨k + 1, by omega, by go_num, hid k1⟩
      case measure => simp [intOf]; omega
    · obtain rfl : k = n := by omega
      go_wp2
      go_ret
      exact ⟨rfl, h0.out.1⟩

@[go_sem] theorem semAtSome (l : Nat) (ρ : Operand → Value) (o : Oper) (h : ∀ c, o.op ≠ .defer c) : Oper.semAt (some l) ρ o = execOp ρ o := Oper.semAt_some l ρ o h

@[go_sem] theorem zero_kern : Try.zeroCells49 = vls 400 (flw fun _ => 0) := by kernel_rfl

def samL (x y : Nat → Nat) (k : Nat) : Bool := sameP (x (k * 3)) (x (k * 3 + 1)) (x (k * 3 + 2)) (y (k * 3)) (y (k * 3 + 1)) (y (k * 3 + 2))

def samS (n m : Nat) (x y : Nat → Nat) : Bool := decide (n = m) && (List.range n).all (samL x y)

theorem iSameLevel (aa ah av ba bh bv : Nat) (h0 : aa < 4294967296) (h1 : ah < 4294967296) (h2 : av < 4294967296) (h5 : ba < 4294967296) (h3 : bh < 4294967296) (h4 : bv < 4294967296) (w : World) :
    Calls Try.prog 192 #[.agg #[.float .f32 aa, .float .f32 ah, .float .f32 av], .agg #[.float .f32 ba, .float .f32 bh, .float .f32 bv]] w fun e w' => e = .returned (.bool (sameP aa ah av ba bh bv)) ∧ Below w.heap.size w w' := by
  have k0 : Hid (Kept w [(w.heap.size, #[.float .f32 aa, .float .f32 ah, .float .f32 av], 198), (w.heap.size + 1, #[.float .f32 ba, .float .f32 bh, .float .f32 bv], 198)] ((w.alloc (.cells #[.float .f32 aa, .float .f32 ah, .float .f32 av] 198)).alloc (.cells #[.float .f32 ba, .float .f32 bh, .float .f32 bv] 198))) := hid ((((Kept.nil w).push _ _).push _ _).sub (by simp))
  have H0 := hid h0
  have H1 := hid h1
  have H2 := hid h2
  have H3 := hid h3
  have H4 := hid h4
  have H5 := hid h5
  clear h1 h2 h3 h4 h0 h5
  go_enter Try.func192, Try.ntmps192
  go_wp2_with fail
  refine region_kept (w0 := w) (l := [(w.heap.size, #[.float .f32 aa, .float .f32 ah, .float .f32 av], 198), (w.heap.size + 1, #[.float .f32 ba, .float .f32 bh, .float .f32 bv], 198)]) 6 #[false, false, false, false, false, false] (by kernel_rfl) rfl rfl ?_
  have kd := k0.out.drew
  clear k0
  generalize World.drew _ = wd at kd ⊢
  refine take_load 0 _ _ rfl (by rfl) (by kernel_rfl) (by kernel_rfl) (by kernel_rfl) 198 _ rfl w.heap.size (#[.float .f32 aa, .float .f32 ah, .float .f32 av]) 198 rfl (by simp) _ Try.underlying198 rfl info_lev rfl rfl kd ?_
  refine take_load 2 _ _ rfl (by rfl) (by kernel_rfl) (by kernel_rfl) (by kernel_rfl) 198 _ rfl (w.heap.size + 1) (#[.float .f32 ba, .float .f32 bh, .float .f32 bv]) 198 rfl (by simp) _ Try.underlying198 rfl info_lev rfl rfl kd ?_
  simp only [Act.put, List.setIfInBounds_toArray, List.set_cons_zero, List.set_cons_succ]
  refine wpAnyH_ready (rs := [1]) (by kernel_rfl) (by simp) ?_
  refine callK 1 _ _ (.agg #[.int .u32 (nb aa : Int), .int .u32 (nb ah : Int), .int .u32 (nb av : Int)]) kd rfl (by rfl) 173 #[.agg #[.float .f32 aa, .float .f32 ah, .float .f32 av]] (fun w => by unfold execOp; go_simp) rfl rfl ?hc (fun w1 k1 => ?_) AllReadyH.nil
  case hc => exact iBitsOfLevel aa ah av H0.out H1.out H2.out _
  refine ⟨k1, ?_⟩
  simp only [Act.put, List.setIfInBounds_toArray, List.set_cons_zero, List.set_cons_succ]
  refine wpAnyH_ready (rs := [3]) (by kernel_rfl) (by simp) ?_
  refine callK 3 _ _ (.agg #[.int .u32 (nb ba : Int), .int .u32 (nb bh : Int), .int .u32 (nb bv : Int)]) k1 rfl (by rfl) 173 #[.agg #[.float .f32 ba, .float .f32 bh, .float .f32 bv]] (fun w => by unfold execOp; go_simp) rfl rfl ?hc (fun w2 k2 => ?_) AllReadyH.nil
  case hc => exact iBitsOfLevel ba bh bv H5.out H3.out H4.out _
  refine ⟨k2, ?_⟩
  simp only [Act.put, List.setIfInBounds_toArray, List.set_cons_zero, List.set_cons_succ]
  refine take_val 4 _ _ (.bool (sameP aa ah av ba bh bv)) rfl (by rfl) (by kernel_rfl) (by kernel_rfl) (by kernel_rfl) (fun w => run_binop_val _ _ _ _ (by rfl) (by rfl) (by simp [eqGuard]) (eq_lbits _ _ _ _ _ _ w)) rfl rfl k2 ?_
  simp only [Act.put, List.setIfInBounds_toArray, List.set_cons_zero, List.set_cons_succ]
  refine take_val 5 _ _ (.bool (sameP aa ah av ba bh bv)) rfl (by rfl) (by kernel_rfl) (by kernel_rfl) (by kernel_rfl) (fun w => by unfold execOp; go_simp) rfl rfl k2 ?_
  refine wpAnyH_done (by kernel_rfl) (NoPanic.normal ?_) _
  simp only [Act.put, List.setIfInBounds_toArray, List.set_cons_zero, List.set_cons_succ]
  go_wp2
  go_ret
  exact ⟨rfl, k2.1⟩

set_option maxRecDepth 100000 in
theorem sSameAirAtQ (ah av bh bv : Nat) (h1 : ah < 4294967296) (h2 : av < 4294967296) (h3 : bh < 4294967296) (h4 : bv < 4294967296) (w : World) (g k o p : Nat) (c0 : w.cell? ⟨g, o, none⟩ = some (.float .f32 ah)) (c1 : w.cell? ⟨g, o + 1, none⟩ = some (.float .f32 av)) (c2 : w.cell? ⟨k, p, none⟩ = some (.float .f32 bh)) (c3 : w.cell? ⟨k, p + 1, none⟩ = some (.float .f32 bv)) :
    Calls Try.prog 172 #[.pointer (some ⟨g, o, none⟩), .pointer (some ⟨k, p, none⟩)] w fun e w' => e = .returned (.bool (sameA ah av bh bv)) ∧ ∃ m, w' = w.drewN m := by
  have H1 := hid h1
  have H2 := hid h2
  have H3 := hid h3
  have H4 := hid h4
  have e1 : sameA ah av bh bv = (sameB ah bh && sameB av bv) := rfl
  rw [e1]
  clear h1 h2 h3 h4 e1
  rcases a : sameB ah bh with _ | _
  · have Ha := hid a
    clear a
    go_enter Try.func172, Try.ntmps172
    go_wp2
    go_quiet ((go_at_call 171; exact Calls.quiet_of_same (back (sSame_is ah bh H1.out H3.out false Ha.out _))))
    go_wp2
    go_ret
    exact ⟨rfl, _, rfl⟩
  · rcases b : sameB av bv with _ | _
    all_goals
      go_enter Try.func172, Try.ntmps172
      go_wp2
      go_quiet ((go_at_call 171; exact Calls.quiet_of_same (back (sSame _ _ (by first | exact H1.out | exact H2.out) (by first | exact H3.out | exact H4.out) _))))
      go_wp2
      go_ret
      exact ⟨rfl, _, rfl⟩

theorem sSameAirAtR (ah av bh bv : Nat) (h1 : ah < 4294967296) (h2 : av < 4294967296) (h3 : bh < 4294967296) (h4 : bv < 4294967296) (q : Bool) (hq : sameA ah av bh bv = q) (w : World) (g k o p : Nat) (c0 : w.cell? ⟨g, o, none⟩ = some (.float .f32 ah)) (c1 : w.cell? ⟨g, o + 1, none⟩ = some (.float .f32 av)) (c2 : w.cell? ⟨k, p, none⟩ = some (.float .f32 bh)) (c3 : w.cell? ⟨k, p + 1, none⟩ = some (.float .f32 bv)) :
    Calls Try.prog 172 #[.pointer (some ⟨g, o, none⟩), .pointer (some ⟨k, p, none⟩)] w fun e w' => e = .returned (.bool q) ∧ ∃ m, w' = w.drewN m := by
  subst hq
  exact sSameAirAtQ ah av bh bv h1 h2 h3 h4 w g k o p c0 c1 c2 c3

set_option maxRecDepth 100000 in
set_option maxHeartbeats 2000000 in
theorem iEqualFunc (s t : Value) (n m : Nat) (x y : Nat → Nat) (hn : n ≤ 1048576) (hm : m ≤ 1048576) (hx : W32 x) (hy : W32 y) (w : World) (hs : Rd w s n x) (ht : Rd w t m y) (q : Bool) (hq : samS n m x y = q) :
    Calls Try.prog 191 #[s, t, .func (.func 192) #[] #[]] w fun e w' => e = .returned (.bool q) ∧ Below w.heap.size w w' := by
  obtain ⟨p, cap, rfl, hc⟩ := hs
  obtain ⟨p', cap', rfl, hc'⟩ := ht
  have HC := hid hc
  have HC' := hid hc'
  have HX := hid hx
  have HY := hid hy
  have HQ := hid hq
  clear hc hc' hx hy hq
  rcases Nat.decEq n m with hnm | hnm
  · have hfin : q = false := by
      rw [← HQ.out]; unfold samS; rw [decide_eq_false hnm]; rfl
    have hni : ¬ (n : Int) = (m : Int) := by omega
    subst hfin
    go_enter Try.func191, Try.ntmps191
    go_wp2
    go_ret
    exact ⟨rfl, Below.refl _ _⟩
  subst hnm
  have HQ := hid (show (List.range n).all (samL x y) = q by rw [← HQ.out]; unfold samS; rw [decide_eq_true rfl]; rfl)
  go_enter Try.func191, Try.ntmps191
  go_wp2_with fail
  go_loopw [17] (fun i wr => ∃ k : Nat, k ≤ n ∧ i = .int .i64 k ∧ Hid (∀ i, i < k → samL x y i = true) ∧ Hid (Below w.heap.size w wr)) (fun i _ => n - (intOf i).toNat)
  case atStart => exact ⟨0, by omega, rfl, hid (fun i h => by omega), hid (Below.refl _ _)⟩
  case round =>
    obtain ⟨k, hk, rfl, hF, hb⟩ := hrel
    by_cases hlt : k < n
    · have HK := hid hlt
      have hk3 : (k : Int) < (n : Int) := by omega
      obtain ⟨b, o, rfl, hcell⟩ := HC.out (by omega)
      obtain ⟨b', o', rfl, hcell'⟩ := HC'.out (by omega)
      have hcw : ∀ j, j < 3 * n → wr.cell? ⟨b, o + j, none⟩ = some (.float .f32 (x j)) := fun j hj => by have h1 := hcell j hj; rw [hb.out.cell (block_lt_of_cell h1)]; exact h1
      have hcw' : ∀ j, j < 3 * n → wr.cell? ⟨b', o' + j, none⟩ = some (.float .f32 (y j)) := fun j hj => by have h1 := hcell' j hj; rw [hb.out.cell (block_lt_of_cell h1)]; exact h1
      have r1 := hid (row3 hcw hlt)
      have r2 := hid (row3 hcw' hlt)
      have bl := hid (block_lt_of_cell (hcw' (k * 3) (by omega)))
      have k0 : Hid (Kept w [(wr.heap.size + 1, #[.float .f32 (y (k * 3)), .float .f32 (y (k * 3 + 1)), .float .f32 (y (k * 3 + 2))], 198), (wr.heap.size, #[.float .f32 (x (k * 3)), .float .f32 (x (k * 3 + 1)), .float .f32 (x (k * 3 + 2))], 198)] ((wr.alloc (.cells #[.float .f32 (x (k * 3)), .float .f32 (x (k * 3 + 1)), .float .f32 (x (k * 3 + 2))] 198)).alloc (.cells #[.float .f32 (y (k * 3)), .float .f32 (y (k * 3 + 1)), .float .f32 (y (k * 3 + 2))] 198))) := hid ((((show Kept w [] wr from ⟨hb.out, fun _ h => (by cases h)⟩).push #[.float .f32 (x (k * 3)), .float .f32 (x (k * 3 + 1)), .float .f32 (x (k * 3 + 2))] 198).push #[.float .f32 (y (k * 3)), .float .f32 (y (k * 3 + 1)), .float .f32 (y (k * 3 + 2))] 198).sub (by simp))
      have r3 : Hid ((wr.alloc (.cells #[.float .f32 (x (k * 3)), .float .f32 (x (k * 3 + 1)), .float .f32 (x (k * 3 + 2))] 198)).rangeAt b' (o' + k * 3) [.float .f32 (y (k * 3)), .float .f32 (y (k * 3 + 1)), .float .f32 (y (k * 3 + 2))]) := hid (fun j v hv => by rw [((Below.refl wr.heap.size wr).alloc (Nat.le_refl _) _).cell (show b' < _ from bl.out)]; exact r2.out j v hv)
      clear hcell hcell' hcw hcw' r2 bl
      have i1 := fun w => run_indexAt (P := Try.prog) (t := 105) (e := 198) Try.underlying105 info_lev (b := b) (o := o) (n := n) (cap := cap) (k := k) hlt w
      have i2 := fun w => run_indexAt (P := Try.prog) (t := 105) (e := 198) Try.underlying105 info_lev (b := b') (o := o') (n := n) (cap := cap') (k := k) hlt w
      obtain ⟨qq, hqq⟩ : ∃ qq, samL x y k = qq := ⟨_, rfl⟩
      have HS : Hid (∀ w, Calls Try.prog 192 #[.agg #[.float .f32 (x (k * 3)), .float .f32 (x (k * 3 + 1)), .float .f32 (x (k * 3 + 2))], .agg #[.float .f32 (y (k * 3)), .float .f32 (y (k * 3 + 1)), .float .f32 (y (k * 3 + 2))]] w fun e w' => e = .returned (.bool qq) ∧ Below w.heap.size w w') := hid (by rw [← hqq]; exact fun w => iSameLevel (x (k * 3)) (x (k * 3 + 1)) (x (k * 3 + 2)) (y (k * 3)) (y (k * 3 + 1)) (y (k * 3 + 2)) (HX.out _) (HX.out _) (HX.out _) (HY.out _) (HY.out _) (HY.out _) w)
      go_wp2_with (first | (refine wpList_load_mid rfl 198 _ rfl b (o + k * 3) rfl _ _ r1.out Try.underlying198 rfl info_lev ?_) | (refine wpList_load_mid rfl 198 _ rfl b' (o' + k * 3) rfl _ _ r3.out Try.underlying198 rfl info_lev ?_) | (refine wpList_load_row rfl 198 _ rfl (wr.heap.size) rfl 198 #[.float .f32 (x (k * 3)), .float .f32 (x (k * 3 + 1)), .float .f32 (x (k * 3 + 2))] (0, 0) _ (k0.out.at (x := (wr.heap.size, #[.float .f32 (x (k * 3)), .float .f32 (x (k * 3 + 1)), .float .f32 (x (k * 3 + 2))], 198)) (by simp)) Try.underlying198 rfl info_lev ?_) | (refine wpList_load_row rfl 198 _ rfl (wr.heap.size + 1) rfl 198 #[.float .f32 (y (k * 3)), .float .f32 (y (k * 3 + 1)), .float .f32 (y (k * 3 + 2))] (0, 0) _ (k0.out.at (x := (wr.heap.size + 1, #[.float .f32 (y (k * 3)), .float .f32 (y (k * 3 + 1)), .float .f32 (y (k * 3 + 2))], 198)) (by simp)) Try.underlying198 rfl info_lev ?_))
      refine (HS.out _).mono ?_
      rintro e w1 ⟨rfl, hb1⟩
      have h1 := hid (k0.out.stay hb1).1
      cases qq
      · have hfin : q = false := by rw [← HQ.out]; exact all_range_f HK.out hqq
        subst hfin
        go_wp2
        go_ret
        exact ⟨rfl, h1.out⟩
      · have HF := hid (fun i (hi : i < k + 1) => by
          rcases Nat.lt_or_ge i k with h | h
          · exact hF.out i h
          · rw [show i = k by omega]; exact hqq : ∀ i, i < k + 1 → samL x y i = true)
        go_wp2
        go_roundw
        case rel => exact ⟨k + 1, by omega, by go_num, HF, h1⟩
        case measure => simp [intOf]; omega
    · obtain rfl : k = n := by omega
      have hfin : q = true := by rw [← HQ.out, all_range]; exact hF.out
      subst hfin
      go_wp2
      go_ret
      exact ⟨rfl, hb.out⟩

theorem iSameSounding (n m : Nat) (x y : Nat → Nat) (hx : W32 x) (hy : W32 y) (q : Bool) (hq : samS n m x y = q) (w : World) (s t : Value) (hs : Rd w s n x) (ht : Rd w t m y) (hn : n ≤ 1048576) (hm : m ≤ 1048576) :
    Calls Try.prog 94 #[s, t] w fun e w' => e = .returned (.bool q) ∧ Below w.heap.size w w' := by
  have HE := hid (iEqualFunc s t n m x y hn hm hx hy w hs ht q hq)
  obtain ⟨p, cap, rfl, _⟩ := hs
  obtain ⟨p', cap', rfl, _⟩ := ht
  clear hx hy hq
  go_enter Try.func94, Try.ntmps94
  go_wp2_with fail
  refine HE.out.mono ?_
  rintro e w1 ⟨rfl, hb1⟩
  go_wp2
  go_ret
  exact ⟨rfl, hb1⟩

set_option maxRecDepth 100000 in
set_option maxHeartbeats 4000000 in
theorem sSameSounding (s t : Value) (n m : Nat) (x y : Nat → Nat) (hn : n ≤ 1048576) (hm : m ≤ 1048576) (hx : W32 x) (hy : W32 y) (w : World) (hs : Rd w s n x) (ht : Rd w t m y) (q : Bool) (hq : samS n m x y = q) :
    Calls Try.prog 93 #[s, t] w fun e w' => e = .returned (.bool q) ∧ Below w.heap.size w w' := by
  obtain ⟨p, cap, rfl, hc⟩ := hs
  obtain ⟨p', cap', rfl, hc'⟩ := ht
  have HC := hid hc
  have HC' := hid hc'
  have HX := hid hx
  have HY := hid hy
  have HQ := hid hq
  clear hc hc' hx hy hq
  rcases Nat.decEq n m with hnm | hnm
  · have hfin : q = false := by
      rw [← HQ.out]; unfold samS; rw [decide_eq_false hnm]; rfl
    have hni : ¬ (n : Int) = (m : Int) := by omega
    subst hfin
    go_enter Try.func93, Try.ntmps93
    go_wp2
    go_ret
    exact ⟨rfl, Below.refl _ _⟩
  subst hnm
  have HQ := hid (show (List.range n).all (samL x y) = q by rw [← HQ.out]; unfold samS; rw [decide_eq_true rfl]; rfl)
  go_enter Try.func93, Try.ntmps93
  go_wp2_with fail
  go_loopw [5] (fun i wr => ∃ k : Nat, k ≤ n ∧ i = .int .i64 k ∧ Hid (∀ i, i < k → samL x y i = true) ∧ Hid (Below w.heap.size w wr)) (fun i _ => n - (intOf i).toNat)
  case atStart => exact ⟨0, by omega, rfl, hid (fun i h => by omega), hid (Below.refl _ _)⟩
  case round =>
    obtain ⟨k, hk, rfl, hF, hb⟩ := hrel
    by_cases hlt : k < n
    · have HK := hid hlt
      have hk3 : (k : Int) < (n : Int) := by omega
      obtain ⟨b, o, rfl, hcell⟩ := HC.out (by omega)
      obtain ⟨b', o', rfl, hcell'⟩ := HC'.out (by omega)
      have hcw : ∀ j, j < 3 * n → wr.cell? ⟨b, o + j, none⟩ = some (.float .f32 (x j)) := fun j hj => by have h1 := hcell j hj; rw [hb.out.cell (block_lt_of_cell h1)]; exact h1
      have hcw' : ∀ j, j < 3 * n → wr.cell? ⟨b', o' + j, none⟩ = some (.float .f32 (y j)) := fun j hj => by have h1 := hcell' j hj; rw [hb.out.cell (block_lt_of_cell h1)]; exact h1
      have c0 := cell0 hcw hlt
      have c1 := cell1 hcw hlt
      have c2 := cell2 hcw hlt
      have d0 := cell0 hcw' hlt
      have d1 := cell1 hcw' hlt
      have d2 := cell2 hcw' hlt
      clear hcell hcell' hcw hcw'
      have i1 := fun w => run_indexAt (P := Try.prog) (t := 105) (e := 198) Try.underlying105 info_lev (b := b) (o := o) (n := n) (cap := cap) (k := k) hlt w
      have i2 := fun w => run_indexAt (P := Try.prog) (t := 105) (e := 198) Try.underlying105 info_lev (b := b') (o := o') (n := n) (cap := cap') (k := k) hlt w
      rcases ha : sameB (x (k * 3)) (y (k * 3)) with _ | _
      · have HA := hid ha
        have hfin : q = false := by rw [← HQ.out]; exact all_range_f HK.out (by unfold samL sameP; rw [ha]; rfl)
        have HB := hid (rfl : sameA (x (k * 3 + 1)) (x (k * 3 + 2)) (y (k * 3 + 1)) (y (k * 3 + 2)) = sameA (x (k * 3 + 1)) (x (k * 3 + 2)) (y (k * 3 + 1)) (y (k * 3 + 2)))
        clear ha
        subst hfin
        go_wp2
        go_quiet ((first | (go_at_call 171; exact Calls.quiet_of_same (back (sSame_is _ _ (HX.out _) (HY.out _) _ HA.out _))) | (go_at_call 172; exact Calls.quiet_of (sSameAirAtR _ _ _ _ (HX.out _) (HX.out _) (HY.out _) (HY.out _) _ HB.out _ _ _ _ _ c1 c2 d1 d2))))
        clear c0 c1 c2 d0 d1 d2 i1 i2
        go_wp2
        go_ret
        exact ⟨rfl, below_drewN hb.out _⟩
      · have HA := hid ha
        rcases hq2 : sameA (x (k * 3 + 1)) (x (k * 3 + 2)) (y (k * 3 + 1)) (y (k * 3 + 2)) with _ | _
        · have HB := hid hq2
          have hfin : q = false := by rw [← HQ.out]; exact all_range_f HK.out (by unfold samL sameP; rw [ha, hq2]; rfl)
          clear ha hq2
          subst hfin
          go_wp2
          go_quiet ((first | (go_at_call 171; exact Calls.quiet_of_same (back (sSame_is _ _ (HX.out _) (HY.out _) _ HA.out _))) | (go_at_call 172; exact Calls.quiet_of (sSameAirAtR _ _ _ _ (HX.out _) (HX.out _) (HY.out _) (HY.out _) _ HB.out _ _ _ _ _ c1 c2 d1 d2))))
          clear c0 c1 c2 d0 d1 d2 i1 i2
          go_wp2
          go_ret
          exact ⟨rfl, below_drewN hb.out _⟩
        · have HB := hid hq2
          have HF := hid (fun i (hi : i < k + 1) => by
            rcases Nat.lt_or_ge i k with h | h
            · exact hF.out i h
            · rw [show i = k by omega]; unfold samL sameP; rw [ha, hq2]; rfl : ∀ i, i < k + 1 → samL x y i = true)
          clear ha hq2
          go_wp2
          go_quiet ((first | (go_at_call 171; exact Calls.quiet_of_same (back (sSame_is _ _ (HX.out _) (HY.out _) _ HA.out _))) | (go_at_call 172; exact Calls.quiet_of (sSameAirAtR _ _ _ _ (HX.out _) (HX.out _) (HY.out _) (HY.out _) _ HB.out _ _ _ _ _ c1 c2 d1 d2))))
          clear c0 c1 c2 d0 d1 d2 i1 i2
          go_wp2
          go_roundw
          case rel => exact ⟨k + 1, by omega, by go_num, HF, hid (below_drewN hb.out _)⟩
          case measure => simp [intOf]; omega
    · obtain rfl : k = n := by omega
      have hfin : q = true := by rw [← HQ.out, all_range]; exact hF.out
      subst hfin
      go_wp2
      go_ret
      exact ⟨rfl, hb.out⟩

theorem szLevels_more (p : Option Addr) (n cap a : Nat) (hn : n + a ≤ 1048576) (w : World) :
    Calls Try.prog 88 #[.slice p n cap, .int .i64 (1048576 - (a : Int))] w fun e w' => e = .returned (.int .i64 (1048576 - (a : Int) - (n : Int))) ∧ w = w' := by
  have h1 : IntKind.i64.wrap (1048576 - (a : Int) - (n : Int)) = 1048576 - (a : Int) - (n : Int) := by rw [IntKind.wrap_i64]; omega
  have h2 : ¬ (1048576 - (a : Int) - (n : Int) < 0) := by omega
  go_enter Try.func88, Try.ntmps88
  go_wp2
  go_ret
  exact ⟨rfl, rfl⟩

theorem szLevels_over (p : Option Addr) (n cap a : Nat) (ha : a ≤ 1048576) (hn : 1048576 < n + a) (hm : n ≤ maxLen) (w : World) :
    Calls Try.prog 88 #[.slice p n cap, .int .i64 (1048576 - (a : Int))] w fun e w' => e = .returned (.int .i64 (-1)) ∧ w = w' := by
  have hm' : n ≤ 9223372036854775807 := hm
  have h1 : IntKind.i64.wrap (1048576 - (a : Int) - (n : Int)) = 1048576 - (a : Int) - (n : Int) := by rw [IntKind.wrap_i64]; omega
  have h2 : (1048576 - (a : Int) - (n : Int) < 0) := by omega
  go_enter Try.func88, Try.ntmps88
  go_wp2
  go_ret
  exact ⟨rfl, rfl⟩

set_option maxRecDepth 100000 in
set_option maxHeartbeats 2000000 in
theorem coreSameSounding (n : Nat) (x : Nat → Nat) (s : Value) (hx : ∀ k, x k < 4294967296) {w : World} (hs : Rd w s n x) (hn' : n ≤ maxLen) (m : Nat) (y : Nat → Nat) (t : Value) (hy : ∀ k, y k < 4294967296) (ht : Rd w t m y) (hm' : m ≤ maxLen) :
    Calls Try.prog 23 #[s, t] w fun e w' => e = .returned (.bool true) ∧ Below w.heap.size w w' := by
  have HX := hid hx
  have HY := hid hy
  have qa := hid hs
  have qb := hid ht
  have k0 : Hid (Kept w [] w) := hid (Kept.nil w)
  clear hx hy
  obtain ⟨p, cap, rfl, _⟩ := hs
  obtain ⟨p', cap', rfl, _⟩ := ht
  by_cases hn : n ≤ 1048576
  · by_cases hnm : m + n ≤ 1048576
    · have HN := hid hn
      have HNM := hid hnm
      have HM : Hid (m ≤ 1048576) := hid (by omega)
      have hneg : ¬ (1048576 - (n : Int) < 0) := by omega
      have hneg2 : ¬ (1048576 - (n : Int) - (m : Int) < 0) := by omega
      obtain ⟨q, hq⟩ : ∃ q, samS n m x y = q := ⟨_, rfl⟩
      have HQ := hid hq
      clear hn hnm hq hn' hm'
      cases q
      all_goals
       go_enter Try.func23, Try.ntmps23
       go_wp2_with fail
       refine (szLevels_ok p n cap HN.out _).mono ?_
       rintro e u ⟨rfl, rfl⟩
       go_wp2_with fail
       refine (szLevels_more p' m cap' n HNM.out _).mono ?_
       rintro e u ⟨rfl, rfl⟩
       go_wp2_with fail
       refine (toLevels _ n x HX.out _ qa.out HN.out).mono ?_
       rintro e u1 ⟨g1, rfl, R1, hb1⟩
       have qa1 := hid (qa.out.stay hb1)
       have qb1 := hid (qb.out.stay hb1)
       have k1 := hid (k0.out.stay hb1)
       have s1 := hid R1
       clear hb1
       go_wp2_with fail
       refine (toLevels _ m y HY.out _ qb1.out HM.out).mono ?_
       rintro e u2 ⟨g2, rfl, R2, hb2⟩
       have qa2 := hid (qa1.out.stay hb2)
       have qb2 := hid (qb1.out.stay hb2)
       have k2 := hid (k1.out.stay hb2)
       have s1_2 := hid (s1.out.stay hb2)
       have t1 := hid R2
       clear hb2
       go_wp2_with fail
       refine (sSameSounding _ _ n m x y HN.out HM.out HX.out HY.out _ s1_2.out t1.out _ HQ.out).mono ?_
       rintro e u3 ⟨rfl, hb3⟩
       have qa3 := hid (qa2.out.stay hb3)
       have qb3 := hid (qb2.out.stay hb3)
       have k3 := hid (k2.out.stay hb3)
       have s1_3 := hid (s1_2.out.stay hb3)
       have t1_3 := hid (t1.out.stay hb3)
       clear hb3
       go_wp2_with fail
       refine (toLevels _ n x HX.out _ qa3.out HN.out).mono ?_
       rintro e u4 ⟨g4, rfl, R4, hb4⟩
       have qa4 := hid (qa3.out.stay hb4)
       have qb4 := hid (qb3.out.stay hb4)
       have k4 := hid (k3.out.stay hb4)
       have s1_4 := hid (s1_3.out.stay hb4)
       have t1_4 := hid (t1_3.out.stay hb4)
       have s2 := hid R4
       clear hb4
       go_wp2_with fail
       refine (toLevels _ m y HY.out _ qb4.out HM.out).mono ?_
       rintro e u5 ⟨g5, rfl, R5, hb5⟩
       have qa5 := hid (qa4.out.stay hb5)
       have qb5 := hid (qb4.out.stay hb5)
       have k5 := hid (k4.out.stay hb5)
       have s1_5 := hid (s1_4.out.stay hb5)
       have t1_5 := hid (t1_4.out.stay hb5)
       have s2_5 := hid (s2.out.stay hb5)
       have t2 := hid R5
       clear hb5
       go_wp2_with fail
       refine (iSameSounding n m x y HX.out HY.out _ HQ.out _ _ _ s2_5.out t2.out HN.out HM.out).mono ?_
       rintro e u6 ⟨rfl, hb6⟩
       have qa6 := hid (qa5.out.stay hb6)
       have qb6 := hid (qb5.out.stay hb6)
       have k6 := hid (k5.out.stay hb6)
       have s1_6 := hid (s1_5.out.stay hb6)
       have t1_6 := hid (t1_5.out.stay hb6)
       have s2_6 := hid (s2_5.out.stay hb6)
       have t2_6 := hid (t2.out.stay hb6)
       clear hb6
       go_wp2_with fail
       refine (toLevels _ n x HX.out _ qa6.out HN.out).mono ?_
       rintro e u7 ⟨g7, rfl, R7, hb7⟩
       have qa7 := hid (qa6.out.stay hb7)
       have qb7 := hid (qb6.out.stay hb7)
       have k7 := hid (k6.out.stay hb7)
       have s1_7 := hid (s1_6.out.stay hb7)
       have t1_7 := hid (t1_6.out.stay hb7)
       have s2_7 := hid (s2_6.out.stay hb7)
       have t2_7 := hid (t2_6.out.stay hb7)
       have s3 := hid R7
       clear hb7
       go_wp2_with fail
       refine (eqLevels _ _ n x HX.out _ s2_7.out s3.out HN.out).mono ?_
       rintro e u8 ⟨rfl, hb8⟩
       have qa8 := hid (qa7.out.stay hb8)
       have qb8 := hid (qb7.out.stay hb8)
       have k8 := hid (k7.out.stay hb8)
       have s1_8 := hid (s1_7.out.stay hb8)
       have t1_8 := hid (t1_7.out.stay hb8)
       have s2_8 := hid (s2_7.out.stay hb8)
       have t2_8 := hid (t2_7.out.stay hb8)
       have s3_8 := hid (s3.out.stay hb8)
       clear hb8
       go_wp2_with fail
       refine (toLevels _ m y HY.out _ qb8.out HM.out).mono ?_
       rintro e u9 ⟨g9, rfl, R9, hb9⟩
       have qa9 := hid (qa8.out.stay hb9)
       have qb9 := hid (qb8.out.stay hb9)
       have k9 := hid (k8.out.stay hb9)
       have s1_9 := hid (s1_8.out.stay hb9)
       have t1_9 := hid (t1_8.out.stay hb9)
       have s2_9 := hid (s2_8.out.stay hb9)
       have t2_9 := hid (t2_8.out.stay hb9)
       have s3_9 := hid (s3_8.out.stay hb9)
       have t3 := hid R9
       clear hb9
       go_wp2_with fail
       refine (eqLevels _ _ m y HY.out _ t2_9.out t3.out HM.out).mono ?_
       rintro e u10 ⟨rfl, hb10⟩
       have qa10 := hid (qa9.out.stay hb10)
       have qb10 := hid (qb9.out.stay hb10)
       have k10 := hid (k9.out.stay hb10)
       have s1_10 := hid (s1_9.out.stay hb10)
       have t1_10 := hid (t1_9.out.stay hb10)
       have s2_10 := hid (s2_9.out.stay hb10)
       have t2_10 := hid (t2_9.out.stay hb10)
       have s3_10 := hid (s3_9.out.stay hb10)
       have t3_10 := hid (t3.out.stay hb10)
       clear hb10
       go_wp2
       go_ret
       exact ⟨rfl, k10.out.1⟩
    · have HN := hid hn
      have HNM : Hid (1048576 < m + n) := hid (by omega)
      have hneg : ¬ (1048576 - (n : Int) < 0) := by omega
      clear hnm hn
      go_enter Try.func23, Try.ntmps23
      go_wp2_with fail
      refine (szLevels_ok p n cap HN.out _).mono ?_
      rintro e u ⟨rfl, rfl⟩
      go_wp2_with fail
      refine (szLevels_over p' m cap' n HN.out HNM.out hm' _).mono ?_
      rintro e u ⟨rfl, rfl⟩
      go_wp2
      go_ret
      exact ⟨rfl, Below.refl _ _⟩
  · have HM : Hid (1048576 < n) := hid (by omega)
    have hneg : 1048576 - (n : Int) < 0 := by omega
    clear hn
    go_enter Try.func23, Try.ntmps23
    go_wp2_with fail
    refine (szLevels_no p n cap HM.out hn' _).mono ?_
    rintro e u ⟨rfl, rfl⟩
    go_wp2
    go_ret
    exact ⟨rfl, Below.refl _ _⟩

theorem lawSameSounding (n : Nat) (x : Nat → Nat) (s : Value) (hx : ∀ k, x k < 4294967296) {w : World} (hs : Rd w s n x) (hn : n ≤ maxLen) (m : Nat) (y : Nat → Nat) (t : Value) (hy : ∀ k, y k < 4294967296) (ht : Rd w t m y) (hm : m ≤ maxLen) :
    Calls Try.prog 23 #[s, t] w fun e w' => e = .returned (.bool true) ∧ Below w.heap.size w w' := coreSameSounding n x s hx hs hn m y t hy ht hm

theorem words_cons : ∀ (v : List Char) (r : List Char), (∀ c ∈ v, c ≠ Char.ofNat 32) → wordsSigns (v ++ Char.ofNat 32 :: r) = v :: wordsSigns r
  | [], r, _ => rfl
  | c :: v, r, h => by
    have ih := words_cons v r (fun x hx => h x (by simp [hx]))
    have hc : c ≠ Char.ofNat 32 := h c (by simp)
    show wordsSigns (c :: (v ++ Char.ofNat 32 :: r)) = _
    rw [wordsSigns.eq_3 _ _ (fun e => hc e), ih]

def w0 : List Nat := [104, 97, 114, 110, 101, 115, 115]

def w1 : List Nat := [52, 52, 52, 55, 100, 49, 55, 54, 55, 100, 52, 57, 98, 51, 52, 55, 48, 49, 101, 48, 102, 51, 48, 51, 97, 48, 54, 51, 97, 100, 56, 98, 53, 54, 56, 52, 57, 100, 101, 53, 102, 54, 51, 50, 101, 48, 55, 52, 97, 53, 55, 101, 57, 51, 102, 53, 55, 101, 50, 50, 56, 50, 97, 55]

def w2 : List Nat := [99, 117, 116]

def w3 : List Nat := [97, 116, 32, 108, 111, 111, 112, 46, 101, 120, 97, 109, 112, 108, 101, 47, 103, 48, 49, 50, 50, 52, 47, 108, 97, 119, 115, 46, 70, 110, 69, 120, 97, 99, 116, 84, 104, 105, 114, 100, 82, 111, 111, 116, 32, 108, 111, 111, 112, 46, 101, 120, 97, 109, 112, 108, 101, 47, 103, 48, 49, 50, 50, 52, 47, 108, 97, 119, 115, 46, 70, 110, 69, 120, 97, 99, 116, 83, 104, 105, 102, 116, 77, 97, 115, 115, 101, 115, 32, 108, 111, 111, 112, 46, 101, 120, 97, 109, 112, 108, 101, 47, 103, 48, 49, 50, 50, 52, 47, 108, 97, 119, 115, 46, 70, 110, 69, 120, 97, 99, 116, 71, 114, 111, 119, 79, 110, 99, 101, 32, 108, 111, 111, 112, 46, 101, 120, 97, 109, 112, 108, 101, 47, 103, 48, 49, 50, 50, 52, 47, 108, 97, 119, 115, 46, 70, 110, 69, 120, 97, 99, 116, 71, 114, 111, 119, 83, 116, 101, 112, 115, 32, 108, 111, 111, 112, 46, 101, 120, 97, 109, 112, 108, 101, 47, 103, 48, 49, 50, 50, 52, 47, 108, 97, 119, 115, 46, 70, 110, 69, 120, 97, 99, 116, 83, 116, 101, 112, 115, 84, 111, 68, 114, 121, 32, 108, 111, 111, 112, 46, 101, 120, 97, 109, 112, 108, 101, 47, 103, 48, 49, 50, 50, 52, 47, 108, 97, 119, 115, 46, 70, 110, 69, 120, 97, 99, 116, 69, 118, 101, 110, 116, 115, 79, 102, 32, 108, 111, 111, 112, 46, 101, 120, 97, 109, 112, 108, 101, 47, 103, 48, 49, 50, 50, 52, 47, 108, 97, 119, 115, 46, 70, 110, 69, 120, 97, 99, 116, 76, 111, 115, 115, 101, 115, 79, 102, 32, 108, 111, 111, 112, 46, 101, 120, 97, 109, 112, 108, 101, 47, 103, 48, 49, 50, 50, 52, 47, 108, 97, 119, 115, 46, 70, 110, 69, 120, 97, 99, 116, 67, 111, 108, 108, 105, 100, 101, 32, 108, 111, 111, 112, 46, 101, 120, 97, 109, 112, 108, 101, 47, 103, 48, 49, 50, 50, 52, 47, 108, 97, 119, 115, 46, 70, 110, 69, 120, 97, 99, 116, 67, 111, 108, 108, 105, 100, 101, 83, 116, 101, 112, 115, 32, 108, 111, 111, 112, 46, 101, 120, 97, 109, 112, 108, 101, 47, 103, 48, 49, 50, 50, 52, 47, 108, 97, 119, 115, 46, 70, 110, 69, 120, 97, 99, 116, 82, 97, 105, 110, 77, 97, 100, 101, 32, 108, 111, 111, 112, 46, 101, 120, 97, 109, 112, 108, 101, 47, 103, 48, 49, 50, 50, 52, 47, 108, 97, 119, 115, 46, 70, 110, 69, 120, 97, 99, 116, 67, 111, 108, 108, 105, 100, 101, 80, 97, 105, 114, 115, 32, 108, 111, 111, 112, 46, 101, 120, 97, 109, 112, 108, 101, 47, 103, 48, 49, 50, 50, 52, 47, 108, 97, 119, 115, 46, 70, 110, 69, 120, 97, 99, 116, 68, 114, 97, 119, 80, 97, 105, 114, 115, 32, 108, 111, 111, 112, 46, 101, 120, 97, 109, 112, 108, 101, 47, 103, 48, 49, 50, 50, 52, 47, 108, 97, 119, 115, 46, 70, 110, 69, 120, 97, 99, 116, 86, 97, 108, 105, 100, 80, 97, 114, 99, 101, 108, 32, 108, 111, 111, 112, 46, 101, 120, 97, 109, 112, 108, 101, 47, 103, 48, 49, 50, 50, 52, 47, 108, 97, 119, 115, 46, 70, 110, 69, 120, 97, 99, 116, 83, 97, 109, 101, 80, 97, 114, 99, 101, 108, 32, 108, 111, 111, 112, 46, 101, 120, 97, 109, 112, 108, 101, 47, 103, 48, 49, 50, 50, 52, 47, 108, 97, 119, 115, 46, 70, 110, 69, 120, 97, 99, 116, 83, 101, 116, 116, 108, 101, 65, 105, 114, 32, 108, 111, 111, 112, 46, 101, 120, 97, 109, 112, 108, 101, 47, 103, 48, 49, 50, 50, 52, 47, 108, 97, 119, 115, 46, 70, 110, 69, 120, 97, 99, 116, 82, 97, 105, 115, 101, 68, 114, 121, 32, 108, 111, 111, 112, 46, 101, 120, 97, 109, 112, 108, 101, 47, 103, 48, 49, 50, 50, 52, 47, 108, 97, 119, 115, 46, 70, 110, 69, 120, 97, 99, 116, 82, 97, 105, 115, 101, 77, 111, 105, 115, 116, 32, 108, 111, 111, 112, 46, 101, 120, 97, 109, 112, 108, 101, 47, 103, 48, 49, 50, 50, 52, 47, 108, 97, 119, 115, 46, 70, 110, 69, 120, 97, 99, 116, 66, 97, 115, 101, 79, 102, 32, 108, 111, 111, 112, 46, 101, 120, 97, 109, 112, 108, 101, 47, 103, 48, 49, 50, 50, 52, 47, 108, 97, 119, 115, 46, 70, 110, 69, 120, 97, 99, 116, 77, 105, 120, 80, 97, 114, 99, 101, 108, 115, 32, 108, 111, 111, 112, 46, 101, 120, 97, 109, 112, 108, 101, 47, 103, 48, 49, 50, 50, 52, 47, 108, 97, 119, 115, 46, 70, 110, 69, 120, 97, 99, 116, 86, 97, 108, 105, 100, 83, 111, 117, 110, 100, 105, 110, 103, 32, 108, 111, 111, 112, 46, 101, 120, 97, 109, 112, 108, 101, 47, 103, 48, 49, 50, 50, 52, 47, 108, 97, 119, 115, 46, 70, 110, 69, 120, 97, 99, 116, 83, 97, 109, 101, 83, 111, 117, 110, 100, 105, 110, 103, 32, 108, 111, 111, 112, 46, 101, 120, 97, 109, 112, 108, 101, 47, 103, 48, 49, 50, 50, 52, 47, 108, 97, 119, 115, 46, 70, 110, 69, 120, 97, 99, 116, 69, 118, 101, 110, 83, 111, 117, 110, 100, 105, 110, 103, 32, 108, 111, 111, 112, 46, 101, 120, 97, 109, 112, 108, 101, 47, 103, 48, 49, 50, 50, 52, 47, 108, 97, 119, 115, 46, 70, 110, 69, 120, 97, 99, 116, 65, 105, 114, 65, 116, 32, 108, 111, 111, 112, 46, 101, 120, 97, 109, 112, 108, 101, 47, 103, 48, 49, 50, 50, 52, 47, 108, 97, 119, 115, 46, 70, 110, 69, 120, 97, 99, 116, 76, 105, 102, 116, 79, 102, 32, 108, 111, 111, 112, 46, 101, 120, 97, 109, 112, 108, 101, 47, 103, 48, 49, 50, 50, 52, 47, 108, 97, 119, 115, 46, 70, 110, 69, 120, 97, 99, 116, 82, 105, 115, 101, 73, 110, 32, 108, 111, 111, 112, 46, 101, 120, 97, 109, 112, 108, 101, 47, 103, 48, 49, 50, 50, 52, 47, 108, 97, 119, 115, 46, 70, 110, 69, 120, 97, 99, 116, 70, 105, 114, 115, 116, 85, 110, 115, 116, 101, 97, 100, 121, 32, 108, 111, 111, 112, 46, 101, 120, 97, 109, 112, 108, 101, 47, 103, 48, 49, 50, 50, 52, 47, 108, 97, 119, 115, 46, 70, 110, 69, 120, 97, 99, 116, 83, 116, 101, 97, 100, 121, 83, 111, 117, 110, 100, 105, 110, 103, 32, 108, 111, 111, 112, 46, 101, 120, 97, 109, 112, 108, 101, 47, 103, 48, 49, 50, 50, 52, 47, 108, 97, 119, 115, 46, 70, 110, 69, 120, 97, 99, 116, 87, 97, 114, 109, 76, 111, 119, 101, 115, 116, 32, 108, 111, 111, 112, 46, 101, 120, 97, 109, 112, 108, 101, 47, 103, 48, 49, 50, 50, 52, 47, 108, 97, 119, 115, 46, 70, 110, 69, 120, 97, 99, 116, 86, 97, 112, 111, 117, 114, 65, 98, 111, 118, 101, 32, 108, 111, 111, 112, 46, 101, 120, 97, 109, 112, 108, 101, 47, 103, 48, 49, 50, 50, 52, 47, 108, 97, 119, 115, 46, 70, 110, 69, 120, 97, 99, 116, 72, 101, 105, 103, 104, 116, 79, 102, 72, 101, 97, 116]

def letters (l : List Nat) : List Char := l.map Char.ofNat

theorem head_reads : Try.prog.initOrder = String.ofList (letters w0 ++ Char.ofNat 32 :: (letters w1 ++ Char.ofNat 32 :: (letters w2 ++ Char.ofNat 32 :: letters w3))) := by kernel_rfl

theorem no_blank {l : List Nat} (h : l.all (fun n => Char.ofNat n != Char.ofNat 32) = true) : ∀ c ∈ letters l, c ≠ Char.ofNat 32 := by
  intro c hc
  obtain ⟨n, hn, rfl⟩ := List.mem_map.1 hc
  have := List.all_eq_true.1 h n hn
  simpa using this

theorem h0 : letters w0 = "harness".toList := by kernel_rfl

theorem h2 : letters w2 = "cut".toList := by kernel_rfl

theorem sums : isSumSigns (letters w1) = true := by kernel_rfl

theorem words : wordsSigns Try.prog.initOrder.toList = "harness".toList :: letters w1 :: "cut".toList :: wordsSigns (letters w3) := by
  rw [head_reads, String.toList_ofList, words_cons _ _ (no_blank (by decide +kernel)), words_cons _ _ (no_blank (by decide +kernel)), words_cons _ _ (no_blank (by decide +kernel)), h0, h2]

theorem behind : ∃ r, behindMainWord (wordsSigns Try.prog.initOrder.toList) = "cut".toList :: r := by
  refine ⟨wordsSigns (letters w3), ?_⟩
  rw [words]
  generalize wordsSigns (letters w3) = r
  have hs := sums
  generalize letters w1 = v at hs
  unfold behindMainWord
  simp [hs]

theorem not_later : Try.prog.laysLater = false := by kernel_rfl

theorem no_reflect : Try.prog.bearsReflect = false := by kernel_rfl

theorem no_doors : Try.prog.doorFits [] = true := by kernel_rfl

theorem strips (r : List (List Char)) : stripLifts liftWords ("cut".toList :: r) = ([], "cut".toList :: r) := by kernel_rfl

theorem may_enter_of (P : Program) (r : List (List Char)) (h : behindMainWord (wordsSigns P.initOrder.toList) = "cut".toList :: r) (h1 : P.laysLater = false) (h2 : P.bearsReflect = false) (h3 : P.doorFits [] = true) : P.mayEnter = true := by
  unfold Program.mayEnter
  rw [h]
  dsimp only
  rw [strips, h1, h2, h3]
  kernel_rfl

theorem lifts_final_of (P : Program) (r : List (List Char)) (h : behindMainWord (wordsSigns P.initOrder.toList) = "cut".toList :: r) : P.liftsFinal = false := by
  unfold Program.liftsFinal Program.headLifts
  rw [h]
  dsimp only
  rw [strips]
  kernel_rfl

theorem made_of (P : Program) (r : List (List Char)) (h : behindMainWord (wordsSigns P.initOrder.toList) = "cut".toList :: r) : P.make = some .cut := by
  unfold Program.make
  rw [h]
  kernel_rfl

theorem may_enter : Try.prog.mayEnter = true := let ⟨r, h⟩ := behind; may_enter_of _ r h not_later no_reflect no_doors

theorem lifts_final : Try.prog.liftsFinal = false := let ⟨r, h⟩ := behind; lifts_final_of _ r h

theorem made : Try.prog.make = some .cut := let ⟨r, h⟩ := behind; made_of _ r h

theorem laid : laidOutB Try.prog = true := by kernel_rfl

theorem rowed : mapsRowed Try.prog = true := by kernel_rfl

theorem no_stops : Try.prog.stops = [] := by kernel_rfl

theorem no_knobs : Try.prog.stopKnobs = [] := by kernel_rfl

theorem plain_keys : Try.prog.plainKeys = false := by kernel_rfl

theorem stops_heard : Try.prog.stopsHeard = true := by kernel_rfl

theorem arr2 {α : Type} {cs : Array α} (h : cs.size = 2) : ∃ c0 c1, cs = #[c0, c1] := by
  obtain ⟨l⟩ := cs
  match l, h with
  | [a, b], _ => exact ⟨a, b, rfl⟩

theorem own : ownKnob Try.prog.godebug = none := by kernel_rfl

theorem rda : Try.prog.readableRec 28 = true ∧ 28 < Try.prog.types.size := ⟨by kernel_rfl, of_decide_eq_true (by kernel_rfl)⟩

theorem rdf : Try.prog.readableRec 22 = true ∧ 22 < Try.prog.types.size := ⟨by kernel_rfl, of_decide_eq_true (by kernel_rfl)⟩

theorem cells2 : Try.prog.cellsOf 37 = 2 := by kernel_rfl

theorem rdA : Try.prog.readableRec 37 = true ∧ 37 < Try.prog.types.size := ⟨by kernel_rfl, of_decide_eq_true (by kernel_rfl)⟩

theorem rdi : Try.prog.readableRec 2 = true ∧ 2 < Try.prog.types.size := ⟨by kernel_rfl, of_decide_eq_true (by kernel_rfl)⟩

theorem rdb : Try.prog.readableRec 62 = true ∧ 62 < Try.prog.types.size := ⟨by kernel_rfl, of_decide_eq_true (by kernel_rfl)⟩

theorem rdp : Try.prog.readableRec 175 = true ∧ 175 < Try.prog.types.size := ⟨by kernel_rfl, of_decide_eq_true (by kernel_rfl)⟩

theorem rdk : Try.prog.readableRec 48 = true ∧ 48 < Try.prog.types.size := ⟨by kernel_rfl, of_decide_eq_true (by kernel_rfl)⟩

theorem rdq : Try.prog.readableRec 82 = true ∧ 82 < Try.prog.types.size := ⟨by kernel_rfl, of_decide_eq_true (by kernel_rfl)⟩

theorem cellsL : Try.prog.cellsOf 213 = 3 := by kernel_rfl

theorem cellsF : Try.prog.cellsOf 22 = 1 := by kernel_rfl

theorem rds : Try.prog.readableRec 102 = true ∧ 102 < Try.prog.types.size := ⟨by kernel_rfl, of_decide_eq_true (by kernel_rfl)⟩
end Go.Proofs.Ytlccmhkjfnmdiaa

namespace Go.Proofs.Ytlccmhkjfnmdiaa.fnExactSameSounding
open Go.RowKit Go.Fl Go.ChangeShapes Go.WideShapes Go.ChangeAt

set_option maxHeartbeats 2000000 in
theorem closed : joinedFacts Try.prog 23 Try.f23 Rows.fnExactSameSoundingSpec Rows.fnExactSameSoundingRow = true := by
  unfold joinedFacts
  simp only [Bool.and_eq_true]
  exact ⟨⟨⟨⟨⟨⟨⟨⟨⟨⟨⟨⟨⟨⟨⟨⟨⟨⟨⟨⟨⟨⟨⟨⟨⟨⟨⟨⟨⟨⟨⟨(by as_aux_lemma => kernel_rfl),
    laid⟩,
    rowed⟩,
    (by as_aux_lemma => kernel_rfl)⟩,
    (by as_aux_lemma => kernel_rfl)⟩,
    (by as_aux_lemma => kernel_rfl)⟩,
    (by rw [no_stops]; rfl)⟩,
    (by as_aux_lemma => kernel_rfl)⟩,
    (by rw [no_knobs]; rfl)⟩,
    (by as_aux_lemma => kernel_rfl)⟩,
    (by as_aux_lemma => kernel_rfl)⟩,
    (by as_aux_lemma => kernel_rfl)⟩,
    (by as_aux_lemma => kernel_rfl)⟩,
    (by as_aux_lemma => kernel_rfl)⟩,
    (by as_aux_lemma => kernel_rfl)⟩,
    (by as_aux_lemma => kernel_rfl)⟩,
    (by as_aux_lemma => kernel_rfl)⟩,
    (by as_aux_lemma => kernel_rfl)⟩,
    (by as_aux_lemma => kernel_rfl)⟩,
    (by as_aux_lemma => kernel_rfl)⟩,
    (by as_aux_lemma => kernel_rfl)⟩,
    (by as_aux_lemma => kernel_rfl)⟩,
    (show (Rows.fnExactSameSoundingRow.plainKeys == Try.prog.plainKeys) = true by rw [plain_keys]; rfl)⟩,
    (by as_aux_lemma => kernel_rfl)⟩,
    stops_heard⟩,
    may_enter⟩,
    (show (Rows.fnExactSameSoundingRow.lifted == Try.prog.liftsFinal) = true by rw [lifts_final]; rfl)⟩,
    (show (Try.prog.make == some Rows.fnExactSameSoundingRow.make) = true by rw [made]; rfl)⟩,
    (by as_aux_lemma => kernel_rfl)⟩,
    (by as_aux_lemma => kernel_rfl)⟩,
    (by as_aux_lemma => kernel_rfl)⟩,
    (by as_aux_lemma => kernel_rfl)⟩

set_option maxRecDepth 100000 in
theorem lifted (os : Os) (started : os.Started) (H : Type) (enc : TypeId × Value → H) :
    ReturnsInHanded {} Try.checked os 23 .any (Rows.fnExactSameSoundingSpec.pre6 enc Try.prog Try.f23 Rows.fnExactSameSoundingRow.domain false) (Rows.fnExactSameSoundingSpec.post enc Try.prog Try.f23 false true false false) := by
  refine LawFrame.lifted (C := Try.checked) (fn := Try.f23) (n := 2) (tb := 4) started own (by kernel_rfl) Try.func23 laid ?_ rfl rfl ?_ rfl Try.underlying4
    (ChangeSpec.witness6 (enc := enc) (C := Try.checked) false ⟨#[], #[.slice none 0 0, .slice none 0 0], []⟩ 8 (by kernel_rfl) (by kernel_rfl) (by kernel_rfl) (by kernel_rfl)) ?_
  · intro t ht
    simp only [Try.params23, List.mem_cons, List.not_mem_nil, or_false] at ht
    rcases ht with rfl | rfl <;> first | exact rda | exact rdf | exact rdi | exact rdA | exact rdb | exact rdp | exact rdk | exact rdq | exact rds
  · intro ds hd
    match ds, hd with
    | [_, _], _ => rfl
  · intro W base args ds ps hval hn hT
    obtain ⟨v0, v1, rfl⟩ : ∃ v0 v1, args = #[v0, v1] := arr2 hn
    simp only [Try.params23] at hT
    obtain ⟨d0, p0, t0⟩ := trodAll_head hT
    obtain ⟨n0, x0, R0, M0, X0⟩ := open_level Try.underlying102 Try.underlying213 Try.underlying37 Try.underlying22 ⟨rfl, rfl⟩ ⟨rfl, rfl⟩ ⟨rfl, rfl⟩ ⟨rfl, rfl⟩ cellsL cells2 cellsF t0 (open_sl Try.underlying102 (hval 0 102 v0 rfl rfl))
    obtain ⟨ds0, ps0, T0⟩ := trodAll_tail hT
    obtain ⟨d1, p1, t1⟩ := trodAll_head T0
    obtain ⟨n1, x1, R1, M1, X1⟩ := open_level Try.underlying102 Try.underlying213 Try.underlying37 Try.underlying22 ⟨rfl, rfl⟩ ⟨rfl, rfl⟩ ⟨rfl, rfl⟩ ⟨rfl, rfl⟩ cellsL cells2 cellsF t1 (open_sl Try.underlying102 (hval 1 102 v1 rfl rfl))
    exact lawSameSounding n0 x0 v0 X0 R0 M0 n1 x1 v1 X1 R1 M1

theorem over : Rows.fnExactSameSoundingRow.holds Try.pinned (OpenSpec.ofChange Rows.fnExactSameSoundingSpec) :=
  OpenClaim.holds_of_wide 23 Try.f23 rfl rfl rfl rfl rfl rfl rfl ⟨rfl, rfl, rfl, rfl, rfl⟩ rfl rfl rfl rfl rfl (by kernel_rfl) Try.func23 closed
    (of_decide_eq_true (by kernel_rfl)) (by unfold Func.isWrapper; rw [if_neg (by decide +kernel)]; exact ⟨rfl, rfl⟩)
    (fun os started H enc _ => lifted os started H enc)

theorem proved : Rows.FnExactSameSoundingSaid := over
#print axioms proved
end Go.Proofs.Ytlccmhkjfnmdiaa.fnExactSameSounding
