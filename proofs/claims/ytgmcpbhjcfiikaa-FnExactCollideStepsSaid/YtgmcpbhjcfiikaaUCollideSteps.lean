import Derived.Test.YtgmcpbhjcfiikaaVCollideSteps
import Derived.Test.YtgmcpbhjcfiikaaCCollideSteps
import Derived.Test.YtgmcpbhjcfiikaaChecked
import Derived.Test.YtgmcpbhjcfiikaaRows
import Derived.Laws.FloatArith
import Derived.ProofKit
import Derived.WalkKit
import Derived.WalkLawsBesides
import Derived.WalkSpells
import Derived.Deep.QuietTactic
import Derived.BigQuiet
import Derived.Deep.RegionHeld3
import Derived.ChangeKeysEq
import Derived.Laws.BitsAllLaws
import Derived.Deep.MidRow
import Derived.Deep.WholeRow
import Derived.StillTailTactics
import Derived.Deep.Slices
import Derived.ChangeSame
import Derived.OrdersIn
import Derived.ControlIn
import Derived.RangeFuncSeq
import Derived.RangeFuncNested
import Derived.ArgAppend
import Derived.OwnWalkIn
import Derived.TacticsInMore
import Derived.Below
import Derived.Laws.AppendOwn
import Derived.Scope
import Derived.OpenShut
/- The law FnExactCollideSteps of chapter 1: at every argument the call returns true, and what was there before it is as it was. -/
namespace Go.Proofs.Ytgmcpbhjcfiikaa
open Go.RowKit Go.Fl

theorem kept_below {w0 w w' : World} {l : List (Nat × Array Value × TypeId)} {B : Nat} (k : Kept w0 l w) (h : Below B w w') (hl : ∀ x ∈ l, x.1 < B) (hB : w0.heap.size ≤ B) : Kept w0 l w' :=
  ⟨k.1.trans (h.mono hB), fun x hx => (h.block _ (hl x hx)).trans (k.2 x hx)⟩

set_option maxHeartbeats 2000000 in
set_option maxRecDepth 100000 in
theorem sCollide (c kk : Nat → Nat) (t : Nat) (r : Nat → Nat) (q : Int) (hE : ∀ w gc gk T1 T2, arrAt w gc c T1 → vAt w gk 400 (flw kk) T2 → Calls Try.prog 107 #[.pointer (some ⟨gc, 0, none⟩), .pointer (some ⟨gk, 0, none⟩), .float .f32 t] w fun e w' => e = .returned (.tuple #[.agg (vls 400 (flw r)), .int .i64 q]) ∧ Below w.heap.size w w')
    (hc : Amts c) (hq : q = 0 → AmtK r) (res : Nat → Nat) (n : Int) (h0 : q = 0 → Fins (colN c r 400) → res = colN c r 400 ∧ n = 0) (h1 : q = 0 → ¬ Fins (colN c r 400) → res = (fun _ => 0) ∧ n = 4) (h2 : q ≠ 0 → res = (fun _ => 0) ∧ n = q) (w : World) (gc gk : Nat) (T1 T2 : TypeId) (hgc : arrAt w gc c T1) (hgk : vAt w gk 400 (flw kk) T2) :
    Calls Try.prog 118 #[.pointer (some ⟨gc, 0, none⟩), .pointer (some ⟨gk, 0, none⟩), .float .f32 t] w fun e w' => e = .returned (.tuple #[.agg (fls res), .int .i64 n]) ∧ Below w.heap.size w w' := by
  have kg : Kept w [(gk, vls 400 (flw kk), T2), (gc, fls c, T1)] w := ⟨Below.refl _ _, fun x hx => by
    simp only [List.mem_cons, List.not_mem_nil, or_false] at hx
    rcases hx with rfl | rfl
    · exact hgk
    · exact hgc⟩
  have k0 : Hid (Kept w [(w.heap.size, fls fun _ => 0, 61), (gk, vls 400 (flw kk), T2), (gc, fls c, T1)] (w.alloc (.cells (fls fun _ => 0) 61))) := hid (kg.push _ _)
  have HE := hid (fun u (hu : Kept w [(w.heap.size, fls fun _ => 0, 61), (gk, vls 400 (flw kk), T2), (gc, fls c, T1)] u) => hE u gc gk T1 T2 (hu.at (x := (gc, fls c, T1)) (by simp)) (hu.at (x := (gk, vls 400 (flw kk), T2)) (by simp)))
  have HQ := hid hq
  have H0 := hid h0
  have H1 := hid h1
  have H2 := hid h2
  have HA := hid hc
  clear hE hq h0 h1 h2 hc hgc hgk kg
  go_enter Try.func118, Try.ntmps118
  go_wp2_with fail
  refine (HE.out _ k0.out).mono ?_
  rintro e w1 ⟨rfl, hb1⟩
  have kk1 := k0.out.stay hb1
  have k1 : Hid (Kept w ((w1.heap.size, vls 400 (flw fun _ => 0), 58) :: [(w.heap.size, fls fun _ => 0, 61), (gk, vls 400 (flw kk), T2), (gc, fls c, T1)]) (w1.alloc (.cells (vls 400 (flw fun _ => 0)) 58))) := hid (kk1.push _ _)
  have HB := hid kk1.size
  have HN := hid kk1.fresh
  clear kk1 hb1 k0 HE
  by_cases hc : q = 0
  · subst hc
    have HK := hid (HQ.out rfl)
    have G0 := hid (H0.out rfl)
    have G1 := hid (H1.out rfl)
    clear H0 H1 H2 HQ
    go_wp2_with (first | (have _t := k1; refine store_kept (w0 := w) (l := [(w.heap.size, fls fun _ => 0, 61), (gk, vls 400 (flw kk), T2), (gc, fls c, T1)]) rfl 58 _ _ rfl (w1.heap.size) (vls 400 (flw r)) rfl rfl 58 (vls 400 (flw fun _ => 0)) k1.out HB.out HN.out (by rw [vls_size]; exact info_kern) (by simp) (vls_one (flw_one _)) (fun w2 k2 => ?_); replace k2 := hid k2; clear k1))
    refine (sLost c r HA.out HK.out _ gc w1.heap.size T1 58 (k2.out.at (x := (gc, fls c, T1)) (by simp)) (k2.out.at (x := (w1.heap.size, vls 400 (flw r), 58)) (by simp))).mono ?_
    rintro e w3 ⟨rfl, hb3⟩
    have kk3 := k2.out.stay hb3
    have k3 : Hid (Kept w ((w3.heap.size, fls fun _ => 0, 61) :: ((w1.heap.size, vls 400 (flw r), 58) :: [(w.heap.size, fls fun _ => 0, 61), (gk, vls 400 (flw kk), T2), (gc, fls c, T1)])) (w3.alloc (.cells (fls fun _ => 0) 61))) := hid (kk3.push _ _)
    have HS3 := hid kk3.size
    have HN3 := hid kk3.fresh
    clear kk3 hb3 k2
    go_wp2_with (first | (have _t := k3; refine store_kept (w0 := w) (l := ((w1.heap.size, vls 400 (flw r), 58) :: [(w.heap.size, fls fun _ => 0, 61), (gk, vls 400 (flw kk), T2), (gc, fls c, T1)])) rfl 61 _ _ rfl (w3.heap.size) (fls (heldN c r)) rfl rfl 61 (fls fun _ => 0) k3.out HS3.out HN3.out (by rw [fls_size]; exact info_arr) (by simp) (fls_one _) (fun w4 k4 => ?_); replace k4 := hid k4; clear k3; have HS4 := hid k4.out.size; have HN4 := hid k4.out.fresh; have HL4 := hid (fun x (hx : x ∈ (((w3.heap.size, fls (heldN c r), 61) :: ((w1.heap.size, vls 400 (flw r), 58) :: [(w.heap.size, fls fun _ => 0, 61), (gk, vls 400 (flw kk), T2), (gc, fls c, T1)])) : List (Nat × Array Value × TypeId))) => k4.out.lt hx); have k5 : Hid (Kept w ((w4.heap.size, fls fun _ => 0, 61) :: ((w3.heap.size, fls (heldN c r), 61) :: ((w1.heap.size, vls 400 (flw r), 58) :: [(w.heap.size, fls fun _ => 0, 61), (gk, vls 400 (flw kk), T2), (gc, fls c, T1)]))) (w4.alloc (.cells (fls fun _ => 0) 61))) := hid (k4.out.push _ _); clear k4) | (have _t := k5; refine store_kept (w0 := w) (l := ((w3.heap.size, fls (heldN c r), 61) :: ((w1.heap.size, vls 400 (flw r), 58) :: [(w.heap.size, fls fun _ => 0, 61), (gk, vls 400 (flw kk), T2), (gc, fls c, T1)]))) rfl 61 _ _ rfl (w4.heap.size) (fls fun _ => 0) rfl rfl 61 (fls fun _ => 0) k5.out HS4.out HN4.out (by rw [fls_size]; exact info_arr) (by simp) (fls_one _) (fun w6 k6 => ?_); replace k6 := hid k6; clear k5))
    have e0 : fls (prt (leftN c r) (fun _ => 0) 0) = fls fun _ => 0 := fls_ext fun i _ => part_zero _ _ i
    go_loopw [12] (fun i wr => ∃ k : Nat, k ≤ 20 ∧ i = .int .i64 k ∧ Hid (Kept w ((w4.heap.size, fls (prt (leftN c r) (fun _ => 0) k), 61) :: ((w3.heap.size, fls (heldN c r), 61) :: ((w1.heap.size, vls 400 (flw r), 58) :: [(w.heap.size, fls fun _ => 0, 61), (gk, vls 400 (flw kk), T2), (gc, fls c, T1)]))) wr)) (fun i _ => 20 - (intOf i).toNat)
    case atStart => exact ⟨0, by omega, rfl, by rw [e0]; exact k6⟩
    case round =>
      obtain ⟨k, hk, rfl, h0⟩ := hrel
      clear k6 e0
      by_cases hlt : k < 20
      · have HKK := hid hlt
        have hk3 : (k : Int) < 20 := by omega
        go_wp2_with fail
        refine region_kept (w0 := w) (l := ((w3.heap.size, fls (heldN c r), 61) :: ((w1.heap.size, vls 400 (flw r), 58) :: [(w.heap.size, fls fun _ => 0, 61), (gk, vls 400 (flw kk), T2), (gc, fls c, T1)]))) 12 #[false, false, false, false, false, false, false, false, false, false, false, false] (by kernel_rfl) rfl rfl ?_
        have kd := h0.out.drew
        clear h0
        generalize wr.drew = wd at kd ⊢
        refine take_val 0 _ _ (.int .i64 (k : Int)) rfl (by rfl) (by kernel_rfl) (by kernel_rfl) (by kernel_rfl) (fun w => by rfl) rfl rfl kd.tail ?_
        refine take_val 1 _ _ (.pointer (some ⟨gc, 0, none⟩)) rfl (by rfl) (by kernel_rfl) (by kernel_rfl) (by kernel_rfl) (fun w => by rfl) rfl rfl kd.tail ?_
        refine take_val 2 _ _ (.int .i64 (k : Int)) rfl (by rfl) (by kernel_rfl) (by kernel_rfl) (by kernel_rfl) (fun w => by rfl) rfl rfl kd.tail ?_
        refine take_val 6 _ _ (.int .i64 (k : Int)) rfl (by rfl) (by kernel_rfl) (by kernel_rfl) (by kernel_rfl) (fun w => by rfl) rfl rfl kd.tail ?_
        simp only [Act.put, List.setIfInBounds_toArray, List.set_cons_zero, List.set_cons_succ]
        refine take_val 3 _ _ (.pointer (some ⟨gc, 0, none⟩)) rfl (by rfl) (by kernel_rfl) (by kernel_rfl) (by kernel_rfl) (fun w => by unfold execOp; go_simp) rfl rfl kd.tail ?_
        refine take_val 7 _ _ (.pointer (some ⟨w3.heap.size, k, none⟩)) rfl (by rfl) (by kernel_rfl) (by kernel_rfl) (by kernel_rfl) (fun w => by unfold execOp; go_simp) rfl rfl kd.tail ?_
        simp only [Act.put, List.setIfInBounds_toArray, List.set_cons_zero, List.set_cons_succ]
        refine take_val 4 _ _ (.pointer (some ⟨gc, k, none⟩)) rfl (by rfl) (by kernel_rfl) (by kernel_rfl) (by kernel_rfl) (fun w => by unfold execOp; go_simp) rfl rfl kd.tail ?_
        simp only [Act.put, List.setIfInBounds_toArray, List.set_cons_zero, List.set_cons_succ]
        refine take_cell 5 _ _ (.float .f32 (c k)) rfl (by rfl) (by kernel_rfl) (by kernel_rfl) (by kernel_rfl) (fun wq hS => by have hcell : wq.cell? ⟨gc, k, none⟩ = some (.float .f32 (c k)) := (show arrAt wq gc c T1 from hS.at (x := (gc, fls c, T1)) (by simp)).cell HKK.out; clear hS; unfold execOp; go_simp) rfl rfl kd.tail ?_
        refine take_cell 8 _ _ (.float .f32 (heldN c r k)) rfl (by rfl) (by kernel_rfl) (by kernel_rfl) (by kernel_rfl) (fun wq hS => by have hcell : wq.cell? ⟨w3.heap.size, k, none⟩ = some (.float .f32 (heldN c r k)) := (show arrAt wq w3.heap.size (heldN c r) 61 from hS.at (x := (w3.heap.size, fls (heldN c r), 61)) (by simp)).cell HKK.out; clear hS; unfold execOp; go_simp) rfl rfl kd.tail ?_
        simp only [Act.put, List.setIfInBounds_toArray, List.set_cons_zero, List.set_cons_succ]
        refine take_val 9 _ _ (.float .f32 (leftN c r k)) rfl (by rfl) (by kernel_rfl) (by kernel_rfl) (by kernel_rfl) (fun w => run_binop_val _ _ _ _ (by rfl) (by rfl) (by simp [eqGuard]) (run_float_arith w .sub 23 .f32 _ _ _ (leftN_amt (P := r) HA.out HKK.out).1)) rfl rfl kd.tail ?_
        simp only [Act.put, List.setIfInBounds_toArray, List.set_cons_zero, List.set_cons_succ]
        refine take_val 10 _ _ (.pointer (some ⟨w4.heap.size, k, none⟩)) rfl (by rfl) (by kernel_rfl) (by kernel_rfl) (by kernel_rfl) (fun w => by unfold execOp; go_simp) rfl rfl kd.tail ?_
        simp only [Act.put, List.setIfInBounds_toArray, List.set_cons_zero, List.set_cons_succ]
        refine wpAnyH_ready (rs := [11]) (by kernel_rfl) (by simp) ?_
        refine storeCellK 11 _ kd HS4.out HN4.out rfl (by rfl) 23 _ _ rfl k (leftN c r k) HKK.out (by rfl) (by rfl) info_f32s rfl (fun wc kd => ?_) AllReadyH.nil
        refine ⟨kd.tail, ?_⟩
        refine wpAnyH_done (by kernel_rfl) (NoPanic.normal ?_) _
        simp only [Act.put]
        have K2 : Hid (Kept w ((w4.heap.size, fls (prt (leftN c r) (fun _ => 0) (k + 1)), 61) :: ((w3.heap.size, fls (heldN c r), 61) :: ((w1.heap.size, vls 400 (flw r), 58) :: [(w.heap.size, fls fun _ => 0, 61), (gk, vls 400 (flw kk), T2), (gc, fls c, T1)]))) wc) := hid (by
          rw [← show upd (prt (leftN c r) (fun _ => 0) k) k (leftN c r k) = prt (leftN c r) (fun _ => 0) (k + 1) from funext fun i => part_succ (leftN c r) (fun _ => 0) k i]
          exact kd)
        clear kd
        go_wp2
        go_roundw
        case rel => exact ⟨k + 1, by have := HKK.out; omega, by go_num, K2⟩
        case measure => have := HKK.out; simp [intOf]; omega
      · obtain rfl : k = 20 := by omega
        have eL : fls (prt (leftN c r) (fun _ => 0) 20) = fls (colN c r (0 * 20)) := fls_ext fun i hi => if_pos hi
        rw [eL] at h0
        clear eL hlt hk
        go_wp2_with fail
        go_loopw [13] (fun i wr => ∃ k : Nat, k ≤ 20 ∧ i = .int .i64 k ∧ Hid (Kept w ((w4.heap.size, fls (colN c r (k * 20)), 61) :: ((w3.heap.size, fls (heldN c r), 61) :: ((w1.heap.size, vls 400 (flw r), 58) :: [(w.heap.size, fls fun _ => 0, 61), (gk, vls 400 (flw kk), T2), (gc, fls c, T1)]))) wr)) (fun i _ => 20 - (intOf i).toNat)
        case atStart => exact ⟨0, by omega, rfl, h0⟩
        case round =>
          obtain ⟨k, hk, rfl, h3⟩ := hrel
          clear h0
          by_cases hlt : k < 20
          · have HKK := hid hlt
            have hk3 : (k : Int) < 20 := by omega
            have hrow := hid (show colN c r (k * 20 + k) = colN c r (k * 20) from col_row k k (Nat.le_refl _) hlt)
            go_wp2_with fail
            go_loopw [14] (fun i wr => ∃ j : Nat, k ≤ j ∧ j ≤ 20 ∧ i = .int .i64 j ∧ Hid (Kept w ((w4.heap.size, fls (colN c r (k * 20 + j)), 61) :: ((w3.heap.size, fls (heldN c r), 61) :: ((w1.heap.size, vls 400 (flw r), 58) :: [(w.heap.size, fls fun _ => 0, 61), (gk, vls 400 (flw kk), T2), (gc, fls c, T1)]))) wr)) (fun i _ => 20 - (intOf i).toNat)
            case atStart => exact ⟨k, by omega, by omega, rfl, by rw [hrow.out]; exact h3⟩
            case round =>
              clear h3 hrow
              obtain ⟨j, hkj, hj, rfl, h3⟩ := hrel
              by_cases hlj : j < 20
              · have HJ := hid hlj
                have HKJ := hid hkj
                have hj3 : (j : Int) < 20 := by omega
                have hn : k * 20 + j < 400 := by omega
                have SE : vAt wr w1.heap.size 400 (flw r) 58 := h3.out.at (x := (w1.heap.size, vls 400 (flw r), 58)) (by simp)
                have q1 := vAt.fcell SE hn
                by_cases hz : r (k * 20 + j) = 0
                · have hoff := hid (col_off (c := c) hz)
                  rw [hz] at q1
                  have e0 : (FloatKind.f32.format.order 0 0 == some .gt) = false := by decide
                  clear SE hz
                  go_wp2
                  go_roundw
                  case rel => exact ⟨j + 1, by omega, by omega, by go_num, by rw [show k * 20 + (j + 1) = k * 20 + j + 1 by omega, hoff.out]; exact h3⟩
                  case measure => simp [intOf]; omega
                · have e0 : (FloatKind.f32.format.order (r (k * 20 + j)) 0 == some .gt) = true := (gt_nn (amt_nn (HK.out _ hn)) (by decide)).trans (decide_eq_true (by omega))
                  have hon := hid (col_at (c := c) hlj hkj hz)
                  clear SE hz
                  go_wp2_with fail
                  clear q1 e0
                  have HN4 := hid hn
                  refine region_kept (w0 := w) (l := ((w3.heap.size, fls (heldN c r), 61) :: ((w1.heap.size, vls 400 (flw r), 58) :: [(w.heap.size, fls fun _ => 0, 61), (gk, vls 400 (flw kk), T2), (gc, fls c, T1)]))) 11 #[false, false, false, false, false, false, false, false, false, false, false] (by kernel_rfl) rfl rfl ?_
                  have kd := h3.out.drew
                  clear h3
                  generalize wr.drew = wd at kd ⊢
                  refine take_val 0 _ _ (.int .i64 (k : Int)) rfl (by rfl) (by kernel_rfl) (by kernel_rfl) (by kernel_rfl) (fun w => by rfl) rfl rfl kd.tail ?_
                  refine take_val 2 _ _ (.int .i64 (j : Int)) rfl (by rfl) (by kernel_rfl) (by kernel_rfl) (by kernel_rfl) (fun w => by rfl) rfl rfl kd.tail ?_
                  refine take_val 5 _ _ (.int .i64 (k : Int)) rfl (by rfl) (by kernel_rfl) (by kernel_rfl) (by kernel_rfl) (fun w => by rfl) rfl rfl kd.tail ?_
                  refine take_val 6 _ _ (.int .i64 (j : Int)) rfl (by rfl) (by kernel_rfl) (by kernel_rfl) (by kernel_rfl) (fun w => by rfl) rfl rfl kd.tail ?_
                  simp only [Act.put, List.setIfInBounds_toArray, List.set_cons_zero, List.set_cons_succ]
                  refine take_val 7 _ _ (.pointer (some ⟨w1.heap.size, k * 20, none⟩)) rfl (by rfl) (by kernel_rfl) (by kernel_rfl) (by kernel_rfl) (fun w => by unfold execOp; go_simp) rfl rfl kd.tail ?_
                  simp only [Act.put, List.setIfInBounds_toArray, List.set_cons_zero, List.set_cons_succ]
                  refine take_val 8 _ _ (.pointer (some ⟨w1.heap.size, k * 20 + j, none⟩)) rfl (by rfl) (by kernel_rfl) (by kernel_rfl) (by kernel_rfl) (fun w => by unfold execOp; go_simp) rfl rfl kd.tail ?_
                  simp only [Act.put, List.setIfInBounds_toArray, List.set_cons_zero, List.set_cons_succ]
                  refine take_cell 9 _ _ (.float .f32 (r (k * 20 + j))) rfl (by rfl) (by kernel_rfl) (by kernel_rfl) (by kernel_rfl) (fun wq hS => by have hcell : wq.cell? ⟨w1.heap.size, k * 20 + j, none⟩ = some (.float .f32 (r (k * 20 + j))) := vAt.fcell (c := r) (hS.at (x := (w1.heap.size, vls 400 (flw r), 58)) (by simp)) hn; clear hS; unfold execOp; go_simp) rfl rfl kd.tail ?_
                  simp only [Act.put, List.setIfInBounds_toArray, List.set_cons_zero, List.set_cons_succ]
                  refine wpAnyH_ready (rs := [1]) (by kernel_rfl) (by simp) ?_
                  refine callK 1 _ _ (.float .f32 (mass k)) kd rfl (by rfl) 185 #[.int .i64 (k : Int)] (fun w => by unfold execOp; go_simp) rfl rfl ?hm1 (fun wa kd => ?_) AllReadyH.nil
                  case hm1 => exact loose (sMass k HKK.out _)
                  refine ⟨kd.tail, ?_⟩
                  simp only [Act.put, List.setIfInBounds_toArray, List.set_cons_zero, List.set_cons_succ]
                  refine wpAnyH_ready (rs := [3]) (by kernel_rfl) (by simp) ?_
                  refine callK 3 _ _ (.float .f32 (mass j)) kd rfl (by rfl) 185 #[.int .i64 (j : Int)] (fun w => by unfold execOp; go_simp) rfl rfl ?hm3 (fun wa kd => ?_) AllReadyH.nil
                  case hm3 => exact loose (sMass j HJ.out _)
                  refine ⟨kd.tail, ?_⟩
                  simp only [Act.put, List.setIfInBounds_toArray, List.set_cons_zero, List.set_cons_succ]
                  refine take_val 4 _ _ (.float .f32 (pm k j)) rfl (by rfl) (by kernel_rfl) (by kernel_rfl) (by kernel_rfl) (fun w => run_binop_val _ _ _ _ (by rfl) (by rfl) (by simp [eqGuard]) (run_float_arith w .add 23 .f32 _ _ _ (pm_facts HKK.out HJ.out).1)) rfl rfl kd.tail ?_
                  simp only [Act.put, List.setIfInBounds_toArray, List.set_cons_zero, List.set_cons_succ]
                  refine wpAnyH_ready (rs := [10]) (by kernel_rfl) (by simp) ?_
                  refine callR 10 _ _ (.tuple #[]) rfl (by rfl) 184 #[.pointer (some ⟨w4.heap.size, 0, none⟩), .float .f32 (pm k j), .float .f32 (r (k * 20 + j))] (by unfold execOp; go_simp) rfl rfl _ (sPut_any (colN c r (k * 20 + j)) (col_nn HA.out HK.out _ (by omega)) (pm k j) (r (k * 20 + j)) (pm_facts HKK.out HJ.out).2.1 (HK.out _ hn) _ w4.heap.size 61 (kd.at (x := (w4.heap.size, fls (colN c r (k * 20 + j)), 61)) (by simp))) (fun w9 hw => ?_) AllReadyH.nil
                  have hbw := hw.2.2 w4.heap.size _ (Nat.le_refl _) (Below.refl _ _)
                  have k9t := kept_below kd.tail hbw HL4.out HS4.out
                  have k9 : Kept w ((w4.heap.size, fls (put1 (colN c r (k * 20 + j)) (pm k j) (r (k * 20 + j))), 61) :: ((w3.heap.size, fls (heldN c r), 61) :: ((w1.heap.size, vls 400 (flw r), 58) :: [(w.heap.size, fls fun _ => 0, 61), (gk, vls 400 (flw kk), T2), (gc, fls c, T1)]))) w9 := ⟨k9t.1, fun x hx => (List.mem_cons.1 hx).elim (fun e => by subst e; exact hw.1) (fun hx => k9t.2 x hx)⟩
                  clear hbw hw kd
                  refine ⟨k9t, ?_⟩
                  clear k9t
                  refine wpAnyH_done (by kernel_rfl) (NoPanic.normal ?_) _
                  simp only [Act.put, List.setIfInBounds_toArray, List.set_cons_zero, List.set_cons_succ]
                  have K2 : Hid (Kept w ((w4.heap.size, fls (colN c r (k * 20 + (j + 1))), 61) :: ((w3.heap.size, fls (heldN c r), 61) :: ((w1.heap.size, vls 400 (flw r), 58) :: [(w.heap.size, fls fun _ => 0, 61), (gk, vls 400 (flw kk), T2), (gc, fls c, T1)]))) w9) := hid (by rw [show k * 20 + (j + 1) = k * 20 + j + 1 by omega, hon.out]; exact k9)
                  clear k9 hn
                  go_wp2
                  go_roundw
                  case rel => exact ⟨j + 1, by have := HKJ.out; omega, by have := HJ.out; omega, by go_num, K2⟩
                  case measure => have := HJ.out; simp [intOf]; omega
              · obtain rfl : j = 20 := by omega
                go_wp2
                go_roundw
                case rel => exact ⟨k + 1, by have := HKK.out; omega, by go_num, by rw [show (k + 1) * 20 = k * 20 + 20 by omega]; exact h3⟩
                case measure => have := HKK.out; simp [intOf]; omega
          · obtain rfl : k = 20 := by omega
            rw [show 20 * 20 = 400 from rfl] at h3
            have HNN := hid (col_nn HA.out HK.out 400 (Nat.le_refl _))
            have HL := hid (fun i (hi : i < 20) => nn_lt (HNN.out i hi))
            by_cases hF : Fins (colN c r 400)
            · obtain ⟨hr, rfl⟩ := G0.out hF
              have hr2 := hr.symm
              have HF := hid hF
              clear G0 G1 hr hlt hk hF
              generalize colN c r 400 = dd at h3 HF HL HNN hr2
              subst hr2
              go_wp2_with (refine wpList_load_row rfl 61 _ rfl (w4.heap.size) rfl 61 (fls dd) (0, 0) _ (h3.out.at (x := (w4.heap.size, fls dd, 61)) (by simp)) Try.underlying61 rfl (by rw [fls_size]; exact info_arr) ?_)
              refine (sMade_t dd HL.out HF.out _).mono ?_
              rintro e w9 ⟨rfl, hb9⟩
              have A3 := hid (show arrAt w9 w.heap.size (fun _ => 0) 61 from (h3.out.stay hb9).at (x := (w.heap.size, fls fun _ => 0, 61)) (by simp))
              have b3 := (h3.out.stay hb9).1
              clear h3 hb9
              go_wp2_with (have _t := A3; refine wpList_store_row rfl 61 _ _ rfl (w.heap.size) (fls (dd)) rfl rfl 61 _ A3.out (by rw [fls_size]; exact info_arr) (by simp) (fls_one _) ?_)
              exact bodyPost_ret (results_row_tmp rfl _ _ (w.heap.size) 61 (fls (dd)) (0, 0) _ rfl (A3.out.setRow (dd)) Try.underlying61 rfl (by rw [fls_size]; exact info_arr)) rfl ⟨rfl, below_row b3 (Nat.le_refl _) _⟩
            · obtain ⟨rfl, rfl⟩ := G1.out hF
              have HF := hid hF
              clear G0 G1 hlt hk
              generalize colN c r 400 = dd at h3 HF HL HNN
              go_wp2_with (refine wpList_load_row rfl 61 _ rfl (w4.heap.size) rfl 61 (fls dd) (0, 0) _ (h3.out.at (x := (w4.heap.size, fls dd, 61)) (by simp)) Try.underlying61 rfl (by rw [fls_size]; exact info_arr) ?_)
              refine (sMade_f dd HL.out HF.out _).mono ?_
              rintro e w9 ⟨rfl, hb9⟩
              have A3 := hid (show arrAt w9 w.heap.size (fun _ => 0) 61 from (h3.out.stay hb9).at (x := (w.heap.size, fls fun _ => 0, 61)) (by simp))
              have b3 := (h3.out.stay hb9).1
              clear h3 hb9
              go_wp2_with (have _t := A3; refine wpList_store_row rfl 61 _ _ rfl (w.heap.size) (fls fun _ => 0) rfl rfl 61 _ A3.out (by rw [fls_size]; exact info_arr) (by simp) (fls_one _) ?_)
              exact bodyPost_ret (results_row_tmp rfl _ _ (w.heap.size) 61 (fls fun _ => 0) (0, 0) _ rfl (A3.out.setRow (fun _ => 0)) Try.underlying61 rfl (by rw [fls_size]; exact info_arr)) rfl ⟨rfl, below_row b3 (Nat.le_refl _) _⟩
  · obtain ⟨rfl, rfl⟩ := H2.out hc
    have hcz := hc
    clear H0 H1 H2 HQ hc
    go_wp2_with (first | (have _t := k1; refine store_kept (w0 := w) (l := [(w.heap.size, fls fun _ => 0, 61), (gk, vls 400 (flw kk), T2), (gc, fls c, T1)]) rfl 58 _ _ rfl (w1.heap.size) (vls 400 (flw r)) rfl rfl 58 (vls 400 (flw fun _ => 0)) k1.out HB.out HN.out (by rw [vls_size]; exact info_kern) (by simp) (vls_one (flw_one _)) (fun w2 k2 => ?_); replace k2 := hid k2; clear k1; have A3 := hid (show arrAt w2 w.heap.size (fun _ => 0) 61 from k2.out.at (x := (w.heap.size, fls fun _ => 0, 61)) (by simp)); have b3 := k2.out.1; clear k2) | (have _t := A3; refine wpList_store_row rfl 61 _ _ rfl (w.heap.size) (fls fun _ => 0) rfl rfl 61 _ A3.out (by rw [fls_size]; exact info_arr) (by simp) (fls_one _) ?_))
    exact bodyPost_ret (results_row_tmp rfl _ _ (w.heap.size) 61 (fls fun _ => 0) (0, 0) _ rfl (A3.out.setRow (fun _ => 0)) Try.underlying61 rfl (by rw [fls_size]; exact info_arr)) rfl ⟨rfl, below_row b3 (Nat.le_refl _) _⟩

theorem evN_sym (c kk : Nat → Nat) (t a b : Nat) : evN c kk t a b = evN c kk t b a := by
  unfold evN
  by_cases h : a = b
  · subst h; rfl
  · rw [if_neg h, if_neg (fun e => h e.symm), Nat.min_comm, Nat.max_comm]

theorem evN_off {c kk : Nat → Nat} {t a b : Nat} (h : a < b) : evN c kk t a b = full c kk t a b := by
  unfold evN
  rw [if_neg (by omega), Nat.min_eq_left (by omega), Nat.max_eq_right (by omega)]

theorem evN_on (c kk : Nat → Nat) (t a : Nat) : evN c kk t a a = prod (full c kk t a a) 1056964608 := if_pos rfl

/-- One more pair of events is laid. -/
theorem ev_laid {c kk M : Nat → Nat} {t v k j : Nat} (hkj : k ≤ j) (hj : j < 20) (hv : Fits (evN c kk t k j) v)
    (hM : ∀ a b, a < 20 → b < 20 → (a < k ∨ b < k ∨ (a = k ∧ k ≤ b ∧ b < j) ∨ (b = k ∧ k ≤ a ∧ a < j)) → Fits (evN c kk t a b) (M (a * 20 + b))) :
    ∀ a b, a < 20 → b < 20 → (a < k ∨ b < k ∨ (a = k ∧ k ≤ b ∧ b < j + 1) ∨ (b = k ∧ k ≤ a ∧ a < j + 1)) → Fits (evN c kk t a b) (upd (upd M (k * 20 + j) v) (j * 20 + k) v (a * 20 + b)) := by
  intro a b ha hb h
  by_cases e1 : a = j ∧ b = k
  · obtain ⟨rfl, rfl⟩ := e1
    rw [show upd (upd M (b * 20 + a) v) (a * 20 + b) v (a * 20 + b) = v from if_pos rfl, evN_sym]
    exact hv
  · by_cases e2 : a = k ∧ b = j
    · obtain ⟨rfl, rfl⟩ := e2
      rw [show upd (upd M (a * 20 + b) v) (b * 20 + a) v (a * 20 + b) = v from by unfold upd; split; rfl; exact if_pos rfl]
      exact hv
    · rw [show upd (upd M (k * 20 + j) v) (j * 20 + k) v (a * 20 + b) = M (a * 20 + b) from by unfold upd; rw [if_neg (by omega), if_neg (by omega)]]
      exact hM a b ha hb (by omega)

set_option maxHeartbeats 4000000 in
set_option maxRecDepth 100000 in
theorem sEvents (c kk : Nat → Nat) (t : Nat) (hc : Amts c) (hkk : AmtK kk) (ht : amtB t = true) (r : Nat → Nat) (q : Int) (hr : AmtK (evK c kk t) → r = evP c kk t (lossN (evK c kk t)) ∧ q = 0) (hr2 : ¬ AmtK (evK c kk t) → r = (fun _ => 0) ∧ q = 4) (w : World) (gc gk : Nat) (T1 T2 : TypeId) (hgc : arrAt w gc c T1) (hgk : vAt w gk 400 (flw kk) T2) :
    Calls Try.prog 107 #[.pointer (some ⟨gc, 0, none⟩), .pointer (some ⟨gk, 0, none⟩), .float .f32 t] w fun e w' => e = .returned (.tuple #[.agg (vls 400 (flw r)), .int .i64 q]) ∧ Below w.heap.size w w' := by
  have kg : Kept w [(gk, vls 400 (flw kk), T2), (gc, fls c, T1)] w := ⟨Below.refl _ _, fun x hx => by
    simp only [List.mem_cons, List.not_mem_nil, or_false] at hx
    rcases hx with rfl | rfl
    · exact hgk
    · exact hgc⟩
  have hg1 := hid (show gk < w.heap.size from kg.lt (x := (gk, vls 400 (flw kk), T2)) (by simp))
  have hg2 := hid (show gc < w.heap.size from kg.lt (x := (gc, fls c, T1)) (by simp))
  have k0 : Hid (Kept w [(w.heap.size + 1, vls 400 (flw fun _ => 0), 58), (w.heap.size, vls 400 (flw fun _ => 0), 58), (gk, vls 400 (flw kk), T2), (gc, fls c, T1)] ((w.alloc (.cells (vls 400 (flw fun _ => 0)) 58)).alloc (.cells (vls 400 (flw fun _ => 0)) 58))) := hid (((kg.push _ _).push _ _).sub (by simp))
  have HC := hid hc
  have HKK := hid hkk
  have HT := hid ht
  have HR := hid hr
  have HR2 := hid hr2
  have NEQ : ∀ y ∈ [(w.heap.size, vls 400 (flw fun _ => 0), 58), (gk, vls 400 (flw kk), T2), (gc, fls c, T1)], y.1 ≠ w.heap.size + 1 := by intro y hy; have := hg1.out; have := hg2.out; simp only [List.mem_cons, List.not_mem_nil, or_false] at hy; rcases hy with rfl | rfl | rfl <;> (show (_ : Nat) ≠ _; omega)
  have HNEQ := hid NEQ
  clear hc hkk ht hr hr2 hgc hgk kg NEQ
  go_enter Try.func107, Try.ntmps107
  go_wp2_with (refine store_kept (w0 := w) (l := [(w.heap.size, vls 400 (flw fun _ => 0), 58), (gk, vls 400 (flw kk), T2), (gc, fls c, T1)]) rfl 58 _ _ rfl (w.heap.size + 1) (vls 400 (flw fun _ => 0)) rfl rfl 58 (vls 400 (flw fun _ => 0)) k0.out (by omega) HNEQ.out (by rw [vls_size]; exact info_kern) rfl (vls_one (flw_one _)) (fun w3 k3 => ?_); replace k3 := hid k3; clear k0)
  go_loopw [9] (fun i wr => ∃ k : Nat, k ≤ 20 ∧ i = .int .i64 k ∧ ∃ M : Nat → Nat, Hid (∀ a b, a < 20 → b < 20 → (a < k ∨ b < k) → Fits (evN c kk t a b) (M (a * 20 + b))) ∧ Hid (Kept w [(w.heap.size + 1, vls 400 (flw M), 58), (w.heap.size, vls 400 (flw fun _ => 0), 58), (gk, vls 400 (flw kk), T2), (gc, fls c, T1)] wr)) (fun i _ => 20 - (intOf i).toNat)
  case atStart => exact ⟨0, by omega, rfl, fun _ => 0, hid fun a b _ _ h => by omega, k3⟩
  case round =>
    obtain ⟨k, hk, rfl, M, hM, h0⟩ := hrel
    clear k3
    by_cases hlt : k < 20
    · have HK := hid hlt
      have hk3 : (k : Int) < 20 := by omega
      go_wp2_with fail
      go_loopw [10] (fun i wr => ∃ j : Nat, k ≤ j ∧ j ≤ 20 ∧ i = .int .i64 j ∧ ∃ M : Nat → Nat, Hid (∀ a b, a < 20 → b < 20 → (a < k ∨ b < k ∨ (a = k ∧ k ≤ b ∧ b < j) ∨ (b = k ∧ k ≤ a ∧ a < j)) → Fits (evN c kk t a b) (M (a * 20 + b))) ∧ Hid (Kept w [(w.heap.size + 1, vls 400 (flw M), 58), (w.heap.size, vls 400 (flw fun _ => 0), 58), (gk, vls 400 (flw kk), T2), (gc, fls c, T1)] wr)) (fun i _ => 20 - (intOf i).toNat)
      case atStart => exact ⟨k, by omega, by omega, rfl, M, hid fun a b ha hb h => hM.out a b ha hb (by omega), h0⟩
      case round =>
        clear h0 hM M
        obtain ⟨j, hkj, hj, rfl, M, hM, h0⟩ := hrel
        by_cases hlj : j < 20
        · have HJ := hid hlj
          have hj3 : (j : Int) < 20 := by omega
          have HKJ := hid hkj
          go_wp2_with fail
          refine region_kept (w0 := w) (l := [(w.heap.size + 1, vls 400 (flw M), 58), (w.heap.size, vls 400 (flw fun _ => 0), 58), (gk, vls 400 (flw kk), T2), (gc, fls c, T1)]) 22 #[false, false, false, false, false, false, false, false, false, false, false, false, false, false, false, false, false, false, false, false, false, false] (by kernel_rfl) rfl rfl ?_
          have kd := h0.out.drew
          clear h0
          generalize wr.drew = wd at kd ⊢
          refine take_val 0 _ _ (.pointer (some ⟨gk, 0, none⟩)) rfl (by rfl) (by kernel_rfl) (by kernel_rfl) (by kernel_rfl) (fun w => by rfl) rfl rfl kd ?_
          refine take_val 1 _ _ (.int .i64 (k : Int)) rfl (by rfl) (by kernel_rfl) (by kernel_rfl) (by kernel_rfl) (fun w => by rfl) rfl rfl kd ?_
          refine take_val 2 _ _ (.int .i64 (j : Int)) rfl (by rfl) (by kernel_rfl) (by kernel_rfl) (by kernel_rfl) (fun w => by rfl) rfl rfl kd ?_
          refine take_val 7 _ _ (.pointer (some ⟨gc, 0, none⟩)) rfl (by rfl) (by kernel_rfl) (by kernel_rfl) (by kernel_rfl) (fun w => by rfl) rfl rfl kd ?_
          refine take_val 8 _ _ (.int .i64 (k : Int)) rfl (by rfl) (by kernel_rfl) (by kernel_rfl) (by kernel_rfl) (fun w => by rfl) rfl rfl kd ?_
          refine take_val 13 _ _ (.pointer (some ⟨gc, 0, none⟩)) rfl (by rfl) (by kernel_rfl) (by kernel_rfl) (by kernel_rfl) (fun w => by rfl) rfl rfl kd ?_
          refine take_val 14 _ _ (.int .i64 (j : Int)) rfl (by rfl) (by kernel_rfl) (by kernel_rfl) (by kernel_rfl) (fun w => by rfl) rfl rfl kd ?_
          refine take_val 19 _ _ (.float .f32 t) rfl (by rfl) (by kernel_rfl) (by kernel_rfl) (by kernel_rfl) (fun w => by rfl) rfl rfl kd ?_
          simp only [Act.put, List.setIfInBounds_toArray, List.set_cons_zero, List.set_cons_succ]
          refine take_val 3 _ _ (.pointer (some ⟨gk, 0, none⟩)) rfl (by rfl) (by kernel_rfl) (by kernel_rfl) (by kernel_rfl) (fun w => by unfold execOp; go_simp) rfl rfl kd ?_
          refine take_val 9 _ _ (.pointer (some ⟨gc, 0, none⟩)) rfl (by rfl) (by kernel_rfl) (by kernel_rfl) (by kernel_rfl) (fun w => by unfold execOp; go_simp) rfl rfl kd ?_
          refine take_val 15 _ _ (.pointer (some ⟨gc, 0, none⟩)) rfl (by rfl) (by kernel_rfl) (by kernel_rfl) (by kernel_rfl) (fun w => by unfold execOp; go_simp) rfl rfl kd ?_
          simp only [Act.put, List.setIfInBounds_toArray, List.set_cons_zero, List.set_cons_succ]
          refine take_val 4 _ _ (.pointer (some ⟨gk, k * 20, none⟩)) rfl (by rfl) (by kernel_rfl) (by kernel_rfl) (by kernel_rfl) (fun w => by unfold execOp; go_simp) rfl rfl kd ?_
          simp only [Act.put, List.setIfInBounds_toArray, List.set_cons_zero, List.set_cons_succ]
          refine take_val 5 _ _ (.pointer (some ⟨gk, k * 20 + j, none⟩)) rfl (by rfl) (by kernel_rfl) (by kernel_rfl) (by kernel_rfl) (fun w => by unfold execOp; go_simp) rfl rfl kd ?_
          refine take_val 10 _ _ (.pointer (some ⟨gc, k, none⟩)) rfl (by rfl) (by kernel_rfl) (by kernel_rfl) (by kernel_rfl) (fun w => by unfold execOp; go_simp) rfl rfl kd ?_
          refine take_val 16 _ _ (.pointer (some ⟨gc, j, none⟩)) rfl (by rfl) (by kernel_rfl) (by kernel_rfl) (by kernel_rfl) (fun w => by unfold execOp; go_simp) rfl rfl kd ?_
          simp only [Act.put, List.setIfInBounds_toArray, List.set_cons_zero, List.set_cons_succ]
          refine take_cell 6 _ _ (.float .f32 (kk (k * 20 + j))) rfl (by rfl) (by kernel_rfl) (by kernel_rfl) (by kernel_rfl) (fun wq hS => by have hcell : wq.cell? ⟨gk, k * 20 + j, none⟩ = some (.float .f32 (kk (k * 20 + j))) := vAt.fcell (c := kk) (hS.at (x := (gk, vls 400 (flw kk), T2)) (by simp)) (by have := HK.out; have := HJ.out; omega); clear hS; unfold execOp; go_simp) rfl rfl kd ?_
          refine take_cell 11 _ _ (.float .f32 (c k)) rfl (by rfl) (by kernel_rfl) (by kernel_rfl) (by kernel_rfl) (fun wq hS => by have hcell : wq.cell? ⟨gc, k, none⟩ = some (.float .f32 (c k)) := (show arrAt wq gc c T1 from hS.at (x := (gc, fls c, T1)) (by simp)).cell HK.out; clear hS; unfold execOp; go_simp) rfl rfl kd ?_
          refine take_cell 17 _ _ (.float .f32 (c j)) rfl (by rfl) (by kernel_rfl) (by kernel_rfl) (by kernel_rfl) (fun wq hS => by have hcell : wq.cell? ⟨gc, j, none⟩ = some (.float .f32 (c j)) := (show arrAt wq gc c T1 from hS.at (x := (gc, fls c, T1)) (by simp)).cell HJ.out; clear hS; unfold execOp; go_simp) rfl rfl kd ?_
          simp only [Act.put, List.setIfInBounds_toArray, List.set_cons_zero, List.set_cons_succ]
          refine take_val 12 _ _ (.float .f32 (fmul (kk (k * 20 + j)) (c k))) rfl (by rfl) (by kernel_rfl) (by kernel_rfl) (by kernel_rfl) (fun w => run_binop_val _ _ _ _ (by rfl) (by rfl) (by simp [eqGuard]) (run_mul 23 (HKK.out _ (by have := HK.out; have := HJ.out; omega)) (HC.out k HK.out) w)) rfl rfl kd ?_
          simp only [Act.put, List.setIfInBounds_toArray, List.set_cons_zero, List.set_cons_succ]
          refine wpAnyH_ready (rs := [18]) (by kernel_rfl) (by simp) ?_
          refine valKE 18 _ (Fits (oft c kk k j)) kd rfl (by rfl) ?hr1 rfl (fun v wy hv kd => ?_) AllReadyH.nil
          case hr1 =>
            obtain ⟨z, w1, a1, a2, a3⟩ := run_prod (P := Try.prog) 23 (mul_eq (HKK.out (k * 20 + j) (by have := HK.out; have := HJ.out; omega)) (HC.out k HK.out)).2 (HC.out j HJ.out) (inf_mul (HC.out j HJ.out)) wd
            exact ⟨z, w1, run_binop_valE _ _ _ _ (by rfl) (by rfl) (by simp [eqGuard]) a1, a2, a3⟩
          refine ⟨kd, ?_⟩
          simp only [Act.put, List.setIfInBounds_toArray, List.set_cons_zero, List.set_cons_succ]
          refine wpAnyH_ready (rs := [20]) (by kernel_rfl) (by simp) ?_
          refine valKE 20 _ (Fits (full c kk t k j)) kd rfl (by rfl) ?hr2 rfl (fun v2 wz hv2 kd => ?_) AllReadyH.nil
          case hr2 =>
            obtain ⟨z, w1, a1, a2, a3⟩ := run_fits (P := Try.prog) 23 (prod_nn (HC.out j HJ.out)) hv HT.out wy
            exact ⟨z, w1, run_binop_valE _ _ _ _ (by rfl) (by rfl) (by simp [eqGuard]) a1, a2, a3⟩
          refine ⟨kd, ?_⟩
          simp only [Act.put, List.setIfInBounds_toArray, List.set_cons_zero, List.set_cons_succ]
          refine take_val 21 _ _ (.float .f32 v2) rfl (by rfl) (by kernel_rfl) (by kernel_rfl) (by kernel_rfl) (fun w => by rfl) rfl rfl kd ?_
          refine wpAnyH_done (by kernel_rfl) (NoPanic.normal ?_) _
          simp only [Act.put, List.setIfInBounds_toArray, List.set_cons_zero, List.set_cons_succ]
          have HV := hid hv2
          clear hv hv2
          have hn1 : k * 20 + j < 400 := by have := HK.out; have := HJ.out; omega
          have hn2 : j * 20 + k < 400 := by have := HK.out; have := HJ.out; omega
          by_cases hjk : j = k
          · subst hjk
            obtain ⟨z, w4, e7, hz, hw⟩ := run_fitsL (P := Try.prog) 23 (full_nn HC.out HKK.out HT.out HJ.out HJ.out) HV.out (by decide : amtB 1056964608 = true) wz
            have k4 : Kept w [(w.heap.size + 1, vls 400 (flw M), 58), (w.heap.size, vls 400 (flw fun _ => 0), 58), (gk, vls 400 (flw kk), T2), (gc, fls c, T1)] w4 := by rcases hw with rfl | rfl; exact kd; exact kd.drew
            have HV := hid (show Fits (evN c kk t j j) z by rw [evN_on]; exact hz)
            clear kd hz hw
            have S3 := k4.at (x := (w.heap.size + 1, vls 400 (flw M), 58)) (by simp)
            have q0 := vAt.fcell (c := M) S3 hn1
            have f0 := vAt.frozen S3 (j * 20 + j)
            have k5 := k4.fcell (n := 400) (c := M) (by omega) HNEQ.out (j * 20 + j) z
            have S4 := k5.at (x := (w.heap.size + 1, vls 400 (flw (upd M (j * 20 + j) z)), 58)) (by simp)
            have q1 := vAt.fcell (c := upd M (j * 20 + j) z) S4 hn2
            have f1 := vAt.frozen S4 (j * 20 + j)
            have K6 := hid (k5.fcell (n := 400) (c := upd M (j * 20 + j) z) (by omega) HNEQ.out (j * 20 + j) z)
            have HM2 := hid (ev_laid HKJ.out HJ.out HV.out hM.out)
            clear S3 S4 k5 k4 hM HV hn1 hn2
            go_wp2
            go_roundw
            case rel => exact ⟨j + 1, by have := HKJ.out; omega, by have := HJ.out; omega, by go_num, _, HM2, K6⟩
            case measure => have := HJ.out; simp [intOf]; omega
          · have hkj2 : ((k : Int) == (j : Int)) = false := by simp; omega
            have HV := hid (show Fits (evN c kk t k j) v2 by rw [evN_off (by have := HKJ.out; omega)]; exact HV.out)
            have S3 := kd.at (x := (w.heap.size + 1, vls 400 (flw M), 58)) (by simp)
            have q0 := vAt.fcell (c := M) S3 hn1
            have f0 := vAt.frozen S3 (k * 20 + j)
            have k5 := kd.fcell (n := 400) (c := M) (by omega) HNEQ.out (k * 20 + j) v2
            have S4 := k5.at (x := (w.heap.size + 1, vls 400 (flw (upd M (k * 20 + j) v2)), 58)) (by simp)
            have q1 := vAt.fcell (c := upd M (k * 20 + j) v2) S4 hn2
            have f1 := vAt.frozen S4 (j * 20 + k)
            have K6 := hid (k5.fcell (n := 400) (c := upd M (k * 20 + j) v2) (by omega) HNEQ.out (j * 20 + k) v2)
            have HM2 := hid (ev_laid HKJ.out HJ.out HV.out hM.out)
            clear S3 S4 k5 kd hM HV hn1 hn2
            go_wp2
            go_roundw
            case rel => exact ⟨j + 1, by have := HKJ.out; omega, by have := HJ.out; omega, by go_num, _, HM2, K6⟩
            case measure => have := HJ.out; simp [intOf]; omega
        · obtain rfl : j = 20 := by omega
          have HM2 := hid (show ∀ a b, a < 20 → b < 20 → (a < k + 1 ∨ b < k + 1) → Fits (evN c kk t a b) (M (a * 20 + b)) from fun a b ha hb h => hM.out a b ha hb (by omega))
          clear hM
          go_wp2
          go_roundw
          case rel => exact ⟨k + 1, by have := HK.out; omega, by go_num, _, HM2, h0⟩
          case measure => have := HK.out; simp [intOf]; omega
    · obtain rfl : k = 20 := by omega
      by_cases hA : AmtK (evK c kk t)
      · obtain ⟨rfl, rfl⟩ := HR.out hA
        have HA := hid hA
        have eM : vls 400 (flw M) = vls 400 (flw (evK c kk t)) := vls_ext fun n hn => by
          have h1 := (hM.out (n / 20) (n % 20) (by omega) (by omega) (by omega)).2.1
          rw [show n / 20 * 20 + n % 20 = n by omega] at h1
          unfold flw
          rw [h1 (amt_fin (hA n hn))]
          rfl
        rw [eM] at h0
        have hFN : FinN (evK c kk t) 400 := fun n hn => amt_fin (hA n hn)
        clear HR HR2 hM eM hk
        go_wp2_with (refine wpList_load_row rfl 58 _ rfl (w.heap.size + 1) rfl 58 (vls 400 (flw (evK c kk t))) (0, 0) _ (h0.out.at (x := (w.heap.size + 1, vls 400 (flw (evK c kk t)), 58)) (by simp)) Try.underlying58 rfl (by rw [vls_size]; exact info_kern) ?_)
        refine (sTold3 (evK c kk t) (fun n hn => amt_lt (hA n hn)) (evK c kk t) 0 (fun _ => ⟨rfl, rfl⟩) (fun h => absurd hFN h) _).mono ?_
        rintro e w5 ⟨rfl, hb5⟩
        have kk5 := h0.out.stay hb5
        have k5 : Hid (Kept w ((w5.heap.size, vls 400 (flw fun _ => 0), 58) :: [(w.heap.size + 1, vls 400 (flw (evK c kk t)), 58), (w.heap.size, vls 400 (flw fun _ => 0), 58), (gk, vls 400 (flw kk), T2), (gc, fls c, T1)]) (w5.alloc (.cells (vls 400 (flw fun _ => 0)) 58))) := hid (kk5.push _ _)
        have H5 := hid kk5.size
        have N5 := hid kk5.fresh
        clear kk5 hb5 h0 hFN hA
        go_wp2_with (have _t := k5; refine store_kept (w0 := w) (l := [(w.heap.size + 1, vls 400 (flw (evK c kk t)), 58), (w.heap.size, vls 400 (flw fun _ => 0), 58), (gk, vls 400 (flw kk), T2), (gc, fls c, T1)]) rfl 58 _ _ rfl (w5.heap.size) (vls 400 (flw (evK c kk t))) rfl rfl 58 (vls 400 (flw fun _ => 0)) k5.out H5.out N5.out (by rw [vls_size]; exact info_kern) (by simp) (vls_one (flw_one _)) (fun w6 k6 => ?_); replace k6 := hid k6; clear k5 H5 N5)
        refine (sLosses (evK c kk t) HA.out _ (w.heap.size + 1) 58 (k6.out.at (x := (w.heap.size + 1, vls 400 (flw (evK c kk t)), 58)) (by simp))).mono ?_
        rintro e w7 ⟨rfl, hb7⟩
        have kk7 := (k6.out.tail).stay hb7
        have k7 : Hid (Kept w ((w7.heap.size, fls fun _ => 0, 61) :: [(w.heap.size + 1, vls 400 (flw (evK c kk t)), 58), (w.heap.size, vls 400 (flw fun _ => 0), 58), (gk, vls 400 (flw kk), T2), (gc, fls c, T1)]) (w7.alloc (.cells (fls fun _ => 0) 61))) := hid (kk7.push _ _)
        have H7 := hid kk7.size
        have N7 := hid kk7.fresh
        clear kk7 hb7 k6
        go_wp2_with (first | (have _t := k7; refine store_kept (w0 := w) (l := [(w.heap.size + 1, vls 400 (flw (evK c kk t)), 58), (w.heap.size, vls 400 (flw fun _ => 0), 58), (gk, vls 400 (flw kk), T2), (gc, fls c, T1)]) rfl 61 _ _ rfl (w7.heap.size) (fls (lossN (evK c kk t))) rfl rfl 61 (fls fun _ => 0) k7.out H7.out N7.out (by rw [fls_size]; exact info_arr) (by simp) (fls_one _) (fun w8 k8 => ?_); replace k8 := hid k8; clear k7 N7; have H8 := hid k8.out.size; have N8 := hid k8.out.fresh; have k9 : Hid (Kept w ((w8.heap.size, fls fun _ => 0, 61) :: ((w7.heap.size, fls (lossN (evK c kk t)), 61) :: [(w.heap.size + 1, vls 400 (flw (evK c kk t)), 58), (w.heap.size, vls 400 (flw fun _ => 0), 58), (gk, vls 400 (flw kk), T2), (gc, fls c, T1)])) (w8.alloc (.cells (fls fun _ => 0) 61))) := hid (k8.out.push _ _); clear k8) | (have _t := k9; refine store_kept (w0 := w) (l := ((w7.heap.size, fls (lossN (evK c kk t)), 61) :: [(w.heap.size + 1, vls 400 (flw (evK c kk t)), 58), (w.heap.size, vls 400 (flw fun _ => 0), 58), (gk, vls 400 (flw kk), T2), (gc, fls c, T1)])) rfl 61 _ _ rfl (w8.heap.size) (fls fun _ => 0) rfl rfl 61 (fls fun _ => 0) k9.out H8.out N8.out (by rw [fls_size]; exact info_arr) (by simp) (fls_one _) (fun w10 k10 => ?_); replace k10 := hid k10; clear k9))
        have e0 : fls (prt (shareN c (lossN (evK c kk t))) (fun _ => 0) 0) = fls fun _ => 0 := fls_ext fun i _ => part_zero _ _ i
        have HLW := hid (show Wds (lossN (evK c kk t)) from fun i hi => nn_lt (sumF_nn 19 fun k hk => rowD_nn HA.out hi k (by omega)))
        go_loopw [16] (fun i wr => ∃ k : Nat, k ≤ 20 ∧ i = .int .i64 k ∧ Hid (Kept w ((w8.heap.size, fls (prt (shareN c (lossN (evK c kk t))) (fun _ => 0) k), 61) :: ((w7.heap.size, fls (lossN (evK c kk t)), 61) :: [(w.heap.size + 1, vls 400 (flw (evK c kk t)), 58), (w.heap.size, vls 400 (flw fun _ => 0), 58), (gk, vls 400 (flw kk), T2), (gc, fls c, T1)])) wr)) (fun i _ => 20 - (intOf i).toNat)
        case atStart => exact ⟨0, by omega, rfl, by rw [e0]; exact k10⟩
        case round =>
          obtain ⟨k, hk, rfl, h0⟩ := hrel
          clear k10 e0
          by_cases hlt : k < 20
          · have HK := hid hlt
            have hk3 : (k : Int) < 20 := by omega
            have S3 : arrAt wr w8.heap.size (prt (shareN c (lossN (evK c kk t))) (fun _ => 0) k) 61 := h0.out.at (x := (w8.heap.size, fls (prt (shareN c (lossN (evK c kk t))) (fun _ => 0) k), 61)) (by simp)
            have q3 := S3.cell HK.out
            have f3 := S3.frozen k
            have K1 := hid (h0.out.fcell (n := 20) (c := prt (shareN c (lossN (evK c kk t))) (fun _ => 0) k) H8.out N8.out k 1065353216)
            clear S3 h0
            rcases hg : (FloatKind.f32.format.order (lossN (evK c kk t) k) (c k) == some .gt) with _ | _
            · have hs : shareN c (lossN (evK c kk t)) k = 1065353216 := share_none hg
              go_wp2_with fail
              refine region_kept (w0 := w) (l := (w8.heap.size, fls (upd (prt (shareN c (lossN (evK c kk t))) (fun _ => 0) k) k 1065353216), 61) :: ((w7.heap.size, fls (lossN (evK c kk t)), 61) :: [(w.heap.size + 1, vls 400 (flw (evK c kk t)), 58), (w.heap.size, vls 400 (flw fun _ => 0), 58), (gk, vls 400 (flw kk), T2), (gc, fls c, T1)])) 9 #[false, false, false, false, false, false, false, false, false] (by kernel_rfl) rfl rfl ?_
              have kd := K1.out.drew
              clear K1 q3 f3
              generalize (wr.setCell ⟨w8.heap.size, k, none⟩ (.float .f32 1065353216)).drew = wd at kd ⊢
              refine take_val 0 _ _ (.int .i64 (k : Int)) rfl (by rfl) (by kernel_rfl) (by kernel_rfl) (by kernel_rfl) (fun w => by rfl) rfl rfl kd ?_
              refine take_val 3 _ _ (.pointer (some ⟨gc, 0, none⟩)) rfl (by rfl) (by kernel_rfl) (by kernel_rfl) (by kernel_rfl) (fun w => by rfl) rfl rfl kd ?_
              refine take_val 4 _ _ (.int .i64 (k : Int)) rfl (by rfl) (by kernel_rfl) (by kernel_rfl) (by kernel_rfl) (fun w => by rfl) rfl rfl kd ?_
              simp only [Act.put, List.setIfInBounds_toArray, List.set_cons_zero, List.set_cons_succ]
              refine take_val 5 _ _ (.pointer (some ⟨gc, 0, none⟩)) rfl (by rfl) (by kernel_rfl) (by kernel_rfl) (by kernel_rfl) (fun w => by unfold execOp; go_simp) rfl rfl kd ?_
              refine take_val 1 _ _ (.pointer (some ⟨w7.heap.size, k, none⟩)) rfl (by rfl) (by kernel_rfl) (by kernel_rfl) (by kernel_rfl) (fun w => by unfold execOp; go_simp) rfl rfl kd ?_
              simp only [Act.put, List.setIfInBounds_toArray, List.set_cons_zero, List.set_cons_succ]
              refine take_val 6 _ _ (.pointer (some ⟨gc, k, none⟩)) rfl (by rfl) (by kernel_rfl) (by kernel_rfl) (by kernel_rfl) (fun w => by unfold execOp; go_simp) rfl rfl kd ?_
              simp only [Act.put, List.setIfInBounds_toArray, List.set_cons_zero, List.set_cons_succ]
              refine take_cell 2 _ _ (.float .f32 (lossN (evK c kk t) k)) rfl (by rfl) (by kernel_rfl) (by kernel_rfl) (by kernel_rfl) (fun wq hS => by have hcell : wq.cell? ⟨w7.heap.size, k, none⟩ = some (.float .f32 (lossN (evK c kk t) k)) := (show arrAt wq w7.heap.size (lossN (evK c kk t)) 61 from hS.at (x := (w7.heap.size, fls (lossN (evK c kk t)), 61)) (by simp)).cell HK.out; clear hS; unfold execOp; go_simp) rfl rfl kd ?_
              refine take_cell 7 _ _ (.float .f32 (c k)) rfl (by rfl) (by kernel_rfl) (by kernel_rfl) (by kernel_rfl) (fun wq hS => by have hcell : wq.cell? ⟨gc, k, none⟩ = some (.float .f32 (c k)) := (show arrAt wq gc c T1 from hS.at (x := (gc, fls c, T1)) (by simp)).cell HK.out; clear hS; unfold execOp; go_simp) rfl rfl kd ?_
              simp only [Act.put, List.setIfInBounds_toArray, List.set_cons_zero, List.set_cons_succ]
              refine take_val 8 _ _ (.bool false) rfl (by rfl) (by kernel_rfl) (by kernel_rfl) (by kernel_rfl) (fun w => run_binop_val _ _ _ _ (by rfl) (by rfl) (by simp [eqGuard]) (by rw [← hg]; exact run_gt _ _ w)) rfl rfl kd ?_
              refine wpAnyH_done (by kernel_rfl) (NoPanic.normal ?_) _
              simp only [Act.put, List.setIfInBounds_toArray, List.set_cons_zero, List.set_cons_succ]
              have K2 : Hid (Kept w ((w8.heap.size, fls (prt (shareN c (lossN (evK c kk t))) (fun _ => 0) (k + 1)), 61) :: ((w7.heap.size, fls (lossN (evK c kk t)), 61) :: [(w.heap.size + 1, vls 400 (flw (evK c kk t)), 58), (w.heap.size, vls 400 (flw fun _ => 0), 58), (gk, vls 400 (flw kk), T2), (gc, fls c, T1)])) wd) := hid (by
                rw [← show upd (prt (shareN c (lossN (evK c kk t))) (fun _ => 0) k) k 1065353216 = prt (shareN c (lossN (evK c kk t))) (fun _ => 0) (k + 1) from funext fun i => by rw [← part_succ (shareN c (lossN (evK c kk t))) (fun _ => 0) k i, hs]]
                exact kd)
              clear kd hs hg
              go_wp2
              go_roundw
              case rel => exact ⟨k + 1, by have := HK.out; omega, by go_num, K2⟩
              case measure => have := HK.out; simp [intOf]; omega
            · have hd := share_ok (HC.out k HK.out) (HLW.out k HK.out) hg
              go_wp2_with fail
              refine region_kept (w0 := w) (l := (w8.heap.size, fls (upd (prt (shareN c (lossN (evK c kk t))) (fun _ => 0) k) k 1065353216), 61) :: ((w7.heap.size, fls (lossN (evK c kk t)), 61) :: [(w.heap.size + 1, vls 400 (flw (evK c kk t)), 58), (w.heap.size, vls 400 (flw fun _ => 0), 58), (gk, vls 400 (flw kk), T2), (gc, fls c, T1)])) 9 #[false, false, false, false, false, false, false, false, false] (by kernel_rfl) rfl rfl ?_
              have kd := K1.out.drew
              clear K1 q3 f3
              generalize (wr.setCell ⟨w8.heap.size, k, none⟩ (.float .f32 1065353216)).drew = wd at kd ⊢
              refine take_val 0 _ _ (.int .i64 (k : Int)) rfl (by rfl) (by kernel_rfl) (by kernel_rfl) (by kernel_rfl) (fun w => by rfl) rfl rfl kd ?_
              refine take_val 3 _ _ (.pointer (some ⟨gc, 0, none⟩)) rfl (by rfl) (by kernel_rfl) (by kernel_rfl) (by kernel_rfl) (fun w => by rfl) rfl rfl kd ?_
              refine take_val 4 _ _ (.int .i64 (k : Int)) rfl (by rfl) (by kernel_rfl) (by kernel_rfl) (by kernel_rfl) (fun w => by rfl) rfl rfl kd ?_
              simp only [Act.put, List.setIfInBounds_toArray, List.set_cons_zero, List.set_cons_succ]
              refine take_val 5 _ _ (.pointer (some ⟨gc, 0, none⟩)) rfl (by rfl) (by kernel_rfl) (by kernel_rfl) (by kernel_rfl) (fun w => by unfold execOp; go_simp) rfl rfl kd ?_
              refine take_val 1 _ _ (.pointer (some ⟨w7.heap.size, k, none⟩)) rfl (by rfl) (by kernel_rfl) (by kernel_rfl) (by kernel_rfl) (fun w => by unfold execOp; go_simp) rfl rfl kd ?_
              simp only [Act.put, List.setIfInBounds_toArray, List.set_cons_zero, List.set_cons_succ]
              refine take_val 6 _ _ (.pointer (some ⟨gc, k, none⟩)) rfl (by rfl) (by kernel_rfl) (by kernel_rfl) (by kernel_rfl) (fun w => by unfold execOp; go_simp) rfl rfl kd ?_
              simp only [Act.put, List.setIfInBounds_toArray, List.set_cons_zero, List.set_cons_succ]
              refine take_cell 2 _ _ (.float .f32 (lossN (evK c kk t) k)) rfl (by rfl) (by kernel_rfl) (by kernel_rfl) (by kernel_rfl) (fun wq hS => by have hcell : wq.cell? ⟨w7.heap.size, k, none⟩ = some (.float .f32 (lossN (evK c kk t) k)) := (show arrAt wq w7.heap.size (lossN (evK c kk t)) 61 from hS.at (x := (w7.heap.size, fls (lossN (evK c kk t)), 61)) (by simp)).cell HK.out; clear hS; unfold execOp; go_simp) rfl rfl kd ?_
              refine take_cell 7 _ _ (.float .f32 (c k)) rfl (by rfl) (by kernel_rfl) (by kernel_rfl) (by kernel_rfl) (fun wq hS => by have hcell : wq.cell? ⟨gc, k, none⟩ = some (.float .f32 (c k)) := (show arrAt wq gc c T1 from hS.at (x := (gc, fls c, T1)) (by simp)).cell HK.out; clear hS; unfold execOp; go_simp) rfl rfl kd ?_
              simp only [Act.put, List.setIfInBounds_toArray, List.set_cons_zero, List.set_cons_succ]
              refine take_val 8 _ _ (.bool true) rfl (by rfl) (by kernel_rfl) (by kernel_rfl) (by kernel_rfl) (fun w => run_binop_val _ _ _ _ (by rfl) (by rfl) (by simp [eqGuard]) (by rw [← hg]; exact run_gt _ _ w)) rfl rfl kd ?_
              refine wpAnyH_done (by kernel_rfl) (NoPanic.normal ?_) _
              simp only [Act.put, List.setIfInBounds_toArray, List.set_cons_zero, List.set_cons_succ]
              go_wp2_with fail
              refine region_kept (w0 := w) (l := ((w7.heap.size, fls (lossN (evK c kk t)), 61) :: [(w.heap.size + 1, vls 400 (flw (evK c kk t)), 58), (w.heap.size, vls 400 (flw fun _ => 0), 58), (gk, vls 400 (flw kk), T2), (gc, fls c, T1)])) 12 #[false, false, false, false, false, false, false, false, false, false, false, false] (by kernel_rfl) rfl rfl ?_
              have kd := kd.drew
              generalize wd.drew = wd at kd ⊢
              refine take_val 0 _ _ (.int .i64 (k : Int)) rfl (by rfl) (by kernel_rfl) (by kernel_rfl) (by kernel_rfl) (fun w => by rfl) rfl rfl kd.tail ?_
              refine take_val 1 _ _ (.pointer (some ⟨gc, 0, none⟩)) rfl (by rfl) (by kernel_rfl) (by kernel_rfl) (by kernel_rfl) (fun w => by rfl) rfl rfl kd.tail ?_
              refine take_val 2 _ _ (.int .i64 (k : Int)) rfl (by rfl) (by kernel_rfl) (by kernel_rfl) (by kernel_rfl) (fun w => by rfl) rfl rfl kd.tail ?_
              refine take_val 6 _ _ (.int .i64 (k : Int)) rfl (by rfl) (by kernel_rfl) (by kernel_rfl) (by kernel_rfl) (fun w => by rfl) rfl rfl kd.tail ?_
              simp only [Act.put, List.setIfInBounds_toArray, List.set_cons_zero, List.set_cons_succ]
              refine take_val 3 _ _ (.pointer (some ⟨gc, 0, none⟩)) rfl (by rfl) (by kernel_rfl) (by kernel_rfl) (by kernel_rfl) (fun w => by unfold execOp; go_simp) rfl rfl kd.tail ?_
              refine take_val 7 _ _ (.pointer (some ⟨w7.heap.size, k, none⟩)) rfl (by rfl) (by kernel_rfl) (by kernel_rfl) (by kernel_rfl) (fun w => by unfold execOp; go_simp) rfl rfl kd.tail ?_
              simp only [Act.put, List.setIfInBounds_toArray, List.set_cons_zero, List.set_cons_succ]
              refine take_val 4 _ _ (.pointer (some ⟨gc, k, none⟩)) rfl (by rfl) (by kernel_rfl) (by kernel_rfl) (by kernel_rfl) (fun w => by unfold execOp; go_simp) rfl rfl kd.tail ?_
              simp only [Act.put, List.setIfInBounds_toArray, List.set_cons_zero, List.set_cons_succ]
              refine take_cell 8 _ _ (.float .f32 (lossN (evK c kk t) k)) rfl (by rfl) (by kernel_rfl) (by kernel_rfl) (by kernel_rfl) (fun wq hS => by have hcell : wq.cell? ⟨w7.heap.size, k, none⟩ = some (.float .f32 (lossN (evK c kk t) k)) := (show arrAt wq w7.heap.size (lossN (evK c kk t)) 61 from hS.at (x := (w7.heap.size, fls (lossN (evK c kk t)), 61)) (by simp)).cell HK.out; clear hS; unfold execOp; go_simp) rfl rfl kd.tail ?_
              refine take_cell 5 _ _ (.float .f32 (c k)) rfl (by rfl) (by kernel_rfl) (by kernel_rfl) (by kernel_rfl) (fun wq hS => by have hcell : wq.cell? ⟨gc, k, none⟩ = some (.float .f32 (c k)) := (show arrAt wq gc c T1 from hS.at (x := (gc, fls c, T1)) (by simp)).cell HK.out; clear hS; unfold execOp; go_simp) rfl rfl kd.tail ?_
              simp only [Act.put, List.setIfInBounds_toArray, List.set_cons_zero, List.set_cons_succ]
              refine take_val 9 _ _ (.float .f32 (shareW (c k) (lossN (evK c kk t) k))) rfl (by rfl) (by kernel_rfl) (by kernel_rfl) (by kernel_rfl) (fun w => run_binop_val _ _ _ _ (by rfl) (by rfl) (by simp [eqGuard]) (run_float_arith w .quo 23 .f32 _ _ _ hd.1)) rfl rfl kd.tail ?_
              simp only [Act.put, List.setIfInBounds_toArray, List.set_cons_zero, List.set_cons_succ]
              refine take_val 10 _ _ (.pointer (some ⟨w8.heap.size, k, none⟩)) rfl (by rfl) (by kernel_rfl) (by kernel_rfl) (by kernel_rfl) (fun w => by unfold execOp; go_simp) rfl rfl kd.tail ?_
              simp only [Act.put, List.setIfInBounds_toArray, List.set_cons_zero, List.set_cons_succ]
              refine wpAnyH_ready (rs := [11]) (by kernel_rfl) (by simp) ?_
              refine storeCellK 11 _ kd H8.out N8.out rfl (by rfl) 23 _ _ rfl k (shareW (c k) (lossN (evK c kk t) k)) HK.out (by rfl) (by rfl) info_f32s rfl (fun wc kd => ?_) AllReadyH.nil
              refine ⟨kd.tail, ?_⟩
              refine wpAnyH_done (by kernel_rfl) (NoPanic.normal ?_) _
              simp only [Act.put]
              have K2 : Hid (Kept w ((w8.heap.size, fls (prt (shareN c (lossN (evK c kk t))) (fun _ => 0) (k + 1)), 61) :: ((w7.heap.size, fls (lossN (evK c kk t)), 61) :: [(w.heap.size + 1, vls 400 (flw (evK c kk t)), 58), (w.heap.size, vls 400 (flw fun _ => 0), 58), (gk, vls 400 (flw kk), T2), (gc, fls c, T1)])) wc) := hid (by
                rw [← show upd (upd (prt (shareN c (lossN (evK c kk t))) (fun _ => 0) k) k 1065353216) k (shareW (c k) (lossN (evK c kk t) k)) = prt (shareN c (lossN (evK c kk t))) (fun _ => 0) (k + 1) from funext fun i => by
                  rw [← part_succ (shareN c (lossN (evK c kk t))) (fun _ => 0) k i]
                  unfold upd shareN
                  split <;> rfl]
                exact kd)
              clear kd hd hg
              go_wp2
              go_roundw
              case rel => exact ⟨k + 1, by have := HK.out; omega, by go_num, K2⟩
              case measure => have := HK.out; simp [intOf]; omega
          · obtain rfl : k = 20 := by omega
            have eS : fls (prt (shareN c (lossN (evK c kk t))) (fun _ => 0) 20) = fls (shareN c (lossN (evK c kk t))) := fls_ext fun i hi => if_pos hi
            rw [eS] at h0
            have eP : vls 400 (flw (prt (evP c kk t (lossN (evK c kk t))) (evK c kk t) (0 * 20))) = vls 400 (flw (evK c kk t)) := vls_ext fun i _ => by unfold flw; rw [show (0 : Nat) * 20 = 0 from rfl, part_zero]
            have K0 : Hid (Kept w ((w.heap.size + 1, vls 400 (flw (prt (evP c kk t (lossN (evK c kk t))) (evK c kk t) (0 * 20))), 58) :: [(w8.heap.size, fls (shareN c (lossN (evK c kk t))), 61), (w.heap.size, vls 400 (flw fun _ => 0), 58), (gk, vls 400 (flw kk), T2), (gc, fls c, T1)]) wr) := hid (by rw [eP]; exact h0.out.sub (by simp))
            have N2 : Hid (∀ y ∈ ([(w8.heap.size, fls (shareN c (lossN (evK c kk t))), 61), (w.heap.size, vls 400 (flw fun _ => 0), 58), (gk, vls 400 (flw kk), T2), (gc, fls c, T1)] : List (Nat × Array Value × TypeId)), y.1 ≠ w.heap.size + 1) := hid (by
              intro y hy
              have h8 := Ne.symm (N8.out (w.heap.size + 1, vls 400 (flw (evK c kk t)), 58) (by simp))
              have := HNEQ.out y
              simp only [List.mem_cons, List.not_mem_nil, or_false] at hy this
              rcases hy with rfl | rfl | rfl | rfl
              · exact h8
              · exact this (.inl rfl)
              · exact this (.inr (.inl rfl))
              · exact this (.inr (.inr rfl)))
            have HP := hid (fun n hn => evP_amt HC.out HLW.out HA.out n hn)
            clear h0 eS eP hlt hk
            go_wp2_with fail
            go_loopw [17] (fun i wr => ∃ k : Nat, k ≤ 20 ∧ i = .int .i64 k ∧ Hid (Kept w ((w.heap.size + 1, vls 400 (flw (prt (evP c kk t (lossN (evK c kk t))) (evK c kk t) (k * 20))), 58) :: [(w8.heap.size, fls (shareN c (lossN (evK c kk t))), 61), (w.heap.size, vls 400 (flw fun _ => 0), 58), (gk, vls 400 (flw kk), T2), (gc, fls c, T1)]) wr)) (fun i _ => 20 - (intOf i).toNat)
            case atStart => exact ⟨0, by omega, rfl, K0⟩
            case round =>
              obtain ⟨k, hk, rfl, h0⟩ := hrel
              clear K0
              by_cases hlt : k < 20
              · have HK := hid hlt
                have hk3 : (k : Int) < 20 := by omega
                go_wp2_with fail
                go_loopw [18] (fun i wr => ∃ j : Nat, j ≤ 20 ∧ i = .int .i64 j ∧ Hid (Kept w ((w.heap.size + 1, vls 400 (flw (prt (evP c kk t (lossN (evK c kk t))) (evK c kk t) (k * 20 + j))), 58) :: [(w8.heap.size, fls (shareN c (lossN (evK c kk t))), 61), (w.heap.size, vls 400 (flw fun _ => 0), 58), (gk, vls 400 (flw kk), T2), (gc, fls c, T1)]) wr)) (fun i _ => 20 - (intOf i).toNat)
                case atStart => exact ⟨0, by omega, rfl, h0⟩
                case round =>
                  clear h0
                  obtain ⟨j, hj, rfl, h0⟩ := hrel
                  by_cases hlj : j < 20
                  · have HJ := hid hlj
                    have hj3 : (j : Int) < 20 := by omega
                    have hn : k * 20 + j < 400 := by omega
                    have S8 : arrAt wr w8.heap.size (shareN c (lossN (evK c kk t))) 61 := h0.out.at (x := (w8.heap.size, fls (shareN c (lossN (evK c kk t))), 61)) (by simp)
                    have q1 := S8.cell HK.out
                    have q2 := S8.cell HJ.out
                    have a1 : amtB (shareN c (lossN (evK c kk t)) k) = true ∧ shareN c (lossN (evK c kk t)) k ≤ 1065353216 := shareW_amt (HC.out k HK.out) (HLW.out k HK.out)
                    have a2 : amtB (shareN c (lossN (evK c kk t)) j) = true ∧ shareN c (lossN (evK c kk t)) j ≤ 1065353216 := shareW_amt (HC.out j HJ.out) (HLW.out j HJ.out)
                    have hcmp : (FloatKind.f32.format.order (shareN c (lossN (evK c kk t)) j) (shareN c (lossN (evK c kk t)) k) == some .lt) = decide (shareN c (lossN (evK c kk t)) j < shareN c (lossN (evK c kk t)) k) := by
                      rw [show FloatKind.f32.format.order (shareN c (lossN (evK c kk t)) j) (shareN c (lossN (evK c kk t)) k) = some (compare (shareN c (lossN (evK c kk t)) j) (shareN c (lossN (evK c kk t)) k)) from ord_pp (Nat.le_of_lt (amtB_iff.1 a2.1)) (amtB_iff.1 a1.1)]
                      rcases Nat.lt_trichotomy (shareN c (lossN (evK c kk t)) j) (shareN c (lossN (evK c kk t)) k) with h | h | h
                      · rw [Nat.compare_eq_lt.2 h, decide_eq_true h]; rfl
                      · rw [Nat.compare_eq_eq.2 h, decide_eq_false (by omega)]; rfl
                      · rw [Nat.compare_eq_gt.2 h, decide_eq_false (by omega)]; rfl
                    have eP : evP c kk t (lossN (evK c kk t)) (k * 20 + j) = fmul (evK c kk t (k * 20 + j)) (min (shareN c (lossN (evK c kk t)) k) (shareN c (lossN (evK c kk t)) j)) := by
                      have h1 : amtB (evK c kk t (k * 20 + j)) = true := HA.out _ hn
                      unfold evP
                      rw [show (k * 20 + j) / 20 = k by omega, show (k * 20 + j) % 20 = j by omega]
                      exact if_pos h1
                    by_cases hlt2 : shareN c (lossN (evK c kk t)) j < shareN c (lossN (evK c kk t)) k
                    · rw [decide_eq_true hlt2] at hcmp
                      have hmin : min (shareN c (lossN (evK c kk t)) k) (shareN c (lossN (evK c kk t)) j) = shareN c (lossN (evK c kk t)) j := Nat.min_eq_right (Nat.le_of_lt hlt2)
                      clear hlt2
                      go_wp2_with fail
                      clear hcmp
                      clear S8 q1 q2
                      have r2 := fun w => run_mul (P := Try.prog) 23 (HA.out _ hn) a2.1 w
                      go_wp2_with fail
                      have h0 := hid h0.out.drew
                      refine wp_region_still_tail 11 (by kernel_rfl) (by kernel_rfl) ?_
                      change wpStill _ _ wr.drew (fun a' => wpList _ _ _ _ a' wr.drew) _ _
                      simp only [List.take_succ_cons, List.take_zero, List.drop_succ_cons, List.drop_zero]
                      generalize wr.drew = w3 at h0 ⊢
                      obtain ⟨v, hv⟩ : ∃ v, fmul (evK c kk t (k * 20 + j)) (shareN c (lossN (evK c kk t)) j) = v := ⟨_, rfl⟩
                      have EV := hid (show v = evP c kk t (lossN (evK c kk t)) (k * 20 + j) by rw [eP, hmin]; exact hv.symm)
                      rw [hv] at r2
                      clear hv eP hmin a1 a2
                      have S9 := h0.out.at (x := (w.heap.size + 1, vls 400 (flw (prt (evP c kk t (lossN (evK c kk t))) (evK c kk t) (k * 20 + j))), 58)) (by simp)
                      have q0 : w3.cell? ⟨w.heap.size + 1, k * 20 + j, none⟩ = some (.float .f32 (evK c kk t (k * 20 + j))) := (vAt.fcell S9 hn).trans (by rw [part_here])
                      have f0 := vAt.frozen S9 (k * 20 + j)
                      have K1 := h0.out.fcell (n := 400) (c := prt (evP c kk t (lossN (evK c kk t))) (evK c kk t) (k * 20 + j)) (by omega) N2.out (k * 20 + j) v
                      have K2 : Hid (Kept w ((w.heap.size + 1, vls 400 (flw (prt (evP c kk t (lossN (evK c kk t))) (evK c kk t) (k * 20 + (j + 1)))), 58) :: [(w8.heap.size, fls (shareN c (lossN (evK c kk t))), 61), (w.heap.size, vls 400 (flw fun _ => 0), 58), (gk, vls 400 (flw kk), T2), (gc, fls c, T1)]) (w3.setCell ⟨w.heap.size + 1, k * 20 + j, none⟩ (.float .f32 v))) := hid (by
                        rw [← show upd (prt (evP c kk t (lossN (evK c kk t))) (evK c kk t) (k * 20 + j)) (k * 20 + j) v = prt (evP c kk t (lossN (evK c kk t))) (evK c kk t) (k * 20 + (j + 1)) from funext fun i => by rw [EV.out]; exact part_succ (evP c kk t (lossN (evK c kk t))) (evK c kk t) (k * 20 + j) i]
                        exact K1)
                      clear S9 K1 h0 EV
                      iterate 8 still_step
                      refine still_val rfl (.float .f32 v) (run_binop_val _ _ _ _ (by rfl) (by rfl) (by simp [eqGuard]) (r2 _)) ?_
                      simp only [Act.put, List.setIfInBounds_toArray, List.set_cons_zero, List.set_cons_succ]
                      repeat still_step
                      refine wpStill_nil ?_
                      clear r2
                      go_wp2
                      go_roundw
                      case rel => exact ⟨j + 1, by have := HJ.out; omega, by go_num, K2⟩
                      case measure => have := HJ.out; simp [intOf]; omega
                    · rw [decide_eq_false hlt2] at hcmp
                      have hmin : min (shareN c (lossN (evK c kk t)) k) (shareN c (lossN (evK c kk t)) j) = shareN c (lossN (evK c kk t)) k := Nat.min_eq_left (Nat.le_of_not_lt hlt2)
                      clear hlt2
                      go_wp2_with fail
                      clear hcmp
                      clear S8 q1 q2
                      have r2 := fun w => run_mul (P := Try.prog) 23 (HA.out _ hn) a1.1 w
                      go_wp2_with fail
                      have h0 := hid h0.out.drew
                      refine wp_region_still_tail 11 (by kernel_rfl) (by kernel_rfl) ?_
                      change wpStill _ _ wr.drew (fun a' => wpList _ _ _ _ a' wr.drew) _ _
                      simp only [List.take_succ_cons, List.take_zero, List.drop_succ_cons, List.drop_zero]
                      generalize wr.drew = w3 at h0 ⊢
                      obtain ⟨v, hv⟩ : ∃ v, fmul (evK c kk t (k * 20 + j)) (shareN c (lossN (evK c kk t)) k) = v := ⟨_, rfl⟩
                      have EV := hid (show v = evP c kk t (lossN (evK c kk t)) (k * 20 + j) by rw [eP, hmin]; exact hv.symm)
                      rw [hv] at r2
                      clear hv eP hmin a1 a2
                      have S9 := h0.out.at (x := (w.heap.size + 1, vls 400 (flw (prt (evP c kk t (lossN (evK c kk t))) (evK c kk t) (k * 20 + j))), 58)) (by simp)
                      have q0 : w3.cell? ⟨w.heap.size + 1, k * 20 + j, none⟩ = some (.float .f32 (evK c kk t (k * 20 + j))) := (vAt.fcell S9 hn).trans (by rw [part_here])
                      have f0 := vAt.frozen S9 (k * 20 + j)
                      have K1 := h0.out.fcell (n := 400) (c := prt (evP c kk t (lossN (evK c kk t))) (evK c kk t) (k * 20 + j)) (by omega) N2.out (k * 20 + j) v
                      have K2 : Hid (Kept w ((w.heap.size + 1, vls 400 (flw (prt (evP c kk t (lossN (evK c kk t))) (evK c kk t) (k * 20 + (j + 1)))), 58) :: [(w8.heap.size, fls (shareN c (lossN (evK c kk t))), 61), (w.heap.size, vls 400 (flw fun _ => 0), 58), (gk, vls 400 (flw kk), T2), (gc, fls c, T1)]) (w3.setCell ⟨w.heap.size + 1, k * 20 + j, none⟩ (.float .f32 v))) := hid (by
                        rw [← show upd (prt (evP c kk t (lossN (evK c kk t))) (evK c kk t) (k * 20 + j)) (k * 20 + j) v = prt (evP c kk t (lossN (evK c kk t))) (evK c kk t) (k * 20 + (j + 1)) from funext fun i => by rw [EV.out]; exact part_succ (evP c kk t (lossN (evK c kk t))) (evK c kk t) (k * 20 + j) i]
                        exact K1)
                      clear S9 K1 h0 EV
                      iterate 8 still_step
                      refine still_val rfl (.float .f32 v) (run_binop_val _ _ _ _ (by rfl) (by rfl) (by simp [eqGuard]) (r2 _)) ?_
                      simp only [Act.put, List.setIfInBounds_toArray, List.set_cons_zero, List.set_cons_succ]
                      repeat still_step
                      refine wpStill_nil ?_
                      clear r2
                      go_wp2
                      go_roundw
                      case rel => exact ⟨j + 1, by have := HJ.out; omega, by go_num, K2⟩
                      case measure => have := HJ.out; simp [intOf]; omega
                  · obtain rfl : j = 20 := by omega
                    go_wp2
                    go_roundw
                    case rel => exact ⟨k + 1, by have := HK.out; omega, by go_num, by rw [show (k + 1) * 20 = k * 20 + 20 by omega]; exact h0⟩
                    case measure => have := HK.out; simp [intOf]; omega
              · obtain rfl : k = 20 := by omega
                have eQ : vls 400 (flw (prt (evP c kk t (lossN (evK c kk t))) (evK c kk t) (20 * 20))) = vls 400 (flw (evP c kk t (lossN (evK c kk t)))) := vls_ext fun i hi => by unfold flw; rw [show prt (evP c kk t (lossN (evK c kk t))) (evK c kk t) (20 * 20) i = evP c kk t (lossN (evK c kk t)) i from if_pos hi]
                rw [eQ] at h0
                have b := h0.out.1
                go_wp2_with (first | (refine wpList_load_row rfl 58 _ rfl (w.heap.size + 1) rfl 58 (vls 400 (flw (evP c kk t (lossN (evK c kk t))))) (0, 0) _ (h0.out.at (x := (w.heap.size + 1, vls 400 (flw (evP c kk t (lossN (evK c kk t)))), 58)) (by simp)) Try.underlying58 rfl (by rw [vls_size]; exact info_kern) ?_) | (have _t := h0; refine wpList_store_row rfl 58 _ _ rfl (w.heap.size) (vls 400 (flw (evP c kk t (lossN (evK c kk t))))) rfl rfl 58 _ (h0.out.at (x := (w.heap.size, vls 400 (flw fun _ => 0), 58)) (by simp)) (by rw [vls_size]; exact info_kern) (by simp) (vls_one (flw_one _)) ?_))
                exact bodyPost_ret (results_row_tmp rfl _ _ (w.heap.size) 58 (vls 400 (flw (evP c kk t (lossN (evK c kk t))))) (0, 0) _ rfl ((show vAt wr w.heap.size 400 (flw fun _ => 0) 58 from h0.out.at (x := (w.heap.size, vls 400 (flw fun _ => 0), 58)) (by simp)).setRow (flw (evP c kk t (lossN (evK c kk t))))) Try.underlying58 rfl (by rw [vls_size]; exact info_kern)) rfl ⟨rfl, below_row b (Nat.le_refl _) _⟩
      · obtain ⟨rfl, rfl⟩ := HR2.out hA
        have hFN : ¬ FinN M 400 := fun hf => hA fun n hn => by
          have h1 := (hM.out (n / 20) (n % 20) (by omega) (by omega) (by omega)).2.2
          rw [show n / 20 * 20 + n % 20 = n by omega, hf n hn] at h1
          rcases h2 : finB (evN c kk t (n / 20) (n % 20)) with _ | _
          · exact absurd (h1 h2) (by decide)
          · exact (nn_amt (evN_nn HT.out _ _)).trans h2
        have hMl : ∀ n, n < 400 → M n < 4294967296 := fun n hn => by
          have := (hM.out (n / 20) (n % 20) (by omega) (by omega) (by omega)).1
          rwa [show n / 20 * 20 + n % 20 = n by omega] at this
        clear HR HR2 hM hk
        go_wp2_with (refine wpList_load_row rfl 58 _ rfl (w.heap.size + 1) rfl 58 (vls 400 (flw M)) (0, 0) _ (h0.out.at (x := (w.heap.size + 1, vls 400 (flw M), 58)) (by simp)) Try.underlying58 rfl (by rw [vls_size]; exact info_kern) ?_)
        refine (sTold3 M hMl (fun _ => 0) 4 (fun h => absurd h hFN) (fun _ => ⟨rfl, rfl⟩) _).mono ?_
        rintro e w5 ⟨rfl, hb5⟩
        have kk5 := h0.out.stay hb5
        have k5 : Hid (Kept w ((w5.heap.size, vls 400 (flw fun _ => 0), 58) :: [(w.heap.size + 1, vls 400 (flw M), 58), (w.heap.size, vls 400 (flw fun _ => 0), 58), (gk, vls 400 (flw kk), T2), (gc, fls c, T1)]) (w5.alloc (.cells (vls 400 (flw fun _ => 0)) 58))) := hid (kk5.push _ _)
        have H5 := hid kk5.size
        have N5 := hid kk5.fresh
        clear kk5 hb5 h0 hFN hMl hA
        go_wp2_with (first | (have _t := k5; refine store_kept (w0 := w) (l := [(w.heap.size + 1, vls 400 (flw M), 58), (w.heap.size, vls 400 (flw fun _ => 0), 58), (gk, vls 400 (flw kk), T2), (gc, fls c, T1)]) rfl 58 _ _ rfl (w5.heap.size) (vls 400 (flw fun _ => 0)) rfl rfl 58 (vls 400 (flw fun _ => 0)) k5.out H5.out N5.out (by rw [vls_size]; exact info_kern) (by simp) (vls_one (flw_one _)) (fun w6 k6 => ?_); replace k6 := hid k6; clear k5 H5 N5) | (have _t := k6; refine wpList_store_row rfl 58 _ _ rfl (w.heap.size) (vls 400 (flw fun _ => 0)) rfl rfl 58 _ (k6.out.at (x := (w.heap.size, vls 400 (flw fun _ => 0), 58)) (by simp)) (by rw [vls_size]; exact info_kern) (by simp) (vls_one (flw_one _)) ?_))
        exact bodyPost_ret (results_row_tmp rfl _ _ (w.heap.size) 58 (vls 400 (flw fun _ => 0)) (0, 0) _ rfl ((show vAt w6 w.heap.size 400 (flw fun _ => 0) 58 from k6.out.at (x := (w.heap.size, vls 400 (flw fun _ => 0), 58)) (by simp)).setRow (flw fun _ => 0)) Try.underlying58 rfl (by rw [vls_size]; exact info_kern)) rfl ⟨rfl, below_row k6.out.1 (Nat.le_refl _) _⟩

theorem run_toKernel1 (a : Act) (x0 : Operand) (v0 : Value) (h0 : a.eval x0 = v0) (d : Option Tmp) (ats : Array TypeId) (t : TypeId) (ps : String) (af : Array Edge) (gd : Option (Nat × Bool)) (w : World) :
    (execOp a.eval ⟨d, .call { callee := .value (.func 40), args := #[x0], argTypes := ats }, t, ps, af, gd⟩).run Try.prog w = .ok (.enter 40 #[v0]) w := by
  subst h0
  unfold execOp
  go_simp

set_option maxRecDepth 100000 in
theorem sColl_ok (c kk : Nat → Nat) (t : Nat) (hc : Amts c) (hb : ∀ i, i < 400 → kk i < 4294967296) (hkk : KOk kk) (hl : t < 4294967296) (q : Bool) (ht : amtB t = q) (gc gk : Nat) (T1 T2 : TypeId) (w : World) (h1 : arrAt w gc c T1) (h2 : vAt w gk 400 (flw kk) T2) :
    Calls Try.prog 106 #[.pointer (some ⟨gc, 0, none⟩), .pointer (some ⟨gk, 0, none⟩), .float .f32 t] w fun e w' => e = .returned (.int .i64 (if q = true then 0 else 2)) ∧ Below w.heap.size w w' := by
  have HV := fun w2 (hb2 : Below w.heap.size w w2) => sKOk kk hb true ⟨fun _ => hkk, fun _ => rfl⟩ w2 gk T2 (h2.stay hb2)
  have HC := loose (sOk_t c hc w gc T1 h1)
  have HT := hid ht
  have HL := hid hl
  have HV := hid HV
  have HC := hid HC
  clear hc hb hkk ht hl h1 h2
  go_enter Try.func106, Try.ntmps106
  go_wp2_with fail
  refine HC.out.mono ?_
  rintro e w1 ⟨rfl, hb1⟩
  have HB1 := hid hb1
  clear hb1
  go_wp2_with fail
  refine (HV.out _ HB1.out).mono ?_
  rintro e w2 ⟨rfl, hb2⟩
  have HB2 := hid (HB1.out.trans (hb2.mono HB1.out.size))
  clear hb2 HV HB1
  rcases q with _ | _
  · go_wp2_with fail
    refine (sAmount_fq t HL.out HT.out _).mono ?_
    rintro e w3 ⟨rfl, m, rfl⟩
    go_wp2
    go_ret
    exact ⟨rfl, below_drewN HB2.out m⟩
  · go_wp2_with fail
    refine (sAmount_t t HT.out _).mono ?_
    rintro e w3 ⟨rfl, rfl⟩
    go_wp2
    go_ret
    exact ⟨rfl, HB2.out⟩

set_option maxRecDepth 100000 in
theorem sColl_bad1 (c : Nat → Nat) (t : Nat) (hw : Wds c) (hc : ¬ Amts c) (gc gk : Nat) (T1 : TypeId) (w : World) (h1 : arrAt w gc c T1) :
    Calls Try.prog 106 #[.pointer (some ⟨gc, 0, none⟩), .pointer (some ⟨gk, 0, none⟩), .float .f32 t] w fun e w' => e = .returned (.int .i64 1) ∧ Below w.heap.size w w' := by
  have HC := hid (sOk_f c hw hc w gc T1 h1)
  clear hw hc h1
  go_enter Try.func106, Try.ntmps106
  go_wp2_with fail
  refine HC.out.mono ?_
  rintro e w1 ⟨rfl, hb1⟩
  have HB1 := hid hb1
  clear hb1
  go_wp2
  go_ret
  exact ⟨rfl, HB1.out⟩

set_option maxRecDepth 100000 in
theorem sColl_bad2 (c kk : Nat → Nat) (t : Nat) (hc : Amts c) (hb : ∀ i, i < 400 → kk i < 4294967296) (hkk : ¬ KOk kk) (gc gk : Nat) (T1 T2 : TypeId) (w : World) (h1 : arrAt w gc c T1) (h2 : vAt w gk 400 (flw kk) T2) :
    Calls Try.prog 106 #[.pointer (some ⟨gc, 0, none⟩), .pointer (some ⟨gk, 0, none⟩), .float .f32 t] w fun e w' => e = .returned (.int .i64 1) ∧ Below w.heap.size w w' := by
  have HV := hid (fun w2 (hb2 : Below w.heap.size w w2) => sKOk kk hb false ⟨fun h => Bool.noConfusion h, fun h => absurd h hkk⟩ w2 gk T2 (h2.stay hb2))
  have HC := hid (loose (sOk_t c hc w gc T1 h1))
  clear hc hb hkk h1 h2
  go_enter Try.func106, Try.ntmps106
  go_wp2_with fail
  refine HC.out.mono ?_
  rintro e w1 ⟨rfl, hb1⟩
  have HB1 := hid hb1
  clear hb1
  go_wp2_with fail
  refine (HV.out _ HB1.out).mono ?_
  rintro e w2 ⟨rfl, hb2⟩
  have HB2 := hid (HB1.out.trans (hb2.mono HB1.out.size))
  clear hb2 HV HB1
  go_wp2
  go_ret
  exact ⟨rfl, HB2.out⟩

/-- What is asked of the arguments: 0, 1 or 2. -/
def askQ (va vk vt : Bool) : Int := if va && vk then (if vt then 0 else 2) else 1

theorem sColl (c kk : Nat → Nat) (t : Nat) (hw : Wds c) (hb : ∀ i, i < 400 → kk i < 4294967296) (hl : t < 4294967296) (va vk : Bool) (ha : va = true ↔ Amts c) (hk : vk = true ↔ KOk kk) (gc gk : Nat) (T1 T2 : TypeId) (w : World) (h1 : arrAt w gc c T1) (h2 : vAt w gk 400 (flw kk) T2) :
    Calls Try.prog 106 #[.pointer (some ⟨gc, 0, none⟩), .pointer (some ⟨gk, 0, none⟩), .float .f32 t] w fun e w' => e = .returned (.int .i64 (askQ va vk (amtB t))) ∧ Below w.heap.size w w' := by
  cases va
  · exact sColl_bad1 c t hw (fun h => Bool.noConfusion (ha.2 h)) gc gk T1 w h1
  · cases vk
    · exact sColl_bad2 c kk t (ha.1 rfl) hb (fun h => Bool.noConfusion (hk.2 h)) gc gk T1 T2 w h1 h2
    · exact sColl_ok c kk t (ha.1 rfl) hb (hk.1 rfl) hl (amtB t) rfl gc gk T1 T2 w h1 h2

theorem iColl (c kk : Nat → Nat) (t : Nat) (hw : Wds c) (hb : ∀ i, i < 400 → kk i < 4294967296) (hl : t < 4294967296) (va vk : Bool) (ha : va = true ↔ Amts c) (hk : vk = true ↔ KOk kk) (w : World) :
    Calls Try.prog 109 #[.agg (fls c), .agg (vls 400 (flw kk)), .float .f32 t] w fun e w' => e = .returned (.int .i64 (askQ va vk (amtB t))) ∧ Below w.heap.size w w' := by
  cases va
  · exact iColl_bad1 c kk t hw (fun h => Bool.noConfusion (ha.2 h)) w
  · cases vk
    · exact iColl_bad2 c kk t (ha.1 rfl) hb (fun h => Bool.noConfusion (hk.2 h)) w
    · exact iColl_ok c kk t (ha.1 rfl) hb (hk.1 rfl) hl (amtB t) rfl w

/-- What both tell behind collisions of what may collide. -/
theorem collide_in (c kk : Nat → Nat) (t : Nat) (hc : Amts c) (hb : ∀ i, i < 400 → kk i < 4294967296) (hk : KOk kk) (ht : amtB t = true) : ∃ (res : Nat → Nat) (n : Int),
    (∀ w, Calls Try.prog 47 #[.agg (fls c), .agg (vls 400 (flw kk)), .float .f32 t] w fun e w' => e = .returned (.tuple #[.agg (fls res), .int .i64 n]) ∧ Below w.heap.size w w') ∧
    (∀ w gc gk T1 T2, arrAt w gc c T1 → vAt w gk 400 (flw kk) T2 → Calls Try.prog 118 #[.pointer (some ⟨gc, 0, none⟩), .pointer (some ⟨gk, 0, none⟩), .float .f32 t] w fun e w' => e = .returned (.tuple #[.agg (fls res), .int .i64 n]) ∧ Below w.heap.size w w') ∧ (n = 0 → Amts res) ∧ (n ≠ 0 → n = 4 ∧ res = fun _ => 0) := by
  by_cases h : AmtK (evK c kk t)
  · have hL : Wds (lossN (evK c kk t)) := fun i hi => nn_lt (sumF_nn 19 fun k hk => rowD_nn h hi k (by omega))
    have hP := evP_amt (c := c) (kk := kk) (t := t) hc hL h
    have hD := no_drops (c := c) (kk := kk) (t := t) hc hk.1 ht hL
    have hI := iEventsOf_ok c kk t hc hb hk ht _ 0 (fun _ => ⟨rfl, rfl⟩) (fun h' => absurd h h')
    have hS := fun w gc gk T1 T2 h1 h2 => sEvents c kk t hc hk.1 ht _ 0 (fun _ => ⟨rfl, rfl⟩) (fun h' => absurd h h') w gc gk T1 T2 h1 h2
    generalize evP c kk t (lossN (evK c kk t)) = r at hP hD hI hS
    by_cases hF : Fins (colN c r 400)
    · exact ⟨colN c r 400, 0, iCollide_of c kk t r 0 hI (fun _ => ⟨hc, hP, hD⟩) _ 0 (fun _ _ => ⟨rfl, rfl⟩) (fun _ h' => absurd hF h') (fun h' => absurd rfl h'),
        fun w gc gk T1 T2 h1 h2 => sCollide c kk t r 0 hS hc (fun _ => hP) _ 0 (fun _ _ => ⟨rfl, rfl⟩) (fun _ h' => absurd hF h') (fun h' => absurd rfl h') w gc gk T1 T2 h1 h2,
        fun _ => fins_amts (col_nn hc hP 400 (Nat.le_refl _)) hF, fun h' => absurd rfl h'⟩
    · exact ⟨fun _ => 0, 4, iCollide_of c kk t r 0 hI (fun _ => ⟨hc, hP, hD⟩) _ 4 (fun _ h' => absurd h' hF) (fun _ _ => ⟨rfl, rfl⟩) (fun h' => absurd rfl h'),
        fun w gc gk T1 T2 h1 h2 => sCollide c kk t r 0 hS hc (fun _ => hP) _ 4 (fun _ h' => absurd h' hF) (fun _ _ => ⟨rfl, rfl⟩) (fun h' => absurd rfl h') w gc gk T1 T2 h1 h2,
        fun h' => by omega, fun _ => ⟨rfl, rfl⟩⟩
  · have hI := iEventsOf_ok c kk t hc hb hk ht (fun _ => 0) 4 (fun h' => absurd h' h) (fun _ => ⟨rfl, rfl⟩)
    have hS := fun w gc gk T1 T2 h1 h2 => sEvents c kk t hc hk.1 ht (fun _ => 0) 4 (fun h' => absurd h' h) (fun _ => ⟨rfl, rfl⟩) w gc gk T1 T2 h1 h2
    exact ⟨fun _ => 0, 4, iCollide_of c kk t _ 4 hI (fun h' => by omega) _ 4 (fun h' => by omega) (fun h' => by omega) (fun _ => ⟨rfl, rfl⟩),
      fun w gc gk T1 T2 h1 h2 => sCollide c kk t _ 4 hS hc (fun h' => by omega) _ 4 (fun h' => by omega) (fun h' => by omega) (fun _ => ⟨rfl, rfl⟩) w gc gk T1 T2 h1 h2,
      fun h' => by omega, fun _ => ⟨rfl, rfl⟩⟩

/-- Arguments that may not collide: what is asked of them. -/
theorem ask_cases (c kk : Nat → Nat) (hw : Wds c) (hb : ∀ i, i < 400 → kk i < 4294967296) (t : Nat) (hl : t < 4294967296) (hn : ¬ (Amts c ∧ KOk kk ∧ amtB t = true)) : ∃ q : Int, (q = 1 ∨ q = 2) ∧
    (∀ gc gk T1 T2 w, arrAt w gc c T1 → vAt w gk 400 (flw kk) T2 → Calls Try.prog 106 #[.pointer (some ⟨gc, 0, none⟩), .pointer (some ⟨gk, 0, none⟩), .float .f32 t] w fun e w' => e = .returned (.int .i64 q) ∧ Below w.heap.size w w') ∧
    (∀ w, Calls Try.prog 109 #[.agg (fls c), .agg (vls 400 (flw kk)), .float .f32 t] w fun e w' => e = .returned (.int .i64 q) ∧ Below w.heap.size w w') := by
  have go : ∀ (q : Int) (va vk : Bool), (va = true ↔ Amts c) → (vk = true ↔ KOk kk) → askQ va vk (amtB t) = q → (q = 1 ∨ q = 2) → ∃ q : Int, (q = 1 ∨ q = 2) ∧
    (∀ gc gk T1 T2 w, arrAt w gc c T1 → vAt w gk 400 (flw kk) T2 → Calls Try.prog 106 #[.pointer (some ⟨gc, 0, none⟩), .pointer (some ⟨gk, 0, none⟩), .float .f32 t] w fun e w' => e = .returned (.int .i64 q) ∧ Below w.heap.size w w') ∧
    (∀ w, Calls Try.prog 109 #[.agg (fls c), .agg (vls 400 (flw kk)), .float .f32 t] w fun e w' => e = .returned (.int .i64 q) ∧ Below w.heap.size w w') := fun q va vk ha hk hq h1 =>
    ⟨q, h1, fun gc gk T1 T2 w h1 h2 => hq ▸ sColl c kk t hw hb hl va vk ha hk gc gk T1 T2 w h1 h2, fun w => hq ▸ iColl c kk t hw hb hl va vk ha hk w⟩
  by_cases hc : Amts c
  · by_cases hk : KOk kk
    · rcases ht : amtB t with _ | _
      · exact go 2 true true ⟨fun _ => hc, fun _ => rfl⟩ ⟨fun _ => hk, fun _ => rfl⟩ (by rw [ht]; rfl) (.inr rfl)
      · exact absurd ⟨hc, hk, ht⟩ hn
    · exact go 1 true false ⟨fun _ => hc, fun _ => rfl⟩ ⟨fun h => Bool.noConfusion h, fun h => absurd h hk⟩ rfl (.inl rfl)
  · by_cases hk : KOk kk
    · exact go 1 false true ⟨fun h => Bool.noConfusion h, fun h => absurd h hc⟩ ⟨fun _ => hk, fun _ => rfl⟩ rfl (.inl rfl)
    · exact go 1 false false ⟨fun h => Bool.noConfusion h, fun h => absurd h hc⟩ ⟨fun h => Bool.noConfusion h, fun h => absurd h hk⟩ rfl (.inl rfl)

theorem words_cons : ∀ (v : List Char) (r : List Char), (∀ c ∈ v, c ≠ Char.ofNat 32) → wordsSigns (v ++ Char.ofNat 32 :: r) = v :: wordsSigns r
  | [], r, _ => rfl
  | c :: v, r, h => by
    have ih := words_cons v r (fun x hx => h x (by simp [hx]))
    have hc : c ≠ Char.ofNat 32 := h c (by simp)
    show wordsSigns (c :: (v ++ Char.ofNat 32 :: r)) = _
    rw [wordsSigns.eq_3 _ _ (fun e => hc e), ih]

def w0 : List Nat := [104, 97, 114, 110, 101, 115, 115]

def w1 : List Nat := [53, 57, 54, 54, 49, 98, 54, 54, 48, 56, 52, 53, 55, 102, 98, 53, 50, 52, 101, 51, 99, 56, 50, 53, 50, 97, 53, 101, 54, 51, 54, 56, 102, 102, 97, 97, 51, 57, 56, 49, 55, 102, 98, 48, 49, 52, 99, 56, 53, 102, 54, 56, 99, 52, 55, 101, 50, 49, 51, 102, 56, 53, 101, 101]

def w2 : List Nat := [99, 117, 116]

def w3 : List Nat := [97, 116, 32, 108, 111, 111, 112, 46, 101, 120, 97, 109, 112, 108, 101, 47, 103, 48, 49, 50, 50, 52, 47, 108, 97, 119, 115, 46, 70, 110, 69, 120, 97, 99, 116, 86, 97, 112, 111, 117, 114, 65, 98, 111, 118, 101, 32, 108, 111, 111, 112, 46, 101, 120, 97, 109, 112, 108, 101, 47, 103, 48, 49, 50, 50, 52, 47, 108, 97, 119, 115, 46, 70, 110, 69, 120, 97, 99, 116, 86, 97, 108, 105, 100, 69, 99, 104, 111, 77, 97, 112, 32, 108, 111, 111, 112, 46, 101, 120, 97, 109, 112, 108, 101, 47, 103, 48, 49, 50, 50, 52, 47, 108, 97, 119, 115, 46, 70, 110, 69, 120, 97, 99, 116, 82, 105, 115, 101, 73, 110, 32, 108, 111, 111, 112, 46, 101, 120, 97, 109, 112, 108, 101, 47, 103, 48, 49, 50, 50, 52, 47, 108, 97, 119, 115, 46, 70, 110, 69, 120, 97, 99, 116, 83, 116, 101, 97, 100, 121, 83, 111, 117, 110, 100, 105, 110, 103, 32, 108, 111, 111, 112, 46, 101, 120, 97, 109, 112, 108, 101, 47, 103, 48, 49, 50, 50, 52, 47, 108, 97, 119, 115, 46, 70, 110, 69, 120, 97, 99, 116, 69, 118, 101, 110, 116, 115, 79, 102, 32, 108, 111, 111, 112, 46, 101, 120, 97, 109, 112, 108, 101, 47, 103, 48, 49, 50, 50, 52, 47, 108, 97, 119, 115, 46, 70, 110, 69, 120, 97, 99, 116, 76, 111, 115, 115, 101, 115, 79, 102, 32, 108, 111, 111, 112, 46, 101, 120, 97, 109, 112, 108, 101, 47, 103, 48, 49, 50, 50, 52, 47, 108, 97, 119, 115, 46, 70, 110, 69, 120, 97, 99, 116, 67, 111, 108, 108, 105, 100, 101, 32, 108, 111, 111, 112, 46, 101, 120, 97, 109, 112, 108, 101, 47, 103, 48, 49, 50, 50, 52, 47, 108, 97, 119, 115, 46, 70, 110, 69, 120, 97, 99, 116, 67, 111, 108, 108, 105, 100, 101, 83, 116, 101, 112, 115, 32, 108, 111, 111, 112, 46, 101, 120, 97, 109, 112, 108, 101, 47, 103, 48, 49, 50, 50, 52, 47, 108, 97, 119, 115, 46, 70, 110, 69, 120, 97, 99, 116, 82, 97, 105, 110, 77, 97, 100, 101, 32, 108, 111, 111, 112, 46, 101, 120, 97, 109, 112, 108, 101, 47, 103, 48, 49, 50, 50, 52, 47, 108, 97, 119, 115, 46, 70, 110, 69, 120, 97, 99, 116, 71, 114, 111, 119, 79, 110, 99, 101, 32, 108, 111, 111, 112, 46, 101, 120, 97, 109, 112, 108, 101, 47, 103, 48, 49, 50, 50, 52, 47, 108, 97, 119, 115, 46, 70, 110, 69, 120, 97, 99, 116, 71, 114, 111, 119, 83, 116, 101, 112, 115, 32, 108, 111, 111, 112, 46, 101, 120, 97, 109, 112, 108, 101, 47, 103, 48, 49, 50, 50, 52, 47, 108, 97, 119, 115, 46, 70, 110, 69, 120, 97, 99, 116, 83, 116, 101, 112, 115, 84, 111, 68, 114, 121, 32, 108, 111, 111, 112, 46, 101, 120, 97, 109, 112, 108, 101, 47, 103, 48, 49, 50, 50, 52, 47, 108, 97, 119, 115, 46, 70, 110, 69, 120, 97, 99, 116, 85, 110, 105, 116, 65, 116, 32, 108, 111, 111, 112, 46, 101, 120, 97, 109, 112, 108, 101, 47, 103, 48, 49, 50, 50, 52, 47, 108, 97, 119, 115, 46, 70, 110, 69, 120, 97, 99, 116, 84, 104, 105, 114, 100, 82, 111, 111, 116, 32, 108, 111, 111, 112, 46, 101, 120, 97, 109, 112, 108, 101, 47, 103, 48, 49, 50, 50, 52, 47, 108, 97, 119, 115, 46, 70, 110, 69, 120, 97, 99, 116, 68, 114, 97, 119, 80, 97, 105, 114, 115, 32, 108, 111, 111, 112, 46, 101, 120, 97, 109, 112, 108, 101, 47, 103, 48, 49, 50, 50, 52, 47, 108, 97, 119, 115, 46, 70, 110, 69, 120, 97, 99, 116, 67, 111, 108, 108, 105, 100, 101, 80, 97, 105, 114, 115]

def letters (l : List Nat) : List Char := l.map Char.ofNat

theorem head_reads : Try.prog.initOrder = String.ofList (letters w0 ++ Char.ofNat 32 :: (letters w1 ++ Char.ofNat 32 :: (letters w2 ++ Char.ofNat 32 :: letters w3))) := by kernel_rfl

theorem no_blank {l : List Nat} (h : l.all (fun n => Char.ofNat n != Char.ofNat 32) = true) : ∀ c ∈ letters l, c ≠ Char.ofNat 32 := by
  intro c hc
  obtain ⟨n, hn, rfl⟩ := List.mem_map.1 hc
  have := List.all_eq_true.1 h n hn
  simpa using this

theorem h0 : letters w0 = "harness".toList := by kernel_rfl

theorem h2 : letters w2 = "cut".toList := by kernel_rfl

theorem sums : isSumSigns (letters w1) = true := by kernel_rfl

theorem words : wordsSigns Try.prog.initOrder.toList = "harness".toList :: letters w1 :: "cut".toList :: wordsSigns (letters w3) := by
  rw [head_reads, String.toList_ofList, words_cons _ _ (no_blank (by decide +kernel)), words_cons _ _ (no_blank (by decide +kernel)), words_cons _ _ (no_blank (by decide +kernel)), h0, h2]

theorem behind : ∃ r, behindMainWord (wordsSigns Try.prog.initOrder.toList) = "cut".toList :: r := by
  refine ⟨wordsSigns (letters w3), ?_⟩
  rw [words]
  generalize wordsSigns (letters w3) = r
  have hs := sums
  generalize letters w1 = v at hs
  unfold behindMainWord
  simp [hs]

theorem not_later : Try.prog.laysLater = false := by kernel_rfl

theorem no_reflect : Try.prog.bearsReflect = false := by kernel_rfl

theorem no_doors : Try.prog.doorFits [] = true := by kernel_rfl

theorem strips (r : List (List Char)) : stripLifts liftWords ("cut".toList :: r) = ([], "cut".toList :: r) := by kernel_rfl

theorem may_enter_of (P : Program) (r : List (List Char)) (h : behindMainWord (wordsSigns P.initOrder.toList) = "cut".toList :: r) (h1 : P.laysLater = false) (h2 : P.bearsReflect = false) (h3 : P.doorFits [] = true) : P.mayEnter = true := by
  unfold Program.mayEnter
  rw [h]
  dsimp only
  rw [strips, h1, h2, h3]
  kernel_rfl

theorem lifts_final_of (P : Program) (r : List (List Char)) (h : behindMainWord (wordsSigns P.initOrder.toList) = "cut".toList :: r) : P.liftsFinal = false := by
  unfold Program.liftsFinal Program.headLifts
  rw [h]
  dsimp only
  rw [strips]
  kernel_rfl

theorem made_of (P : Program) (r : List (List Char)) (h : behindMainWord (wordsSigns P.initOrder.toList) = "cut".toList :: r) : P.make = some .cut := by
  unfold Program.make
  rw [h]
  kernel_rfl

theorem may_enter : Try.prog.mayEnter = true := let ⟨r, h⟩ := behind; may_enter_of _ r h not_later no_reflect no_doors

theorem lifts_final : Try.prog.liftsFinal = false := let ⟨r, h⟩ := behind; lifts_final_of _ r h

theorem made : Try.prog.make = some .cut := let ⟨r, h⟩ := behind; made_of _ r h

theorem laid : laidOutB Try.prog = true := by kernel_rfl

theorem rowed : mapsRowed Try.prog = true := by kernel_rfl

theorem no_stops : Try.prog.stops = [] := by kernel_rfl

theorem no_knobs : Try.prog.stopKnobs = [] := by kernel_rfl

theorem plain_keys : Try.prog.plainKeys = false := by kernel_rfl

theorem stops_heard : Try.prog.stopsHeard = true := by kernel_rfl

theorem own : ownKnob Try.prog.godebug = none := by kernel_rfl

theorem cells20 : Try.prog.cellsOf 56 = 20 := by kernel_rfl

theorem types20 : Try.prog.cellTypes Try.prog.depth 56 = some (List.replicate 20 23) := by kernel_rfl

theorem rda : Try.prog.readableRec 56 = true ∧ 56 < Try.prog.types.size := ⟨by kernel_rfl, of_decide_eq_true (by kernel_rfl)⟩

theorem rdf : Try.prog.readableRec 23 = true ∧ 23 < Try.prog.types.size := ⟨by kernel_rfl, of_decide_eq_true (by kernel_rfl)⟩

theorem arr4 {α : Type} {cs : Array α} (h : cs.size = 4) : ∃ c0 c1 c2 c3, cs = #[c0, c1, c2, c3] := by
  obtain ⟨l⟩ := cs
  match l, h with
  | [a, b, c, d], _ => exact ⟨a, b, c, d, rfl⟩

theorem rdi : Try.prog.readableRec 2 = true ∧ 2 < Try.prog.types.size := ⟨by kernel_rfl, of_decide_eq_true (by kernel_rfl)⟩

theorem cells400 : Try.prog.cellsOf 57 = 400 := by kernel_rfl

theorem types400 : Try.prog.cellTypes Try.prog.depth 57 = some (List.replicate 400 23) := by kernel_rfl

theorem rdk : Try.prog.readableRec 57 = true ∧ 57 < Try.prog.types.size := ⟨by kernel_rfl, of_decide_eq_true (by kernel_rfl)⟩
end Go.Proofs.Ytgmcpbhjcfiikaa
