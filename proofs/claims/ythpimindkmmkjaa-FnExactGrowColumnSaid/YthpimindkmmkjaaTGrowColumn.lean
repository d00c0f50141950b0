import Derived.Test.YthpimindkmmkjaaUGrowColumn
import Derived.Test.YthpimindkmmkjaaCGrowColumn
import Derived.Test.YthpimindkmmkjaaChecked
import Derived.Test.YthpimindkmmkjaaRows
import Derived.Laws.FloatArith
import Derived.ProofKit
import Derived.WalkKit
import Derived.WalkLawsBesides
import Derived.WalkSpells
import Derived.Deep.QuietTactic
import Derived.BigQuiet
import Derived.Deep.RegionHeld3
import Derived.ChangeKeysEq
import Derived.Laws.BitsAllLaws
import Derived.Deep.MidRow
import Derived.Deep.WholeRow
import Derived.StillTailTactics
import Derived.Deep.Slices
import Derived.ChangeSame
import Derived.OrdersIn
import Derived.ControlIn
import Derived.RangeFuncSeq
import Derived.RangeFuncNested
import Derived.ArgAppend
import Derived.OwnWalkIn
import Derived.TacticsInMore
import Derived.Below
import Derived.Laws.AppendOwn
import Derived.RangeFuncLeaves
import Derived.RangeFuncBox
import Derived.MapKept
import Derived.StillTail
import Derived.Carry
import Derived.Shelf.Abstract
import Derived.OpenShut
/- The law FnExactGrowColumn of chapter 1: at every argument the call returns true, and what was there before it is as it was. -/
namespace Go.Proofs.Ythpimindkmmkjaa
open Go.RowKit Go.Fl

theorem ix_dr {i : Nat} (hi : i < 8) (g : Nat) (w : World) : (Instr.indexAt 31 (.pointer (some ⟨g, 0, none⟩)) (.int .i64 (i : Int))).run Try.prog w = .ok (.pointer (some ⟨g, i * 20, none⟩)) w := by
  have ha : Try.prog.arrayLen 31 = 8 := by kernel_rfl
  have hz : ∀ w, (sizeOf (Try.prog.elem 31)).run Try.prog w = .ok 20 w := fun w => by kernel_rfl
  have h8 : (i : Int) < 8 := by omega
  rw [run_indexAt_array _ _ _ _ _ (by kernel_rfl)]
  simp [ha, hz, h8, Addr.add]
  omega

set_option maxRecDepth 100000 in
set_option maxHeartbeats 1000000 in
theorem sGrowL (c : Nat → Nat) (t : Int) (hb : ∀ i, i < 177 → c i < 4294967296) (h : ColOk c t) (K : Nat) (hK : K ≤ 8) (hM : ∀ j, j < K → okCel c j) (hN : K < 8 → ¬ okCel c K) (r : Nat → Nat) (s n : Int) (hr1 : K = 8 → r = gcG c 8 8 ∧ s = t ∧ n = 0) (hr0 : K ≠ 8 → r = (fun _ => 0) ∧ s = 0 ∧ n = 4) (w : World) (g : Nat) (T : TypeId) (hg : vAt w g 178 (clw c t) T) :
    Calls Try.prog 77 #[.pointer (some ⟨g, 0, none⟩)] w fun e w' => e = .returned (.tuple #[.agg (vls 178 (clw r s)), .int .i64 n]) ∧ Below w.heap.size w w' := by
  have hgl := hg.lt
  have kk : Kept w [(g, vls 178 (clw c t), T)] w := ⟨Below.refl _ _, fun x hx => by rw [List.mem_singleton.1 hx]; exact hg⟩
  have k0 : Hid (Kept w [(w.heap.size + 1, vls 178 (clw (fun _ => 0) 0), 35), (w.heap.size, vls 178 (clw (fun _ => 0) 0), 35), (g, vls 178 (clw c t), T)] ((w.alloc (.cells (vls 178 (clw (fun _ => 0) 0)) 35)).alloc (.cells (vls 178 (clw (fun _ => 0) 0)) 35))) := by
    have := (kk.push (vls 178 (clw (fun _ => 0) 0)) 35).push (vls 178 (clw (fun _ => 0) 0)) 35
    simp only [World.size_alloc] at this
    exact hid this
  have HGL := hid hgl
  have HB := hid hb
  have HQ := hid h
  have HM := hid hM
  have HN := hid hN
  have HR1 := hid hr1
  have HR0 := hid hr0
  have kkH := hid (kk.push (vls 178 (clw (fun _ => 0) 0)) 35)
  clear hb h hM hN hr1 hr0 hg hgl kk
  go_enter Try.func77, Try.ntmps77
  have tok1 : True := trivial
  go_wp2_with (first
    | (have _t := tok1; clear tok1; refine load_cut (by rfl) 35 _ (by rfl) g 0 178 (by rfl) (kkH.out.v in1) (by omega) (vls 178 (clw c t)) (vls_ext fun i _ => by rw [Nat.zero_add]) _ Try.underlying35 (by rfl) info_col ?_; have tok2 : True := trivial)
    | (have _t := tok2; clear tok2; refine store_row (by rfl) 35 _ _ (by rfl) (w.heap.size + 1) (vls 178 (clw c t)) (vls 178 (clw (fun _ => 0) 0)) (by rfl) (by rfl) k0.out (by rw [vls_size]; exact info_col) (by simp) (vls_one (clw_one _ _)) (by omega) (neC (by omega) (neC (by have := HGL.out; omega) ne0)) ?_; intro w2 k2; replace k2 := hid k2; clear k0 kkH))
  have k5 : Hid (Kept w [(w.heap.size + 1, vls 178 (clw (gcG c 0 0) t), 35), (w.heap.size, vls 178 (clw (fun _ => 0) 0), 35), (g, vls 178 (clw c t), T)] w2) := hid (k2.out.ext (fun i _ => (clw_same (fun i => gcG_zero c i) t i).symm))
  clear k2
  go_loopw [5] (fun i wr => ∃ k : Nat, k ≤ K ∧ i = .int .i64 k ∧ Hid (Kept w [(w.heap.size + 1, vls 178 (clw (gcG c k k) t), 35), (w.heap.size, vls 178 (clw (fun _ => 0) 0), 35), (g, vls 178 (clw c t), T)] wr)) (fun i _ => 8 - (intOf i).toNat)
  case atStart => exact ⟨0, by omega, rfl, k5⟩
  case round =>
    clear k5
    obtain ⟨k, hk, rfl, h0⟩ := hrel
    by_cases h8 : k < 8
    · have HL := hid h8
      have hk3 : (k : Int) < 8 := by omega
      have HV := hid (gcel_val HQ.out HB.out h8)
      have HF : Hid (∀ j, j < 20 → clw c t (k * 20 + j) = .float .f32 ((gCel c k).c j)) := hid fun j hj => clw_f (by omega)
      have HF0 : Hid (clw c t (160 + k * 2) = .float .f32 (gCel c k).h) := hid (clw_f (by omega))
      have HF1 : Hid (clw c t (160 + k * 2 + 1) = .float .f32 (gCel c k).v) := hid (clw_f (by omega))
      by_cases hlt : k < K
      · have HK2 := hid hlt
        have HC := hid (fun w (hp : vAt w g 178 (clw c t) T) => sOnceO_t tickT (gCel c k) HV.out (HM.out k hlt) w g g T T 178 (k * 20) (clw c t) (by omega) HF.out 178 (160 + k * 2) (clw c t) (by omega) HF0.out HF1.out hp hp)
        clear hlt hk
        go_wp2_with fail
        refine region_act (w0 := w) (lk := [(w.heap.size + 1, vls 178 (clw (gcG c k k) t), 35), (w.heap.size, vls 178 (clw (fun _ => 0) 0), 35), (g, vls 178 (clw c t), T)]) (fun a0 a1 wq => ∃ g6 g7 : Nat, a1 = ((((((((((((((((((a0.put (some 17) (.pointer (some ⟨g, 0, none⟩))).put (some 18) (.int .i64 (k : Int))).put (some 19) (.pointer (some ⟨g, 0, none⟩))).put (some 20) (.pointer (some ⟨g, 0, none⟩))).put (some 21) (.pointer (some ⟨g, k * 20, none⟩))).put (some 22) (.pointer (some ⟨g, 0, none⟩))).put (some 23) (.int .i64 (k : Int))).put (some 24) (.pointer (some ⟨g, 0, none⟩))).put (some 25) (.pointer (some ⟨g, 160, none⟩))).put (some 26) (.pointer (some ⟨g, 160 + k * 2, none⟩))).put (some 27) (.tuple #[.agg (fls (nCel c k).c), .agg #[.float .f32 (nCel c k).h, .float .f32 (nCel c k).v], .int .i64 0])).put (some 16) (.tuple #[.agg (fls (nCel c k).c), .agg #[.float .f32 (nCel c k).h, .float .f32 (nCel c k).v], .int .i64 0])).put (some 28) (.agg (fls (nCel c k).c))).put (some 29) (.agg #[.float .f32 (nCel c k).h, .float .f32 (nCel c k).v])).put (some 30) (.int .i64 0)).put (some 6) (.pointer (some ⟨g6, 0, none⟩))).put (some 7) (.pointer (some ⟨g7, 0, none⟩))).put (some 8) (.int .i64 0)) ∧ (g7 ≠ w.heap.size + 1 ∧ g6 ≠ w.heap.size + 1) ∧ Kept w [(g7, #[.float .f32 (nCel c k).h, .float .f32 (nCel c k).v], 32), (g6, fls (nCel c k).c, 30), (w.heap.size + 1, vls 178 (clw (gcG c k k) t), 35), (w.heap.size, vls 178 (clw (fun _ => 0) 0), 35), (g, vls 178 (clw c t), T)] wq) 20 #[false, false, false, false, false, false, false, false, false, false, false, false, false, false, false, false, false, false, false, false] (by kernel_rfl) rfl rfl ?_ ?_
        · have kd := h0.out.drew
          generalize World.drew _ = wd at kd ⊢
          refine take_val 0 _ _ (.pointer (some ⟨g, 0, none⟩)) rfl (by rfl) (by kernel_rfl) (by kernel_rfl) (by kernel_rfl) (fun w => by rfl) rfl rfl kd ?_
          simp only [Act.put, List.setIfInBounds_toArray, List.set_cons_zero, List.set_cons_succ]
          refine take_val 1 _ _ (.int .i64 (k : Int)) rfl (by rfl) (by kernel_rfl) (by kernel_rfl) (by kernel_rfl) (fun w => by rfl) rfl rfl kd ?_
          simp only [Act.put, List.setIfInBounds_toArray, List.set_cons_zero, List.set_cons_succ]
          refine take_val 2 _ _ (.pointer (some ⟨g, 0, none⟩)) rfl (by rfl) (by kernel_rfl) (by kernel_rfl) (by kernel_rfl) (fun w => by unfold execOp; go_simp) rfl rfl kd ?_
          simp only [Act.put, List.setIfInBounds_toArray, List.set_cons_zero, List.set_cons_succ]
          refine take_val 3 _ _ (.pointer (some ⟨g, 0, none⟩)) rfl (by rfl) (by kernel_rfl) (by kernel_rfl) (by kernel_rfl) (fun w => by unfold execOp; go_simp) rfl rfl kd ?_
          simp only [Act.put, List.setIfInBounds_toArray, List.set_cons_zero, List.set_cons_succ]
          refine take_val 4 _ _ (.pointer (some ⟨g, k * 20, none⟩)) rfl (by rfl) (by kernel_rfl) (by kernel_rfl) (by kernel_rfl) (fun w => by unfold execOp; go_simp) rfl rfl kd ?_
          simp only [Act.put, List.setIfInBounds_toArray, List.set_cons_zero, List.set_cons_succ]
          refine take_val 5 _ _ (.pointer (some ⟨g, 0, none⟩)) rfl (by rfl) (by kernel_rfl) (by kernel_rfl) (by kernel_rfl) (fun w => by rfl) rfl rfl kd ?_
          simp only [Act.put, List.setIfInBounds_toArray, List.set_cons_zero, List.set_cons_succ]
          refine take_val 6 _ _ (.int .i64 (k : Int)) rfl (by rfl) (by kernel_rfl) (by kernel_rfl) (by kernel_rfl) (fun w => by rfl) rfl rfl kd ?_
          simp only [Act.put, List.setIfInBounds_toArray, List.set_cons_zero, List.set_cons_succ]
          refine take_val 7 _ _ (.pointer (some ⟨g, 0, none⟩)) rfl (by rfl) (by kernel_rfl) (by kernel_rfl) (by kernel_rfl) (fun w => by unfold execOp; go_simp) rfl rfl kd ?_
          simp only [Act.put, List.setIfInBounds_toArray, List.set_cons_zero, List.set_cons_succ]
          refine take_val 8 _ _ (.pointer (some ⟨g, 160, none⟩)) rfl (by rfl) (by kernel_rfl) (by kernel_rfl) (by kernel_rfl) (fun w => by unfold execOp; go_simp) rfl rfl kd ?_
          simp only [Act.put, List.setIfInBounds_toArray, List.set_cons_zero, List.set_cons_succ]
          refine take_val 9 _ _ (.pointer (some ⟨g, 160 + k * 2, none⟩)) rfl (by rfl) (by kernel_rfl) (by kernel_rfl) (by kernel_rfl) (fun w => by unfold execOp; go_simp) rfl rfl kd ?_
          simp only [Act.put, List.setIfInBounds_toArray, List.set_cons_zero, List.set_cons_succ]
          refine wpAnyH_ready (rs := [10, 15, 16]) (by kernel_rfl) (by simp) ?_
          refine callK 10 _ _ (.tuple #[.agg (fls (nCel c k).c), .agg #[.float .f32 (nCel c k).h, .float .f32 (nCel c k).v], .int .i64 0]) kd rfl (by rfl) 67 #[.pointer (some ⟨g, k * 20, none⟩), .pointer (some ⟨g, 160 + k * 2, none⟩), .float .f32 1031798784] (fun w => by unfold execOp; go_simp) rfl rfl ?hc1 (fun w1 k1 => ?_) ?_
          case hc1 => exact HC.out _ (kd.v in2)
          · refine ⟨k1, ?_⟩
            simp only [Act.put, List.setIfInBounds_toArray, List.set_cons_zero, List.set_cons_succ]
            refine take_val 11 _ _ (.tuple #[.agg (fls (nCel c k).c), .agg #[.float .f32 (nCel c k).h, .float .f32 (nCel c k).v], .int .i64 0]) rfl (by rfl) (by kernel_rfl) (by kernel_rfl) (by kernel_rfl) (fun w => by rfl) rfl rfl k1 ?_
            simp only [Act.put, List.setIfInBounds_toArray, List.set_cons_zero, List.set_cons_succ]
            refine take_val 12 _ _ (.agg (fls (nCel c k).c)) rfl (by rfl) (by kernel_rfl) (by kernel_rfl) (by kernel_rfl) (fun w => by unfold execOp; go_simp) rfl rfl k1 ?_
            simp only [Act.put, List.setIfInBounds_toArray, List.set_cons_zero, List.set_cons_succ]
            refine take_val 13 _ _ (.agg #[.float .f32 (nCel c k).h, .float .f32 (nCel c k).v]) rfl (by rfl) (by kernel_rfl) (by kernel_rfl) (by kernel_rfl) (fun w => by unfold execOp; go_simp) rfl rfl k1 ?_
            simp only [Act.put, List.setIfInBounds_toArray, List.set_cons_zero, List.set_cons_succ]
            refine take_val 14 _ _ (.int .i64 0) rfl (by rfl) (by kernel_rfl) (by kernel_rfl) (by kernel_rfl) (fun w => by unfold execOp; go_simp) rfl rfl k1 ?_
            simp only [Act.put, List.setIfInBounds_toArray, List.set_cons_zero, List.set_cons_succ]
            refine wpAnyH_ready (rs := [15, 16]) (by kernel_rfl) (by simp) ?_
            refine allocK 15 (fun g => _) _ k1 rfl (by rfl) (fls fun _ => 0) 30 (by unfold execOp; go_simp) (fun g => rfl) rfl (fun w2 g2 k2 hB2 hn2 => ?_) ?_
            · refine ⟨k2.tail, ?_⟩
              simp only [Act.put, List.setIfInBounds_toArray, List.set_cons_zero, List.set_cons_succ]
              refine wpAnyH_ready (rs := [16]) (by kernel_rfl) (by simp) ?_
              refine allocK 16 (fun g => _) _ k2 rfl (by rfl) (#[.float .f32 0, .float .f32 0]) 32 (by unfold execOp; go_simp) (fun g => rfl) rfl (fun w3 g3 k3 hB3 hn3 => ?_) AllReadyH.nil
              refine ⟨k3.tail.tail, ?_⟩
              simp only [Act.put, List.setIfInBounds_toArray, List.set_cons_zero, List.set_cons_succ]
              refine wpAnyH_ready (rs := [17]) (by kernel_rfl) (by simp) ?_
              refine storeK 17 _ _ (k3).swap hB2 (neC (hn3 _ in0).symm hn2) rfl (by rfl) 30 _ _ rfl (fls (nCel c k).c) rfl rfl (by rw [fls_size]; exact info_arr) (by simp) (fls_one _) rfl rfl (fun w4 k4 => ?_) AllReadyH.nil
              refine ⟨k4.tail.tail, ?_⟩
              refine wpAnyH_ready (rs := [18]) (by kernel_rfl) (by simp) ?_
              refine storeK 18 _ _ (k4).swap hB3 (neC (hn3 _ in0) (fun x hx => hn3 x (List.mem_cons_of_mem _ hx))) rfl (by rfl) 32 _ _ rfl (#[.float .f32 (nCel c k).h, .float .f32 (nCel c k).v]) rfl rfl (info_air) (by simp) (two_one _ _) rfl rfl (fun w5 k5 => ?_) AllReadyH.nil
              refine ⟨k5.tail.tail, ?_⟩
              refine take_val 19 _ _ (.int .i64 0) rfl (by rfl) (by kernel_rfl) (by kernel_rfl) (by kernel_rfl) (fun w => by rfl) rfl rfl k5.tail.tail ?_
              simp only [Act.put, List.setIfInBounds_toArray, List.set_cons_zero, List.set_cons_succ]
              refine wpAnyH_done (by kernel_rfl) ?_ _
              exact ⟨rfl, g2, g3, rfl, ⟨((fun x hx => hn3 x (List.mem_cons_of_mem _ hx)) (w.heap.size + 1, vls 178 (clw (gcG c k k) t), 35) in0).symm, (hn2 (w.heap.size + 1, vls 178 (clw (gcG c k k) t), 35) in0).symm⟩, k5⟩
            refine allocK 16 (fun g => _) _ k1 rfl (by rfl) (#[.float .f32 0, .float .f32 0]) 32 (by unfold execOp; go_simp) (fun g => rfl) rfl (fun w6 g6 k6 hB6 hn6 => ?_) AllReadyH.nil
            refine ⟨k6.tail, ?_⟩
            simp only [Act.put, List.setIfInBounds_toArray, List.set_cons_zero, List.set_cons_succ]
            refine wpAnyH_ready (rs := [15]) (by kernel_rfl) (by simp) ?_
            refine allocK 15 (fun g => _) _ k6 rfl (by rfl) (fls fun _ => 0) 30 (by unfold execOp; go_simp) (fun g => rfl) rfl (fun w7 g7 k7 hB7 hn7 => ?_) AllReadyH.nil
            refine ⟨k7.tail.tail, ?_⟩
            simp only [Act.put, List.setIfInBounds_toArray, List.set_cons_zero, List.set_cons_succ]
            refine wpAnyH_ready (rs := [17]) (by kernel_rfl) (by simp) ?_
            refine storeK 17 _ _ k7 hB7 (neC (hn7 _ in0) (fun x hx => hn7 x (List.mem_cons_of_mem _ hx))) rfl (by rfl) 30 _ _ rfl (fls (nCel c k).c) rfl rfl (by rw [fls_size]; exact info_arr) (by simp) (fls_one _) rfl rfl (fun w8 k8 => ?_) AllReadyH.nil
            refine ⟨k8.tail.tail, ?_⟩
            refine wpAnyH_ready (rs := [18]) (by kernel_rfl) (by simp) ?_
            refine storeK 18 _ _ (k8).swap hB6 (neC (hn7 _ in0).symm hn6) rfl (by rfl) 32 _ _ rfl (#[.float .f32 (nCel c k).h, .float .f32 (nCel c k).v]) rfl rfl (info_air) (by simp) (two_one _ _) rfl rfl (fun w9 k9 => ?_) AllReadyH.nil
            refine ⟨k9.tail.tail, ?_⟩
            refine take_val 19 _ _ (.int .i64 0) rfl (by rfl) (by kernel_rfl) (by kernel_rfl) (by kernel_rfl) (fun w => by rfl) rfl rfl k9.tail.tail ?_
            simp only [Act.put, List.setIfInBounds_toArray, List.set_cons_zero, List.set_cons_succ]
            refine wpAnyH_done (by kernel_rfl) ?_ _
            exact ⟨rfl, g7, g6, rfl, ⟨(hn6 (w.heap.size + 1, vls 178 (clw (gcG c k k) t), 35) in0).symm, ((fun x hx => hn7 x (List.mem_cons_of_mem _ hx)) (w.heap.size + 1, vls 178 (clw (gcG c k k) t), 35) in0).symm⟩, k9⟩
          refine allocK 15 (fun g => _) _ kd rfl (by rfl) (fls fun _ => 0) 30 (by unfold execOp; go_simp) (fun g => rfl) rfl (fun w10 g10 k10 hB10 hn10 => ?_) ?_
          · refine ⟨k10.tail, ?_⟩
            simp only [Act.put, List.setIfInBounds_toArray, List.set_cons_zero, List.set_cons_succ]
            refine wpAnyH_ready (rs := [10, 16]) (by kernel_rfl) (by simp) ?_
            refine callK 10 _ _ (.tuple #[.agg (fls (nCel c k).c), .agg #[.float .f32 (nCel c k).h, .float .f32 (nCel c k).v], .int .i64 0]) k10 rfl (by rfl) 67 #[.pointer (some ⟨g, k * 20, none⟩), .pointer (some ⟨g, 160 + k * 2, none⟩), .float .f32 1031798784] (fun w => by unfold execOp; go_simp) rfl rfl ?hc11 (fun w11 k11 => ?_) ?_
            case hc11 => exact HC.out _ (k10.tail.v in2)
            · refine ⟨k11.tail, ?_⟩
              simp only [Act.put, List.setIfInBounds_toArray, List.set_cons_zero, List.set_cons_succ]
              refine take_val 11 _ _ (.tuple #[.agg (fls (nCel c k).c), .agg #[.float .f32 (nCel c k).h, .float .f32 (nCel c k).v], .int .i64 0]) rfl (by rfl) (by kernel_rfl) (by kernel_rfl) (by kernel_rfl) (fun w => by rfl) rfl rfl k11.tail ?_
              simp only [Act.put, List.setIfInBounds_toArray, List.set_cons_zero, List.set_cons_succ]
              refine take_val 12 _ _ (.agg (fls (nCel c k).c)) rfl (by rfl) (by kernel_rfl) (by kernel_rfl) (by kernel_rfl) (fun w => by unfold execOp; go_simp) rfl rfl k11.tail ?_
              simp only [Act.put, List.setIfInBounds_toArray, List.set_cons_zero, List.set_cons_succ]
              refine take_val 13 _ _ (.agg #[.float .f32 (nCel c k).h, .float .f32 (nCel c k).v]) rfl (by rfl) (by kernel_rfl) (by kernel_rfl) (by kernel_rfl) (fun w => by unfold execOp; go_simp) rfl rfl k11.tail ?_
              simp only [Act.put, List.setIfInBounds_toArray, List.set_cons_zero, List.set_cons_succ]
              refine take_val 14 _ _ (.int .i64 0) rfl (by rfl) (by kernel_rfl) (by kernel_rfl) (by kernel_rfl) (fun w => by unfold execOp; go_simp) rfl rfl k11.tail ?_
              simp only [Act.put, List.setIfInBounds_toArray, List.set_cons_zero, List.set_cons_succ]
              refine wpAnyH_ready (rs := [16]) (by kernel_rfl) (by simp) ?_
              refine allocK 16 (fun g => _) _ k11 rfl (by rfl) (#[.float .f32 0, .float .f32 0]) 32 (by unfold execOp; go_simp) (fun g => rfl) rfl (fun w12 g12 k12 hB12 hn12 => ?_) AllReadyH.nil
              refine ⟨k12.tail.tail, ?_⟩
              simp only [Act.put, List.setIfInBounds_toArray, List.set_cons_zero, List.set_cons_succ]
              refine wpAnyH_ready (rs := [17]) (by kernel_rfl) (by simp) ?_
              refine storeK 17 _ _ (k12).swap hB10 (neC (hn12 _ in0).symm hn10) rfl (by rfl) 30 _ _ rfl (fls (nCel c k).c) rfl rfl (by rw [fls_size]; exact info_arr) (by simp) (fls_one _) rfl rfl (fun w13 k13 => ?_) AllReadyH.nil
              refine ⟨k13.tail.tail, ?_⟩
              refine wpAnyH_ready (rs := [18]) (by kernel_rfl) (by simp) ?_
              refine storeK 18 _ _ (k13).swap hB12 (neC (hn12 _ in0) (fun x hx => hn12 x (List.mem_cons_of_mem _ hx))) rfl (by rfl) 32 _ _ rfl (#[.float .f32 (nCel c k).h, .float .f32 (nCel c k).v]) rfl rfl (info_air) (by simp) (two_one _ _) rfl rfl (fun w14 k14 => ?_) AllReadyH.nil
              refine ⟨k14.tail.tail, ?_⟩
              refine take_val 19 _ _ (.int .i64 0) rfl (by rfl) (by kernel_rfl) (by kernel_rfl) (by kernel_rfl) (fun w => by rfl) rfl rfl k14.tail.tail ?_
              simp only [Act.put, List.setIfInBounds_toArray, List.set_cons_zero, List.set_cons_succ]
              refine wpAnyH_done (by kernel_rfl) ?_ _
              exact ⟨rfl, g10, g12, rfl, ⟨((fun x hx => hn12 x (List.mem_cons_of_mem _ hx)) (w.heap.size + 1, vls 178 (clw (gcG c k k) t), 35) in0).symm, (hn10 (w.heap.size + 1, vls 178 (clw (gcG c k k) t), 35) in0).symm⟩, k14⟩
            refine allocK 16 (fun g => _) _ k10 rfl (by rfl) (#[.float .f32 0, .float .f32 0]) 32 (by unfold execOp; go_simp) (fun g => rfl) rfl (fun w15 g15 k15 hB15 hn15 => ?_) AllReadyH.nil
            refine ⟨k15.tail.tail, ?_⟩
            simp only [Act.put, List.setIfInBounds_toArray, List.set_cons_zero, List.set_cons_succ]
            refine wpAnyH_ready (rs := [10]) (by kernel_rfl) (by simp) ?_
            refine callK 10 _ _ (.tuple #[.agg (fls (nCel c k).c), .agg #[.float .f32 (nCel c k).h, .float .f32 (nCel c k).v], .int .i64 0]) k15 rfl (by rfl) 67 #[.pointer (some ⟨g, k * 20, none⟩), .pointer (some ⟨g, 160 + k * 2, none⟩), .float .f32 1031798784] (fun w => by unfold execOp; go_simp) rfl rfl ?hc16 (fun w16 k16 => ?_) AllReadyH.nil
            case hc16 => exact HC.out _ (k15.tail.tail.v in2)
            refine ⟨k16.tail.tail, ?_⟩
            simp only [Act.put, List.setIfInBounds_toArray, List.set_cons_zero, List.set_cons_succ]
            refine take_val 11 _ _ (.tuple #[.agg (fls (nCel c k).c), .agg #[.float .f32 (nCel c k).h, .float .f32 (nCel c k).v], .int .i64 0]) rfl (by rfl) (by kernel_rfl) (by kernel_rfl) (by kernel_rfl) (fun w => by rfl) rfl rfl k16.tail.tail ?_
            simp only [Act.put, List.setIfInBounds_toArray, List.set_cons_zero, List.set_cons_succ]
            refine take_val 12 _ _ (.agg (fls (nCel c k).c)) rfl (by rfl) (by kernel_rfl) (by kernel_rfl) (by kernel_rfl) (fun w => by unfold execOp; go_simp) rfl rfl k16.tail.tail ?_
            simp only [Act.put, List.setIfInBounds_toArray, List.set_cons_zero, List.set_cons_succ]
            refine take_val 13 _ _ (.agg #[.float .f32 (nCel c k).h, .float .f32 (nCel c k).v]) rfl (by rfl) (by kernel_rfl) (by kernel_rfl) (by kernel_rfl) (fun w => by unfold execOp; go_simp) rfl rfl k16.tail.tail ?_
            simp only [Act.put, List.setIfInBounds_toArray, List.set_cons_zero, List.set_cons_succ]
            refine take_val 14 _ _ (.int .i64 0) rfl (by rfl) (by kernel_rfl) (by kernel_rfl) (by kernel_rfl) (fun w => by unfold execOp; go_simp) rfl rfl k16.tail.tail ?_
            simp only [Act.put, List.setIfInBounds_toArray, List.set_cons_zero, List.set_cons_succ]
            refine wpAnyH_ready (rs := [17]) (by kernel_rfl) (by simp) ?_
            refine storeK 17 _ _ (k16).swap hB10 (neC (hn15 _ in0).symm hn10) rfl (by rfl) 30 _ _ rfl (fls (nCel c k).c) rfl rfl (by rw [fls_size]; exact info_arr) (by simp) (fls_one _) rfl rfl (fun w17 k17 => ?_) AllReadyH.nil
            refine ⟨k17.tail.tail, ?_⟩
            refine wpAnyH_ready (rs := [18]) (by kernel_rfl) (by simp) ?_
            refine storeK 18 _ _ (k17).swap hB15 (neC (hn15 _ in0) (fun x hx => hn15 x (List.mem_cons_of_mem _ hx))) rfl (by rfl) 32 _ _ rfl (#[.float .f32 (nCel c k).h, .float .f32 (nCel c k).v]) rfl rfl (info_air) (by simp) (two_one _ _) rfl rfl (fun w18 k18 => ?_) AllReadyH.nil
            refine ⟨k18.tail.tail, ?_⟩
            refine take_val 19 _ _ (.int .i64 0) rfl (by rfl) (by kernel_rfl) (by kernel_rfl) (by kernel_rfl) (fun w => by rfl) rfl rfl k18.tail.tail ?_
            simp only [Act.put, List.setIfInBounds_toArray, List.set_cons_zero, List.set_cons_succ]
            refine wpAnyH_done (by kernel_rfl) ?_ _
            exact ⟨rfl, g10, g15, rfl, ⟨((fun x hx => hn15 x (List.mem_cons_of_mem _ hx)) (w.heap.size + 1, vls 178 (clw (gcG c k k) t), 35) in0).symm, (hn10 (w.heap.size + 1, vls 178 (clw (gcG c k k) t), 35) in0).symm⟩, k18⟩
          refine allocK 16 (fun g => _) _ kd rfl (by rfl) (#[.float .f32 0, .float .f32 0]) 32 (by unfold execOp; go_simp) (fun g => rfl) rfl (fun w19 g19 k19 hB19 hn19 => ?_) AllReadyH.nil
          refine ⟨k19.tail, ?_⟩
          simp only [Act.put, List.setIfInBounds_toArray, List.set_cons_zero, List.set_cons_succ]
          refine wpAnyH_ready (rs := [10, 15]) (by kernel_rfl) (by simp) ?_
          refine callK 10 _ _ (.tuple #[.agg (fls (nCel c k).c), .agg #[.float .f32 (nCel c k).h, .float .f32 (nCel c k).v], .int .i64 0]) k19 rfl (by rfl) 67 #[.pointer (some ⟨g, k * 20, none⟩), .pointer (some ⟨g, 160 + k * 2, none⟩), .float .f32 1031798784] (fun w => by unfold execOp; go_simp) rfl rfl ?hc20 (fun w20 k20 => ?_) ?_
          case hc20 => exact HC.out _ (k19.tail.v in2)
          · refine ⟨k20.tail, ?_⟩
            simp only [Act.put, List.setIfInBounds_toArray, List.set_cons_zero, List.set_cons_succ]
            refine take_val 11 _ _ (.tuple #[.agg (fls (nCel c k).c), .agg #[.float .f32 (nCel c k).h, .float .f32 (nCel c k).v], .int .i64 0]) rfl (by rfl) (by kernel_rfl) (by kernel_rfl) (by kernel_rfl) (fun w => by rfl) rfl rfl k20.tail ?_
            simp only [Act.put, List.setIfInBounds_toArray, List.set_cons_zero, List.set_cons_succ]
            refine take_val 12 _ _ (.agg (fls (nCel c k).c)) rfl (by rfl) (by kernel_rfl) (by kernel_rfl) (by kernel_rfl) (fun w => by unfold execOp; go_simp) rfl rfl k20.tail ?_
            simp only [Act.put, List.setIfInBounds_toArray, List.set_cons_zero, List.set_cons_succ]
            refine take_val 13 _ _ (.agg #[.float .f32 (nCel c k).h, .float .f32 (nCel c k).v]) rfl (by rfl) (by kernel_rfl) (by kernel_rfl) (by kernel_rfl) (fun w => by unfold execOp; go_simp) rfl rfl k20.tail ?_
            simp only [Act.put, List.setIfInBounds_toArray, List.set_cons_zero, List.set_cons_succ]
            refine take_val 14 _ _ (.int .i64 0) rfl (by rfl) (by kernel_rfl) (by kernel_rfl) (by kernel_rfl) (fun w => by unfold execOp; go_simp) rfl rfl k20.tail ?_
            simp only [Act.put, List.setIfInBounds_toArray, List.set_cons_zero, List.set_cons_succ]
            refine wpAnyH_ready (rs := [15]) (by kernel_rfl) (by simp) ?_
            refine allocK 15 (fun g => _) _ k20 rfl (by rfl) (fls fun _ => 0) 30 (by unfold execOp; go_simp) (fun g => rfl) rfl (fun w21 g21 k21 hB21 hn21 => ?_) AllReadyH.nil
            refine ⟨k21.tail.tail, ?_⟩
            simp only [Act.put, List.setIfInBounds_toArray, List.set_cons_zero, List.set_cons_succ]
            refine wpAnyH_ready (rs := [17]) (by kernel_rfl) (by simp) ?_
            refine storeK 17 _ _ k21 hB21 (neC (hn21 _ in0) (fun x hx => hn21 x (List.mem_cons_of_mem _ hx))) rfl (by rfl) 30 _ _ rfl (fls (nCel c k).c) rfl rfl (by rw [fls_size]; exact info_arr) (by simp) (fls_one _) rfl rfl (fun w22 k22 => ?_) AllReadyH.nil
            refine ⟨k22.tail.tail, ?_⟩
            refine wpAnyH_ready (rs := [18]) (by kernel_rfl) (by simp) ?_
            refine storeK 18 _ _ (k22).swap hB19 (neC (hn21 _ in0).symm hn19) rfl (by rfl) 32 _ _ rfl (#[.float .f32 (nCel c k).h, .float .f32 (nCel c k).v]) rfl rfl (info_air) (by simp) (two_one _ _) rfl rfl (fun w23 k23 => ?_) AllReadyH.nil
            refine ⟨k23.tail.tail, ?_⟩
            refine take_val 19 _ _ (.int .i64 0) rfl (by rfl) (by kernel_rfl) (by kernel_rfl) (by kernel_rfl) (fun w => by rfl) rfl rfl k23.tail.tail ?_
            simp only [Act.put, List.setIfInBounds_toArray, List.set_cons_zero, List.set_cons_succ]
            refine wpAnyH_done (by kernel_rfl) ?_ _
            exact ⟨rfl, g21, g19, rfl, ⟨(hn19 (w.heap.size + 1, vls 178 (clw (gcG c k k) t), 35) in0).symm, ((fun x hx => hn21 x (List.mem_cons_of_mem _ hx)) (w.heap.size + 1, vls 178 (clw (gcG c k k) t), 35) in0).symm⟩, k23⟩
          refine allocK 15 (fun g => _) _ k19 rfl (by rfl) (fls fun _ => 0) 30 (by unfold execOp; go_simp) (fun g => rfl) rfl (fun w24 g24 k24 hB24 hn24 => ?_) AllReadyH.nil
          refine ⟨k24.tail.tail, ?_⟩
          simp only [Act.put, List.setIfInBounds_toArray, List.set_cons_zero, List.set_cons_succ]
          refine wpAnyH_ready (rs := [10]) (by kernel_rfl) (by simp) ?_
          refine callK 10 _ _ (.tuple #[.agg (fls (nCel c k).c), .agg #[.float .f32 (nCel c k).h, .float .f32 (nCel c k).v], .int .i64 0]) k24 rfl (by rfl) 67 #[.pointer (some ⟨g, k * 20, none⟩), .pointer (some ⟨g, 160 + k * 2, none⟩), .float .f32 1031798784] (fun w => by unfold execOp; go_simp) rfl rfl ?hc25 (fun w25 k25 => ?_) AllReadyH.nil
          case hc25 => exact HC.out _ (k24.tail.tail.v in2)
          refine ⟨k25.tail.tail, ?_⟩
          simp only [Act.put, List.setIfInBounds_toArray, List.set_cons_zero, List.set_cons_succ]
          refine take_val 11 _ _ (.tuple #[.agg (fls (nCel c k).c), .agg #[.float .f32 (nCel c k).h, .float .f32 (nCel c k).v], .int .i64 0]) rfl (by rfl) (by kernel_rfl) (by kernel_rfl) (by kernel_rfl) (fun w => by rfl) rfl rfl k25.tail.tail ?_
          simp only [Act.put, List.setIfInBounds_toArray, List.set_cons_zero, List.set_cons_succ]
          refine take_val 12 _ _ (.agg (fls (nCel c k).c)) rfl (by rfl) (by kernel_rfl) (by kernel_rfl) (by kernel_rfl) (fun w => by unfold execOp; go_simp) rfl rfl k25.tail.tail ?_
          simp only [Act.put, List.setIfInBounds_toArray, List.set_cons_zero, List.set_cons_succ]
          refine take_val 13 _ _ (.agg #[.float .f32 (nCel c k).h, .float .f32 (nCel c k).v]) rfl (by rfl) (by kernel_rfl) (by kernel_rfl) (by kernel_rfl) (fun w => by unfold execOp; go_simp) rfl rfl k25.tail.tail ?_
          simp only [Act.put, List.setIfInBounds_toArray, List.set_cons_zero, List.set_cons_succ]
          refine take_val 14 _ _ (.int .i64 0) rfl (by rfl) (by kernel_rfl) (by kernel_rfl) (by kernel_rfl) (fun w => by unfold execOp; go_simp) rfl rfl k25.tail.tail ?_
          simp only [Act.put, List.setIfInBounds_toArray, List.set_cons_zero, List.set_cons_succ]
          refine wpAnyH_ready (rs := [17]) (by kernel_rfl) (by simp) ?_
          refine storeK 17 _ _ k25 hB24 (neC (hn24 _ in0) (fun x hx => hn24 x (List.mem_cons_of_mem _ hx))) rfl (by rfl) 30 _ _ rfl (fls (nCel c k).c) rfl rfl (by rw [fls_size]; exact info_arr) (by simp) (fls_one _) rfl rfl (fun w26 k26 => ?_) AllReadyH.nil
          refine ⟨k26.tail.tail, ?_⟩
          refine wpAnyH_ready (rs := [18]) (by kernel_rfl) (by simp) ?_
          refine storeK 18 _ _ (k26).swap hB19 (neC (hn24 _ in0).symm hn19) rfl (by rfl) 32 _ _ rfl (#[.float .f32 (nCel c k).h, .float .f32 (nCel c k).v]) rfl rfl (info_air) (by simp) (two_one _ _) rfl rfl (fun w27 k27 => ?_) AllReadyH.nil
          refine ⟨k27.tail.tail, ?_⟩
          refine take_val 19 _ _ (.int .i64 0) rfl (by rfl) (by kernel_rfl) (by kernel_rfl) (by kernel_rfl) (fun w => by rfl) rfl rfl k27.tail.tail ?_
          simp only [Act.put, List.setIfInBounds_toArray, List.set_cons_zero, List.set_cons_succ]
          refine wpAnyH_done (by kernel_rfl) ?_ _
          exact ⟨rfl, g24, g19, rfl, ⟨(hn19 (w.heap.size + 1, vls 178 (clw (gcG c k k) t), 35) in0).symm, ((fun x hx => hn24 x (List.mem_cons_of_mem _ hx)) (w.heap.size + 1, vls 178 (clw (gcG c k k) t), 35) in0).symm⟩, k27⟩
        rintro a1 wx ⟨g6, g7, rfl, hg67, k3⟩
        have HG := hid (show g6 ≠ w.heap.size + 1 ∧ g7 ≠ w.heap.size + 1 from ⟨hg67.2, hg67.1⟩)
        clear hg67 h0 HC
        have k3 := hid k3
        simp only [Act.put, List.setIfInBounds_toArray, List.set_cons_zero, List.set_cons_succ]
        have tok1 : True := trivial
        have hxd := ix_dr h8
        have hxa := ix_air h8
        go_wp2_with (first
          | (have _t := tok1; clear tok1; refine wpList_load_row (by rfl) 30 _ (by rfl) g6 (by rfl) 30 (fls (nCel c k).c) (0, 0) _ (k3.out.at (x := (g6, fls (nCel c k).c, 30)) in1) Try.underlying30 (by rfl) (by rw [fls_size]; exact info_arr) ?_; have tok2 : True := trivial)
          | (have _t := tok2; clear tok2; refine store_cut rfl 30 _ _ rfl (w.heap.size + 1) (k * 20) 20 (flw (nCel c k).c) (fls (nCel c k).c) rfl rfl rfl info_arr (fun _ => rfl) k3.out.up2 (by have := HL.out; omega) (by omega) (neC HG.out.2 (neC HG.out.1 (neC (by omega) (neC (by have := HGL.out; omega) ne0)))) (fun w4 k4 => ?_); replace k4 := hid ((k4.ext (fun i _ => gcG_row HL.out t i)).dn2); clear k3; have tok3 : True := trivial)
          | (have _t := tok3; clear tok3; refine wpList_load_row (by rfl) 32 _ (by rfl) g7 (by rfl) 32 (#[.float .f32 (nCel c k).h, .float .f32 (nCel c k).v]) (0, 0) _ (k4.out.at (x := (g7, #[.float .f32 (nCel c k).h, .float .f32 (nCel c k).v], 32)) in0) Try.underlying32 (by rfl) info_air ?_; have tok4 : True := trivial)
          | (have _t := tok4; clear tok4; refine store_cut rfl 32 _ _ rfl (w.heap.size + 1) (160 + k * 2) 2 (twoW (nCel c k).h (nCel c k).v) (#[.float .f32 (nCel c k).h, .float .f32 (nCel c k).v]) rfl rfl rfl info_air (twoW_one _ _) k4.out.up2 (by have := HL.out; omega) (by omega) (neC HG.out.2 (neC HG.out.1 (neC (by omega) (neC (by have := HGL.out; omega) ne0)))) (fun w5 k5 => ?_); replace k5 := hid ((k5.ext (fun i _ => gcG_air HL.out t i)).sub (pick3 _ _ _ _ _)); clear k4))
        go_roundw
        case rel => exact ⟨k + 1, HK2.out, by go_num, k5⟩
        case measure => simp [intOf]; omega
      · obtain rfl : k = K := by omega
        have HC := hid (fun w (hp : vAt w g 178 (clw c t) T) => sOnceO_f tickT (gCel c k) HV.out (HN.out h8) w g g T T 178 (k * 20) (clw c t) (by omega) HF.out 178 (160 + k * 2) (clw c t) (by omega) HF0.out HF1.out hp hp)
        obtain ⟨rfl, rfl, rfl⟩ := HR0.out (by omega)
        clear hlt hk HR1 HR0
        go_wp2_with fail
        refine region_act (w0 := w) (lk := [(w.heap.size + 1, vls 178 (clw (gcG c k k) t), 35), (w.heap.size, vls 178 (clw (fun _ => 0) 0), 35), (g, vls 178 (clw c t), T)]) (fun a0 a1 wq => ∃ g6 g7 : Nat, a1 = ((((((((((((((((((a0.put (some 17) (.pointer (some ⟨g, 0, none⟩))).put (some 18) (.int .i64 (k : Int))).put (some 19) (.pointer (some ⟨g, 0, none⟩))).put (some 20) (.pointer (some ⟨g, 0, none⟩))).put (some 21) (.pointer (some ⟨g, k * 20, none⟩))).put (some 22) (.pointer (some ⟨g, 0, none⟩))).put (some 23) (.int .i64 (k : Int))).put (some 24) (.pointer (some ⟨g, 0, none⟩))).put (some 25) (.pointer (some ⟨g, 160, none⟩))).put (some 26) (.pointer (some ⟨g, 160 + k * 2, none⟩))).put (some 27) (.tuple #[.agg (fls (fun _ => 0)), .agg #[.float .f32 0, .float .f32 0], .int .i64 4])).put (some 16) (.tuple #[.agg (fls (fun _ => 0)), .agg #[.float .f32 0, .float .f32 0], .int .i64 4])).put (some 28) (.agg (fls (fun _ => 0)))).put (some 29) (.agg #[.float .f32 0, .float .f32 0])).put (some 30) (.int .i64 4)).put (some 6) (.pointer (some ⟨g6, 0, none⟩))).put (some 7) (.pointer (some ⟨g7, 0, none⟩))).put (some 8) (.int .i64 4)) ∧ (g7 ≠ w.heap.size + 1 ∧ g6 ≠ w.heap.size + 1) ∧ Kept w [(g7, #[.float .f32 0, .float .f32 0], 32), (g6, fls (fun _ => 0), 30), (w.heap.size + 1, vls 178 (clw (gcG c k k) t), 35), (w.heap.size, vls 178 (clw (fun _ => 0) 0), 35), (g, vls 178 (clw c t), T)] wq) 20 #[false, false, false, false, false, false, false, false, false, false, false, false, false, false, false, false, false, false, false, false] (by kernel_rfl) rfl rfl ?_ ?_
        · have kd := h0.out.drew
          generalize World.drew _ = wd at kd ⊢
          refine take_val 0 _ _ (.pointer (some ⟨g, 0, none⟩)) rfl (by rfl) (by kernel_rfl) (by kernel_rfl) (by kernel_rfl) (fun w => by rfl) rfl rfl kd ?_
          simp only [Act.put, List.setIfInBounds_toArray, List.set_cons_zero, List.set_cons_succ]
          refine take_val 1 _ _ (.int .i64 (k : Int)) rfl (by rfl) (by kernel_rfl) (by kernel_rfl) (by kernel_rfl) (fun w => by rfl) rfl rfl kd ?_
          simp only [Act.put, List.setIfInBounds_toArray, List.set_cons_zero, List.set_cons_succ]
          refine take_val 2 _ _ (.pointer (some ⟨g, 0, none⟩)) rfl (by rfl) (by kernel_rfl) (by kernel_rfl) (by kernel_rfl) (fun w => by unfold execOp; go_simp) rfl rfl kd ?_
          simp only [Act.put, List.setIfInBounds_toArray, List.set_cons_zero, List.set_cons_succ]
          refine take_val 3 _ _ (.pointer (some ⟨g, 0, none⟩)) rfl (by rfl) (by kernel_rfl) (by kernel_rfl) (by kernel_rfl) (fun w => by unfold execOp; go_simp) rfl rfl kd ?_
          simp only [Act.put, List.setIfInBounds_toArray, List.set_cons_zero, List.set_cons_succ]
          refine take_val 4 _ _ (.pointer (some ⟨g, k * 20, none⟩)) rfl (by rfl) (by kernel_rfl) (by kernel_rfl) (by kernel_rfl) (fun w => by unfold execOp; go_simp) rfl rfl kd ?_
          simp only [Act.put, List.setIfInBounds_toArray, List.set_cons_zero, List.set_cons_succ]
          refine take_val 5 _ _ (.pointer (some ⟨g, 0, none⟩)) rfl (by rfl) (by kernel_rfl) (by kernel_rfl) (by kernel_rfl) (fun w => by rfl) rfl rfl kd ?_
          simp only [Act.put, List.setIfInBounds_toArray, List.set_cons_zero, List.set_cons_succ]
          refine take_val 6 _ _ (.int .i64 (k : Int)) rfl (by rfl) (by kernel_rfl) (by kernel_rfl) (by kernel_rfl) (fun w => by rfl) rfl rfl kd ?_
          simp only [Act.put, List.setIfInBounds_toArray, List.set_cons_zero, List.set_cons_succ]
          refine take_val 7 _ _ (.pointer (some ⟨g, 0, none⟩)) rfl (by rfl) (by kernel_rfl) (by kernel_rfl) (by kernel_rfl) (fun w => by unfold execOp; go_simp) rfl rfl kd ?_
          simp only [Act.put, List.setIfInBounds_toArray, List.set_cons_zero, List.set_cons_succ]
          refine take_val 8 _ _ (.pointer (some ⟨g, 160, none⟩)) rfl (by rfl) (by kernel_rfl) (by kernel_rfl) (by kernel_rfl) (fun w => by unfold execOp; go_simp) rfl rfl kd ?_
          simp only [Act.put, List.setIfInBounds_toArray, List.set_cons_zero, List.set_cons_succ]
          refine take_val 9 _ _ (.pointer (some ⟨g, 160 + k * 2, none⟩)) rfl (by rfl) (by kernel_rfl) (by kernel_rfl) (by kernel_rfl) (fun w => by unfold execOp; go_simp) rfl rfl kd ?_
          simp only [Act.put, List.setIfInBounds_toArray, List.set_cons_zero, List.set_cons_succ]
          refine wpAnyH_ready (rs := [10, 15, 16]) (by kernel_rfl) (by simp) ?_
          refine callK 10 _ _ (.tuple #[.agg (fls (fun _ => 0)), .agg #[.float .f32 0, .float .f32 0], .int .i64 4]) kd rfl (by rfl) 67 #[.pointer (some ⟨g, k * 20, none⟩), .pointer (some ⟨g, 160 + k * 2, none⟩), .float .f32 1031798784] (fun w => by unfold execOp; go_simp) rfl rfl ?hc1 (fun w1 k1 => ?_) ?_
          case hc1 => exact HC.out _ (kd.v in2)
          · refine ⟨k1, ?_⟩
            simp only [Act.put, List.setIfInBounds_toArray, List.set_cons_zero, List.set_cons_succ]
            refine take_val 11 _ _ (.tuple #[.agg (fls (fun _ => 0)), .agg #[.float .f32 0, .float .f32 0], .int .i64 4]) rfl (by rfl) (by kernel_rfl) (by kernel_rfl) (by kernel_rfl) (fun w => by rfl) rfl rfl k1 ?_
            simp only [Act.put, List.setIfInBounds_toArray, List.set_cons_zero, List.set_cons_succ]
            refine take_val 12 _ _ (.agg (fls (fun _ => 0))) rfl (by rfl) (by kernel_rfl) (by kernel_rfl) (by kernel_rfl) (fun w => by unfold execOp; go_simp) rfl rfl k1 ?_
            simp only [Act.put, List.setIfInBounds_toArray, List.set_cons_zero, List.set_cons_succ]
            refine take_val 13 _ _ (.agg #[.float .f32 0, .float .f32 0]) rfl (by rfl) (by kernel_rfl) (by kernel_rfl) (by kernel_rfl) (fun w => by unfold execOp; go_simp) rfl rfl k1 ?_
            simp only [Act.put, List.setIfInBounds_toArray, List.set_cons_zero, List.set_cons_succ]
            refine take_val 14 _ _ (.int .i64 4) rfl (by rfl) (by kernel_rfl) (by kernel_rfl) (by kernel_rfl) (fun w => by unfold execOp; go_simp) rfl rfl k1 ?_
            simp only [Act.put, List.setIfInBounds_toArray, List.set_cons_zero, List.set_cons_succ]
            refine wpAnyH_ready (rs := [15, 16]) (by kernel_rfl) (by simp) ?_
            refine allocK 15 (fun g => _) _ k1 rfl (by rfl) (fls fun _ => 0) 30 (by unfold execOp; go_simp) (fun g => rfl) rfl (fun w2 g2 k2 hB2 hn2 => ?_) ?_
            · refine ⟨k2.tail, ?_⟩
              simp only [Act.put, List.setIfInBounds_toArray, List.set_cons_zero, List.set_cons_succ]
              refine wpAnyH_ready (rs := [16]) (by kernel_rfl) (by simp) ?_
              refine allocK 16 (fun g => _) _ k2 rfl (by rfl) (#[.float .f32 0, .float .f32 0]) 32 (by unfold execOp; go_simp) (fun g => rfl) rfl (fun w3 g3 k3 hB3 hn3 => ?_) AllReadyH.nil
              refine ⟨k3.tail.tail, ?_⟩
              simp only [Act.put, List.setIfInBounds_toArray, List.set_cons_zero, List.set_cons_succ]
              refine wpAnyH_ready (rs := [17]) (by kernel_rfl) (by simp) ?_
              refine storeK 17 _ _ (k3).swap hB2 (neC (hn3 _ in0).symm hn2) rfl (by rfl) 30 _ _ rfl (fls (fun _ => 0)) rfl rfl (by rw [fls_size]; exact info_arr) (by simp) (fls_one _) rfl rfl (fun w4 k4 => ?_) AllReadyH.nil
              refine ⟨k4.tail.tail, ?_⟩
              refine wpAnyH_ready (rs := [18]) (by kernel_rfl) (by simp) ?_
              refine storeK 18 _ _ (k4).swap hB3 (neC (hn3 _ in0) (fun x hx => hn3 x (List.mem_cons_of_mem _ hx))) rfl (by rfl) 32 _ _ rfl (#[.float .f32 0, .float .f32 0]) rfl rfl (info_air) (by simp) (two_one _ _) rfl rfl (fun w5 k5 => ?_) AllReadyH.nil
              refine ⟨k5.tail.tail, ?_⟩
              refine take_val 19 _ _ (.int .i64 4) rfl (by rfl) (by kernel_rfl) (by kernel_rfl) (by kernel_rfl) (fun w => by rfl) rfl rfl k5.tail.tail ?_
              simp only [Act.put, List.setIfInBounds_toArray, List.set_cons_zero, List.set_cons_succ]
              refine wpAnyH_done (by kernel_rfl) ?_ _
              exact ⟨rfl, g2, g3, rfl, ⟨((fun x hx => hn3 x (List.mem_cons_of_mem _ hx)) (w.heap.size + 1, vls 178 (clw (gcG c k k) t), 35) in0).symm, (hn2 (w.heap.size + 1, vls 178 (clw (gcG c k k) t), 35) in0).symm⟩, k5⟩
            refine allocK 16 (fun g => _) _ k1 rfl (by rfl) (#[.float .f32 0, .float .f32 0]) 32 (by unfold execOp; go_simp) (fun g => rfl) rfl (fun w6 g6 k6 hB6 hn6 => ?_) AllReadyH.nil
            refine ⟨k6.tail, ?_⟩
            simp only [Act.put, List.setIfInBounds_toArray, List.set_cons_zero, List.set_cons_succ]
            refine wpAnyH_ready (rs := [15]) (by kernel_rfl) (by simp) ?_
            refine allocK 15 (fun g => _) _ k6 rfl (by rfl) (fls fun _ => 0) 30 (by unfold execOp; go_simp) (fun g => rfl) rfl (fun w7 g7 k7 hB7 hn7 => ?_) AllReadyH.nil
            refine ⟨k7.tail.tail, ?_⟩
            simp only [Act.put, List.setIfInBounds_toArray, List.set_cons_zero, List.set_cons_succ]
            refine wpAnyH_ready (rs := [17]) (by kernel_rfl) (by simp) ?_
            refine storeK 17 _ _ k7 hB7 (neC (hn7 _ in0) (fun x hx => hn7 x (List.mem_cons_of_mem _ hx))) rfl (by rfl) 30 _ _ rfl (fls (fun _ => 0)) rfl rfl (by rw [fls_size]; exact info_arr) (by simp) (fls_one _) rfl rfl (fun w8 k8 => ?_) AllReadyH.nil
            refine ⟨k8.tail.tail, ?_⟩
            refine wpAnyH_ready (rs := [18]) (by kernel_rfl) (by simp) ?_
            refine storeK 18 _ _ (k8).swap hB6 (neC (hn7 _ in0).symm hn6) rfl (by rfl) 32 _ _ rfl (#[.float .f32 0, .float .f32 0]) rfl rfl (info_air) (by simp) (two_one _ _) rfl rfl (fun w9 k9 => ?_) AllReadyH.nil
            refine ⟨k9.tail.tail, ?_⟩
            refine take_val 19 _ _ (.int .i64 4) rfl (by rfl) (by kernel_rfl) (by kernel_rfl) (by kernel_rfl) (fun w => by rfl) rfl rfl k9.tail.tail ?_
            simp only [Act.put, List.setIfInBounds_toArray, List.set_cons_zero, List.set_cons_succ]
            refine wpAnyH_done (by kernel_rfl) ?_ _
            exact ⟨rfl, g7, g6, rfl, ⟨(hn6 (w.heap.size + 1, vls 178 (clw (gcG c k k) t), 35) in0).symm, ((fun x hx => hn7 x (List.mem_cons_of_mem _ hx)) (w.heap.size + 1, vls 178 (clw (gcG c k k) t), 35) in0).symm⟩, k9⟩
          refine allocK 15 (fun g => _) _ kd rfl (by rfl) (fls fun _ => 0) 30 (by unfold execOp; go_simp) (fun g => rfl) rfl (fun w10 g10 k10 hB10 hn10 => ?_) ?_
          · refine ⟨k10.tail, ?_⟩
            simp only [Act.put, List.setIfInBounds_toArray, List.set_cons_zero, List.set_cons_succ]
            refine wpAnyH_ready (rs := [10, 16]) (by kernel_rfl) (by simp) ?_
            refine callK 10 _ _ (.tuple #[.agg (fls (fun _ => 0)), .agg #[.float .f32 0, .float .f32 0], .int .i64 4]) k10 rfl (by rfl) 67 #[.pointer (some ⟨g, k * 20, none⟩), .pointer (some ⟨g, 160 + k * 2, none⟩), .float .f32 1031798784] (fun w => by unfold execOp; go_simp) rfl rfl ?hc11 (fun w11 k11 => ?_) ?_
            case hc11 => exact HC.out _ (k10.tail.v in2)
            · refine ⟨k11.tail, ?_⟩
              simp only [Act.put, List.setIfInBounds_toArray, List.set_cons_zero, List.set_cons_succ]
              refine take_val 11 _ _ (.tuple #[.agg (fls (fun _ => 0)), .agg #[.float .f32 0, .float .f32 0], .int .i64 4]) rfl (by rfl) (by kernel_rfl) (by kernel_rfl) (by kernel_rfl) (fun w => by rfl) rfl rfl k11.tail ?_
              simp only [Act.put, List.setIfInBounds_toArray, List.set_cons_zero, List.set_cons_succ]
              refine take_val 12 _ _ (.agg (fls (fun _ => 0))) rfl (by rfl) (by kernel_rfl) (by kernel_rfl) (by kernel_rfl) (fun w => by unfold execOp; go_simp) rfl rfl k11.tail ?_
              simp only [Act.put, List.setIfInBounds_toArray, List.set_cons_zero, List.set_cons_succ]
              refine take_val 13 _ _ (.agg #[.float .f32 0, .float .f32 0]) rfl (by rfl) (by kernel_rfl) (by kernel_rfl) (by kernel_rfl) (fun w => by unfold execOp; go_simp) rfl rfl k11.tail ?_
              simp only [Act.put, List.setIfInBounds_toArray, List.set_cons_zero, List.set_cons_succ]
              refine take_val 14 _ _ (.int .i64 4) rfl (by rfl) (by kernel_rfl) (by kernel_rfl) (by kernel_rfl) (fun w => by unfold execOp; go_simp) rfl rfl k11.tail ?_
              simp only [Act.put, List.setIfInBounds_toArray, List.set_cons_zero, List.set_cons_succ]
              refine wpAnyH_ready (rs := [16]) (by kernel_rfl) (by simp) ?_
              refine allocK 16 (fun g => _) _ k11 rfl (by rfl) (#[.float .f32 0, .float .f32 0]) 32 (by unfold execOp; go_simp) (fun g => rfl) rfl (fun w12 g12 k12 hB12 hn12 => ?_) AllReadyH.nil
              refine ⟨k12.tail.tail, ?_⟩
              simp only [Act.put, List.setIfInBounds_toArray, List.set_cons_zero, List.set_cons_succ]
              refine wpAnyH_ready (rs := [17]) (by kernel_rfl) (by simp) ?_
              refine storeK 17 _ _ (k12).swap hB10 (neC (hn12 _ in0).symm hn10) rfl (by rfl) 30 _ _ rfl (fls (fun _ => 0)) rfl rfl (by rw [fls_size]; exact info_arr) (by simp) (fls_one _) rfl rfl (fun w13 k13 => ?_) AllReadyH.nil
              refine ⟨k13.tail.tail, ?_⟩
              refine wpAnyH_ready (rs := [18]) (by kernel_rfl) (by simp) ?_
              refine storeK 18 _ _ (k13).swap hB12 (neC (hn12 _ in0) (fun x hx => hn12 x (List.mem_cons_of_mem _ hx))) rfl (by rfl) 32 _ _ rfl (#[.float .f32 0, .float .f32 0]) rfl rfl (info_air) (by simp) (two_one _ _) rfl rfl (fun w14 k14 => ?_) AllReadyH.nil
              refine ⟨k14.tail.tail, ?_⟩
              refine take_val 19 _ _ (.int .i64 4) rfl (by rfl) (by kernel_rfl) (by kernel_rfl) (by kernel_rfl) (fun w => by rfl) rfl rfl k14.tail.tail ?_
              simp only [Act.put, List.setIfInBounds_toArray, List.set_cons_zero, List.set_cons_succ]
              refine wpAnyH_done (by kernel_rfl) ?_ _
              exact ⟨rfl, g10, g12, rfl, ⟨((fun x hx => hn12 x (List.mem_cons_of_mem _ hx)) (w.heap.size + 1, vls 178 (clw (gcG c k k) t), 35) in0).symm, (hn10 (w.heap.size + 1, vls 178 (clw (gcG c k k) t), 35) in0).symm⟩, k14⟩
            refine allocK 16 (fun g => _) _ k10 rfl (by rfl) (#[.float .f32 0, .float .f32 0]) 32 (by unfold execOp; go_simp) (fun g => rfl) rfl (fun w15 g15 k15 hB15 hn15 => ?_) AllReadyH.nil
            refine ⟨k15.tail.tail, ?_⟩
            simp only [Act.put, List.setIfInBounds_toArray, List.set_cons_zero, List.set_cons_succ]
            refine wpAnyH_ready (rs := [10]) (by kernel_rfl) (by simp) ?_
            refine callK 10 _ _ (.tuple #[.agg (fls (fun _ => 0)), .agg #[.float .f32 0, .float .f32 0], .int .i64 4]) k15 rfl (by rfl) 67 #[.pointer (some ⟨g, k * 20, none⟩), .pointer (some ⟨g, 160 + k * 2, none⟩), .float .f32 1031798784] (fun w => by unfold execOp; go_simp) rfl rfl ?hc16 (fun w16 k16 => ?_) AllReadyH.nil
            case hc16 => exact HC.out _ (k15.tail.tail.v in2)
            refine ⟨k16.tail.tail, ?_⟩
            simp only [Act.put, List.setIfInBounds_toArray, List.set_cons_zero, List.set_cons_succ]
            refine take_val 11 _ _ (.tuple #[.agg (fls (fun _ => 0)), .agg #[.float .f32 0, .float .f32 0], .int .i64 4]) rfl (by rfl) (by kernel_rfl) (by kernel_rfl) (by kernel_rfl) (fun w => by rfl) rfl rfl k16.tail.tail ?_
            simp only [Act.put, List.setIfInBounds_toArray, List.set_cons_zero, List.set_cons_succ]
            refine take_val 12 _ _ (.agg (fls (fun _ => 0))) rfl (by rfl) (by kernel_rfl) (by kernel_rfl) (by kernel_rfl) (fun w => by unfold execOp; go_simp) rfl rfl k16.tail.tail ?_
            simp only [Act.put, List.setIfInBounds_toArray, List.set_cons_zero, List.set_cons_succ]
            refine take_val 13 _ _ (.agg #[.float .f32 0, .float .f32 0]) rfl (by rfl) (by kernel_rfl) (by kernel_rfl) (by kernel_rfl) (fun w => by unfold execOp; go_simp) rfl rfl k16.tail.tail ?_
            simp only [Act.put, List.setIfInBounds_toArray, List.set_cons_zero, List.set_cons_succ]
            refine take_val 14 _ _ (.int .i64 4) rfl (by rfl) (by kernel_rfl) (by kernel_rfl) (by kernel_rfl) (fun w => by unfold execOp; go_simp) rfl rfl k16.tail.tail ?_
            simp only [Act.put, List.setIfInBounds_toArray, List.set_cons_zero, List.set_cons_succ]
            refine wpAnyH_ready (rs := [17]) (by kernel_rfl) (by simp) ?_
            refine storeK 17 _ _ (k16).swap hB10 (neC (hn15 _ in0).symm hn10) rfl (by rfl) 30 _ _ rfl (fls (fun _ => 0)) rfl rfl (by rw [fls_size]; exact info_arr) (by simp) (fls_one _) rfl rfl (fun w17 k17 => ?_) AllReadyH.nil
            refine ⟨k17.tail.tail, ?_⟩
            refine wpAnyH_ready (rs := [18]) (by kernel_rfl) (by simp) ?_
            refine storeK 18 _ _ (k17).swap hB15 (neC (hn15 _ in0) (fun x hx => hn15 x (List.mem_cons_of_mem _ hx))) rfl (by rfl) 32 _ _ rfl (#[.float .f32 0, .float .f32 0]) rfl rfl (info_air) (by simp) (two_one _ _) rfl rfl (fun w18 k18 => ?_) AllReadyH.nil
            refine ⟨k18.tail.tail, ?_⟩
            refine take_val 19 _ _ (.int .i64 4) rfl (by rfl) (by kernel_rfl) (by kernel_rfl) (by kernel_rfl) (fun w => by rfl) rfl rfl k18.tail.tail ?_
            simp only [Act.put, List.setIfInBounds_toArray, List.set_cons_zero, List.set_cons_succ]
            refine wpAnyH_done (by kernel_rfl) ?_ _
            exact ⟨rfl, g10, g15, rfl, ⟨((fun x hx => hn15 x (List.mem_cons_of_mem _ hx)) (w.heap.size + 1, vls 178 (clw (gcG c k k) t), 35) in0).symm, (hn10 (w.heap.size + 1, vls 178 (clw (gcG c k k) t), 35) in0).symm⟩, k18⟩
          refine allocK 16 (fun g => _) _ kd rfl (by rfl) (#[.float .f32 0, .float .f32 0]) 32 (by unfold execOp; go_simp) (fun g => rfl) rfl (fun w19 g19 k19 hB19 hn19 => ?_) AllReadyH.nil
          refine ⟨k19.tail, ?_⟩
          simp only [Act.put, List.setIfInBounds_toArray, List.set_cons_zero, List.set_cons_succ]
          refine wpAnyH_ready (rs := [10, 15]) (by kernel_rfl) (by simp) ?_
          refine callK 10 _ _ (.tuple #[.agg (fls (fun _ => 0)), .agg #[.float .f32 0, .float .f32 0], .int .i64 4]) k19 rfl (by rfl) 67 #[.pointer (some ⟨g, k * 20, none⟩), .pointer (some ⟨g, 160 + k * 2, none⟩), .float .f32 1031798784] (fun w => by unfold execOp; go_simp) rfl rfl ?hc20 (fun w20 k20 => ?_) ?_
          case hc20 => exact HC.out _ (k19.tail.v in2)
          · refine ⟨k20.tail, ?_⟩
            simp only [Act.put, List.setIfInBounds_toArray, List.set_cons_zero, List.set_cons_succ]
            refine take_val 11 _ _ (.tuple #[.agg (fls (fun _ => 0)), .agg #[.float .f32 0, .float .f32 0], .int .i64 4]) rfl (by rfl) (by kernel_rfl) (by kernel_rfl) (by kernel_rfl) (fun w => by rfl) rfl rfl k20.tail ?_
            simp only [Act.put, List.setIfInBounds_toArray, List.set_cons_zero, List.set_cons_succ]
            refine take_val 12 _ _ (.agg (fls (fun _ => 0))) rfl (by rfl) (by kernel_rfl) (by kernel_rfl) (by kernel_rfl) (fun w => by unfold execOp; go_simp) rfl rfl k20.tail ?_
            simp only [Act.put, List.setIfInBounds_toArray, List.set_cons_zero, List.set_cons_succ]
            refine take_val 13 _ _ (.agg #[.float .f32 0, .float .f32 0]) rfl (by rfl) (by kernel_rfl) (by kernel_rfl) (by kernel_rfl) (fun w => by unfold execOp; go_simp) rfl rfl k20.tail ?_
            simp only [Act.put, List.setIfInBounds_toArray, List.set_cons_zero, List.set_cons_succ]
            refine take_val 14 _ _ (.int .i64 4) rfl (by rfl) (by kernel_rfl) (by kernel_rfl) (by kernel_rfl) (fun w => by unfold execOp; go_simp) rfl rfl k20.tail ?_
            simp only [Act.put, List.setIfInBounds_toArray, List.set_cons_zero, List.set_cons_succ]
            refine wpAnyH_ready (rs := [15]) (by kernel_rfl) (by simp) ?_
            refine allocK 15 (fun g => _) _ k20 rfl (by rfl) (fls fun _ => 0) 30 (by unfold execOp; go_simp) (fun g => rfl) rfl (fun w21 g21 k21 hB21 hn21 => ?_) AllReadyH.nil
            refine ⟨k21.tail.tail, ?_⟩
            simp only [Act.put, List.setIfInBounds_toArray, List.set_cons_zero, List.set_cons_succ]
            refine wpAnyH_ready (rs := [17]) (by kernel_rfl) (by simp) ?_
            refine storeK 17 _ _ k21 hB21 (neC (hn21 _ in0) (fun x hx => hn21 x (List.mem_cons_of_mem _ hx))) rfl (by rfl) 30 _ _ rfl (fls (fun _ => 0)) rfl rfl (by rw [fls_size]; exact info_arr) (by simp) (fls_one _) rfl rfl (fun w22 k22 => ?_) AllReadyH.nil
            refine ⟨k22.tail.tail, ?_⟩
            refine wpAnyH_ready (rs := [18]) (by kernel_rfl) (by simp) ?_
            refine storeK 18 _ _ (k22).swap hB19 (neC (hn21 _ in0).symm hn19) rfl (by rfl) 32 _ _ rfl (#[.float .f32 0, .float .f32 0]) rfl rfl (info_air) (by simp) (two_one _ _) rfl rfl (fun w23 k23 => ?_) AllReadyH.nil
            refine ⟨k23.tail.tail, ?_⟩
            refine take_val 19 _ _ (.int .i64 4) rfl (by rfl) (by kernel_rfl) (by kernel_rfl) (by kernel_rfl) (fun w => by rfl) rfl rfl k23.tail.tail ?_
            simp only [Act.put, List.setIfInBounds_toArray, List.set_cons_zero, List.set_cons_succ]
            refine wpAnyH_done (by kernel_rfl) ?_ _
            exact ⟨rfl, g21, g19, rfl, ⟨(hn19 (w.heap.size + 1, vls 178 (clw (gcG c k k) t), 35) in0).symm, ((fun x hx => hn21 x (List.mem_cons_of_mem _ hx)) (w.heap.size + 1, vls 178 (clw (gcG c k k) t), 35) in0).symm⟩, k23⟩
          refine allocK 15 (fun g => _) _ k19 rfl (by rfl) (fls fun _ => 0) 30 (by unfold execOp; go_simp) (fun g => rfl) rfl (fun w24 g24 k24 hB24 hn24 => ?_) AllReadyH.nil
          refine ⟨k24.tail.tail, ?_⟩
          simp only [Act.put, List.setIfInBounds_toArray, List.set_cons_zero, List.set_cons_succ]
          refine wpAnyH_ready (rs := [10]) (by kernel_rfl) (by simp) ?_
          refine callK 10 _ _ (.tuple #[.agg (fls (fun _ => 0)), .agg #[.float .f32 0, .float .f32 0], .int .i64 4]) k24 rfl (by rfl) 67 #[.pointer (some ⟨g, k * 20, none⟩), .pointer (some ⟨g, 160 + k * 2, none⟩), .float .f32 1031798784] (fun w => by unfold execOp; go_simp) rfl rfl ?hc25 (fun w25 k25 => ?_) AllReadyH.nil
          case hc25 => exact HC.out _ (k24.tail.tail.v in2)
          refine ⟨k25.tail.tail, ?_⟩
          simp only [Act.put, List.setIfInBounds_toArray, List.set_cons_zero, List.set_cons_succ]
          refine take_val 11 _ _ (.tuple #[.agg (fls (fun _ => 0)), .agg #[.float .f32 0, .float .f32 0], .int .i64 4]) rfl (by rfl) (by kernel_rfl) (by kernel_rfl) (by kernel_rfl) (fun w => by rfl) rfl rfl k25.tail.tail ?_
          simp only [Act.put, List.setIfInBounds_toArray, List.set_cons_zero, List.set_cons_succ]
          refine take_val 12 _ _ (.agg (fls (fun _ => 0))) rfl (by rfl) (by kernel_rfl) (by kernel_rfl) (by kernel_rfl) (fun w => by unfold execOp; go_simp) rfl rfl k25.tail.tail ?_
          simp only [Act.put, List.setIfInBounds_toArray, List.set_cons_zero, List.set_cons_succ]
          refine take_val 13 _ _ (.agg #[.float .f32 0, .float .f32 0]) rfl (by rfl) (by kernel_rfl) (by kernel_rfl) (by kernel_rfl) (fun w => by unfold execOp; go_simp) rfl rfl k25.tail.tail ?_
          simp only [Act.put, List.setIfInBounds_toArray, List.set_cons_zero, List.set_cons_succ]
          refine take_val 14 _ _ (.int .i64 4) rfl (by rfl) (by kernel_rfl) (by kernel_rfl) (by kernel_rfl) (fun w => by unfold execOp; go_simp) rfl rfl k25.tail.tail ?_
          simp only [Act.put, List.setIfInBounds_toArray, List.set_cons_zero, List.set_cons_succ]
          refine wpAnyH_ready (rs := [17]) (by kernel_rfl) (by simp) ?_
          refine storeK 17 _ _ k25 hB24 (neC (hn24 _ in0) (fun x hx => hn24 x (List.mem_cons_of_mem _ hx))) rfl (by rfl) 30 _ _ rfl (fls (fun _ => 0)) rfl rfl (by rw [fls_size]; exact info_arr) (by simp) (fls_one _) rfl rfl (fun w26 k26 => ?_) AllReadyH.nil
          refine ⟨k26.tail.tail, ?_⟩
          refine wpAnyH_ready (rs := [18]) (by kernel_rfl) (by simp) ?_
          refine storeK 18 _ _ (k26).swap hB19 (neC (hn24 _ in0).symm hn19) rfl (by rfl) 32 _ _ rfl (#[.float .f32 0, .float .f32 0]) rfl rfl (info_air) (by simp) (two_one _ _) rfl rfl (fun w27 k27 => ?_) AllReadyH.nil
          refine ⟨k27.tail.tail, ?_⟩
          refine take_val 19 _ _ (.int .i64 4) rfl (by rfl) (by kernel_rfl) (by kernel_rfl) (by kernel_rfl) (fun w => by rfl) rfl rfl k27.tail.tail ?_
          simp only [Act.put, List.setIfInBounds_toArray, List.set_cons_zero, List.set_cons_succ]
          refine wpAnyH_done (by kernel_rfl) ?_ _
          exact ⟨rfl, g24, g19, rfl, ⟨(hn19 (w.heap.size + 1, vls 178 (clw (gcG c k k) t), 35) in0).symm, ((fun x hx => hn24 x (List.mem_cons_of_mem _ hx)) (w.heap.size + 1, vls 178 (clw (gcG c k k) t), 35) in0).symm⟩, k27⟩
        rintro a1 wx ⟨g6, g7, rfl, hg67, k3⟩
        have k3 := hid k3.tail.tail.swap
        clear h0 hg67 HC
        simp only [Act.put, List.setIfInBounds_toArray, List.set_cons_zero, List.set_cons_succ]
        have tok1 : True := trivial
        go_wp2_with (have _t := tok1; refine store_row (by rfl) 35 _ _ (by rfl) (w.heap.size) (vls 178 (clw (fun _ => 0) 0)) (vls 178 (clw (fun _ => 0) 0)) (by rfl) (by rfl) k3.out (by rw [vls_size]; exact info_col) (by simp) (vls_one (clw_one _ _)) (by omega) (neC (by omega) (neC (by have := HGL.out; omega) ne0)) ?_; intro wz k4; replace k4 := hid k4; clear k3 tok1)
        exact bodyPost_ret (results_row_tmp rfl _ _ (w.heap.size) 35 (vls 178 (clw (fun _ => 0) 0)) (0, 0) _ rfl (k4.out.at (x := (w.heap.size, vls 178 (clw (fun _ => 0) 0), 35)) in0) Try.underlying35 rfl (by rw [vls_size]; exact info_col)) rfl ⟨rfl, k4.out.1⟩
    · obtain rfl : k = 8 := by omega
      obtain rfl : K = 8 := by omega
      obtain ⟨rfl, rfl, rfl⟩ := HR1.out rfl
      have HC := hid (fun w T hv => sMadeC_t (gcG c 8 8) s (gcG_lt HQ.out HB.out HM.out) (gcG_ok HQ.out HB.out HM.out) w (w.heap.size + 1) T hv)
      have HX := hid (fun w2 => sMadeC_t (gcG c 8 8) s (gcG_lt HQ.out HB.out HM.out) (gcG_ok HQ.out HB.out HM.out) w2 (w.heap.size + 1) 35)
      clear HR1 HR0 HC
      go_wp2_with fail
      refine (HX.out _ (h0.out.v in0)).mono ?_
      rintro e w7 ⟨rfl, hb7⟩
      have k3 := hid ((h0.out.stay hb7).swap)
      have tok1 : True := trivial
      clear h0 hb7 HX
      go_wp2_with (first
        | (have _t := tok1; clear tok1; refine store_row (by rfl) 35 _ _ (by rfl) (w.heap.size) (vls 178 (clw (gcG c 8 8) s)) (vls 178 (clw (fun _ => 0) 0)) (by rfl) (by rfl) k3.out (by rw [vls_size]; exact info_col) (by simp) (vls_one (clw_one _ _)) (by omega) (neC (by omega) (neC (by have := HGL.out; omega) ne0)) ?_; intro wz k4; replace k4 := hid k4; clear k3))
      exact bodyPost_ret (results_row_tmp rfl _ _ (w.heap.size) 35 (vls 178 (clw (gcG c 8 8) s)) (0, 0) _ rfl (k4.out.at (x := (w.heap.size, vls 178 (clw (gcG c 8 8) s), 35)) in0) Try.underlying35 rfl (by rw [vls_size]; exact info_col)) rfl ⟨rfl, k4.out.1⟩

set_option maxRecDepth 100000 in
theorem sGrowColumn_bad (c : Nat → Nat) (t : Int)  (hb : ∀ i, i < 177 → c i < 4294967296) (h : ¬ ColOk c t) (w : World) :
    Calls Try.prog 27 #[.agg (vls 178 (clw c t))] w fun e w' => e = .returned (.tuple #[.agg (vls 178 (clw (fun _ => 0) 0)), .int .i64 1]) ∧ Below w.heap.size w w' := by
  have k0 : Hid (Kept w [(w.heap.size + 1, vls 178 (clw (fun _ => 0) 0), 35), (w.heap.size, vls 178 (clw c t), 35)] ((w.alloc (.cells (vls 178 (clw c t)) 35)).alloc (.cells (vls 178 (clw (fun _ => 0) 0)) 35))) := hid ((((Kept.nil w).push _ _).push _ _).sub (by simp))
  have HB := hid hb
  have HQ := hid h
  have tok1 : True := trivial
  clear hb h
  go_enter Try.func27, Try.ntmps27
  go_wp2_with fail
  refine (sColOk c t HB.out false (col_no HQ.out) _ w.heap.size 35 (k0.out.v in1)).mono ?_
  rintro e w1 ⟨rfl, hb1⟩
  have k1 := hid (k0.out.stay hb1)
  clear k0 hb1
  go_wp2_with (have _t := tok1; refine store_row (by rfl) 35 _ _ (by rfl) (w.heap.size + 1) (vls 178 (clw (fun _ => 0) 0)) (vls 178 (clw (fun _ => 0) 0)) (by rfl) (by rfl) k1.out (by rw [vls_size]; exact info_col) (by simp) (vls_one (clw_one _ _)) (by omega) (neC (by omega) ne0) ?_; intro xk2 k2; replace k2 := hid k2; clear k1 tok1)
  exact bodyPost_ret (results_row_tmp rfl _ _ (w.heap.size + 1) 35 (vls 178 (clw (fun _ => 0) 0)) (0, 0) _ rfl (k2.out.at (x := (w.heap.size + 1, vls 178 (clw (fun _ => 0) 0), 35)) in0) Try.underlying35 rfl (by rw [vls_size]; exact info_col)) rfl ⟨rfl, k2.out.1⟩

set_option maxRecDepth 100000 in
theorem sGrowColumn_ok (c : Nat → Nat) (t : Int) (hb : ∀ i, i < 177 → c i < 4294967296) (h : ColOk c t) (r : Nat → Nat) (s n : Int) (K : Nat) (hK : K ≤ 8) (hM : ∀ j, j < K → okCel c j) (hN : K < 8 → ¬ okCel c K) (h1 : K = 8 → r = gcG c 8 8 ∧ s = t ∧ n = 0) (h0 : K ≠ 8 → r = (fun _ => 0) ∧ s = 0 ∧ n = 4) (w : World) :
    Calls Try.prog 27 #[.agg (vls 178 (clw c t))] w fun e w' => e = .returned (.tuple #[.agg (vls 178 (clw r s)), .int .i64 n]) ∧ Below w.heap.size w w' := by
  have k0 : Hid (Kept w [(w.heap.size + 1, vls 178 (clw (fun _ => 0) 0), 35), (w.heap.size, vls 178 (clw c t), 35)] ((w.alloc (.cells (vls 178 (clw c t)) 35)).alloc (.cells (vls 178 (clw (fun _ => 0) 0)) 35))) := hid ((((Kept.nil w).push _ _).push _ _).sub (by simp))
  have HB := hid hb
  have HQ := hid h
  have HM := hid hM
  have HN := hid hN
  have H1 := hid h1
  have H0 := hid h0
  have tok1 : True := trivial
  clear hb h h1 h0 hM hN
  go_enter Try.func27, Try.ntmps27
  go_wp2_with fail
  refine (sColOk c t HB.out true (col_ok HQ.out) _ w.heap.size 35 (k0.out.v in1)).mono ?_
  rintro e w1 ⟨rfl, hb1⟩
  have k1 := hid (k0.out.stay hb1)
  clear k0 hb1
  go_wp2_with fail
  refine (sGrowL c t HB.out HQ.out K hK HM.out HN.out r s n H1.out H0.out _ w.heap.size 35 (k1.out.v in1)).mono ?_
  rintro e w2 ⟨rfl, hb2⟩
  have k2 := hid (k1.out.stay hb2)
  clear k1 hb2
  go_wp2_with (have _t := tok1; refine store_row (by rfl) 35 _ _ (by rfl) (w.heap.size + 1) (vls 178 (clw r s)) (vls 178 (clw (fun _ => 0) 0)) (by rfl) (by rfl) k2.out (by rw [vls_size]; exact info_col) (by simp) (vls_one (clw_one _ _)) (by omega) (neC (by omega) ne0) ?_; intro xk3 k3; replace k3 := hid k3; clear k2 tok1)
  exact bodyPost_ret (results_row_tmp rfl _ _ (w.heap.size + 1) 35 (vls 178 (clw r s)) (0, 0) _ rfl (k3.out.at (x := (w.heap.size + 1, vls 178 (clw r s), 35)) in0) Try.underlying35 rfl (by rw [vls_size]; exact info_col)) rfl ⟨rfl, k3.out.1⟩

theorem words_cons : ∀ (v : List Char) (r : List Char), (∀ c ∈ v, c ≠ Char.ofNat 32) → wordsSigns (v ++ Char.ofNat 32 :: r) = v :: wordsSigns r
  | [], r, _ => rfl
  | c :: v, r, h => by
    have ih := words_cons v r (fun x hx => h x (by simp [hx]))
    have hc : c ≠ Char.ofNat 32 := h c (by simp)
    show wordsSigns (c :: (v ++ Char.ofNat 32 :: r)) = _
    rw [wordsSigns.eq_3 _ _ (fun e => hc e), ih]

def w0 : List Nat := [104, 97, 114, 110, 101, 115, 115]

def w1 : List Nat := [99, 51, 54, 52, 56, 54, 53, 52, 51, 50, 97, 52, 52, 52, 101, 99, 51, 56, 52, 98, 48, 52, 50, 55, 102, 100, 102, 49, 49, 55, 52, 48, 49, 99, 100, 49, 50, 50, 97, 52, 51, 53, 50, 98, 56, 101, 57, 52, 97, 56, 99, 57, 48, 99, 56, 52, 55, 98, 97, 55, 52, 57, 50, 101]

def w2 : List Nat := [99, 117, 116]

def w3 : List Nat := [97, 116, 32, 108, 111, 111, 112, 46, 101, 120, 97, 109, 112, 108, 101, 47, 103, 48, 49, 50, 50, 52, 47, 108, 97, 119, 115, 46, 70, 110, 69, 120, 97, 99, 116, 83, 116, 105, 114, 67, 111, 108, 117, 109, 110, 32, 108, 111, 111, 112, 46, 101, 120, 97, 109, 112, 108, 101, 47, 103, 48, 49, 50, 50, 52, 47, 108, 97, 119, 115, 46, 70, 110, 69, 120, 97, 99, 116, 71, 114, 111, 119, 79, 110, 99, 101, 32, 108, 111, 111, 112, 46, 101, 120, 97, 109, 112, 108, 101, 47, 103, 48, 49, 50, 50, 52, 47, 108, 97, 119, 115, 46, 70, 110, 69, 120, 97, 99, 116, 71, 114, 111, 119, 83, 116, 101, 112, 115, 32, 108, 111, 111, 112, 46, 101, 120, 97, 109, 112, 108, 101, 47, 103, 48, 49, 50, 50, 52, 47, 108, 97, 119, 115, 46, 70, 110, 69, 120, 97, 99, 116, 83, 116, 101, 112, 115, 84, 111, 68, 114, 121, 32, 108, 111, 111, 112, 46, 101, 120, 97, 109, 112, 108, 101, 47, 103, 48, 49, 50, 50, 52, 47, 108, 97, 119, 115, 46, 70, 110, 69, 120, 97, 99, 116, 71, 114, 111, 119, 67, 111, 108, 117, 109, 110, 32, 108, 111, 111, 112, 46, 101, 120, 97, 109, 112, 108, 101, 47, 103, 48, 49, 50, 50, 52, 47, 108, 97, 119, 115, 46, 70, 110, 69, 120, 97, 99, 116, 86, 97, 108, 105, 100, 68, 101, 101, 100, 32, 108, 111, 111, 112, 46, 101, 120, 97, 109, 112, 108, 101, 47, 103, 48, 49, 50, 50, 52, 47, 108, 97, 119, 115, 46, 70, 110, 69, 120, 97, 99, 116, 67, 111, 108, 108, 105, 100, 101, 80, 97, 105, 114, 115, 32, 108, 111, 111, 112, 46, 101, 120, 97, 109, 112, 108, 101, 47, 103, 48, 49, 50, 50, 52, 47, 108, 97, 119, 115, 46, 70, 110, 69, 120, 97, 99, 116, 83, 116, 101, 97, 100, 121, 83, 111, 117, 110, 100, 105, 110, 103, 32, 108, 111, 111, 112, 46, 101, 120, 97, 109, 112, 108, 101, 47, 103, 48, 49, 50, 50, 52, 47, 108, 97, 119, 115, 46, 70, 110, 69, 120, 97, 99, 116, 82, 105, 115, 101, 73, 110, 32, 108, 111, 111, 112, 46, 101, 120, 97, 109, 112, 108, 101, 47, 103, 48, 49, 50, 50, 52, 47, 108, 97, 119, 115, 46, 70, 110, 69, 120, 97, 99, 116, 84, 104, 105, 114, 100, 82, 111, 111, 116]

def letters (l : List Nat) : List Char := l.map Char.ofNat

theorem head_reads : Try.prog.initOrder = String.ofList (letters w0 ++ Char.ofNat 32 :: (letters w1 ++ Char.ofNat 32 :: (letters w2 ++ Char.ofNat 32 :: letters w3))) := by kernel_rfl

theorem no_blank {l : List Nat} (h : l.all (fun n => Char.ofNat n != Char.ofNat 32) = true) : ∀ c ∈ letters l, c ≠ Char.ofNat 32 := by
  intro c hc
  obtain ⟨n, hn, rfl⟩ := List.mem_map.1 hc
  have := List.all_eq_true.1 h n hn
  simpa using this

theorem h0 : letters w0 = "harness".toList := by kernel_rfl

theorem h2 : letters w2 = "cut".toList := by kernel_rfl

theorem sums : isSumSigns (letters w1) = true := by kernel_rfl

theorem words : wordsSigns Try.prog.initOrder.toList = "harness".toList :: letters w1 :: "cut".toList :: wordsSigns (letters w3) := by
  rw [head_reads, String.toList_ofList, words_cons _ _ (no_blank (by decide +kernel)), words_cons _ _ (no_blank (by decide +kernel)), words_cons _ _ (no_blank (by decide +kernel)), h0, h2]

theorem behind : ∃ r, behindMainWord (wordsSigns Try.prog.initOrder.toList) = "cut".toList :: r := by
  refine ⟨wordsSigns (letters w3), ?_⟩
  rw [words]
  generalize wordsSigns (letters w3) = r
  have hs := sums
  generalize letters w1 = v at hs
  unfold behindMainWord
  simp [hs]

theorem not_later : Try.prog.laysLater = false := by kernel_rfl

theorem no_reflect : Try.prog.bearsReflect = false := by kernel_rfl

theorem no_doors : Try.prog.doorFits [] = true := by kernel_rfl

theorem strips (r : List (List Char)) : stripLifts liftWords ("cut".toList :: r) = ([], "cut".toList :: r) := by kernel_rfl

theorem may_enter_of (P : Program) (r : List (List Char)) (h : behindMainWord (wordsSigns P.initOrder.toList) = "cut".toList :: r) (h1 : P.laysLater = false) (h2 : P.bearsReflect = false) (h3 : P.doorFits [] = true) : P.mayEnter = true := by
  unfold Program.mayEnter
  rw [h]
  dsimp only
  rw [strips, h1, h2, h3]
  kernel_rfl

theorem lifts_final_of (P : Program) (r : List (List Char)) (h : behindMainWord (wordsSigns P.initOrder.toList) = "cut".toList :: r) : P.liftsFinal = false := by
  unfold Program.liftsFinal Program.headLifts
  rw [h]
  dsimp only
  rw [strips]
  kernel_rfl

theorem made_of (P : Program) (r : List (List Char)) (h : behindMainWord (wordsSigns P.initOrder.toList) = "cut".toList :: r) : P.make = some .cut := by
  unfold Program.make
  rw [h]
  kernel_rfl

theorem may_enter : Try.prog.mayEnter = true := let ⟨r, h⟩ := behind; may_enter_of _ r h not_later no_reflect no_doors

theorem lifts_final : Try.prog.liftsFinal = false := let ⟨r, h⟩ := behind; lifts_final_of _ r h

theorem made : Try.prog.make = some .cut := let ⟨r, h⟩ := behind; made_of _ r h

theorem laid : laidOutB Try.prog = true := by kernel_rfl

theorem rowed : mapsRowed Try.prog = true := by kernel_rfl

theorem no_stops : Try.prog.stops = [] := by kernel_rfl

theorem no_knobs : Try.prog.stopKnobs = [] := by kernel_rfl

theorem plain_keys : Try.prog.plainKeys = false := by kernel_rfl

theorem stops_heard : Try.prog.stopsHeard = true := by kernel_rfl

theorem arr1 {α : Type} {cs : Array α} (h : cs.size = 1) : ∃ c0, cs = #[c0] := by
  obtain ⟨l⟩ := cs
  match l, h with
  | [a], _ => exact ⟨a, rfl⟩

theorem own : ownKnob Try.prog.godebug = none := by kernel_rfl

theorem cells178 : Try.prog.cellsOf 29 = 178 := by kernel_rfl

theorem types178 : Try.prog.cellTypes Try.prog.depth 29 = some (List.replicate 177 22 ++ [2]) := by kernel_rfl

theorem rdc : Try.prog.readableRec 29 = true ∧ 29 < Try.prog.types.size := ⟨by kernel_rfl, of_decide_eq_true (by kernel_rfl)⟩
end Go.Proofs.Ythpimindkmmkjaa
