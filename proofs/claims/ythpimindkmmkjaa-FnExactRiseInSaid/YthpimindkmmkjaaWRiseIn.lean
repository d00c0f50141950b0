import Derived.Test.YthpimindkmmkjaaSRiseIn
import Derived.Test.YthpimindkmmkjaaCRiseIn
import Derived.Test.YthpimindkmmkjaaChecked
import Derived.Test.YthpimindkmmkjaaRows
import Derived.Laws.FloatArith
import Derived.ProofKit
import Derived.WalkKit
import Derived.WalkLawsBesides
import Derived.WalkSpells
import Derived.Deep.QuietTactic
import Derived.BigQuiet
import Derived.Deep.RegionHeld3
import Derived.ChangeKeysEq
import Derived.Laws.BitsAllLaws
import Derived.Deep.MidRow
import Derived.Deep.WholeRow
import Derived.StillTailTactics
import Derived.Deep.Slices
import Derived.ChangeSame
import Derived.OrdersIn
import Derived.ControlIn
import Derived.RangeFuncSeq
import Derived.RangeFuncNested
import Derived.RangeFuncLeaves
import Derived.RangeFuncBox
import Derived.OwnWalkIn
import Derived.TacticsInMore
import Derived.LoopNIn
import Derived.LoopIn
import Derived.Shelf.Abstract
import Derived.ArgAppend
import Derived.Lib.SliceRun
import Derived.OpenShut
import Derived.Below
import Derived.Laws.AppendOwn
import Derived.MapKept
import Derived.StillTail
import Derived.ScopeJumps
/- The law FnExactRiseIn of chapter 1: at every argument the call returns true, and what was there before it is as it was. -/
namespace Go.Proofs.Ythpimindkmmkjaa
open Go.RowKit Go.Fl

set_option maxRecDepth 100000 in
set_option maxHeartbeats 4000000 in
theorem coreRiseIn (n : Nat) (x : Nat → Nat) (hx : W32 x) (a h v st sh : Nat) (m : Int) (ra rh rv re : Nat) (hla : ra < 4294967296) (hlh : rh < 4294967296) (hlv : rv < 4294967296) (hfa : finB ra = true) (hfh : finB rh = true) (hfv : finB rv = true) (hl0 : re < 4294967296) (rk c : Int)
    (hS : ∀ w s, Rd w s n x → n ≤ 1048576 → Calls Try.prog 46 #[s, .agg #[.float .f32 a, .float .f32 h, .float .f32 v], .float .f32 st, .float .f32 sh, .int .i64 m] w fun e w' => e = .returned (.tuple #[.agg #[.float .f32 ra, .float .f32 rh, .float .f32 rv], .float .f32 re, .int .i64 rk, .int .i64 c]) ∧ Below w.heap.size w w')
    (hI : ∀ w s, Rd w s n x → n ≤ 1048576 → Calls Try.prog 48 #[s, .agg #[.float .f32 a, .float .f32 h, .float .f32 v], .float .f32 st, .float .f32 sh, .int .i64 m] w fun e w' => e = .returned (.tuple #[.agg #[.float .f32 ra, .float .f32 rh, .float .f32 rv], .float .f32 re, .int .i64 rk, .int .i64 c]) ∧ Below w.heap.size w w') (s : Value) (w : World) (hs : Rd w s n x) (hm : n ≤ maxLen) :
    Calls Try.prog 11 #[s, .agg #[.float .f32 a, .float .f32 h, .float .f32 v], .float .f32 st, .float .f32 sh, .int .i64 m] w fun e w' => e = .returned (.bool true) ∧ Below w.heap.size w w' := by
  have HS := hid hS
  have HI := hid hI
  have HX := hid hx
  have q0 := hid hs
  have k0 : Hid (Kept w [(w.heap.size, #[.float .f32 a, .float .f32 h, .float .f32 v], 86)] (w.alloc (.cells #[.float .f32 a, .float .f32 h, .float .f32 v] 86))) := hid ((Kept.nil w).push _ _)
  have HLA := hid hla
  have HLH := hid hlh
  have HLV := hid hlv
  have HFA := hid hfa
  have HFH := hid hfh
  have HFV := hid hfv
  clear hS hI hx hla hlh hlv hfa hfh hfv
  obtain ⟨p, cap, rfl, _⟩ := hs
  by_cases hn : n ≤ 1048576
  · have HN := hid hn
    have hneg : ¬ (1048576 - (n : Int) < 0) := by omega
    obtain ⟨zf0, wf0, hc0, hd0, hs0⟩ := conv_any (P := Try.prog) 22 94 re hl0 Try.underlying22 Try.underlying94
    have S0 := hid hs0
    have D0 := hid hd0
    clear hl0 hs0 hd0
    clear hn
    go_enter Try.func11, Try.ntmps11
    go_wp2_with fail
    refine (szLevels_ok p n cap HN.out _).mono ?_
    rintro e u ⟨rfl, rfl⟩
    go_wp2_with fail
    refine region_act (w0 := w) (lk := [(w.heap.size, #[.float .f32 a, .float .f32 h, .float .f32 v], 86)]) (fun a0 a1 wq => ∃ gl g12 : Nat, a1 = (((((((((((((((((a0.put (some 27) (.slice p n cap)).put (some 28) (.slice (some ⟨gl, 0, none⟩) n n)).put (some 29) (.agg #[.float .f32 a, .float .f32 h, .float .f32 v])).put (some 30) (.agg #[.float .f32 a, .float .f32 h, .float .f32 v])).put (some 31) (.float .f32 st)).put (some 32) (.float .f32 sh)).put (some 33) (.int .i64 m)).put (some 34) (.tuple #[.agg #[.float .f32 ra, .float .f32 rh, .float .f32 rv], .float .f32 re, .int .i64 rk, .int .i64 c])).put (some 26) (.tuple #[.agg #[.float .f32 ra, .float .f32 rh, .float .f32 rv], .float .f32 re, .int .i64 rk, .int .i64 c])).put (some 35) (.agg #[.float .f32 ra, .float .f32 rh, .float .f32 rv])).put (some 36) (.float .f32 re)).put (some 37) (.int .i64 rk)).put (some 38) (.int .i64 c)).put (some 12) (.pointer (some ⟨g12, 0, none⟩))).put (some 13) (.float .f32 re)).put (some 14) (.int .i64 rk)).put (some 15) (.int .i64 c)) ∧ Kept w [(g12, #[.float .f32 ra, .float .f32 rh, .float .f32 rv], 88), (w.heap.size, #[.float .f32 a, .float .f32 h, .float .f32 v], 86)] wq) 18 #[false, false, false, false, false, false, false, false, false, false, false, false, false, false, false, false, false, false] (by kernel_rfl) rfl rfl ?_ ?_
    · have kd := k0.out.drew
      generalize World.drew _ = wd at kd ⊢
      refine take_val 0 _ _ (.slice p n cap) rfl (by rfl) (by kernel_rfl) (by kernel_rfl) (by kernel_rfl) (fun w => by rfl) rfl rfl kd ?_
      simp only [Act.put, List.setIfInBounds_toArray, List.set_cons_zero, List.set_cons_succ]
      refine take_load 2 _ _ rfl (by rfl) (by kernel_rfl) (by kernel_rfl) (by kernel_rfl) 86 _ rfl (w.heap.size) (#[.float .f32 a, .float .f32 h, .float .f32 v]) 86 rfl in0 _ Try.underlying86 rfl (info_lpar) rfl rfl kd ?_
      simp only [Act.put, List.setIfInBounds_toArray, List.set_cons_zero, List.set_cons_succ]
      refine take_val 4 _ _ (.float .f32 st) rfl (by rfl) (by kernel_rfl) (by kernel_rfl) (by kernel_rfl) (fun w => by rfl) rfl rfl kd ?_
      simp only [Act.put, List.setIfInBounds_toArray, List.set_cons_zero, List.set_cons_succ]
      refine take_val 5 _ _ (.float .f32 sh) rfl (by rfl) (by kernel_rfl) (by kernel_rfl) (by kernel_rfl) (fun w => by rfl) rfl rfl kd ?_
      simp only [Act.put, List.setIfInBounds_toArray, List.set_cons_zero, List.set_cons_succ]
      refine take_val 6 _ _ (.int .i64 m) rfl (by rfl) (by kernel_rfl) (by kernel_rfl) (by kernel_rfl) (fun w => by rfl) rfl rfl kd ?_
      simp only [Act.put, List.setIfInBounds_toArray, List.set_cons_zero, List.set_cons_succ]
      refine wpAnyH_ready (rs := [1, 13]) (by kernel_rfl) (by simp) ?_
      refine callKQ 1 _ (fun y w' => ∃ g cs, y = .slice (some ⟨g, 0, none⟩) n n ∧ LvW cs (3 * n) x ∧ Kept wd [(g, cs, 153)] w') kd rfl (by rfl) 41 #[.slice p n cap] (fun w => by unfold execOp; go_simp) rfl ?hc1 (fun v1 w1 hv1 kk1 hb1 => ?_) ?_
      case hc1 =>
        refine (toLevelsK _ n x HX.out _ (q0.out.stay kd.1) HN.out).mono ?_
        rintro e w' ⟨rfl, cs, h, K⟩
        exact ⟨_, ⟨_, cs, rfl, h, K⟩, rfl, K.1⟩
      · obtain ⟨gl1, cs1, rfl, vl1, K1⟩ := hv1
        have k1 := kd.join K1
        refine ⟨kk1, ?_⟩
        simp only [Act.put, List.setIfInBounds_toArray, List.set_cons_zero, List.set_cons_succ]
        refine wpAnyH_ready (rs := [3, 13]) (by kernel_rfl) (by simp) ?_
        refine callK 3 _ _ (.agg #[.float .f32 a, .float .f32 h, .float .f32 v]) k1 rfl (by rfl) 47 #[.agg #[.float .f32 a, .float .f32 h, .float .f32 v]] (fun w => by unfold execOp; go_simp) rfl rfl ?hc2 (fun w2 k2 => ?_) ?_
        case hc2 => exact toParcel a h v _
        · refine ⟨k2.tail, ?_⟩
          simp only [Act.put, List.setIfInBounds_toArray, List.set_cons_zero, List.set_cons_succ]
          refine wpAnyH_ready (rs := [7, 13]) (by kernel_rfl) (by simp) ?_
          refine callK 7 _ _ (.tuple #[.agg #[.float .f32 ra, .float .f32 rh, .float .f32 rv], .float .f32 re, .int .i64 rk, .int .i64 c]) k2 rfl (by rfl) 46 #[.slice (some ⟨gl1, 0, none⟩) n n, .agg #[.float .f32 a, .float .f32 h, .float .f32 v], .float .f32 st, .float .f32 sh, .int .i64 m] (fun w => by unfold execOp; go_simp) rfl rfl ?hc3 (fun w3 k3 => ?_) ?_
          case hc3 => exact HS.out _ _ (Kept.rd (T := 153) k2 vl1 in0 n) HN.out
          · refine ⟨k3.tail, ?_⟩
            simp only [Act.put, List.setIfInBounds_toArray, List.set_cons_zero, List.set_cons_succ]
            refine take_val 8 _ _ (.tuple #[.agg #[.float .f32 ra, .float .f32 rh, .float .f32 rv], .float .f32 re, .int .i64 rk, .int .i64 c]) rfl (by rfl) (by kernel_rfl) (by kernel_rfl) (by kernel_rfl) (fun w => by rfl) rfl rfl k3.tail ?_
            simp only [Act.put, List.setIfInBounds_toArray, List.set_cons_zero, List.set_cons_succ]
            refine take_val 9 _ _ (.agg #[.float .f32 ra, .float .f32 rh, .float .f32 rv]) rfl (by rfl) (by kernel_rfl) (by kernel_rfl) (by kernel_rfl) (fun w => by unfold execOp; go_simp) rfl rfl k3.tail ?_
            simp only [Act.put, List.setIfInBounds_toArray, List.set_cons_zero, List.set_cons_succ]
            refine take_val 10 _ _ (.float .f32 re) rfl (by rfl) (by kernel_rfl) (by kernel_rfl) (by kernel_rfl) (fun w => by unfold execOp; go_simp) rfl rfl k3.tail ?_
            simp only [Act.put, List.setIfInBounds_toArray, List.set_cons_zero, List.set_cons_succ]
            refine take_val 11 _ _ (.int .i64 rk) rfl (by rfl) (by kernel_rfl) (by kernel_rfl) (by kernel_rfl) (fun w => by unfold execOp; go_simp) rfl rfl k3.tail ?_
            simp only [Act.put, List.setIfInBounds_toArray, List.set_cons_zero, List.set_cons_succ]
            refine take_val 12 _ _ (.int .i64 c) rfl (by rfl) (by kernel_rfl) (by kernel_rfl) (by kernel_rfl) (fun w => by unfold execOp; go_simp) rfl rfl k3.tail ?_
            simp only [Act.put, List.setIfInBounds_toArray, List.set_cons_zero, List.set_cons_succ]
            refine wpAnyH_ready (rs := [13]) (by kernel_rfl) (by simp) ?_
            refine allocK 13 (fun g => _) _ k3 rfl (by rfl) (#[.float .f32 0, .float .f32 0, .float .f32 0]) 88 (by unfold execOp; go_simp) (fun g => rfl) rfl (fun w4 g4 k4 hB4 hn4 => ?_) AllReadyH.nil
            refine ⟨k4.tail.tail, ?_⟩
            simp only [Act.put, List.setIfInBounds_toArray, List.set_cons_zero, List.set_cons_succ]
            refine wpAnyH_ready (rs := [14]) (by kernel_rfl) (by simp) ?_
            refine storeK 14 _ _ (k4.sub (l' := [(g4, #[.float .f32 0, .float .f32 0, .float .f32 0], 88), (w.heap.size, #[.float .f32 a, .float .f32 h, .float .f32 v], 86)]) (by intro y hy; simp only [List.mem_cons, List.not_mem_nil, or_false] at hy ⊢; rcases hy with h | h <;> simp [h])) hB4 (fun x hx => hn4 x (List.mem_cons_of_mem _ hx)) rfl (by rfl) 88 _ _ rfl #[.float .f32 ra, .float .f32 rh, .float .f32 rv] rfl rfl info_par (by simp) (by simp [Value.oneCell']) rfl rfl (fun w5 k5 => ?_) AllReadyH.nil
            refine ⟨k5.tail, ?_⟩
            simp only [Act.put, List.setIfInBounds_toArray, List.set_cons_zero, List.set_cons_succ]
            refine take_val 15 _ _ (.float .f32 re) rfl (by rfl) (by kernel_rfl) (by kernel_rfl) (by kernel_rfl) (fun w => by rfl) rfl rfl k5.tail ?_
            simp only [Act.put, List.setIfInBounds_toArray, List.set_cons_zero, List.set_cons_succ]
            refine take_val 16 _ _ (.int .i64 rk) rfl (by rfl) (by kernel_rfl) (by kernel_rfl) (by kernel_rfl) (fun w => by rfl) rfl rfl k5.tail ?_
            simp only [Act.put, List.setIfInBounds_toArray, List.set_cons_zero, List.set_cons_succ]
            refine take_val 17 _ _ (.int .i64 c) rfl (by rfl) (by kernel_rfl) (by kernel_rfl) (by kernel_rfl) (fun w => by rfl) rfl rfl k5.tail ?_
            simp only [Act.put, List.setIfInBounds_toArray, List.set_cons_zero, List.set_cons_succ]
            refine wpAnyH_done (by kernel_rfl) ?_ _
            exact ⟨rfl, _, _, rfl, k5⟩
          refine allocK 13 (fun g => _) _ k2 rfl (by rfl) (#[.float .f32 0, .float .f32 0, .float .f32 0]) 88 (by unfold execOp; go_simp) (fun g => rfl) rfl (fun w6 g6 k6 hB6 hn6 => ?_) AllReadyH.nil
          refine ⟨k6.tail.tail, ?_⟩
          simp only [Act.put, List.setIfInBounds_toArray, List.set_cons_zero, List.set_cons_succ]
          refine wpAnyH_ready (rs := [7]) (by kernel_rfl) (by simp) ?_
          refine callK 7 _ _ (.tuple #[.agg #[.float .f32 ra, .float .f32 rh, .float .f32 rv], .float .f32 re, .int .i64 rk, .int .i64 c]) k6 rfl (by rfl) 46 #[.slice (some ⟨gl1, 0, none⟩) n n, .agg #[.float .f32 a, .float .f32 h, .float .f32 v], .float .f32 st, .float .f32 sh, .int .i64 m] (fun w => by unfold execOp; go_simp) rfl rfl ?hc7 (fun w7 k7 => ?_) AllReadyH.nil
          case hc7 => exact HS.out _ _ (Kept.rd (T := 153) k6 vl1 in1 n) HN.out
          refine ⟨k7.tail.tail, ?_⟩
          simp only [Act.put, List.setIfInBounds_toArray, List.set_cons_zero, List.set_cons_succ]
          refine take_val 8 _ _ (.tuple #[.agg #[.float .f32 ra, .float .f32 rh, .float .f32 rv], .float .f32 re, .int .i64 rk, .int .i64 c]) rfl (by rfl) (by kernel_rfl) (by kernel_rfl) (by kernel_rfl) (fun w => by rfl) rfl rfl k7.tail.tail ?_
          simp only [Act.put, List.setIfInBounds_toArray, List.set_cons_zero, List.set_cons_succ]
          refine take_val 9 _ _ (.agg #[.float .f32 ra, .float .f32 rh, .float .f32 rv]) rfl (by rfl) (by kernel_rfl) (by kernel_rfl) (by kernel_rfl) (fun w => by unfold execOp; go_simp) rfl rfl k7.tail.tail ?_
          simp only [Act.put, List.setIfInBounds_toArray, List.set_cons_zero, List.set_cons_succ]
          refine take_val 10 _ _ (.float .f32 re) rfl (by rfl) (by kernel_rfl) (by kernel_rfl) (by kernel_rfl) (fun w => by unfold execOp; go_simp) rfl rfl k7.tail.tail ?_
          simp only [Act.put, List.setIfInBounds_toArray, List.set_cons_zero, List.set_cons_succ]
          refine take_val 11 _ _ (.int .i64 rk) rfl (by rfl) (by kernel_rfl) (by kernel_rfl) (by kernel_rfl) (fun w => by unfold execOp; go_simp) rfl rfl k7.tail.tail ?_
          simp only [Act.put, List.setIfInBounds_toArray, List.set_cons_zero, List.set_cons_succ]
          refine take_val 12 _ _ (.int .i64 c) rfl (by rfl) (by kernel_rfl) (by kernel_rfl) (by kernel_rfl) (fun w => by unfold execOp; go_simp) rfl rfl k7.tail.tail ?_
          simp only [Act.put, List.setIfInBounds_toArray, List.set_cons_zero, List.set_cons_succ]
          refine wpAnyH_ready (rs := [14]) (by kernel_rfl) (by simp) ?_
          refine storeK 14 _ _ (k7.sub (l' := [(g6, #[.float .f32 0, .float .f32 0, .float .f32 0], 88), (w.heap.size, #[.float .f32 a, .float .f32 h, .float .f32 v], 86)]) (by intro y hy; simp only [List.mem_cons, List.not_mem_nil, or_false] at hy ⊢; rcases hy with h | h <;> simp [h])) hB6 (fun x hx => hn6 x (List.mem_cons_of_mem _ hx)) rfl (by rfl) 88 _ _ rfl #[.float .f32 ra, .float .f32 rh, .float .f32 rv] rfl rfl info_par (by simp) (by simp [Value.oneCell']) rfl rfl (fun w8 k8 => ?_) AllReadyH.nil
          refine ⟨k8.tail, ?_⟩
          simp only [Act.put, List.setIfInBounds_toArray, List.set_cons_zero, List.set_cons_succ]
          refine take_val 15 _ _ (.float .f32 re) rfl (by rfl) (by kernel_rfl) (by kernel_rfl) (by kernel_rfl) (fun w => by rfl) rfl rfl k8.tail ?_
          simp only [Act.put, List.setIfInBounds_toArray, List.set_cons_zero, List.set_cons_succ]
          refine take_val 16 _ _ (.int .i64 rk) rfl (by rfl) (by kernel_rfl) (by kernel_rfl) (by kernel_rfl) (fun w => by rfl) rfl rfl k8.tail ?_
          simp only [Act.put, List.setIfInBounds_toArray, List.set_cons_zero, List.set_cons_succ]
          refine take_val 17 _ _ (.int .i64 c) rfl (by rfl) (by kernel_rfl) (by kernel_rfl) (by kernel_rfl) (fun w => by rfl) rfl rfl k8.tail ?_
          simp only [Act.put, List.setIfInBounds_toArray, List.set_cons_zero, List.set_cons_succ]
          refine wpAnyH_done (by kernel_rfl) ?_ _
          exact ⟨rfl, _, _, rfl, k8⟩
        refine allocK 13 (fun g => _) _ k1 rfl (by rfl) (#[.float .f32 0, .float .f32 0, .float .f32 0]) 88 (by unfold execOp; go_simp) (fun g => rfl) rfl (fun w9 g9 k9 hB9 hn9 => ?_) AllReadyH.nil
        refine ⟨k9.tail.tail, ?_⟩
        simp only [Act.put, List.setIfInBounds_toArray, List.set_cons_zero, List.set_cons_succ]
        refine wpAnyH_ready (rs := [3]) (by kernel_rfl) (by simp) ?_
        refine callK 3 _ _ (.agg #[.float .f32 a, .float .f32 h, .float .f32 v]) k9 rfl (by rfl) 47 #[.agg #[.float .f32 a, .float .f32 h, .float .f32 v]] (fun w => by unfold execOp; go_simp) rfl rfl ?hc10 (fun w10 k10 => ?_) AllReadyH.nil
        case hc10 => exact toParcel a h v _
        refine ⟨k10.tail.tail, ?_⟩
        simp only [Act.put, List.setIfInBounds_toArray, List.set_cons_zero, List.set_cons_succ]
        refine wpAnyH_ready (rs := [7]) (by kernel_rfl) (by simp) ?_
        refine callK 7 _ _ (.tuple #[.agg #[.float .f32 ra, .float .f32 rh, .float .f32 rv], .float .f32 re, .int .i64 rk, .int .i64 c]) k10 rfl (by rfl) 46 #[.slice (some ⟨gl1, 0, none⟩) n n, .agg #[.float .f32 a, .float .f32 h, .float .f32 v], .float .f32 st, .float .f32 sh, .int .i64 m] (fun w => by unfold execOp; go_simp) rfl rfl ?hc11 (fun w11 k11 => ?_) AllReadyH.nil
        case hc11 => exact HS.out _ _ (Kept.rd (T := 153) k10 vl1 in1 n) HN.out
        refine ⟨k11.tail.tail, ?_⟩
        simp only [Act.put, List.setIfInBounds_toArray, List.set_cons_zero, List.set_cons_succ]
        refine take_val 8 _ _ (.tuple #[.agg #[.float .f32 ra, .float .f32 rh, .float .f32 rv], .float .f32 re, .int .i64 rk, .int .i64 c]) rfl (by rfl) (by kernel_rfl) (by kernel_rfl) (by kernel_rfl) (fun w => by rfl) rfl rfl k11.tail.tail ?_
        simp only [Act.put, List.setIfInBounds_toArray, List.set_cons_zero, List.set_cons_succ]
        refine take_val 9 _ _ (.agg #[.float .f32 ra, .float .f32 rh, .float .f32 rv]) rfl (by rfl) (by kernel_rfl) (by kernel_rfl) (by kernel_rfl) (fun w => by unfold execOp; go_simp) rfl rfl k11.tail.tail ?_
        simp only [Act.put, List.setIfInBounds_toArray, List.set_cons_zero, List.set_cons_succ]
        refine take_val 10 _ _ (.float .f32 re) rfl (by rfl) (by kernel_rfl) (by kernel_rfl) (by kernel_rfl) (fun w => by unfold execOp; go_simp) rfl rfl k11.tail.tail ?_
        simp only [Act.put, List.setIfInBounds_toArray, List.set_cons_zero, List.set_cons_succ]
        refine take_val 11 _ _ (.int .i64 rk) rfl (by rfl) (by kernel_rfl) (by kernel_rfl) (by kernel_rfl) (fun w => by unfold execOp; go_simp) rfl rfl k11.tail.tail ?_
        simp only [Act.put, List.setIfInBounds_toArray, List.set_cons_zero, List.set_cons_succ]
        refine take_val 12 _ _ (.int .i64 c) rfl (by rfl) (by kernel_rfl) (by kernel_rfl) (by kernel_rfl) (fun w => by unfold execOp; go_simp) rfl rfl k11.tail.tail ?_
        simp only [Act.put, List.setIfInBounds_toArray, List.set_cons_zero, List.set_cons_succ]
        refine wpAnyH_ready (rs := [14]) (by kernel_rfl) (by simp) ?_
        refine storeK 14 _ _ (k11.sub (l' := [(g9, #[.float .f32 0, .float .f32 0, .float .f32 0], 88), (w.heap.size, #[.float .f32 a, .float .f32 h, .float .f32 v], 86)]) (by intro y hy; simp only [List.mem_cons, List.not_mem_nil, or_false] at hy ⊢; rcases hy with h | h <;> simp [h])) hB9 (fun x hx => hn9 x (List.mem_cons_of_mem _ hx)) rfl (by rfl) 88 _ _ rfl #[.float .f32 ra, .float .f32 rh, .float .f32 rv] rfl rfl info_par (by simp) (by simp [Value.oneCell']) rfl rfl (fun w12 k12 => ?_) AllReadyH.nil
        refine ⟨k12.tail, ?_⟩
        simp only [Act.put, List.setIfInBounds_toArray, List.set_cons_zero, List.set_cons_succ]
        refine take_val 15 _ _ (.float .f32 re) rfl (by rfl) (by kernel_rfl) (by kernel_rfl) (by kernel_rfl) (fun w => by rfl) rfl rfl k12.tail ?_
        simp only [Act.put, List.setIfInBounds_toArray, List.set_cons_zero, List.set_cons_succ]
        refine take_val 16 _ _ (.int .i64 rk) rfl (by rfl) (by kernel_rfl) (by kernel_rfl) (by kernel_rfl) (fun w => by rfl) rfl rfl k12.tail ?_
        simp only [Act.put, List.setIfInBounds_toArray, List.set_cons_zero, List.set_cons_succ]
        refine take_val 17 _ _ (.int .i64 c) rfl (by rfl) (by kernel_rfl) (by kernel_rfl) (by kernel_rfl) (fun w => by rfl) rfl rfl k12.tail ?_
        simp only [Act.put, List.setIfInBounds_toArray, List.set_cons_zero, List.set_cons_succ]
        refine wpAnyH_done (by kernel_rfl) ?_ _
        exact ⟨rfl, _, _, rfl, k12⟩
      refine allocK 13 (fun g => _) _ kd rfl (by rfl) (#[.float .f32 0, .float .f32 0, .float .f32 0]) 88 (by unfold execOp; go_simp) (fun g => rfl) rfl (fun w13 g13 k13 hB13 hn13 => ?_) AllReadyH.nil
      refine ⟨k13.tail, ?_⟩
      simp only [Act.put, List.setIfInBounds_toArray, List.set_cons_zero, List.set_cons_succ]
      refine wpAnyH_ready (rs := [1]) (by kernel_rfl) (by simp) ?_
      refine callKQ 1 _ (fun y w' => ∃ g cs, y = .slice (some ⟨g, 0, none⟩) n n ∧ LvW cs (3 * n) x ∧ Kept w13 [(g, cs, 153)] w') k13 rfl (by rfl) 41 #[.slice p n cap] (fun w => by unfold execOp; go_simp) rfl ?hc14 (fun v14 w14 hv14 kk14 hb14 => ?_) AllReadyH.nil
      case hc14 =>
        refine (toLevelsK _ n x HX.out _ (q0.out.stay k13.1) HN.out).mono ?_
        rintro e w' ⟨rfl, cs, h, K⟩
        exact ⟨_, ⟨_, cs, rfl, h, K⟩, rfl, K.1⟩
      obtain ⟨gl14, cs14, rfl, vl14, K14⟩ := hv14
      have k14 := k13.join K14
      refine ⟨kk14.tail, ?_⟩
      simp only [Act.put, List.setIfInBounds_toArray, List.set_cons_zero, List.set_cons_succ]
      refine wpAnyH_ready (rs := [3]) (by kernel_rfl) (by simp) ?_
      refine callK 3 _ _ (.agg #[.float .f32 a, .float .f32 h, .float .f32 v]) k14 rfl (by rfl) 47 #[.agg #[.float .f32 a, .float .f32 h, .float .f32 v]] (fun w => by unfold execOp; go_simp) rfl rfl ?hc15 (fun w15 k15 => ?_) AllReadyH.nil
      case hc15 => exact toParcel a h v _
      refine ⟨k15.tail.tail, ?_⟩
      simp only [Act.put, List.setIfInBounds_toArray, List.set_cons_zero, List.set_cons_succ]
      refine wpAnyH_ready (rs := [7]) (by kernel_rfl) (by simp) ?_
      refine callK 7 _ _ (.tuple #[.agg #[.float .f32 ra, .float .f32 rh, .float .f32 rv], .float .f32 re, .int .i64 rk, .int .i64 c]) k15 rfl (by rfl) 46 #[.slice (some ⟨gl14, 0, none⟩) n n, .agg #[.float .f32 a, .float .f32 h, .float .f32 v], .float .f32 st, .float .f32 sh, .int .i64 m] (fun w => by unfold execOp; go_simp) rfl rfl ?hc16 (fun w16 k16 => ?_) AllReadyH.nil
      case hc16 => exact HS.out _ _ (Kept.rd (T := 153) k15 vl14 in0 n) HN.out
      refine ⟨k16.tail.tail, ?_⟩
      simp only [Act.put, List.setIfInBounds_toArray, List.set_cons_zero, List.set_cons_succ]
      refine take_val 8 _ _ (.tuple #[.agg #[.float .f32 ra, .float .f32 rh, .float .f32 rv], .float .f32 re, .int .i64 rk, .int .i64 c]) rfl (by rfl) (by kernel_rfl) (by kernel_rfl) (by kernel_rfl) (fun w => by rfl) rfl rfl k16.tail.tail ?_
      simp only [Act.put, List.setIfInBounds_toArray, List.set_cons_zero, List.set_cons_succ]
      refine take_val 9 _ _ (.agg #[.float .f32 ra, .float .f32 rh, .float .f32 rv]) rfl (by rfl) (by kernel_rfl) (by kernel_rfl) (by kernel_rfl) (fun w => by unfold execOp; go_simp) rfl rfl k16.tail.tail ?_
      simp only [Act.put, List.setIfInBounds_toArray, List.set_cons_zero, List.set_cons_succ]
      refine take_val 10 _ _ (.float .f32 re) rfl (by rfl) (by kernel_rfl) (by kernel_rfl) (by kernel_rfl) (fun w => by unfold execOp; go_simp) rfl rfl k16.tail.tail ?_
      simp only [Act.put, List.setIfInBounds_toArray, List.set_cons_zero, List.set_cons_succ]
      refine take_val 11 _ _ (.int .i64 rk) rfl (by rfl) (by kernel_rfl) (by kernel_rfl) (by kernel_rfl) (fun w => by unfold execOp; go_simp) rfl rfl k16.tail.tail ?_
      simp only [Act.put, List.setIfInBounds_toArray, List.set_cons_zero, List.set_cons_succ]
      refine take_val 12 _ _ (.int .i64 c) rfl (by rfl) (by kernel_rfl) (by kernel_rfl) (by kernel_rfl) (fun w => by unfold execOp; go_simp) rfl rfl k16.tail.tail ?_
      simp only [Act.put, List.setIfInBounds_toArray, List.set_cons_zero, List.set_cons_succ]
      refine wpAnyH_ready (rs := [14]) (by kernel_rfl) (by simp) ?_
      refine storeK 14 _ _ (k16.sub (l' := [(g13, #[.float .f32 0, .float .f32 0, .float .f32 0], 88), (w.heap.size, #[.float .f32 a, .float .f32 h, .float .f32 v], 86)]) (by intro y hy; simp only [List.mem_cons, List.not_mem_nil, or_false] at hy ⊢; rcases hy with h | h <;> simp [h])) hB13 hn13 rfl (by rfl) 88 _ _ rfl #[.float .f32 ra, .float .f32 rh, .float .f32 rv] rfl rfl info_par (by simp) (by simp [Value.oneCell']) rfl rfl (fun w17 k17 => ?_) AllReadyH.nil
      refine ⟨k17.tail, ?_⟩
      simp only [Act.put, List.setIfInBounds_toArray, List.set_cons_zero, List.set_cons_succ]
      refine take_val 15 _ _ (.float .f32 re) rfl (by rfl) (by kernel_rfl) (by kernel_rfl) (by kernel_rfl) (fun w => by rfl) rfl rfl k17.tail ?_
      simp only [Act.put, List.setIfInBounds_toArray, List.set_cons_zero, List.set_cons_succ]
      refine take_val 16 _ _ (.int .i64 rk) rfl (by rfl) (by kernel_rfl) (by kernel_rfl) (by kernel_rfl) (fun w => by rfl) rfl rfl k17.tail ?_
      simp only [Act.put, List.setIfInBounds_toArray, List.set_cons_zero, List.set_cons_succ]
      refine take_val 17 _ _ (.int .i64 c) rfl (by rfl) (by kernel_rfl) (by kernel_rfl) (by kernel_rfl) (fun w => by rfl) rfl rfl k17.tail ?_
      simp only [Act.put, List.setIfInBounds_toArray, List.set_cons_zero, List.set_cons_succ]
      refine wpAnyH_done (by kernel_rfl) ?_ _
      exact ⟨rfl, _, _, rfl, k17⟩
    rintro a1 wx ⟨gl, g12, rfl, kx⟩
    have kx := hid kx
    have qx := hid (q0.out.stay kx.out.1)
    clear k0
    simp only [Act.put, List.setIfInBounds_toArray, List.set_cons_zero, List.set_cons_succ]
    go_wp2_with fail
    refine (toLevels _ n x HX.out _ qx.out HN.out).mono ?_
    rintro e w4 ⟨g4, rfl, R4, hb4⟩
    have q4 := hid (qx.out.stay hb4)
    have k4 := hid (kx.out.stay hb4)
    have s4 := hid R4
    clear hb4 kx qx
    go_wp2_with (refine wpList_load_row rfl 86 _ rfl (w.heap.size) rfl 86 (#[.float .f32 a, .float .f32 h, .float .f32 v]) (0, 0) _ (k4.out.at (x := (w.heap.size, #[.float .f32 a, .float .f32 h, .float .f32 v], 86)) in1) Try.underlying86 rfl (info_lpar) ?_)
    refine (toParcel a h v _).mono ?_
    rintro e w5 ⟨rfl, hb5⟩
    have q5 := hid (q4.out.stay hb5)
    have k5 := hid (k4.out.stay hb5)
    have s5 := hid (s4.out.stay hb5)
    clear hb5 k4 q4
    go_wp2_with fail
    refine (HI.out _ _ s5.out HN.out).mono ?_
    rintro e w6 ⟨rfl, hb6⟩
    have q6 := hid (q5.out.stay hb6)
    have k6 := hid (k5.out.stay hb6)
    have s6 := hid (s5.out.stay hb6)
    clear hb6 k5 q5
    have bA := (Below.refl w6.heap.size w6).alloc (Nat.le_refl _) (.cells #[.float .f32 ra, .float .f32 rh, .float .f32 rv] 88)
    have k7 := hid (k6.out.push #[.float .f32 ra, .float .f32 rh, .float .f32 rv] 88)
    have s7 := hid (s6.out.stay bA)
    have q7 := hid (q6.out.stay bA)
    have tok1 : True := trivial
    clear bA
    go_wp2_with (first | (have _t := tok1; clear tok1; refine wpList_load_row (by rfl) 88 _ (by rfl) (w6.heap.size) (by rfl) 88 (#[.float .f32 ra, .float .f32 rh, .float .f32 rv]) (0, 0) _ (k7.out.at (x := (w6.heap.size, #[.float .f32 ra, .float .f32 rh, .float .f32 rv], 88)) in0) Try.underlying88 (by rfl) info_par ?_; have tok2 : True := trivial) | (have _t := tok2; clear tok2; refine wpList_load_row (by rfl) 88 _ (by rfl) g12 (by rfl) 88 (#[.float .f32 ra, .float .f32 rh, .float .f32 rv]) (0, 0) _ (k7.out.at (x := (g12, #[.float .f32 ra, .float .f32 rh, .float .f32 rv], 88)) in1) Try.underlying88 (by rfl) info_par ?_))
    refine (eqParcel ra rh rv HLA.out HLH.out HLV.out HFA.out HFH.out HFV.out _).mono ?_
    rintro e w8 ⟨rfl, hb8⟩
    have q8 := hid (q7.out.stay hb8)
    have k8 := hid (k7.out.stay hb8)
    have s8 := hid (s7.out.stay hb8)
    clear hb8 k7 q7 k6 q6
    go_wp2_with fail
    refine (sameFloat2 _ _ (S0.out _ _) _).mono ?_
    rintro e z0 ⟨rfl, rfl⟩
    have q9 := hid (rd_wf (rd_wf q8.out (D0.out _)) (D0.out _))
    have k9 := hid (kept_wf (kept_wf k8.out (D0.out _)) (D0.out _))
    have s9 := hid (rd_wf (rd_wf s8.out (D0.out _)) (D0.out _))
    go_wp2_with fail
    refine (toLevels _ n x HX.out _ q9.out HN.out).mono ?_
    rintro e w10 ⟨g10, rfl, R10, hb10⟩
    have k10 := hid (k9.out.stay hb10)
    have s10 := hid (s9.out.stay hb10)
    have t10 := hid R10
    clear hb10
    go_wp2_with fail
    refine (eqLevels _ _ n x HX.out _ s10.out t10.out HN.out).mono ?_
    rintro e w11 ⟨rfl, hb11⟩
    have k11 := hid (k10.out.stay hb11)
    go_wp2
    go_ret
    exact ⟨rfl, k11.out.1⟩
  · have HM : Hid (1048576 < n) := hid (by omega)
    have hneg : 1048576 - (n : Int) < 0 := by omega
    clear hn
    go_enter Try.func11, Try.ntmps11
    go_wp2_with fail
    refine (szLevels_no p n cap HM.out hm _).mono ?_
    rintro e u ⟨rfl, rfl⟩
    go_wp2
    go_ret
    exact ⟨rfl, k0.out.1⟩

theorem st_gt {st : Nat} (hl : st < 4294967296) (hf : finB st = true) : ((FloatKind.f32.format.order st 0 == some .lt) = true ∧ (FloatKind.f32.format.order st 0 == some .gt) = false) ∨ ((FloatKind.f32.format.order st 0 == some .lt) = false ∧ (FloatKind.f32.format.order st 0 == some .eq) = true ∧ (FloatKind.f32.format.order st 0 == some .gt) = false) ∨ ((FloatKind.f32.format.order st 0 == some .lt) = false ∧ (FloatKind.f32.format.order st 0 == some .eq) = false ∧ (FloatKind.f32.format.order st 0 == some .gt) = true ∧ st < INF) := by
  have F : FW st := fw_of hl hf
  have o : FloatKind.f32.format.order st 0 = some (compare (sv st) (sv 0)) := order_nw ⟨F.1, Nat.le_of_lt F.2⟩ ⟨by decide, by decide⟩
  rcases hc : compare (sv st) (sv 0) with _ | _ | _
  · rw [o, hc]; exact .inl ⟨rfl, rfl⟩
  · rw [o, hc]; exact .inr (.inl ⟨rfl, rfl, rfl⟩)
  · have g : gtZ st = true := by unfold gtZ; show (FloatKind.f32.format.order st 0 == some .gt) = true; rw [o, hc]; rfl
    rw [o, hc]; exact .inr (.inr ⟨rfl, rfl, rfl, amtB_iff.1 (gt_nn F g)⟩)

theorem lawRiseIn (n : Nat) (x : Nat → Nat) (s : Value) (hx : ∀ k, x k < 4294967296) {w : World} (hs : Rd w s n x) (hm : n ≤ maxLen) (a h v : Nat) (ha : a < 4294967296) (hh : h < 4294967296) (hv : v < 4294967296) (st : Nat) (hst : st < 4294967296) (sh : Nat) (hsh : sh < 4294967296) (m : Int) (_hm1 : -9223372036854775808 ≤ m) (_hm2 : m ≤ 9223372036854775807) :
    Calls Try.prog 11 #[s, .agg #[.float .f32 a, .float .f32 h, .float .f32 v], .float .f32 st, .float .f32 sh, .int .i64 m] w fun e w' => e = .returned (.bool true) ∧ Below w.heap.size w w' := by
  have z : finB 0 = true := by decide
  have ERR := fun (c : Int) hS hI => coreRiseIn n x hx a h v st sh m 0 0 0 0 (by decide) (by decide) (by decide) z z z (by decide) 0 c hS hI s w hs hm
  rcases hq : souB n x with _ | _
  · exact ERR 1 (fun w s hs hn => sRise_bad1 n x hx hq a h v st sh m w s hs hn) (fun w s hs hn => iRise_bad1 n x hx hq a h v st sh m w s hs hn)
  rcases hp : parB a h v with _ | _
  · exact ERR 1 (fun w s hs hn => sRise_bad2 n x hx hq a h v st sh ha hv m hp w s hs hn) (fun w s hs hn => iRise_bad2 n x hx hq a h v st sh ha hv m hp w s hs hn)
  rcases hf : finB st with _ | _
  · exact ERR 2 (fun w s hs hn => sRise_r1 n x hx hq a h v st sh ha hv m hp hst hf w s hs hn) (fun w s hs hn => iRise_r1 n x hx hq a h v st sh ha hv m hp hst hf w s hs hn)
  rcases st_gt hst hf with ⟨g1, g2⟩ | ⟨g1, g2, g3⟩ | ⟨g1, g2, g3, g4⟩
  · exact ERR 2 (fun w s hs hn => sRise_r2 n x hx hq a h v st sh ha hv m hp hst hf g2 w s hs hn) (fun w s hs hn => iRise_r2a n x hx hq a h v st sh ha hv m hp hst hf g1 w s hs hn)
  · exact ERR 2 (fun w s hs hn => sRise_r2 n x hx hq a h v st sh ha hv m hp hst hf g3 w s hs hn) (fun w s hs hn => iRise_r2b n x hx hq a h v st sh ha hv m hp hst hf g1 g2 w s hs hn)
  by_cases hS : Share sh
  · by_cases hm1 : m < 0
    · exact ERR 2 (fun w s hs hn => sRise_r4 n x hx hq a h v st sh ha hv m hp hst hf g3 hS (by omega) w s hs hn) (fun w s hs hn => iRise_r4 n x hx hq a h v st sh ha hv m hp hst hf g1 g2 hS hm1 w s hs hn)
    by_cases hm2 : 200 < m
    · exact ERR 2 (fun w s hs hn => sRise_r4 n x hx hq a h v st sh ha hv m hp hst hf g3 hS (by omega) w s hs hn) (fun w s hs hn => iRise_r5 n x hx hq a h v st sh ha hv m hp hst hf g1 g2 hS hm1 hm2 w s hs hn)
    obtain ⟨M, rfl⟩ : ∃ M : Nat, m = (M : Int) := ⟨m.toNat, by omega⟩
    have hM2 : M ≤ 200 := by omega
    have F := souB_iff.1 hq
    obtain ⟨K, hKM, hM, hN⟩ := least_stop (fun j => okR n x st sh (x ((n - 1) * 3)) M j (rsR n x st sh ⟨a, h, v, 0⟩ j)) M
    have hNN : ¬ okR n x st sh (x ((n - 1) * 3)) M K (rsR n x st sh ⟨a, h, v, 0⟩ K) := by
      rcases Nat.lt_or_ge K M with e | e
      · exact hN e
      · intro hk
        have := hk.2.1.2.1
        omega
    have V0 : RVal ⟨a, h, v, 0⟩ := ⟨hp, hh, (by decide : nnB 0 = true)⟩
    have V := r_val hx F (M := M) g4 hS (hgt_lv (F.lv (n - 1) (by have := F.lo; omega))) V0 (K := K) hM
    have A := fun (ra rh rv re : Nat) (rk c : Int) => sRise_main n x hx hq a h v st sh hh ha hv M hM2 hp hst hf g3 g4 hS K hKM hM hNN ra rh rv re rk c
    have IE := fun (E : Ending) => iEnd n x hx hq st sh M g4 hS hM2 ⟨a, h, v, 0⟩ V0 K
    by_cases hc : (atR n x (rsR n x st sh ⟨a, h, v, 0⟩ K).a).2.2 = 0
    · by_cases hgo : goR n x st (x ((n - 1) * 3)) M K (rsR n x st sh ⟨a, h, v, 0⟩ K)
      · refine ERR (upR n x st sh (rsR n x st sh ⟨a, h, v, 0⟩ K)) (fun w s hs hn => A 0 0 0 0 0 _ (fun e => absurd hc e) (fun _ e => absurd hgo e) (fun _ _ => ⟨rfl, rfl, rfl, rfl, rfl, rfl⟩) w s hs hn) (fun w s hs hn => ?_)
        obtain ⟨p, cap, rfl, hcell⟩ := id hs
        obtain ⟨b, o, rfl, _⟩ := hcell (by have := F.lo; omega)
        refine iRise_main n x hx hq a h v st sh ha hv M hM2 hp hst hf g1 g2 hS (.slice none 0 0) (.float .f32 0) (.float .f32 0) (.int .i64 0) rfl rfl rfl rfl 0 0 0 0 0 _ w _ hs hn (fun u hu => ?_)
        exact iAttemptJ_f _ _ _ u (fun u2 hu2 => iEnd n x hx hq st sh M g4 hS hM2 ⟨a, h, v, 0⟩ V0 K b o cap hM hNN hKM _ (fun e => absurd hc e) (fun _ e => absurd hgo e) (fun _ _ => rfl) u2 ((hs.stay hu).stay hu2) hn) (fun w => by simp [go_sem])
      · refine coreRiseIn n x hx a h v st sh (M : Int) _ _ _ _ V.al V.hl V.vl (amt_fin (amtB_iff.2 (hgt_inf V.hg))) (heat_fin V.hl (airB_iff.1 (parB_iff.1 V.p).2).1) (amt_fin (airB_iff.1 (parB_iff.1 V.p).2).2.1) (Nat.lt_of_le_of_lt (nnB_iff.1 V.en) (by decide)) (K : Int) 0 (fun w s hs hn => A _ _ _ _ _ _ (fun e => absurd hc e) (fun _ _ => ⟨rfl, rfl, rfl, rfl, rfl, rfl⟩) (fun _ e => absurd e hgo) w s hs hn) (fun w s hs hn => ?_) s w hs hm
        obtain ⟨p, cap, rfl, hcell⟩ := id hs
        obtain ⟨b, o, rfl, _⟩ := hcell (by have := F.lo; omega)
        refine iRise_main n x hx hq a h v st sh ha hv M hM2 hp hst hf g1 g2 hS (.slice (some ⟨b, o, none⟩) n cap) (.float .f32 st) (.float .f32 sh) (.int .i64 (M : Int)) rfl rfl rfl rfl _ _ _ _ (K : Int) 0 w _ hs hn (fun u hu => ?_)
        exact iAttemptJ_ok _ _ _ rfl st sh M _ _ _ _ K u (fun u2 hu2 => iEnd n x hx hq st sh M g4 hS hM2 ⟨a, h, v, 0⟩ V0 K b o cap hM hNN hKM _ (fun e => absurd hc e) (fun _ _ => rfl) (fun _ e => absurd e hgo) u2 ((hs.stay hu).stay hu2) hn) (fun w => by simp [go_sem])
    · refine ERR _ (fun w s hs hn => A 0 0 0 0 0 _ (fun _ => ⟨rfl, rfl, rfl, rfl, rfl, rfl⟩) (fun e => absurd e hc) (fun e => absurd e hc) w s hs hn) (fun w s hs hn => ?_)
      obtain ⟨p, cap, rfl, hcell⟩ := id hs
      obtain ⟨b, o, rfl, _⟩ := hcell (by have := F.lo; omega)
      refine iRise_main n x hx hq a h v st sh ha hv M hM2 hp hst hf g1 g2 hS (.slice none 0 0) (.float .f32 0) (.float .f32 0) (.int .i64 0) rfl rfl rfl rfl 0 0 0 0 0 _ w _ hs hn (fun u hu => ?_)
      exact iAttemptJ_f _ _ _ u (fun u2 hu2 => iEnd n x hx hq st sh M g4 hS hM2 ⟨a, h, v, 0⟩ V0 K b o cap hM hNN hKM _ (fun _ => rfl) (fun e => absurd e hc) (fun e => absurd e hc) u2 ((hs.stay hu).stay hu2) hn) (fun w => by simp [go_sem])
  · exact ERR 2 (fun w s hs hn => sRise_r3 n x hx hq a h v st sh ha hv m hp hst hf g3 hsh hS w s hs hn) (fun w s hs hn => iRise_r3 n x hx hq a h v st sh ha hv m hp hst hf g1 g2 hsh hS w s hs hn)

theorem arr5 {α : Type} {cs : Array α} (h : cs.size = 5) : ∃ c0 c1 c2 c3 c4, cs = #[c0, c1, c2, c3, c4] := by
  obtain ⟨l⟩ := cs
  match l, h with
  | [c0, c1, c2, c3, c4], _ => exact ⟨c0, c1, c2, c3, c4, rfl⟩
end Go.Proofs.Ythpimindkmmkjaa

namespace Go.Proofs.Ythpimindkmmkjaa.fnExactRiseIn
open Go.RowKit Go.Fl Go.ChangeShapes Go.WideShapes Go.ChangeAt

set_option maxHeartbeats 2000000 in
theorem closed : joinedFacts Try.prog 11 Try.f11 Rows.fnExactRiseInSpec Rows.fnExactRiseInRow = true := by
  unfold joinedFacts
  simp only [Bool.and_eq_true]
  exact ⟨⟨⟨⟨⟨⟨⟨⟨⟨⟨⟨⟨⟨⟨⟨⟨⟨⟨⟨⟨⟨⟨⟨⟨⟨⟨⟨⟨⟨⟨⟨(by as_aux_lemma => kernel_rfl),
    laid⟩,
    rowed⟩,
    (by as_aux_lemma => kernel_rfl)⟩,
    (by as_aux_lemma => kernel_rfl)⟩,
    (by as_aux_lemma => kernel_rfl)⟩,
    (by rw [no_stops]; rfl)⟩,
    (by as_aux_lemma => kernel_rfl)⟩,
    (by rw [no_knobs]; rfl)⟩,
    (by as_aux_lemma => kernel_rfl)⟩,
    (by as_aux_lemma => kernel_rfl)⟩,
    (by as_aux_lemma => kernel_rfl)⟩,
    (by as_aux_lemma => kernel_rfl)⟩,
    (by as_aux_lemma => kernel_rfl)⟩,
    (by as_aux_lemma => kernel_rfl)⟩,
    (by as_aux_lemma => kernel_rfl)⟩,
    (by as_aux_lemma => kernel_rfl)⟩,
    (by as_aux_lemma => kernel_rfl)⟩,
    (by as_aux_lemma => kernel_rfl)⟩,
    (by as_aux_lemma => kernel_rfl)⟩,
    (by as_aux_lemma => kernel_rfl)⟩,
    (by as_aux_lemma => kernel_rfl)⟩,
    (show (Rows.fnExactRiseInRow.plainKeys == Try.prog.plainKeys) = true by rw [plain_keys]; rfl)⟩,
    (by as_aux_lemma => kernel_rfl)⟩,
    stops_heard⟩,
    may_enter⟩,
    (show (Rows.fnExactRiseInRow.lifted == Try.prog.liftsFinal) = true by rw [lifts_final]; rfl)⟩,
    (show (Try.prog.make == some Rows.fnExactRiseInRow.make) = true by rw [made]; rfl)⟩,
    (by as_aux_lemma => kernel_rfl)⟩,
    (by as_aux_lemma => kernel_rfl)⟩,
    (by as_aux_lemma => kernel_rfl)⟩,
    (by as_aux_lemma => kernel_rfl)⟩

set_option maxRecDepth 100000 in
theorem lifted (os : Os) (started : os.Started) (H : Type) (enc : TypeId × Value → H) :
    ReturnsInHanded {} Try.checked os 11 .any (Rows.fnExactRiseInSpec.pre6 enc Try.prog Try.f11 Rows.fnExactRiseInRow.domain false) (Rows.fnExactRiseInSpec.post enc Try.prog Try.f11 false true false false) := by
  refine LawFrame.lifted (C := Try.checked) (fn := Try.f11) (n := 5) (tb := 4) started own (by kernel_rfl) Try.func11 laid ?_ rfl rfl ?_ rfl Try.underlying4
    (ChangeSpec.witness6 (enc := enc) (C := Try.checked) false ⟨#[], #[.slice none 0 0, .agg #[.float .f32 0, .float .f32 0, .float .f32 0], .float .f32 0, .float .f32 0, .int .i64 0], []⟩ 8 (by kernel_rfl) (by kernel_rfl) (by kernel_rfl) (by kernel_rfl)) ?_
  · intro t ht
    simp only [Try.params11, List.mem_cons, List.not_mem_nil, or_false] at ht
    rcases ht with rfl | rfl | rfl | rfl | rfl <;> first | exact rdf | exact rdi | exact rdq | exact rds
  · intro ds hd
    match ds, hd with
    | [_, _, _, _, _], _ => rfl
  · intro W base args ds ps hval hn hT
    obtain ⟨v0, v1, v2, v3, v4, rfl⟩ : ∃ v0 v1 v2 v3 v4, args = #[v0, v1, v2, v3, v4] := arr5 hn
    simp only [Try.params11] at hT
    obtain ⟨d0, p0, t0⟩ := trodAll_head hT
    obtain ⟨n0, x0, R0, M0, X0⟩ := open_level Try.underlying76 Try.underlying155 Try.underlying26 Try.underlying22 ⟨rfl, rfl⟩ ⟨rfl, rfl⟩ ⟨rfl, rfl⟩ ⟨rfl, rfl⟩ cellsL cells2 cellsF t0 (open_sl Try.underlying76 (hval 0 76 v0 rfl rfl))
    obtain ⟨ds0, ps0, T0⟩ := trodAll_tail hT
    obtain ⟨c1, rfl, hb1⟩ := open_floats Try.underlying86 rfl Try.underlying22 cells3 types3 (hval 1 86 v1 rfl rfl)
    obtain ⟨ds1, ps1, T1⟩ := trodAll_tail T0
    obtain ⟨ds2, ps2, T2⟩ := trodAll_tail T1
    obtain ⟨c2, rfl, hb2⟩ := open_f32 Try.underlying22 (hval 2 22 v2 rfl rfl)
    obtain ⟨ds3, ps3, T3⟩ := trodAll_tail T2
    obtain ⟨c3, rfl, hb3⟩ := open_f32 Try.underlying22 (hval 3 22 v3 rfl rfl)
    obtain ⟨c4, rfl, hb4, hc4⟩ := open_i64 Try.underlying2 (hval 4 2 v4 rfl rfl)
    simp only [vls3]
    exact lawRiseIn n0 x0 v0 X0 R0 M0 (c1 0) (c1 1) (c1 2) (hb1 0 (by decide)) (hb1 1 (by decide)) (hb1 2 (by decide)) c2 hb2 c3 hb3 c4 hb4 hc4

theorem over : Rows.fnExactRiseInRow.holds Try.pinned (OpenSpec.ofChange Rows.fnExactRiseInSpec) :=
  OpenClaim.holds_of_wide 11 Try.f11 rfl rfl rfl rfl rfl rfl rfl ⟨rfl, rfl, rfl, rfl, rfl⟩ rfl rfl rfl rfl rfl (by kernel_rfl) Try.func11 closed
    (of_decide_eq_true (by kernel_rfl)) (by unfold Func.isWrapper; rw [if_neg (by decide +kernel)]; exact ⟨rfl, rfl⟩)
    (fun os started H enc _ => lifted os started H enc)

theorem proved : Rows.FnExactRiseInSaid := over
#print axioms proved
end Go.Proofs.Ythpimindkmmkjaa.fnExactRiseIn
