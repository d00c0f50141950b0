import Derived.Test.YthpimindkmmkjaaUStepsToDry
import Derived.Test.YthpimindkmmkjaaCStepsToDry
import Derived.Test.YthpimindkmmkjaaChecked
import Derived.Test.YthpimindkmmkjaaRows
import Derived.Laws.FloatArith
import Derived.ProofKit
import Derived.WalkKit
import Derived.WalkLawsBesides
import Derived.WalkSpells
import Derived.Deep.QuietTactic
import Derived.BigQuiet
import Derived.Deep.RegionHeld3
import Derived.ChangeKeysEq
import Derived.Laws.BitsAllLaws
import Derived.Deep.MidRow
import Derived.Deep.WholeRow
import Derived.StillTailTactics
import Derived.Deep.Slices
import Derived.ChangeSame
import Derived.OrdersIn
import Derived.ControlIn
import Derived.RangeFuncSeq
import Derived.RangeFuncNested
import Derived.ArgAppend
import Derived.OwnWalkIn
import Derived.TacticsInMore
import Derived.Below
import Derived.Laws.AppendOwn
import Derived.RangeFuncLeaves
import Derived.RangeFuncBox
import Derived.MapKept
import Derived.StillTail
import Derived.Carry
import Derived.Shelf.Abstract
import Derived.OpenShut
/- The law FnExactStepsToDry of chapter 1: at every argument the call returns true, and what was there before it is as it was. -/
namespace Go.Proofs.Ythpimindkmmkjaa
open Go.RowKit Go.Fl

theorem run_sStepsToDry4 (a : Act) (x0 : Operand) (v0 : Value) (h0 : a.eval x0 = v0) (x1 : Operand) (v1 : Value) (h1 : a.eval x1 = v1) (x2 : Operand) (v2 : Value) (h2 : a.eval x2 = v2) (x3 : Operand) (v3 : Value) (h3 : a.eval x3 = v3) (d : Option Tmp) (ats : Array TypeId) (t : TypeId) (ps : String) (af : Array Edge) (gd : Option (Nat × Bool)) (w : World) :
    (execOp a.eval ⟨d, .call { callee := .value (.func 25), args := #[x0, x1, x2, x3], argTypes := ats }, t, ps, af, gd⟩).run Try.prog w = .ok (.enter 25 #[v0, v1, v2, v3]) w := by
  subst h0 h1 h2 h3
  unfold execOp
  go_simp

theorem run_iStepsToDry4 (a : Act) (x0 : Operand) (v0 : Value) (h0 : a.eval x0 = v0) (x1 : Operand) (v1 : Value) (h1 : a.eval x1 = v1) (x2 : Operand) (v2 : Value) (h2 : a.eval x2 = v2) (x3 : Operand) (v3 : Value) (h3 : a.eval x3 = v3) (d : Option Tmp) (ats : Array TypeId) (t : TypeId) (ps : String) (af : Array Edge) (gd : Option (Nat × Bool)) (w : World) :
    (execOp a.eval ⟨d, .call { callee := .value (.func 26), args := #[x0, x1, x2, x3], argTypes := ats }, t, ps, af, gd⟩).run Try.prog w = .ok (.enter 26 #[v0, v1, v2, v3]) w := by
  subst h0 h1 h2 h3
  unfold execOp
  go_simp

set_option maxRecDepth 100000 in
set_option maxHeartbeats 2000000 in
theorem coreStepsToDry (x0 : Nat → Nat) (x1h x1v : Nat) (x2 : Nat) (x3 : Int) (r0 : Int) (r1 : Int)
    (hS : ∀ w, Calls Try.prog 25 #[.agg (fls x0), .agg #[.float .f32 x1h, .float .f32 x1v], .float .f32 x2, .int .i64 x3] w fun e w' => e = .returned (.tuple #[.int .i64 r0, .int .i64 r1]) ∧ Below w.heap.size w w')
    (hI : ∀ w, Calls Try.prog 26 #[.agg (fls x0), .agg #[.float .f32 x1h, .float .f32 x1v], .float .f32 x2, .int .i64 x3] w fun e w' => e = .returned (.tuple #[.int .i64 r0, .int .i64 r1]) ∧ Below w.heap.size w w') (w : World) :
    Calls Try.prog 6 #[.agg (fls x0), .agg #[.float .f32 x1h, .float .f32 x1v], .float .f32 x2, .int .i64 x3] w fun e w' => e = .returned (.bool true) ∧ Below w.heap.size w w' := by
  have k0 : Hid (Kept w [(w.heap.size, fls x0, 23), (w.heap.size + 1, #[.float .f32 x1h, .float .f32 x1v], 26)] ((w.alloc (.cells (fls x0) 23)).alloc (.cells (#[.float .f32 x1h, .float .f32 x1v]) 26))) := hid ((((Kept.nil w).push (fls x0) 23).push (#[.float .f32 x1h, .float .f32 x1v]) 26).sub (by simp))
  have HS := hid hS
  have HI := hid hI
  clear hS hI
  go_enter Try.func6, Try.ntmps6
  go_wp2_with fail
  rename_i Q1 K1 hK1
  have key1 : ∀  (w1 : World), Hid (Kept w [(w.heap.size, fls x0, 23), (w.heap.size + 1, #[.float .f32 x1h, .float .f32 x1v], 26)] w1) → K1 { tmps := (.agg (fls x0) :: .agg #[.float .f32 x1h, .float .f32 x1v] :: .float .f32 x2 :: .int .i64 x3 :: .pointer (some ⟨w.heap.size, 0, none⟩) :: .pointer (some ⟨w.heap.size + 1, 0, none⟩) :: undef :: undef :: .bool false :: .int .i64 r0 :: .int .i64 r1 :: undef :: undef :: .tuple #[.int .i64 r0, .int .i64 r1] :: .agg (fls x0) :: .agg (fls x0) :: .agg (#[.float .f32 x1h, .float .f32 x1v]) :: .agg (#[.float .f32 x1h, .float .f32 x1v]) :: .float .f32 x2 :: .int .i64 x3 :: .tuple #[.int .i64 r0, .int .i64 r1] :: .int .i64 r0 :: .int .i64 r1 :: undef :: undef :: undef :: undef :: undef :: undef :: undef :: undef :: undef :: undef :: undef :: undef :: undef :: undef :: undef :: undef :: undef :: undef :: []).toArray, defers := [] } w1 := by
    intro  w1 k1
    clear k0
    go_wp2_with fail
    rename_i K2 hK2
    have key2 : ∀  (w2 : World), Hid (Kept w [(w.heap.size, fls x0, 23), (w.heap.size + 1, #[.float .f32 x1h, .float .f32 x1v], 26)] w2) → K2 { tmps := (.agg (fls x0) :: .agg #[.float .f32 x1h, .float .f32 x1v] :: .float .f32 x2 :: .int .i64 x3 :: .pointer (some ⟨w.heap.size, 0, none⟩) :: .pointer (some ⟨w.heap.size + 1, 0, none⟩) :: undef :: undef :: .bool false :: .int .i64 r0 :: .int .i64 r1 :: .int .i64 r0 :: .int .i64 r1 :: .tuple #[.int .i64 r0, .int .i64 r1] :: .agg (fls x0) :: .agg (fls x0) :: .agg (#[.float .f32 x1h, .float .f32 x1v]) :: .agg (#[.float .f32 x1h, .float .f32 x1v]) :: .float .f32 x2 :: .int .i64 x3 :: .tuple #[.int .i64 r0, .int .i64 r1] :: .int .i64 r0 :: .int .i64 r1 :: .tuple #[.int .i64 r0, .int .i64 r1] :: .agg (fls x0) :: .agg (fls x0) :: .agg (#[.float .f32 x1h, .float .f32 x1v]) :: .agg (#[.float .f32 x1h, .float .f32 x1v]) :: .float .f32 x2 :: .int .i64 x3 :: .tuple #[.int .i64 r0, .int .i64 r1] :: .int .i64 r0 :: .int .i64 r1 :: undef :: undef :: undef :: undef :: undef :: undef :: undef :: undef :: []).toArray, defers := [] } w2 := by
      as_aux_lemma =>
        intro  w2 k2
        clear k1 HS HI
        go_wp2
        all_goals go_ret
        all_goals exact ⟨rfl, k2.out.1⟩
    as_aux_lemma =>
      refine region_kept (w0 := w) (l := [(w.heap.size, fls x0, 23), (w.heap.size + 1, #[.float .f32 x1h, .float .f32 x1v], 26)]) 12 #[false, false, false, false, false, false, false, false, false, false, false, false] (by kernel_rfl) rfl rfl ?_
      have kd := k1.out.drew
      clear k1
      generalize w1.drew = wd at kd ⊢
      refine take_load 0 { tmps := (.agg (fls x0) :: .agg #[.float .f32 x1h, .float .f32 x1v] :: .float .f32 x2 :: .int .i64 x3 :: .pointer (some ⟨w.heap.size, 0, none⟩) :: .pointer (some ⟨w.heap.size + 1, 0, none⟩) :: undef :: undef :: .bool false :: .int .i64 r0 :: .int .i64 r1 :: undef :: undef :: .tuple #[.int .i64 r0, .int .i64 r1] :: .agg (fls x0) :: .agg (fls x0) :: .agg (#[.float .f32 x1h, .float .f32 x1v]) :: .agg (#[.float .f32 x1h, .float .f32 x1v]) :: .float .f32 x2 :: .int .i64 x3 :: .tuple #[.int .i64 r0, .int .i64 r1] :: .int .i64 r0 :: .int .i64 r1 :: undef :: .agg (fls x0) :: undef :: undef :: undef :: undef :: undef :: undef :: undef :: undef :: undef :: undef :: undef :: undef :: undef :: undef :: undef :: undef :: []).toArray, defers := [] } #[true, false, false, false, false, false, false, false, false, false, false, false] rfl (by rfl) (by kernel_rfl) (by kernel_rfl) (by kernel_rfl) 23 _ rfl (w.heap.size) (fls x0) 23 (by rfl) (by simp) _ Try.underlying23 rfl (by rw [fls_size]; exact info_a20) (by rfl) (by rfl) (kd) ?_
      refine take_load 2 { tmps := (.agg (fls x0) :: .agg #[.float .f32 x1h, .float .f32 x1v] :: .float .f32 x2 :: .int .i64 x3 :: .pointer (some ⟨w.heap.size, 0, none⟩) :: .pointer (some ⟨w.heap.size + 1, 0, none⟩) :: undef :: undef :: .bool false :: .int .i64 r0 :: .int .i64 r1 :: undef :: undef :: .tuple #[.int .i64 r0, .int .i64 r1] :: .agg (fls x0) :: .agg (fls x0) :: .agg (#[.float .f32 x1h, .float .f32 x1v]) :: .agg (#[.float .f32 x1h, .float .f32 x1v]) :: .float .f32 x2 :: .int .i64 x3 :: .tuple #[.int .i64 r0, .int .i64 r1] :: .int .i64 r0 :: .int .i64 r1 :: undef :: .agg (fls x0) :: undef :: .agg (#[.float .f32 x1h, .float .f32 x1v]) :: undef :: undef :: undef :: undef :: undef :: undef :: undef :: undef :: undef :: undef :: undef :: undef :: undef :: undef :: []).toArray, defers := [] } #[true, false, true, false, false, false, false, false, false, false, false, false] rfl (by rfl) (by kernel_rfl) (by kernel_rfl) (by kernel_rfl) 26 _ rfl (w.heap.size + 1) (#[.float .f32 x1h, .float .f32 x1v]) 26 (by rfl) (by simp) _ Try.underlying26 rfl (info_lair) (by rfl) (by rfl) (kd) ?_
      refine take_val 4 { tmps := (.agg (fls x0) :: .agg #[.float .f32 x1h, .float .f32 x1v] :: .float .f32 x2 :: .int .i64 x3 :: .pointer (some ⟨w.heap.size, 0, none⟩) :: .pointer (some ⟨w.heap.size + 1, 0, none⟩) :: undef :: undef :: .bool false :: .int .i64 r0 :: .int .i64 r1 :: undef :: undef :: .tuple #[.int .i64 r0, .int .i64 r1] :: .agg (fls x0) :: .agg (fls x0) :: .agg (#[.float .f32 x1h, .float .f32 x1v]) :: .agg (#[.float .f32 x1h, .float .f32 x1v]) :: .float .f32 x2 :: .int .i64 x3 :: .tuple #[.int .i64 r0, .int .i64 r1] :: .int .i64 r0 :: .int .i64 r1 :: undef :: .agg (fls x0) :: undef :: .agg (#[.float .f32 x1h, .float .f32 x1v]) :: undef :: .float .f32 x2 :: undef :: undef :: undef :: undef :: undef :: undef :: undef :: undef :: undef :: undef :: undef :: undef :: []).toArray, defers := [] } #[true, false, true, false, true, false, false, false, false, false, false, false] (.float .f32 x2) rfl (by rfl) (by kernel_rfl) (by kernel_rfl) (by kernel_rfl) (fun w => by rfl) (by rfl) (by rfl) (kd) ?_
      refine take_val 5 { tmps := (.agg (fls x0) :: .agg #[.float .f32 x1h, .float .f32 x1v] :: .float .f32 x2 :: .int .i64 x3 :: .pointer (some ⟨w.heap.size, 0, none⟩) :: .pointer (some ⟨w.heap.size + 1, 0, none⟩) :: undef :: undef :: .bool false :: .int .i64 r0 :: .int .i64 r1 :: undef :: undef :: .tuple #[.int .i64 r0, .int .i64 r1] :: .agg (fls x0) :: .agg (fls x0) :: .agg (#[.float .f32 x1h, .float .f32 x1v]) :: .agg (#[.float .f32 x1h, .float .f32 x1v]) :: .float .f32 x2 :: .int .i64 x3 :: .tuple #[.int .i64 r0, .int .i64 r1] :: .int .i64 r0 :: .int .i64 r1 :: undef :: .agg (fls x0) :: undef :: .agg (#[.float .f32 x1h, .float .f32 x1v]) :: undef :: .float .f32 x2 :: .int .i64 x3 :: undef :: undef :: undef :: undef :: undef :: undef :: undef :: undef :: undef :: undef :: undef :: []).toArray, defers := [] } #[true, false, true, false, true, true, false, false, false, false, false, false] (.int .i64 x3) rfl (by rfl) (by kernel_rfl) (by kernel_rfl) (by kernel_rfl) (fun w => by rfl) (by rfl) (by rfl) (kd) ?_
      refine wpAnyH_ready (rs := [1]) (by kernel_rfl) (by simp) ?_
      refine callK 1 { tmps := (.agg (fls x0) :: .agg #[.float .f32 x1h, .float .f32 x1v] :: .float .f32 x2 :: .int .i64 x3 :: .pointer (some ⟨w.heap.size, 0, none⟩) :: .pointer (some ⟨w.heap.size + 1, 0, none⟩) :: undef :: undef :: .bool false :: .int .i64 r0 :: .int .i64 r1 :: undef :: undef :: .tuple #[.int .i64 r0, .int .i64 r1] :: .agg (fls x0) :: .agg (fls x0) :: .agg (#[.float .f32 x1h, .float .f32 x1v]) :: .agg (#[.float .f32 x1h, .float .f32 x1v]) :: .float .f32 x2 :: .int .i64 x3 :: .tuple #[.int .i64 r0, .int .i64 r1] :: .int .i64 r0 :: .int .i64 r1 :: undef :: .agg (fls x0) :: .agg (fls x0) :: .agg (#[.float .f32 x1h, .float .f32 x1v]) :: undef :: .float .f32 x2 :: .int .i64 x3 :: undef :: undef :: undef :: undef :: undef :: undef :: undef :: undef :: undef :: undef :: undef :: []).toArray, defers := [] } #[true, true, true, false, true, true, false, false, false, false, false, false] (.agg (fls x0)) kd rfl (by rfl) 18 #[.agg (fls x0)] (run_toSizes1 _ _ _ rfl _ _ _ _ _ _) (by rfl) (by rfl) (toSizes _ _) (fun w1 k1 => ?_) AllReadyH.nil
      refine ⟨k1, ?_⟩
      refine wpAnyH_ready (rs := [3]) (by kernel_rfl) (by simp) ?_
      refine callK 3 { tmps := (.agg (fls x0) :: .agg #[.float .f32 x1h, .float .f32 x1v] :: .float .f32 x2 :: .int .i64 x3 :: .pointer (some ⟨w.heap.size, 0, none⟩) :: .pointer (some ⟨w.heap.size + 1, 0, none⟩) :: undef :: undef :: .bool false :: .int .i64 r0 :: .int .i64 r1 :: undef :: undef :: .tuple #[.int .i64 r0, .int .i64 r1] :: .agg (fls x0) :: .agg (fls x0) :: .agg (#[.float .f32 x1h, .float .f32 x1v]) :: .agg (#[.float .f32 x1h, .float .f32 x1v]) :: .float .f32 x2 :: .int .i64 x3 :: .tuple #[.int .i64 r0, .int .i64 r1] :: .int .i64 r0 :: .int .i64 r1 :: undef :: .agg (fls x0) :: .agg (fls x0) :: .agg (#[.float .f32 x1h, .float .f32 x1v]) :: .agg (#[.float .f32 x1h, .float .f32 x1v]) :: .float .f32 x2 :: .int .i64 x3 :: undef :: undef :: undef :: undef :: undef :: undef :: undef :: undef :: undef :: undef :: undef :: []).toArray, defers := [] } #[true, true, true, true, true, true, false, false, false, false, false, false] (.agg (#[.float .f32 x1h, .float .f32 x1v])) k1 rfl (by rfl) 19 #[.agg (#[.float .f32 x1h, .float .f32 x1v])] (run_toAir1 _ _ _ rfl _ _ _ _ _ _) (by rfl) (by rfl) (toAir _ _ _) (fun w2 k2 => ?_) AllReadyH.nil
      refine ⟨k2, ?_⟩
      refine wpAnyH_ready (rs := [6]) (by kernel_rfl) (by simp) ?_
      refine callK 6 { tmps := (.agg (fls x0) :: .agg #[.float .f32 x1h, .float .f32 x1v] :: .float .f32 x2 :: .int .i64 x3 :: .pointer (some ⟨w.heap.size, 0, none⟩) :: .pointer (some ⟨w.heap.size + 1, 0, none⟩) :: undef :: undef :: .bool false :: .int .i64 r0 :: .int .i64 r1 :: undef :: undef :: .tuple #[.int .i64 r0, .int .i64 r1] :: .agg (fls x0) :: .agg (fls x0) :: .agg (#[.float .f32 x1h, .float .f32 x1v]) :: .agg (#[.float .f32 x1h, .float .f32 x1v]) :: .float .f32 x2 :: .int .i64 x3 :: .tuple #[.int .i64 r0, .int .i64 r1] :: .int .i64 r0 :: .int .i64 r1 :: undef :: .agg (fls x0) :: .agg (fls x0) :: .agg (#[.float .f32 x1h, .float .f32 x1v]) :: .agg (#[.float .f32 x1h, .float .f32 x1v]) :: .float .f32 x2 :: .int .i64 x3 :: .tuple #[.int .i64 r0, .int .i64 r1] :: undef :: undef :: undef :: undef :: undef :: undef :: undef :: undef :: undef :: undef :: []).toArray, defers := [] } #[true, true, true, true, true, true, true, false, false, false, false, false] (.tuple #[.int .i64 r0, .int .i64 r1]) k2 rfl (by rfl) 26 #[.agg (fls x0), .agg (#[.float .f32 x1h, .float .f32 x1v]), .float .f32 x2, .int .i64 x3] (run_iStepsToDry4 _ _ _ rfl _ _ rfl _ _ rfl _ _ rfl _ _ _ _ _ _) (by rfl) (by rfl) (HI.out _) (fun w3 k3 => ?_) AllReadyH.nil
      refine ⟨k3, ?_⟩
      refine take_val 7 { tmps := (.agg (fls x0) :: .agg #[.float .f32 x1h, .float .f32 x1v] :: .float .f32 x2 :: .int .i64 x3 :: .pointer (some ⟨w.heap.size, 0, none⟩) :: .pointer (some ⟨w.heap.size + 1, 0, none⟩) :: undef :: undef :: .bool false :: .int .i64 r0 :: .int .i64 r1 :: undef :: undef :: .tuple #[.int .i64 r0, .int .i64 r1] :: .agg (fls x0) :: .agg (fls x0) :: .agg (#[.float .f32 x1h, .float .f32 x1v]) :: .agg (#[.float .f32 x1h, .float .f32 x1v]) :: .float .f32 x2 :: .int .i64 x3 :: .tuple #[.int .i64 r0, .int .i64 r1] :: .int .i64 r0 :: .int .i64 r1 :: .tuple #[.int .i64 r0, .int .i64 r1] :: .agg (fls x0) :: .agg (fls x0) :: .agg (#[.float .f32 x1h, .float .f32 x1v]) :: .agg (#[.float .f32 x1h, .float .f32 x1v]) :: .float .f32 x2 :: .int .i64 x3 :: .tuple #[.int .i64 r0, .int .i64 r1] :: undef :: undef :: undef :: undef :: undef :: undef :: undef :: undef :: undef :: undef :: []).toArray, defers := [] } #[true, true, true, true, true, true, true, true, false, false, false, false] (.tuple #[.int .i64 r0, .int .i64 r1]) rfl (by rfl) (by kernel_rfl) (by kernel_rfl) (by kernel_rfl) (fun w => by rfl) (by rfl) (by rfl) (k3) ?_
      refine take_val 8 { tmps := (.agg (fls x0) :: .agg #[.float .f32 x1h, .float .f32 x1v] :: .float .f32 x2 :: .int .i64 x3 :: .pointer (some ⟨w.heap.size, 0, none⟩) :: .pointer (some ⟨w.heap.size + 1, 0, none⟩) :: undef :: undef :: .bool false :: .int .i64 r0 :: .int .i64 r1 :: undef :: undef :: .tuple #[.int .i64 r0, .int .i64 r1] :: .agg (fls x0) :: .agg (fls x0) :: .agg (#[.float .f32 x1h, .float .f32 x1v]) :: .agg (#[.float .f32 x1h, .float .f32 x1v]) :: .float .f32 x2 :: .int .i64 x3 :: .tuple #[.int .i64 r0, .int .i64 r1] :: .int .i64 r0 :: .int .i64 r1 :: .tuple #[.int .i64 r0, .int .i64 r1] :: .agg (fls x0) :: .agg (fls x0) :: .agg (#[.float .f32 x1h, .float .f32 x1v]) :: .agg (#[.float .f32 x1h, .float .f32 x1v]) :: .float .f32 x2 :: .int .i64 x3 :: .tuple #[.int .i64 r0, .int .i64 r1] :: .int .i64 r0 :: undef :: undef :: undef :: undef :: undef :: undef :: undef :: undef :: undef :: []).toArray, defers := [] } #[true, true, true, true, true, true, true, true, true, false, false, false] (.int .i64 r0) rfl (by rfl) (by kernel_rfl) (by kernel_rfl) (by kernel_rfl) (fun w => by rfl) (by rfl) (by rfl) (k3) ?_
      refine take_val 9 { tmps := (.agg (fls x0) :: .agg #[.float .f32 x1h, .float .f32 x1v] :: .float .f32 x2 :: .int .i64 x3 :: .pointer (some ⟨w.heap.size, 0, none⟩) :: .pointer (some ⟨w.heap.size + 1, 0, none⟩) :: undef :: undef :: .bool false :: .int .i64 r0 :: .int .i64 r1 :: undef :: undef :: .tuple #[.int .i64 r0, .int .i64 r1] :: .agg (fls x0) :: .agg (fls x0) :: .agg (#[.float .f32 x1h, .float .f32 x1v]) :: .agg (#[.float .f32 x1h, .float .f32 x1v]) :: .float .f32 x2 :: .int .i64 x3 :: .tuple #[.int .i64 r0, .int .i64 r1] :: .int .i64 r0 :: .int .i64 r1 :: .tuple #[.int .i64 r0, .int .i64 r1] :: .agg (fls x0) :: .agg (fls x0) :: .agg (#[.float .f32 x1h, .float .f32 x1v]) :: .agg (#[.float .f32 x1h, .float .f32 x1v]) :: .float .f32 x2 :: .int .i64 x3 :: .tuple #[.int .i64 r0, .int .i64 r1] :: .int .i64 r0 :: .int .i64 r1 :: undef :: undef :: undef :: undef :: undef :: undef :: undef :: undef :: []).toArray, defers := [] } #[true, true, true, true, true, true, true, true, true, true, false, false] (.int .i64 r1) rfl (by rfl) (by kernel_rfl) (by kernel_rfl) (by kernel_rfl) (fun w => by rfl) (by rfl) (by rfl) (k3) ?_
      refine take_val 10 { tmps := (.agg (fls x0) :: .agg #[.float .f32 x1h, .float .f32 x1v] :: .float .f32 x2 :: .int .i64 x3 :: .pointer (some ⟨w.heap.size, 0, none⟩) :: .pointer (some ⟨w.heap.size + 1, 0, none⟩) :: undef :: undef :: .bool false :: .int .i64 r0 :: .int .i64 r1 :: .int .i64 r0 :: undef :: .tuple #[.int .i64 r0, .int .i64 r1] :: .agg (fls x0) :: .agg (fls x0) :: .agg (#[.float .f32 x1h, .float .f32 x1v]) :: .agg (#[.float .f32 x1h, .float .f32 x1v]) :: .float .f32 x2 :: .int .i64 x3 :: .tuple #[.int .i64 r0, .int .i64 r1] :: .int .i64 r0 :: .int .i64 r1 :: .tuple #[.int .i64 r0, .int .i64 r1] :: .agg (fls x0) :: .agg (fls x0) :: .agg (#[.float .f32 x1h, .float .f32 x1v]) :: .agg (#[.float .f32 x1h, .float .f32 x1v]) :: .float .f32 x2 :: .int .i64 x3 :: .tuple #[.int .i64 r0, .int .i64 r1] :: .int .i64 r0 :: .int .i64 r1 :: undef :: undef :: undef :: undef :: undef :: undef :: undef :: undef :: []).toArray, defers := [] } #[true, true, true, true, true, true, true, true, true, true, true, false] (.int .i64 r0) rfl (by rfl) (by kernel_rfl) (by kernel_rfl) (by kernel_rfl) (fun w => by rfl) (by rfl) (by rfl) (k3) ?_
      refine take_val 11 { tmps := (.agg (fls x0) :: .agg #[.float .f32 x1h, .float .f32 x1v] :: .float .f32 x2 :: .int .i64 x3 :: .pointer (some ⟨w.heap.size, 0, none⟩) :: .pointer (some ⟨w.heap.size + 1, 0, none⟩) :: undef :: undef :: .bool false :: .int .i64 r0 :: .int .i64 r1 :: .int .i64 r0 :: .int .i64 r1 :: .tuple #[.int .i64 r0, .int .i64 r1] :: .agg (fls x0) :: .agg (fls x0) :: .agg (#[.float .f32 x1h, .float .f32 x1v]) :: .agg (#[.float .f32 x1h, .float .f32 x1v]) :: .float .f32 x2 :: .int .i64 x3 :: .tuple #[.int .i64 r0, .int .i64 r1] :: .int .i64 r0 :: .int .i64 r1 :: .tuple #[.int .i64 r0, .int .i64 r1] :: .agg (fls x0) :: .agg (fls x0) :: .agg (#[.float .f32 x1h, .float .f32 x1v]) :: .agg (#[.float .f32 x1h, .float .f32 x1v]) :: .float .f32 x2 :: .int .i64 x3 :: .tuple #[.int .i64 r0, .int .i64 r1] :: .int .i64 r0 :: .int .i64 r1 :: undef :: undef :: undef :: undef :: undef :: undef :: undef :: undef :: []).toArray, defers := [] } #[true, true, true, true, true, true, true, true, true, true, true, true] (.int .i64 r1) rfl (by rfl) (by kernel_rfl) (by kernel_rfl) (by kernel_rfl) (fun w => by rfl) (by rfl) (by rfl) (k3) ?_
      exact wpAnyH_done (by kernel_rfl) (NoPanic.normal (key2  _ (hid k3))) _
  refine region_kept (w0 := w) (l := [(w.heap.size, fls x0, 23), (w.heap.size + 1, #[.float .f32 x1h, .float .f32 x1v], 26)]) 12 #[false, false, false, false, false, false, false, false, false, false, false, false] (by kernel_rfl) rfl rfl ?_
  have kd := k0.out.drew
  clear k0
  generalize ((w.alloc (.cells (fls x0) 23)).alloc (.cells (#[.float .f32 x1h, .float .f32 x1v]) 26)).drew = wd at kd ⊢
  refine take_load 0 { tmps := (.agg (fls x0) :: .agg #[.float .f32 x1h, .float .f32 x1v] :: .float .f32 x2 :: .int .i64 x3 :: .pointer (some ⟨w.heap.size, 0, none⟩) :: .pointer (some ⟨w.heap.size + 1, 0, none⟩) :: undef :: undef :: .bool false :: undef :: undef :: undef :: undef :: undef :: .agg (fls x0) :: undef :: undef :: undef :: undef :: undef :: undef :: undef :: undef :: undef :: undef :: undef :: undef :: undef :: undef :: undef :: undef :: undef :: undef :: undef :: undef :: undef :: undef :: undef :: undef :: undef :: undef :: []).toArray, defers := [] } #[true, false, false, false, false, false, false, false, false, false, false, false] rfl (by rfl) (by kernel_rfl) (by kernel_rfl) (by kernel_rfl) 23 _ rfl (w.heap.size) (fls x0) 23 (by rfl) (by simp) _ Try.underlying23 rfl (by rw [fls_size]; exact info_a20) (by rfl) (by rfl) (kd) ?_
  refine take_load 2 { tmps := (.agg (fls x0) :: .agg #[.float .f32 x1h, .float .f32 x1v] :: .float .f32 x2 :: .int .i64 x3 :: .pointer (some ⟨w.heap.size, 0, none⟩) :: .pointer (some ⟨w.heap.size + 1, 0, none⟩) :: undef :: undef :: .bool false :: undef :: undef :: undef :: undef :: undef :: .agg (fls x0) :: undef :: .agg (#[.float .f32 x1h, .float .f32 x1v]) :: undef :: undef :: undef :: undef :: undef :: undef :: undef :: undef :: undef :: undef :: undef :: undef :: undef :: undef :: undef :: undef :: undef :: undef :: undef :: undef :: undef :: undef :: undef :: undef :: []).toArray, defers := [] } #[true, false, true, false, false, false, false, false, false, false, false, false] rfl (by rfl) (by kernel_rfl) (by kernel_rfl) (by kernel_rfl) 26 _ rfl (w.heap.size + 1) (#[.float .f32 x1h, .float .f32 x1v]) 26 (by rfl) (by simp) _ Try.underlying26 rfl (info_lair) (by rfl) (by rfl) (kd) ?_
  refine take_val 4 { tmps := (.agg (fls x0) :: .agg #[.float .f32 x1h, .float .f32 x1v] :: .float .f32 x2 :: .int .i64 x3 :: .pointer (some ⟨w.heap.size, 0, none⟩) :: .pointer (some ⟨w.heap.size + 1, 0, none⟩) :: undef :: undef :: .bool false :: undef :: undef :: undef :: undef :: undef :: .agg (fls x0) :: undef :: .agg (#[.float .f32 x1h, .float .f32 x1v]) :: undef :: .float .f32 x2 :: undef :: undef :: undef :: undef :: undef :: undef :: undef :: undef :: undef :: undef :: undef :: undef :: undef :: undef :: undef :: undef :: undef :: undef :: undef :: undef :: undef :: undef :: []).toArray, defers := [] } #[true, false, true, false, true, false, false, false, false, false, false, false] (.float .f32 x2) rfl (by rfl) (by kernel_rfl) (by kernel_rfl) (by kernel_rfl) (fun w => by rfl) (by rfl) (by rfl) (kd) ?_
  refine take_val 5 { tmps := (.agg (fls x0) :: .agg #[.float .f32 x1h, .float .f32 x1v] :: .float .f32 x2 :: .int .i64 x3 :: .pointer (some ⟨w.heap.size, 0, none⟩) :: .pointer (some ⟨w.heap.size + 1, 0, none⟩) :: undef :: undef :: .bool false :: undef :: undef :: undef :: undef :: undef :: .agg (fls x0) :: undef :: .agg (#[.float .f32 x1h, .float .f32 x1v]) :: undef :: .float .f32 x2 :: .int .i64 x3 :: undef :: undef :: undef :: undef :: undef :: undef :: undef :: undef :: undef :: undef :: undef :: undef :: undef :: undef :: undef :: undef :: undef :: undef :: undef :: undef :: undef :: []).toArray, defers := [] } #[true, false, true, false, true, true, false, false, false, false, false, false] (.int .i64 x3) rfl (by rfl) (by kernel_rfl) (by kernel_rfl) (by kernel_rfl) (fun w => by rfl) (by rfl) (by rfl) (kd) ?_
  refine wpAnyH_ready (rs := [1]) (by kernel_rfl) (by simp) ?_
  refine callK 1 { tmps := (.agg (fls x0) :: .agg #[.float .f32 x1h, .float .f32 x1v] :: .float .f32 x2 :: .int .i64 x3 :: .pointer (some ⟨w.heap.size, 0, none⟩) :: .pointer (some ⟨w.heap.size + 1, 0, none⟩) :: undef :: undef :: .bool false :: undef :: undef :: undef :: undef :: undef :: .agg (fls x0) :: .agg (fls x0) :: .agg (#[.float .f32 x1h, .float .f32 x1v]) :: undef :: .float .f32 x2 :: .int .i64 x3 :: undef :: undef :: undef :: undef :: undef :: undef :: undef :: undef :: undef :: undef :: undef :: undef :: undef :: undef :: undef :: undef :: undef :: undef :: undef :: undef :: undef :: []).toArray, defers := [] } #[true, true, true, false, true, true, false, false, false, false, false, false] (.agg (fls x0)) kd rfl (by rfl) 18 #[.agg (fls x0)] (run_toSizes1 _ _ _ rfl _ _ _ _ _ _) (by rfl) (by rfl) (toSizes _ _) (fun w1 k1 => ?_) AllReadyH.nil
  refine ⟨k1, ?_⟩
  refine wpAnyH_ready (rs := [3]) (by kernel_rfl) (by simp) ?_
  refine callK 3 { tmps := (.agg (fls x0) :: .agg #[.float .f32 x1h, .float .f32 x1v] :: .float .f32 x2 :: .int .i64 x3 :: .pointer (some ⟨w.heap.size, 0, none⟩) :: .pointer (some ⟨w.heap.size + 1, 0, none⟩) :: undef :: undef :: .bool false :: undef :: undef :: undef :: undef :: undef :: .agg (fls x0) :: .agg (fls x0) :: .agg (#[.float .f32 x1h, .float .f32 x1v]) :: .agg (#[.float .f32 x1h, .float .f32 x1v]) :: .float .f32 x2 :: .int .i64 x3 :: undef :: undef :: undef :: undef :: undef :: undef :: undef :: undef :: undef :: undef :: undef :: undef :: undef :: undef :: undef :: undef :: undef :: undef :: undef :: undef :: undef :: []).toArray, defers := [] } #[true, true, true, true, true, true, false, false, false, false, false, false] (.agg (#[.float .f32 x1h, .float .f32 x1v])) k1 rfl (by rfl) 19 #[.agg (#[.float .f32 x1h, .float .f32 x1v])] (run_toAir1 _ _ _ rfl _ _ _ _ _ _) (by rfl) (by rfl) (toAir _ _ _) (fun w2 k2 => ?_) AllReadyH.nil
  refine ⟨k2, ?_⟩
  refine wpAnyH_ready (rs := [6]) (by kernel_rfl) (by simp) ?_
  refine callK 6 { tmps := (.agg (fls x0) :: .agg #[.float .f32 x1h, .float .f32 x1v] :: .float .f32 x2 :: .int .i64 x3 :: .pointer (some ⟨w.heap.size, 0, none⟩) :: .pointer (some ⟨w.heap.size + 1, 0, none⟩) :: undef :: undef :: .bool false :: undef :: undef :: undef :: undef :: undef :: .agg (fls x0) :: .agg (fls x0) :: .agg (#[.float .f32 x1h, .float .f32 x1v]) :: .agg (#[.float .f32 x1h, .float .f32 x1v]) :: .float .f32 x2 :: .int .i64 x3 :: .tuple #[.int .i64 r0, .int .i64 r1] :: undef :: undef :: undef :: undef :: undef :: undef :: undef :: undef :: undef :: undef :: undef :: undef :: undef :: undef :: undef :: undef :: undef :: undef :: undef :: undef :: []).toArray, defers := [] } #[true, true, true, true, true, true, true, false, false, false, false, false] (.tuple #[.int .i64 r0, .int .i64 r1]) k2 rfl (by rfl) 25 #[.agg (fls x0), .agg (#[.float .f32 x1h, .float .f32 x1v]), .float .f32 x2, .int .i64 x3] (run_sStepsToDry4 _ _ _ rfl _ _ rfl _ _ rfl _ _ rfl _ _ _ _ _ _) (by rfl) (by rfl) (HS.out _) (fun w3 k3 => ?_) AllReadyH.nil
  refine ⟨k3, ?_⟩
  refine take_val 7 { tmps := (.agg (fls x0) :: .agg #[.float .f32 x1h, .float .f32 x1v] :: .float .f32 x2 :: .int .i64 x3 :: .pointer (some ⟨w.heap.size, 0, none⟩) :: .pointer (some ⟨w.heap.size + 1, 0, none⟩) :: undef :: undef :: .bool false :: undef :: undef :: undef :: undef :: .tuple #[.int .i64 r0, .int .i64 r1] :: .agg (fls x0) :: .agg (fls x0) :: .agg (#[.float .f32 x1h, .float .f32 x1v]) :: .agg (#[.float .f32 x1h, .float .f32 x1v]) :: .float .f32 x2 :: .int .i64 x3 :: .tuple #[.int .i64 r0, .int .i64 r1] :: undef :: undef :: undef :: undef :: undef :: undef :: undef :: undef :: undef :: undef :: undef :: undef :: undef :: undef :: undef :: undef :: undef :: undef :: undef :: undef :: []).toArray, defers := [] } #[true, true, true, true, true, true, true, true, false, false, false, false] (.tuple #[.int .i64 r0, .int .i64 r1]) rfl (by rfl) (by kernel_rfl) (by kernel_rfl) (by kernel_rfl) (fun w => by rfl) (by rfl) (by rfl) (k3) ?_
  refine take_val 8 { tmps := (.agg (fls x0) :: .agg #[.float .f32 x1h, .float .f32 x1v] :: .float .f32 x2 :: .int .i64 x3 :: .pointer (some ⟨w.heap.size, 0, none⟩) :: .pointer (some ⟨w.heap.size + 1, 0, none⟩) :: undef :: undef :: .bool false :: undef :: undef :: undef :: undef :: .tuple #[.int .i64 r0, .int .i64 r1] :: .agg (fls x0) :: .agg (fls x0) :: .agg (#[.float .f32 x1h, .float .f32 x1v]) :: .agg (#[.float .f32 x1h, .float .f32 x1v]) :: .float .f32 x2 :: .int .i64 x3 :: .tuple #[.int .i64 r0, .int .i64 r1] :: .int .i64 r0 :: undef :: undef :: undef :: undef :: undef :: undef :: undef :: undef :: undef :: undef :: undef :: undef :: undef :: undef :: undef :: undef :: undef :: undef :: undef :: []).toArray, defers := [] } #[true, true, true, true, true, true, true, true, true, false, false, false] (.int .i64 r0) rfl (by rfl) (by kernel_rfl) (by kernel_rfl) (by kernel_rfl) (fun w => by rfl) (by rfl) (by rfl) (k3) ?_
  refine take_val 9 { tmps := (.agg (fls x0) :: .agg #[.float .f32 x1h, .float .f32 x1v] :: .float .f32 x2 :: .int .i64 x3 :: .pointer (some ⟨w.heap.size, 0, none⟩) :: .pointer (some ⟨w.heap.size + 1, 0, none⟩) :: undef :: undef :: .bool false :: undef :: undef :: undef :: undef :: .tuple #[.int .i64 r0, .int .i64 r1] :: .agg (fls x0) :: .agg (fls x0) :: .agg (#[.float .f32 x1h, .float .f32 x1v]) :: .agg (#[.float .f32 x1h, .float .f32 x1v]) :: .float .f32 x2 :: .int .i64 x3 :: .tuple #[.int .i64 r0, .int .i64 r1] :: .int .i64 r0 :: .int .i64 r1 :: undef :: undef :: undef :: undef :: undef :: undef :: undef :: undef :: undef :: undef :: undef :: undef :: undef :: undef :: undef :: undef :: undef :: undef :: []).toArray, defers := [] } #[true, true, true, true, true, true, true, true, true, true, false, false] (.int .i64 r1) rfl (by rfl) (by kernel_rfl) (by kernel_rfl) (by kernel_rfl) (fun w => by rfl) (by rfl) (by rfl) (k3) ?_
  refine take_val 10 { tmps := (.agg (fls x0) :: .agg #[.float .f32 x1h, .float .f32 x1v] :: .float .f32 x2 :: .int .i64 x3 :: .pointer (some ⟨w.heap.size, 0, none⟩) :: .pointer (some ⟨w.heap.size + 1, 0, none⟩) :: undef :: undef :: .bool false :: .int .i64 r0 :: undef :: undef :: undef :: .tuple #[.int .i64 r0, .int .i64 r1] :: .agg (fls x0) :: .agg (fls x0) :: .agg (#[.float .f32 x1h, .float .f32 x1v]) :: .agg (#[.float .f32 x1h, .float .f32 x1v]) :: .float .f32 x2 :: .int .i64 x3 :: .tuple #[.int .i64 r0, .int .i64 r1] :: .int .i64 r0 :: .int .i64 r1 :: undef :: undef :: undef :: undef :: undef :: undef :: undef :: undef :: undef :: undef :: undef :: undef :: undef :: undef :: undef :: undef :: undef :: undef :: []).toArray, defers := [] } #[true, true, true, true, true, true, true, true, true, true, true, false] (.int .i64 r0) rfl (by rfl) (by kernel_rfl) (by kernel_rfl) (by kernel_rfl) (fun w => by rfl) (by rfl) (by rfl) (k3) ?_
  refine take_val 11 { tmps := (.agg (fls x0) :: .agg #[.float .f32 x1h, .float .f32 x1v] :: .float .f32 x2 :: .int .i64 x3 :: .pointer (some ⟨w.heap.size, 0, none⟩) :: .pointer (some ⟨w.heap.size + 1, 0, none⟩) :: undef :: undef :: .bool false :: .int .i64 r0 :: .int .i64 r1 :: undef :: undef :: .tuple #[.int .i64 r0, .int .i64 r1] :: .agg (fls x0) :: .agg (fls x0) :: .agg (#[.float .f32 x1h, .float .f32 x1v]) :: .agg (#[.float .f32 x1h, .float .f32 x1v]) :: .float .f32 x2 :: .int .i64 x3 :: .tuple #[.int .i64 r0, .int .i64 r1] :: .int .i64 r0 :: .int .i64 r1 :: undef :: undef :: undef :: undef :: undef :: undef :: undef :: undef :: undef :: undef :: undef :: undef :: undef :: undef :: undef :: undef :: undef :: undef :: []).toArray, defers := [] } #[true, true, true, true, true, true, true, true, true, true, true, true] (.int .i64 r1) rfl (by rfl) (by kernel_rfl) (by kernel_rfl) (by kernel_rfl) (fun w => by rfl) (by rfl) (by rfl) (k3) ?_
  exact wpAnyH_done (by kernel_rfl) (NoPanic.normal (key1  _ (hid k3))) _

theorem dry_out (t : Nat) (s : GSt) (N K : Nat) : ∃ o n : Int, (∀ D : Nat, D ≤ K → DryC (gSt t s D).c → (∀ j, j < D → ¬ DryC (gSt t s j).c) → o = (D : Int) ∧ n = 0) ∧ ((∀ j, j ≤ K → ¬ DryC (gSt t s j).c) → o = 0 ∧ n = dCode N K) := by
  rcases Classical.em (∃ D, D ≤ K ∧ DryC (gSt t s D).c ∧ ∀ j, j < D → ¬ DryC (gSt t s j).c) with ⟨D, h1, h2, h3⟩ | h
  · refine ⟨(D : Int), 0, fun E e1 e2 e3 => ?_, fun hn => absurd h2 (hn D h1)⟩
    rcases Nat.lt_trichotomy D E with l | rfl | l
    · exact absurd h2 (e3 D l)
    · exact ⟨rfl, rfl⟩
    · exact absurd e2 (h3 E l)
  · exact ⟨0, dCode N K, fun D d1 d2 d3 => absurd ⟨D, d1, d2, d3⟩ h, fun _ => ⟨rfl, rfl⟩⟩

theorem lawStepsToDry (c : Nat → Nat) (hb : ∀ i, i < 20 → c i < 4294967296) (h v : Nat) (hh : h < 4294967296) (hv : v < 4294967296) (y : Nat) (hy : y < 4294967296) (n : Int) (_h1 : -9223372036854775808 ≤ n) (_h2 : n ≤ 9223372036854775807) (w : World) :
    Calls Try.prog 6 #[.agg (fls c), .agg #[.float .f32 h, .float .f32 v], .float .f32 y, .int .i64 n] w fun e w' => e = .returned (.bool true) ∧ Below w.heap.size w w' := by
  by_cases hc : Amts c
  · rcases hq : airB h v with _ | _
    · exact coreStepsToDry c h v y n 0 1 (sDry_bad2 c h v y n hc hv hq) (iDry_bad c h v y n 1 (by decide) (iCheckG_bad2 c h v y n hc hv hq)) w
    · rcases ha : amtB y with _ | _
      · exact coreStepsToDry c h v y n 0 2 (sDry_bad3 c h v y n hc hq hy ha) (iDry_bad c h v y n 2 (by decide) (iCheckG_bad3 c h v y n hc hv hq hy ha)) w
      · by_cases h0 : n < 0
        · exact coreStepsToDry c h v y n 0 2 (sDry_bad4 c h v y n hc hq ha (by omega)) (iDry_bad c h v y n 2 (by decide) (iCheckG_neg c h v y n hc hv hq ha h0)) w
        · by_cases h1 : 200 < n
          · exact coreStepsToDry c h v y n 0 2 (sDry_bad4 c h v y n hc hq ha (by omega)) (iDry_bad c h v y n 2 (by decide) (iCheckG_big c h v y n hc hv hq ha h0 h1)) w
          · obtain ⟨N, rfl⟩ := Int.eq_ofNat_of_zero_le (show 0 ≤ n by omega)
            have hN : N ≤ 200 := by omega
            have hs : GVal y ⟨c, h, v⟩ := ⟨hc, ⟨hh, (airB_iff.1 hq).1⟩, hq, ha⟩
            obtain ⟨K, k1, k2, k3⟩ := g_far y ⟨c, h, v⟩ N
            obtain ⟨o, q, o1, o2⟩ := dry_out y ⟨c, h, v⟩ N K
            have S := sDry_ok y ⟨c, h, v⟩ hs N K hN k1 k2 k3 o q o1 o2
            by_cases hd : DryC c
            · obtain ⟨rfl, rfl⟩ := o1 0 (Nat.zero_le _) hd (fun j hj => absurd hj (Nat.not_lt_zero j))
              exact coreStepsToDry c h v y N _ 0 S (iDry_now c h v y N hc hd (iCheckG_ok c h v y N hc hv hq ha h0 h1)) w
            · exact coreStepsToDry c h v y N o q S (iDry_ok y ⟨c, h, v⟩ hs hv N K hN k1 k2 k3 hd o q o1 o2) w
  · exact coreStepsToDry c h v y n 0 1 (sDry_bad1 c h v y n hb hc) (iDry_bad c h v y n 1 (by decide) (iCheckG_bad1 c h v y n hb hc)) w
end Go.Proofs.Ythpimindkmmkjaa

namespace Go.Proofs.Ythpimindkmmkjaa.fnExactStepsToDry
open Go.RowKit Go.Fl Go.ChangeShapes Go.WideShapes Go.ChangeAt

set_option maxHeartbeats 2000000 in
theorem closed : joinedFacts Try.prog 6 Try.f6 Rows.fnExactStepsToDrySpec Rows.fnExactStepsToDryRow = true := by
  unfold joinedFacts
  simp only [Bool.and_eq_true]
  exact ⟨⟨⟨⟨⟨⟨⟨⟨⟨⟨⟨⟨⟨⟨⟨⟨⟨⟨⟨⟨⟨⟨⟨⟨⟨⟨⟨⟨⟨⟨⟨(by as_aux_lemma => kernel_rfl),
    laid⟩,
    rowed⟩,
    (by as_aux_lemma => kernel_rfl)⟩,
    (by as_aux_lemma => kernel_rfl)⟩,
    (by as_aux_lemma => kernel_rfl)⟩,
    (by rw [no_stops]; rfl)⟩,
    (by as_aux_lemma => kernel_rfl)⟩,
    (by rw [no_knobs]; rfl)⟩,
    (by as_aux_lemma => kernel_rfl)⟩,
    (by as_aux_lemma => kernel_rfl)⟩,
    (by as_aux_lemma => kernel_rfl)⟩,
    (by as_aux_lemma => kernel_rfl)⟩,
    (by as_aux_lemma => kernel_rfl)⟩,
    (by as_aux_lemma => kernel_rfl)⟩,
    (by as_aux_lemma => kernel_rfl)⟩,
    (by as_aux_lemma => kernel_rfl)⟩,
    (by as_aux_lemma => kernel_rfl)⟩,
    (by as_aux_lemma => kernel_rfl)⟩,
    (by as_aux_lemma => kernel_rfl)⟩,
    (by as_aux_lemma => kernel_rfl)⟩,
    (by as_aux_lemma => kernel_rfl)⟩,
    (show (Rows.fnExactStepsToDryRow.plainKeys == Try.prog.plainKeys) = true by rw [plain_keys]; rfl)⟩,
    (by as_aux_lemma => kernel_rfl)⟩,
    stops_heard⟩,
    may_enter⟩,
    (show (Rows.fnExactStepsToDryRow.lifted == Try.prog.liftsFinal) = true by rw [lifts_final]; rfl)⟩,
    (show (Try.prog.make == some Rows.fnExactStepsToDryRow.make) = true by rw [made]; rfl)⟩,
    (by as_aux_lemma => kernel_rfl)⟩,
    (by as_aux_lemma => kernel_rfl)⟩,
    (by as_aux_lemma => kernel_rfl)⟩,
    (by as_aux_lemma => kernel_rfl)⟩

set_option maxRecDepth 100000 in
theorem lifted (os : Os) (started : os.Started) (H : Type) (enc : TypeId × Value → H) :
    ReturnsInHanded {} Try.checked os 6 .any (Rows.fnExactStepsToDrySpec.pre6 enc Try.prog Try.f6 Rows.fnExactStepsToDryRow.domain false) (Rows.fnExactStepsToDrySpec.post enc Try.prog Try.f6 false true false false) := by
  refine LawFrame.lifted (C := Try.checked) (fn := Try.f6) (n := 4) (tb := 4) started own (by kernel_rfl) Try.func6 laid ?_ rfl rfl ?_ rfl Try.underlying4
    (ChangeSpec.witness6 (enc := enc) (C := Try.checked) false ⟨#[], #[.agg (Array.replicate 20 (.float .f32 0)), .agg #[.float .f32 0, .float .f32 0], .float .f32 0, .int .i64 0], []⟩ 8 (by kernel_rfl) (by kernel_rfl) (by kernel_rfl) (by kernel_rfl)) ?_
  · intro t ht
    simp only [Try.params6, List.mem_cons, List.not_mem_nil, or_false] at ht
    rcases ht with rfl | rfl | rfl | rfl <;> first | exact rdA | exact rda | exact rdf | exact rdi
  · intro ds hd
    match ds, hd with
    | [_, _, _, _], _ => rfl
  · intro W base args ds ps hval hn _
    obtain ⟨v0, v1, v2, v3, rfl⟩ : ∃ v0 v1 v2 v3, args = #[v0, v1, v2, v3] := arr4 hn
    obtain ⟨c0, rfl, hb0⟩ := open_fls Try.underlying23 Try.underlying22 cells20 types20 (hval 0 23 v0 rfl rfl)
    obtain ⟨c1h, c1v, rfl, hh1, hv1⟩ := open_two Try.underlying26 Try.underlying22 cells2 types2 (hval 1 26 v1 rfl rfl)
    obtain ⟨c2, rfl, hb2⟩ := open_f32 Try.underlying22 (hval 2 22 v2 rfl rfl)
    obtain ⟨c3, rfl, hb3, hc3⟩ := open_i64 Try.underlying2 (hval 3 2 v3 rfl rfl)
    exact lawStepsToDry c0 hb0 c1h c1v hh1 hv1 c2 hb2 c3 hb3 hc3 W

theorem over : Rows.fnExactStepsToDryRow.holds Try.pinned (OpenSpec.ofChange Rows.fnExactStepsToDrySpec) :=
  OpenClaim.holds_of_wide 6 Try.f6 rfl rfl rfl rfl rfl rfl rfl ⟨rfl, rfl, rfl, rfl, rfl⟩ rfl rfl rfl rfl rfl (by kernel_rfl) Try.func6 closed
    (of_decide_eq_true (by kernel_rfl)) (by unfold Func.isWrapper; rw [if_neg (by decide +kernel)]; exact ⟨rfl, rfl⟩)
    (fun os started H enc _ => lifted os started H enc)

theorem proved : Rows.FnExactStepsToDrySaid := over
#print axioms proved
end Go.Proofs.Ythpimindkmmkjaa.fnExactStepsToDry
