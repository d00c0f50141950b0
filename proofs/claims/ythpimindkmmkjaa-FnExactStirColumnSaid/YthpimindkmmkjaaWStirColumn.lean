import Derived.Test.YthpimindkmmkjaaUStirColumn
import Derived.Test.YthpimindkmmkjaaCStirColumn
import Derived.Test.YthpimindkmmkjaaChecked
import Derived.Test.YthpimindkmmkjaaRows
import Derived.Laws.FloatArith
import Derived.ProofKit
import Derived.WalkKit
import Derived.WalkLawsBesides
import Derived.WalkSpells
import Derived.Deep.QuietTactic
import Derived.BigQuiet
import Derived.Deep.RegionHeld3
import Derived.ChangeKeysEq
import Derived.Laws.BitsAllLaws
import Derived.Deep.MidRow
import Derived.Deep.WholeRow
import Derived.StillTailTactics
import Derived.Deep.Slices
import Derived.ChangeSame
import Derived.OrdersIn
import Derived.ControlIn
import Derived.RangeFuncSeq
import Derived.RangeFuncNested
import Derived.ArgAppend
import Derived.OwnWalkIn
import Derived.TacticsInMore
import Derived.Below
import Derived.Laws.AppendOwn
import Derived.StillTail
import Derived.OpenShut
/- The law FnExactStirColumn of chapter 1: at every argument the call returns true, and what was there before it is as it was. -/
namespace Go.Proofs.Ythpimindkmmkjaa
open Go.RowKit Go.Fl

set_option maxRecDepth 100000 in
set_option maxHeartbeats 1000000 in
theorem sStir_r1 (x : Nat) (hx : x < 4294967296) (hn : ¬ Share x) (g : Nat) (w : World) :
    Calls Try.prog 54 #[.pointer (some ⟨g, 0, none⟩), .float .f32 x] w fun e w' => e = .returned (.tuple #[.agg (vls 178 (clw (fun _ => 0) 0)), .int .i64 2]) ∧ Below w.heap.size w w' := by
  have k0 : Hid (Kept w [(w.heap.size, vls 178 (clw (fun _ => 0) 0), 35)] (w.alloc (.cells (vls 178 (clw (fun _ => 0) 0)) 35))) := hid ((Kept.nil w).push _ _)
  have HS := hid (fun w => sShare_f x hx hn w)
  clear hx hn
  have tok1 : True := trivial
  go_enter Try.func54, Try.ntmps54
  go_wp2_with fail
  refine (HS.out _).mono ?_
  rintro e w1 ⟨rfl, hb1⟩
  have k1 := hid (k0.out.stay hb1)
  clear k0 hb1
  go_wp2_with (have _t := tok1; refine store_row (by rfl) 35 _ _ (by rfl) (w.heap.size) (vls 178 (clw (fun _ => 0) 0)) (vls 178 (clw (fun _ => 0) 0)) (by rfl) (by rfl) k1.out (by rw [vls_size]; exact info_col) (by simp) (vls_one (clw_one _ _)) (Nat.le_refl _) (ne0) ?_; intro xk2 k2; replace k2 := hid k2; clear k1 tok1)
  exact bodyPost_ret (results_row_tmp rfl _ _ (w.heap.size) 35 (vls 178 (clw (fun _ => 0) 0)) (0, 0) _ rfl (k2.out.v in0) Try.underlying35 rfl (by rw [vls_size]; exact info_col)) rfl ⟨rfl, k2.out.1⟩

set_option maxRecDepth 100000 in
set_option maxHeartbeats 1000000 in
theorem sStir_r2 (x : Nat) (hx : Share x) (hn : 1056964608 < x) (g : Nat) (w : World) :
    Calls Try.prog 54 #[.pointer (some ⟨g, 0, none⟩), .float .f32 x] w fun e w' => e = .returned (.tuple #[.agg (vls 178 (clw (fun _ => 0) 0)), .int .i64 2]) ∧ Below w.heap.size w w' := by
  have k0 : Hid (Kept w [(w.heap.size, vls 178 (clw (fun _ => 0) 0), 35)] (w.alloc (.cells (vls 178 (clw (fun _ => 0) 0)) 35))) := hid ((Kept.nil w).push _ _)
  have ho : (FloatKind.f32.format.order x 1056964608 == some .gt) = true := by
    have hi := INF_val
    show (S.order x 1056964608 == some .gt) = true
    rw [order_lt (by unfold Share at hx; omega) (by decide), Nat.compare_eq_gt.2 hn]; rfl
  have HS := hid (fun w => sShare_t x hx w)
  clear hx hn
  have tok1 : True := trivial
  go_enter Try.func54, Try.ntmps54
  go_wp2_with fail
  refine (HS.out _).mono ?_
  rintro e w1 ⟨rfl, rfl⟩
  have k1 := k0
  clear k0
  go_wp2_with (have _t := tok1; refine store_row (by rfl) 35 _ _ (by rfl) (w.heap.size) (vls 178 (clw (fun _ => 0) 0)) (vls 178 (clw (fun _ => 0) 0)) (by rfl) (by rfl) k1.out (by rw [vls_size]; exact info_col) (by simp) (vls_one (clw_one _ _)) (Nat.le_refl _) (ne0) ?_; intro xk2 k2; replace k2 := hid k2; clear k1 tok1)
  exact bodyPost_ret (results_row_tmp rfl _ _ (w.heap.size) 35 (vls 178 (clw (fun _ => 0) 0)) (0, 0) _ rfl (k2.out.v in0) Try.underlying35 rfl (by rw [vls_size]; exact info_col)) rfl ⟨rfl, k2.out.1⟩

set_option maxRecDepth 100000 in
set_option maxHeartbeats 1000000 in
theorem sStirColumn_bad (c : Nat → Nat) (t : Int) (hb : ∀ i, i < 177 → c i < 4294967296) (h : ¬ ColOk c t) (x : Nat) (w : World) :
    Calls Try.prog 13 #[.agg (vls 178 (clw c t)), .float .f32 x] w fun e w' => e = .returned (.tuple #[.agg (vls 178 (clw (fun _ => 0) 0)), .int .i64 1]) ∧ Below w.heap.size w w' := by
  have k0 : Hid (Kept w [(w.heap.size + 1, vls 178 (clw (fun _ => 0) 0), 35), (w.heap.size, vls 178 (clw c t), 35)] (((w.alloc (.cells (vls 178 (clw c t)) 35)).alloc (.cells (vls 178 (clw (fun _ => 0) 0)) 35)))) := hid ((((Kept.nil w).push _ _).push _ _).sub (by simp))
  have tok1 : True := trivial
  have HB := hid hb
  have HQ := hid h
  clear hb h
  go_enter Try.func13, Try.ntmps13
  go_wp2_with fail
  refine (sColOk c t HB.out false (col_no HQ.out) _ w.heap.size 35 (k0.out.v in1)).mono ?_
  rintro e w1 ⟨rfl, hb1⟩
  have k1 := hid (k0.out.stay hb1)
  clear k0 hb1
  go_wp2_with (have _t := tok1; refine store_row (by rfl) 35 _ _ (by rfl) (w.heap.size + 1) (vls 178 (clw (fun _ => 0) 0)) (vls 178 (clw (fun _ => 0) 0)) (by rfl) (by rfl) k1.out (by rw [vls_size]; exact info_col) (by simp) (vls_one (clw_one _ _)) (by omega) (neC (by omega) ne0) ?_; intro xk2 k2; replace k2 := hid k2; clear k1 tok1)
  exact bodyPost_ret (results_row_tmp rfl _ _ (w.heap.size + 1) 35 (vls 178 (clw (fun _ => 0) 0)) (0, 0) _ rfl (k2.out.v in0) Try.underlying35 rfl (by rw [vls_size]; exact info_col)) rfl ⟨rfl, k2.out.1⟩

set_option maxRecDepth 100000 in
set_option maxHeartbeats 1000000 in
theorem sStirColumn_r1 (c : Nat → Nat) (t : Int) (hb : ∀ i, i < 177 → c i < 4294967296) (h : ColOk c t) (x : Nat) (hx : x < 4294967296) (hn : ¬ Share x) (w : World) :
    Calls Try.prog 13 #[.agg (vls 178 (clw c t)), .float .f32 x] w fun e w' => e = .returned (.tuple #[.agg (vls 178 (clw (fun _ => 0) 0)), .int .i64 2]) ∧ Below w.heap.size w w' := by
  have k0 : Hid (Kept w [(w.heap.size + 1, vls 178 (clw (fun _ => 0) 0), 35), (w.heap.size, vls 178 (clw c t), 35)] (((w.alloc (.cells (vls 178 (clw c t)) 35)).alloc (.cells (vls 178 (clw (fun _ => 0) 0)) 35)))) := hid ((((Kept.nil w).push _ _).push _ _).sub (by simp))
  have tok1 : True := trivial
  have HB := hid hb
  have HQ := hid h
  have HS := hid (fun w1 => sStir_r1 x hx hn w.heap.size w1)
  clear hb h hx hn
  go_enter Try.func13, Try.ntmps13
  go_wp2_with fail
  refine (sColOk c t HB.out true (col_ok HQ.out) _ w.heap.size 35 (k0.out.v in1)).mono ?_
  rintro e w1 ⟨rfl, hb1⟩
  have k1 := hid (k0.out.stay hb1)
  clear k0 hb1
  go_wp2_with fail
  refine (HS.out _).mono ?_
  rintro e w2 ⟨rfl, hb2⟩
  have k2 := hid (k1.out.stay hb2)
  clear k1 hb2
  go_wp2_with (have _t := tok1; refine store_row (by rfl) 35 _ _ (by rfl) (w.heap.size + 1) (vls 178 (clw (fun _ => 0) 0)) (vls 178 (clw (fun _ => 0) 0)) (by rfl) (by rfl) k2.out (by rw [vls_size]; exact info_col) (by simp) (vls_one (clw_one _ _)) (by omega) (neC (by omega) ne0) ?_; intro xk3 k3; replace k3 := hid k3; clear k2 tok1)
  exact bodyPost_ret (results_row_tmp rfl _ _ (w.heap.size + 1) 35 (vls 178 (clw (fun _ => 0) 0)) (0, 0) _ rfl (k3.out.v in0) Try.underlying35 rfl (by rw [vls_size]; exact info_col)) rfl ⟨rfl, k3.out.1⟩

set_option maxRecDepth 100000 in
set_option maxHeartbeats 1000000 in
theorem sStirColumn_r2 (c : Nat → Nat) (t : Int) (hb : ∀ i, i < 177 → c i < 4294967296) (h : ColOk c t) (x : Nat) (hx : Share x) (hn : 1056964608 < x) (w : World) :
    Calls Try.prog 13 #[.agg (vls 178 (clw c t)), .float .f32 x] w fun e w' => e = .returned (.tuple #[.agg (vls 178 (clw (fun _ => 0) 0)), .int .i64 2]) ∧ Below w.heap.size w w' := by
  have k0 : Hid (Kept w [(w.heap.size + 1, vls 178 (clw (fun _ => 0) 0), 35), (w.heap.size, vls 178 (clw c t), 35)] (((w.alloc (.cells (vls 178 (clw c t)) 35)).alloc (.cells (vls 178 (clw (fun _ => 0) 0)) 35)))) := hid ((((Kept.nil w).push _ _).push _ _).sub (by simp))
  have tok1 : True := trivial
  have HB := hid hb
  have HQ := hid h
  have HS := hid (fun w1 => sStir_r2 x hx hn w.heap.size w1)
  clear hb h hx hn
  go_enter Try.func13, Try.ntmps13
  go_wp2_with fail
  refine (sColOk c t HB.out true (col_ok HQ.out) _ w.heap.size 35 (k0.out.v in1)).mono ?_
  rintro e w1 ⟨rfl, hb1⟩
  have k1 := hid (k0.out.stay hb1)
  clear k0 hb1
  go_wp2_with fail
  refine (HS.out _).mono ?_
  rintro e w2 ⟨rfl, hb2⟩
  have k2 := hid (k1.out.stay hb2)
  clear k1 hb2
  go_wp2_with (have _t := tok1; refine store_row (by rfl) 35 _ _ (by rfl) (w.heap.size + 1) (vls 178 (clw (fun _ => 0) 0)) (vls 178 (clw (fun _ => 0) 0)) (by rfl) (by rfl) k2.out (by rw [vls_size]; exact info_col) (by simp) (vls_one (clw_one _ _)) (by omega) (neC (by omega) ne0) ?_; intro xk3 k3; replace k3 := hid k3; clear k2 tok1)
  exact bodyPost_ret (results_row_tmp rfl _ _ (w.heap.size + 1) 35 (vls 178 (clw (fun _ => 0) 0)) (0, 0) _ rfl (k3.out.v in0) Try.underlying35 rfl (by rw [vls_size]; exact info_col)) rfl ⟨rfl, k3.out.1⟩

set_option maxRecDepth 100000 in
set_option maxHeartbeats 1000000 in
theorem sStirColumn_ok (c : Nat → Nat) (t : Int) (hb : ∀ i, i < 177 → c i < 4294967296) (h : ColOk c t) (x : Nat) (hx : x ≤ 1056964608) (K : Nat) (hK : K ≤ 7) (hM : ∀ j, j < K → MixOk (sxS c x j) x j) (hN : K < 7 → ¬ MixOk (sxS c x K) x K) (r : Nat → Nat) (s n : Int) (hr : if K = 7 then r = sxS c x 7 ∧ s = t ∧ n = 0 else r = (fun _ => 0) ∧ s = 0 ∧ n = 4) (w : World) :
    Calls Try.prog 13 #[.agg (vls 178 (clw c t)), .float .f32 x] w fun e w' => e = .returned (.tuple #[.agg (vls 178 (clw r s)), .int .i64 n]) ∧ Below w.heap.size w w' := by
  have k0 : Hid (Kept w [(w.heap.size + 1, vls 178 (clw (fun _ => 0) 0), 35), (w.heap.size, vls 178 (clw c t), 35)] (((w.alloc (.cells (vls 178 (clw c t)) 35)).alloc (.cells (vls 178 (clw (fun _ => 0) 0)) 35)))) := hid ((((Kept.nil w).push _ _).push _ _).sub (by simp))
  have tok1 : True := trivial
  have HB := hid hb
  have HQ := hid h
  have HS := hid (fun w1 => sStir_ok c t hb h x hx K hK hM hN r s n hr w1 w.heap.size)
  clear hb h hx hK hM hN hr
  go_enter Try.func13, Try.ntmps13
  go_wp2_with fail
  refine (sColOk c t HB.out true (col_ok HQ.out) _ w.heap.size 35 (k0.out.v in1)).mono ?_
  rintro e w1 ⟨rfl, hb1⟩
  have k1 := hid (k0.out.stay hb1)
  clear k0 hb1
  go_wp2_with fail
  refine (HS.out _ (k1.out.v in1)).mono ?_
  rintro e w2 ⟨rfl, hb2⟩
  have k2 := hid (k1.out.stay hb2)
  clear k1 hb2
  go_wp2_with (have _t := tok1; refine store_row (by rfl) 35 _ _ (by rfl) (w.heap.size + 1) (vls 178 (clw r s)) (vls 178 (clw (fun _ => 0) 0)) (by rfl) (by rfl) k2.out (by rw [vls_size]; exact info_col) (by simp) (vls_one (clw_one _ _)) (by omega) (neC (by omega) ne0) ?_; intro xk3 k3; replace k3 := hid k3; clear k2 tok1)
  exact bodyPost_ret (results_row_tmp rfl _ _ (w.heap.size + 1) 35 (vls 178 (clw r s)) (0, 0) _ rfl (k3.out.v in0) Try.underlying35 rfl (by rw [vls_size]; exact info_col)) rfl ⟨rfl, k3.out.1⟩

set_option maxHeartbeats 1000000 in
set_option maxRecDepth 100000 in
theorem coreStirColumn (x0 : Nat → Nat) (t0 : Int) (x1 : Nat) (r0 : Nat → Nat) (s0 : Int) (hl0 : ∀ i, i < 177 → r0 i < 4294967296) (hf0 : ∀ i, i < 177 → finB (r0 i) = true) (r1 : Int)
    (hS : ∀ w, Calls Try.prog 13 #[.agg (vls 178 (clw x0 t0)), .float .f32 x1] w fun e w' => e = .returned (.tuple #[.agg (vls 178 (clw r0 s0)), .int .i64 r1]) ∧ Below w.heap.size w w')
    (hI : ∀ w, Calls Try.prog 15 #[.agg (vls 178 (clw x0 t0)), .float .f32 x1] w fun e w' => e = .returned (.tuple #[.agg (vls 178 (clw r0 s0)), .int .i64 r1]) ∧ Below w.heap.size w w') (w : World) :
    Calls Try.prog 3 #[.agg (vls 178 (clw x0 t0)), .float .f32 x1] w fun e w' => e = .returned (.bool true) ∧ Below w.heap.size w w' := by
  have k0 : Hid (Kept w [(w.heap.size, vls 178 (clw x0 t0), 29)] (w.alloc (.cells (vls 178 (clw x0 t0)) 29))) := hid (((Kept.nil w).push _ _).sub (by simp))
  have HS := hid hS
  have HI := hid hI
  clear hS hI
  have Hl0 := hid hl0
  have Hf0 := hid hf0
  clear hl0 hf0
  go_enter Try.func3, Try.ntmps3
  go_wp2_with (first | (refine wpList_load_row rfl 29 _ rfl (w.heap.size) rfl 29 (vls 178 (clw x0 t0)) (0, 0) _ (k0.out.at (x := (w.heap.size, vls 178 (clw x0 t0), 29)) in0) Try.underlying29 rfl (by rw [vls_size]; exact info_lcol) ?_))
  refine (toColumn x0 t0 _).mono ?_
  rintro e u00 ⟨rfl, hu00⟩
  have k1 := hid (k0.out.stay hu00)
  clear k0 hu00
  go_wp2_with fail
  refine (HS.out _).mono ?_
  rintro e v0 ⟨rfl, hv0⟩
  have k2 := hid (k1.out.stay hv0)
  clear k1 hv0
  have bs0 : w.heap.size ≤ v0.heap.size := k2.out.size
  have fr0 := k2.out.fresh
  have k3 := hid (k2.out.push (vls 178 (clw (fun _ => 0) 0)) 35)
  clear k2
  have tok0 : True := trivial
  go_wp2_with (first | (have _t := tok0; refine store_row (by rfl) 35 _ _ (by rfl) (v0.heap.size) (vls 178 (clw r0 s0)) (vls 178 (clw (fun _ => 0) 0)) (by rfl) (by rfl) k3.out (by rw [vls_size]; exact info_col) (by simp) (vls_one (clw_one r0 s0)) (by omega) fr0 ?_; intro w0 k4; replace k4 := hid k4; clear k3 tok0) | (refine wpList_load_row rfl 29 _ rfl (w.heap.size) rfl 29 (vls 178 (clw x0 t0)) (0, 0) _ (k4.out.at (x := (w.heap.size, vls 178 (clw x0 t0), 29)) in1) Try.underlying29 rfl (by rw [vls_size]; exact info_lcol) ?_))
  refine (toColumn x0 t0 _).mono ?_
  rintro e u10 ⟨rfl, hu10⟩
  have k5 := hid (k4.out.stay hu10)
  clear k4 hu10
  go_wp2_with fail
  refine (HI.out _).mono ?_
  rintro e v1 ⟨rfl, hv1⟩
  have k6 := hid (k5.out.stay hv1)
  clear k5 hv1
  have bs1 : w.heap.size ≤ v1.heap.size := k6.out.size
  have fr1 := k6.out.fresh
  have k7 := hid (k6.out.push (vls 178 (clw (fun _ => 0) 0)) 35)
  clear k6
  have tok1 : True := trivial
  go_wp2_with (first | (have _t := tok1; refine store_row (by rfl) 35 _ _ (by rfl) (v1.heap.size) (vls 178 (clw r0 s0)) (vls 178 (clw (fun _ => 0) 0)) (by rfl) (by rfl) k7.out (by rw [vls_size]; exact info_col) (by simp) (vls_one (clw_one r0 s0)) (by omega) fr1 ?_; intro w1 k8; replace k8 := hid k8; clear k7 tok1) | (refine wpList_load_row rfl 35 _ rfl (v1.heap.size) rfl 35 (vls 178 (clw r0 s0)) (0, 0) _ (k8.out.at (x := (v1.heap.size, vls 178 (clw r0 s0), 35)) in0) Try.underlying35 rfl (by rw [vls_size]; exact info_col) ?_) | (refine wpList_load_row rfl 35 _ rfl (v0.heap.size) rfl 35 (vls 178 (clw r0 s0)) (0, 0) _ (k8.out.at (x := (v0.heap.size, vls 178 (clw r0 s0), 35)) in1) Try.underlying35 rfl (by rw [vls_size]; exact info_col) ?_))
  refine (eqColumn r0 s0 Hl0.out Hf0.out _).mono ?_
  rintro e z ⟨rfl, hz⟩
  have k9 := hid (k8.out.stay hz)
  clear k8 hz
  go_wp2
  go_ret
  exact ⟨rfl, k9.out.1⟩

theorem lawStirColumn (c : Nat → Nat) (t : Int) (hb : ∀ i, i < 177 → c i < 4294967296) (x : Nat) (hx : x < 4294967296) (w : World) :
    Calls Try.prog 3 #[.agg (vls 178 (clw c t)), .float .f32 x] w fun e w' => e = .returned (.bool true) ∧ Below w.heap.size w w' := by
  have z1 : ∀ i : Nat, i < 177 → (0 : Nat) < 4294967296 := fun _ _ => by decide
  have z2 : ∀ i : Nat, i < 177 → finB 0 = true := fun _ _ => by decide
  rcases Classical.em (ColOk c t) with h | h
  · rcases Classical.em (Share x) with hs | hs
    · rcases Nat.lt_or_ge 1056964608 x with h5 | h5
      · exact coreStirColumn c t x (fun _ => 0) 0 z1 z2 2 (sStirColumn_r2 c t hb h x hs h5) (iStirColumn_range2 c t hb h x hs h5) w
      · obtain ⟨K, hK, hM, hN⟩ := stir_far c x
        by_cases h7 : K = 7
        · have hC := stir_ok hs h hK hM
          have hL := lt_stir hs hb h hK hM
          have hr : if K = 7 then sxS c x K = sxS c x 7 ∧ t = t ∧ (0 : Int) = 0 else sxS c x K = (fun _ => 0) ∧ t = 0 ∧ (0 : Int) = 4 := by rw [if_pos h7, h7]; exact ⟨rfl, rfl, rfl⟩
          exact coreStirColumn c t x (sxS c x K) t hL (colok_fin hC hL) 0 (sStirColumn_ok c t hb h x h5 K hK hM hN _ _ _ hr) (iStirColumn_ok c t hb h x h5 K hK hM hN _ _ _ hr) w
        · have hr : if K = 7 then (fun _ : Nat => 0) = sxS c x 7 ∧ (0 : Int) = t ∧ (4 : Int) = 0 else (fun _ : Nat => 0) = (fun _ => 0) ∧ (0 : Int) = 0 ∧ (4 : Int) = 4 := by rw [if_neg h7]; exact ⟨rfl, rfl, rfl⟩
          exact coreStirColumn c t x (fun _ => 0) 0 z1 z2 4 (sStirColumn_ok c t hb h x h5 K hK hM hN _ _ _ hr) (iStirColumn_ok c t hb h x h5 K hK hM hN _ _ _ hr) w
    · exact coreStirColumn c t x (fun _ => 0) 0 z1 z2 2 (sStirColumn_r1 c t hb h x hx hs) (iStirColumn_range1 c t hb h x hx hs) w
  · exact coreStirColumn c t x (fun _ => 0) 0 z1 z2 1 (sStirColumn_bad c t hb h x) (iStirColumn_bad c t hb h x) w
end Go.Proofs.Ythpimindkmmkjaa

namespace Go.Proofs.Ythpimindkmmkjaa.fnExactStirColumn
open Go.RowKit Go.Fl Go.ChangeShapes Go.WideShapes Go.ChangeAt

set_option maxHeartbeats 2000000 in
theorem closed : joinedFacts Try.prog 3 Try.f3 Rows.fnExactStirColumnSpec Rows.fnExactStirColumnRow = true := by
  unfold joinedFacts
  simp only [Bool.and_eq_true]
  exact ⟨⟨⟨⟨⟨⟨⟨⟨⟨⟨⟨⟨⟨⟨⟨⟨⟨⟨⟨⟨⟨⟨⟨⟨⟨⟨⟨⟨⟨⟨⟨(by as_aux_lemma => kernel_rfl),
    laid⟩,
    rowed⟩,
    (by as_aux_lemma => kernel_rfl)⟩,
    (by as_aux_lemma => kernel_rfl)⟩,
    (by as_aux_lemma => kernel_rfl)⟩,
    (by rw [no_stops]; rfl)⟩,
    (by as_aux_lemma => kernel_rfl)⟩,
    (by rw [no_knobs]; rfl)⟩,
    (by as_aux_lemma => kernel_rfl)⟩,
    (by as_aux_lemma => kernel_rfl)⟩,
    (by as_aux_lemma => kernel_rfl)⟩,
    (by as_aux_lemma => kernel_rfl)⟩,
    (by as_aux_lemma => kernel_rfl)⟩,
    (by as_aux_lemma => kernel_rfl)⟩,
    (by as_aux_lemma => kernel_rfl)⟩,
    (by as_aux_lemma => kernel_rfl)⟩,
    (by as_aux_lemma => kernel_rfl)⟩,
    (by as_aux_lemma => kernel_rfl)⟩,
    (by as_aux_lemma => kernel_rfl)⟩,
    (by as_aux_lemma => kernel_rfl)⟩,
    (by as_aux_lemma => kernel_rfl)⟩,
    (show (Rows.fnExactStirColumnRow.plainKeys == Try.prog.plainKeys) = true by rw [plain_keys]; rfl)⟩,
    (by as_aux_lemma => kernel_rfl)⟩,
    stops_heard⟩,
    may_enter⟩,
    (show (Rows.fnExactStirColumnRow.lifted == Try.prog.liftsFinal) = true by rw [lifts_final]; rfl)⟩,
    (show (Try.prog.make == some Rows.fnExactStirColumnRow.make) = true by rw [made]; rfl)⟩,
    (by as_aux_lemma => kernel_rfl)⟩,
    (by as_aux_lemma => kernel_rfl)⟩,
    (by as_aux_lemma => kernel_rfl)⟩,
    (by as_aux_lemma => kernel_rfl)⟩

set_option maxRecDepth 100000 in
theorem lifted (os : Os) (started : os.Started) (H : Type) (enc : TypeId × Value → H) :
    ReturnsInHanded {} Try.checked os 3 .any (Rows.fnExactStirColumnSpec.pre6 enc Try.prog Try.f3 Rows.fnExactStirColumnRow.domain false) (Rows.fnExactStirColumnSpec.post enc Try.prog Try.f3 false true false false) := by
  refine LawFrame.lifted (C := Try.checked) (fn := Try.f3) (n := 2) (tb := 4) started own (by kernel_rfl) Try.func3 laid ?_ rfl rfl ?_ rfl Try.underlying4
    (ChangeSpec.witness6 (enc := enc) (C := Try.checked) false ⟨#[], #[.agg ((Array.replicate 177 (.float .f32 0)).push (.int .i64 0)), .float .f32 0], []⟩ 8 (by kernel_rfl) (by kernel_rfl) (by kernel_rfl) (by kernel_rfl)) ?_
  · intro t ht
    simp only [Try.params3, List.mem_cons, List.not_mem_nil, or_false] at ht
    rcases ht with rfl | rfl <;> first | exact rdc | exact rdf
  · intro ds hd
    match ds, hd with
    | [_, _], _ => rfl
  · intro W base args ds ps hval hn _
    obtain ⟨v0, v1, rfl⟩ : ∃ v0 v1, args = #[v0, v1] := arr2 hn
    obtain ⟨c0, n0, rfl, hb0, hi0⟩ := open_col Try.underlying29 rfl Try.underlying22 Try.underlying2 cells178 types178 (hval 0 29 v0 rfl rfl)
    obtain ⟨c1, rfl, hb1⟩ := open_f32 Try.underlying22 (hval 1 22 v1 rfl rfl)
    exact lawStirColumn c0 n0 hb0 c1 hb1 W

theorem over : Rows.fnExactStirColumnRow.holds Try.pinned (OpenSpec.ofChange Rows.fnExactStirColumnSpec) :=
  OpenClaim.holds_of_wide 3 Try.f3 rfl rfl rfl rfl rfl rfl rfl ⟨rfl, rfl, rfl, rfl, rfl⟩ rfl rfl rfl rfl rfl (by kernel_rfl) Try.func3 closed
    (of_decide_eq_true (by kernel_rfl)) (by unfold Func.isWrapper; rw [if_neg (by decide +kernel)]; exact ⟨rfl, rfl⟩)
    (fun os started H enc _ => lifted os started H enc)

theorem proved : Rows.FnExactStirColumnSaid := over
#print axioms proved
end Go.Proofs.Ythpimindkmmkjaa.fnExactStirColumn
