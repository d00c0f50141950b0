import Derived.Test.YthpimindkmmkjaaVStirColumn
import Derived.Test.YthpimindkmmkjaaCStirColumn
import Derived.Test.YthpimindkmmkjaaChecked
import Derived.Test.YthpimindkmmkjaaRows
import Derived.Laws.FloatArith
import Derived.ProofKit
import Derived.WalkKit
import Derived.WalkLawsBesides
import Derived.WalkSpells
import Derived.Deep.QuietTactic
import Derived.BigQuiet
import Derived.Deep.RegionHeld3
import Derived.ChangeKeysEq
import Derived.Laws.BitsAllLaws
import Derived.Deep.MidRow
import Derived.Deep.WholeRow
import Derived.StillTailTactics
import Derived.Deep.Slices
import Derived.ChangeSame
import Derived.OrdersIn
import Derived.ControlIn
import Derived.RangeFuncSeq
import Derived.RangeFuncNested
import Derived.ArgAppend
import Derived.OwnWalkIn
import Derived.TacticsInMore
import Derived.Below
import Derived.Laws.AppendOwn
import Derived.StillTail
import Derived.OpenShut
/- The law FnExactStirColumn of chapter 1: at every argument the call returns true, and what was there before it is as it was. -/
namespace Go.Proofs.Ythpimindkmmkjaa
open Go.RowKit Go.Fl

set_option maxRecDepth 100000 in
set_option maxHeartbeats 2000000 in
theorem sMixAt (ah av bh bv x : Nat) (M1 : MixF ah bh x) (M2 : MixF av bv x) (w : World) (g o k p : Nat)
    (hC : ∀ w', Below w.heap.size w w' → w'.cell? ⟨g, o, none⟩ = some (.float .f32 ah) ∧ w'.cell? ⟨g, o + 1, none⟩ = some (.float .f32 av) ∧ w'.cell? ⟨k, p, none⟩ = some (.float .f32 bh) ∧ w'.cell? ⟨k, p + 1, none⟩ = some (.float .f32 bv)) :
    Calls Try.prog 112 #[.pointer (some ⟨g, o, none⟩), .pointer (some ⟨k, p, none⟩), .float .f32 x] w fun e w' => e = .returned (.agg #[.float .f32 (mixW ah bh x), .float .f32 (mixW av bv x)]) ∧ Below w.heap.size w w' := by
  have k0 := hid ((Kept.nil w).push #[.float .f32 0, .float .f32 0] 32)
  have HN0 := hid (Kept.nil w).fresh
  have HB0 := hid (Nat.le_refl w.heap.size)
  have HC := hid hC
  have hr := hid (fun w => run_float_arith (P := Try.prog) w .sub 22 .f32 _ _ _ M1.r)
  have h1ah := hid (fun w => run_float_arith (P := Try.prog) w .mul 22 .f32 _ _ _ M1.m1)
  have h2bh := hid (fun w => run_float_arith (P := Try.prog) w .mul 22 .f32 _ _ _ M1.m2)
  have h3h := hid (fun w => run_float_arith (P := Try.prog) w .add 22 .f32 _ _ _ M1.s)
  have h1av := hid (fun w => run_float_arith (P := Try.prog) w .mul 22 .f32 _ _ _ M2.m1)
  have h2bv := hid (fun w => run_float_arith (P := Try.prog) w .mul 22 .f32 _ _ _ M2.m2)
  have h3v := hid (fun w => run_float_arith (P := Try.prog) w .add 22 .f32 _ _ _ M2.s)
  clear M1 M2 hC
  go_enter Try.func112, Try.ntmps112
  go_wp2_with fail
  refine region_kept (w0 := w) (l := []) 30 #[false, false, false, false, false, false, false, false, false, false, false, false, false, false, false, false, false, false, false, false, false, false, false, false, false, false, false, false, false, false] (by kernel_rfl) rfl rfl ?_
  have kd := k0.out.drew
  generalize World.drew _ = wd at kd ⊢
  clear k0
  refine take_val 0 _ _ (.pointer (some ⟨g, o, none⟩)) rfl (by rfl) (by kernel_rfl) (by kernel_rfl) (by kernel_rfl) (fun w => by rfl) rfl rfl kd.tail ?_
  simp only [Act.put, List.setIfInBounds_toArray, List.set_cons_zero, List.set_cons_succ]
  refine take_val 1 _ _ (.pointer (some ⟨g, o, none⟩)) rfl (by rfl) (by kernel_rfl) (by kernel_rfl) (by kernel_rfl) (fun w => by unfold execOp; go_simp) rfl rfl kd.tail ?_
  simp only [Act.put, List.setIfInBounds_toArray, List.set_cons_zero, List.set_cons_succ]
  refine take_val 2 _ _ (.pointer (some ⟨g, o, none⟩)) rfl (by rfl) (by kernel_rfl) (by kernel_rfl) (by kernel_rfl) (fun w => by unfold execOp; go_simp) rfl rfl kd.tail ?_
  simp only [Act.put, List.setIfInBounds_toArray, List.set_cons_zero, List.set_cons_succ]
  refine take_cell 3 _ _ (.float .f32 ah) rfl (by rfl) (by kernel_rfl) (by kernel_rfl) (by kernel_rfl) (fun wq hS => by have hcell : wq.cell? ⟨g, o, none⟩ = some (.float .f32 ah) := (HC.out wq hS.1).1; clear hS; unfold execOp; go_simp) rfl rfl kd.tail ?_
  simp only [Act.put, List.setIfInBounds_toArray, List.set_cons_zero, List.set_cons_succ]
  refine take_val 4 _ _ (.float .f32 x) rfl (by rfl) (by kernel_rfl) (by kernel_rfl) (by kernel_rfl) (fun w => by rfl) rfl rfl kd.tail ?_
  simp only [Act.put, List.setIfInBounds_toArray, List.set_cons_zero, List.set_cons_succ]
  refine take_val 5 _ _ (.float .f32 (restF x)) rfl (by rfl) (by kernel_rfl) (by kernel_rfl) (by kernel_rfl) (fun w => run_binop_val _ _ _ _ (by rfl) (by rfl) (by simp [eqGuard]) (hr.out w)) rfl rfl kd.tail ?_
  simp only [Act.put, List.setIfInBounds_toArray, List.set_cons_zero, List.set_cons_succ]
  refine take_val 6 _ _ (.float .f32 (fmul ah (restF x))) rfl (by rfl) (by kernel_rfl) (by kernel_rfl) (by kernel_rfl) (fun w => run_binop_val _ _ _ _ (by rfl) (by rfl) (by simp [eqGuard]) (h1ah.out w)) rfl rfl kd.tail ?_
  simp only [Act.put, List.setIfInBounds_toArray, List.set_cons_zero, List.set_cons_succ]
  refine take_val 7 _ _ (.pointer (some ⟨k, p, none⟩)) rfl (by rfl) (by kernel_rfl) (by kernel_rfl) (by kernel_rfl) (fun w => by rfl) rfl rfl kd.tail ?_
  simp only [Act.put, List.setIfInBounds_toArray, List.set_cons_zero, List.set_cons_succ]
  refine take_val 8 _ _ (.pointer (some ⟨k, p, none⟩)) rfl (by rfl) (by kernel_rfl) (by kernel_rfl) (by kernel_rfl) (fun w => by unfold execOp; go_simp) rfl rfl kd.tail ?_
  simp only [Act.put, List.setIfInBounds_toArray, List.set_cons_zero, List.set_cons_succ]
  refine take_val 9 _ _ (.pointer (some ⟨k, p, none⟩)) rfl (by rfl) (by kernel_rfl) (by kernel_rfl) (by kernel_rfl) (fun w => by unfold execOp; go_simp) rfl rfl kd.tail ?_
  simp only [Act.put, List.setIfInBounds_toArray, List.set_cons_zero, List.set_cons_succ]
  refine take_cell 10 _ _ (.float .f32 bh) rfl (by rfl) (by kernel_rfl) (by kernel_rfl) (by kernel_rfl) (fun wq hS => by have hcell : wq.cell? ⟨k, p, none⟩ = some (.float .f32 bh) := (HC.out wq hS.1).2.2.1; clear hS; unfold execOp; go_simp) rfl rfl kd.tail ?_
  simp only [Act.put, List.setIfInBounds_toArray, List.set_cons_zero, List.set_cons_succ]
  refine take_val 11 _ _ (.float .f32 x) rfl (by rfl) (by kernel_rfl) (by kernel_rfl) (by kernel_rfl) (fun w => by rfl) rfl rfl kd.tail ?_
  simp only [Act.put, List.setIfInBounds_toArray, List.set_cons_zero, List.set_cons_succ]
  refine take_val 12 _ _ (.float .f32 (fmul bh x)) rfl (by rfl) (by kernel_rfl) (by kernel_rfl) (by kernel_rfl) (fun w => run_binop_val _ _ _ _ (by rfl) (by rfl) (by simp [eqGuard]) (h2bh.out w)) rfl rfl kd.tail ?_
  simp only [Act.put, List.setIfInBounds_toArray, List.set_cons_zero, List.set_cons_succ]
  refine take_val 13 _ _ (.float .f32 (mixW ah bh x)) rfl (by rfl) (by kernel_rfl) (by kernel_rfl) (by kernel_rfl) (fun w => run_binop_val _ _ _ _ (by rfl) (by rfl) (by simp [eqGuard]) (h3h.out w)) rfl rfl kd.tail ?_
  simp only [Act.put, List.setIfInBounds_toArray, List.set_cons_zero, List.set_cons_succ]
  refine take_val 14 _ _ (.pointer (some ⟨g, o, none⟩)) rfl (by rfl) (by kernel_rfl) (by kernel_rfl) (by kernel_rfl) (fun w => by rfl) rfl rfl kd.tail ?_
  simp only [Act.put, List.setIfInBounds_toArray, List.set_cons_zero, List.set_cons_succ]
  refine take_val 15 _ _ (.pointer (some ⟨g, o, none⟩)) rfl (by rfl) (by kernel_rfl) (by kernel_rfl) (by kernel_rfl) (fun w => by unfold execOp; go_simp) rfl rfl kd.tail ?_
  simp only [Act.put, List.setIfInBounds_toArray, List.set_cons_zero, List.set_cons_succ]
  refine take_val 16 _ _ (.pointer (some ⟨g, o + 1, none⟩)) rfl (by rfl) (by kernel_rfl) (by kernel_rfl) (by kernel_rfl) (fun w => by unfold execOp; go_simp) rfl rfl kd.tail ?_
  simp only [Act.put, List.setIfInBounds_toArray, List.set_cons_zero, List.set_cons_succ]
  refine take_cell 17 _ _ (.float .f32 av) rfl (by rfl) (by kernel_rfl) (by kernel_rfl) (by kernel_rfl) (fun wq hS => by have hcell : wq.cell? ⟨g, o + 1, none⟩ = some (.float .f32 av) := (HC.out wq hS.1).2.1; clear hS; unfold execOp; go_simp) rfl rfl kd.tail ?_
  simp only [Act.put, List.setIfInBounds_toArray, List.set_cons_zero, List.set_cons_succ]
  refine take_val 18 _ _ (.float .f32 x) rfl (by rfl) (by kernel_rfl) (by kernel_rfl) (by kernel_rfl) (fun w => by rfl) rfl rfl kd.tail ?_
  simp only [Act.put, List.setIfInBounds_toArray, List.set_cons_zero, List.set_cons_succ]
  refine take_val 19 _ _ (.float .f32 (restF x)) rfl (by rfl) (by kernel_rfl) (by kernel_rfl) (by kernel_rfl) (fun w => run_binop_val _ _ _ _ (by rfl) (by rfl) (by simp [eqGuard]) (hr.out w)) rfl rfl kd.tail ?_
  simp only [Act.put, List.setIfInBounds_toArray, List.set_cons_zero, List.set_cons_succ]
  refine take_val 20 _ _ (.float .f32 (fmul av (restF x))) rfl (by rfl) (by kernel_rfl) (by kernel_rfl) (by kernel_rfl) (fun w => run_binop_val _ _ _ _ (by rfl) (by rfl) (by simp [eqGuard]) (h1av.out w)) rfl rfl kd.tail ?_
  simp only [Act.put, List.setIfInBounds_toArray, List.set_cons_zero, List.set_cons_succ]
  refine take_val 21 _ _ (.pointer (some ⟨k, p, none⟩)) rfl (by rfl) (by kernel_rfl) (by kernel_rfl) (by kernel_rfl) (fun w => by rfl) rfl rfl kd.tail ?_
  simp only [Act.put, List.setIfInBounds_toArray, List.set_cons_zero, List.set_cons_succ]
  refine take_val 22 _ _ (.pointer (some ⟨k, p, none⟩)) rfl (by rfl) (by kernel_rfl) (by kernel_rfl) (by kernel_rfl) (fun w => by unfold execOp; go_simp) rfl rfl kd.tail ?_
  simp only [Act.put, List.setIfInBounds_toArray, List.set_cons_zero, List.set_cons_succ]
  refine take_val 23 _ _ (.pointer (some ⟨k, p + 1, none⟩)) rfl (by rfl) (by kernel_rfl) (by kernel_rfl) (by kernel_rfl) (fun w => by unfold execOp; go_simp) rfl rfl kd.tail ?_
  simp only [Act.put, List.setIfInBounds_toArray, List.set_cons_zero, List.set_cons_succ]
  refine take_cell 24 _ _ (.float .f32 bv) rfl (by rfl) (by kernel_rfl) (by kernel_rfl) (by kernel_rfl) (fun wq hS => by have hcell : wq.cell? ⟨k, p + 1, none⟩ = some (.float .f32 bv) := (HC.out wq hS.1).2.2.2; clear hS; unfold execOp; go_simp) rfl rfl kd.tail ?_
  simp only [Act.put, List.setIfInBounds_toArray, List.set_cons_zero, List.set_cons_succ]
  refine take_val 25 _ _ (.float .f32 x) rfl (by rfl) (by kernel_rfl) (by kernel_rfl) (by kernel_rfl) (fun w => by rfl) rfl rfl kd.tail ?_
  simp only [Act.put, List.setIfInBounds_toArray, List.set_cons_zero, List.set_cons_succ]
  refine take_val 26 _ _ (.float .f32 (fmul bv x)) rfl (by rfl) (by kernel_rfl) (by kernel_rfl) (by kernel_rfl) (fun w => run_binop_val _ _ _ _ (by rfl) (by rfl) (by simp [eqGuard]) (h2bv.out w)) rfl rfl kd.tail ?_
  simp only [Act.put, List.setIfInBounds_toArray, List.set_cons_zero, List.set_cons_succ]
  refine take_val 27 _ _ (.float .f32 (mixW av bv x)) rfl (by rfl) (by kernel_rfl) (by kernel_rfl) (by kernel_rfl) (fun w => run_binop_val _ _ _ _ (by rfl) (by rfl) (by simp [eqGuard]) (h3v.out w)) rfl rfl kd.tail ?_
  simp only [Act.put, List.setIfInBounds_toArray, List.set_cons_zero, List.set_cons_succ]
  refine take_val 28 _ _ (.agg #[.float .f32 (mixW ah bh x), .float .f32 (mixW av bv x)]) rfl (by rfl) (by kernel_rfl) (by kernel_rfl) (by kernel_rfl) (fun w => by unfold execOp; go_simp) rfl rfl kd.tail ?_
  simp only [Act.put, List.setIfInBounds_toArray, List.set_cons_zero, List.set_cons_succ]
  refine wpAnyH_ready (rs := [29]) (by kernel_rfl) (by simp) ?_
  refine storeK 29 _ _ kd HB0.out HN0.out rfl (by rfl) 32 _ _ rfl (#[.float .f32 (mixW ah bh x), .float .f32 (mixW av bv x)]) rfl rfl (info_air) (by simp) (by simp [Value.oneCell']) rfl rfl (fun w1 k1 => ?_) AllReadyH.nil
  refine ⟨k1.tail, ?_⟩
  refine wpAnyH_done (by kernel_rfl) (NoPanic.normal ?_) _
  go_wp2
  exact bodyPost_ret (results_cell_row rfl _ _ (w.heap.size) 32 (#[.float .f32 (mixW ah bh x), .float .f32 (mixW av bv x)]) (0, 0) _ rfl (k1.at (x := (w.heap.size, _, _)) (by simp)) Try.underlying32 rfl info_air) rfl ⟨rfl, k1.1⟩

set_option maxRecDepth 100000 in
set_option maxHeartbeats 1000000 in
theorem iStirCl (c : Nat → Nat) (t : Int) (hb : ∀ i, i < 177 → c i < 4294967296) (h : ColOk c t) (x : Nat) (hx : Share x) (K : Nat) (hK : K ≤ 7) (hM : ∀ j, j < K → MixOk (sxS c x j) x j) (hN : K < 7 → ¬ MixOk (sxS c x K) x K) (w : World)
    (g p : Nat) (hg : w.heap[g]? = some (.cells (vls 178 (clw c t)) 35 (0, 0))) (hp : w.cell? ⟨p, 0, none⟩ = some (.float .f32 x)) :
    Calls Try.prog 60 #[.pointer (some ⟨g, 0, none⟩), .pointer (some ⟨p, 0, none⟩)] w fun e w' => (if K = 7 then e = .returned (.agg (vls 178 (clw (sxS c x 7) t))) else e = .panicked [{ v := .iface 241 (.int .i64 4), recovered := false }]) ∧ Below w.heap.size w w' := by
  have k0 : Hid (Kept w [(w.heap.size, vls 178 (clw (fun _ => 0) 0), 35), (g, vls 178 (clw c t), 35)] (w.alloc (.cells (vls 178 (clw (fun _ => 0) 0)) 35))) := hid (((Kept.nil w).add hg).push _ _)
  have cp := (((Below.refl w.heap.size w).alloc (Nat.le_refl _) (.cells (vls 178 (clw (fun _ => 0) 0)) 35)).cell (block_lt_of_cell hp)).trans hp
  have HS := hid (fun w => iStirred c t hb h x hx K hK hM hN w)
  have HG := hid (lt_of_block hg)
  clear hb h hx hM hN hg hp
  go_enter Try.func60, Try.ntmps60
  go_wp2_with (refine wpList_load_row rfl 35 _ rfl g rfl 35 (vls 178 (clw c t)) (0, 0) _ (k0.out.v in1) Try.underlying35 rfl (by rw [vls_size]; exact info_col) ?_)
  refine (HS.out _).mono ?_
  rintro e w1 ⟨he, hb1⟩
  have k1 := hid (k0.out.stay hb1)
  clear cp
  by_cases h7 : K = 7
  · subst h7
    rw [if_pos rfl] at he
    subst he
    go_wp2_with (refine store_row rfl 35 _ _ rfl (w.heap.size) (vls 178 (clw (sxS c x 7) t)) (vls 178 (clw (fun _ => 0) 0)) rfl rfl k1.out (by rw [vls_size]; exact info_col) (by rw [vls_size, vls_size]) (vls_one (clw_one _ t)) (Nat.le_refl _) (neC (Nat.ne_of_lt HG.out) ne0) (fun w8 k8 => ?_); replace k8 := hid k8)
    exact bodyPost_ret (results_cell_row rfl _ _ w.heap.size 35 (vls 178 (clw (sxS c x 7) t)) (0, 0) _ rfl (k8.out.v in0) Try.underlying35 rfl (by rw [vls_size]; exact info_col)) rfl ⟨by first | rfl | rw [if_pos rfl], k8.out.1⟩
  · rw [if_neg h7] at he
    subst he
    exact ⟨rfl, by rw [if_neg h7], k1.out.1⟩

set_option maxRecDepth 100000 in
set_option maxHeartbeats 1000000 in
theorem iStirColumn_bad (c : Nat → Nat) (t : Int) (hb : ∀ i, i < 177 → c i < 4294967296) (h : ¬ ColOk c t) (x : Nat) (w : World) :
    Calls Try.prog 15 #[.agg (vls 178 (clw c t)), .float .f32 x] w fun e w' => e = .returned (.tuple #[.agg (vls 178 (clw (fun _ => 0) 0)), .int .i64 1]) ∧ Below w.heap.size w w' := by
  have k0 : Hid (Kept w [(w.heap.size + 1 + 1, vls 178 (clw (fun _ => 0) 0), 35), (w.heap.size + 1, #[.float .f32 x], 22), (w.heap.size, vls 178 (clw c t), 35)] (((w.alloc (.cells (vls 178 (clw c t)) 35)).alloc (.cells #[.float .f32 x] 22)).alloc (.cells (vls 178 (clw (fun _ => 0) 0)) 35))) := hid (((((Kept.nil w).push _ _).push _ _).push _ _).sub (by simp))
  have tok1 : True := trivial
  have HV := hid (fun w => iValidColumn c t hb false (by simp [h]) w)
  clear hb h
  go_enter Try.func15, Try.ntmps15
  go_wp2_with (refine wpList_load_row rfl 35 _ rfl w.heap.size rfl 35 (vls 178 (clw c t)) (0, 0) _ (k0.out.v in2) Try.underlying35 rfl (by rw [vls_size]; exact info_col) ?_)
  refine (HV.out _).mono ?_
  rintro e w1 ⟨rfl, hb1⟩
  have k1 := hid (k0.out.stay hb1)
  clear k0 hb1
  go_wp2_with (have _t := tok1; refine store_row (by rfl) 35 _ _ (by rfl) (w.heap.size + 1 + 1) (vls 178 (clw (fun _ => 0) 0)) (vls 178 (clw (fun _ => 0) 0)) (by rfl) (by rfl) k1.out (by rw [vls_size]; exact info_col) (by simp) (vls_one (clw_one _ _)) (by omega) (neC (by omega) (neC (by omega) ne0)) ?_; intro xk2 k2; replace k2 := hid k2; clear k1 tok1)
  exact bodyPost_ret (results_row_tmp rfl _ _ (w.heap.size + 1 + 1) 35 (vls 178 (clw (fun _ => 0) 0)) (0, 0) _ rfl (k2.out.v in0) Try.underlying35 rfl (by rw [vls_size]; exact info_col)) rfl ⟨rfl, k2.out.1⟩

set_option maxRecDepth 100000 in
set_option maxHeartbeats 1000000 in
theorem iStirColumn_range1 (c : Nat → Nat) (t : Int) (hb : ∀ i, i < 177 → c i < 4294967296) (h : ColOk c t) (x : Nat) (hx : x < 4294967296) (hn : ¬ Share x) (w : World) :
    Calls Try.prog 15 #[.agg (vls 178 (clw c t)), .float .f32 x] w fun e w' => e = .returned (.tuple #[.agg (vls 178 (clw (fun _ => 0) 0)), .int .i64 2]) ∧ Below w.heap.size w w' := by
  have k0 : Hid (Kept w [(w.heap.size + 1 + 1, vls 178 (clw (fun _ => 0) 0), 35), (w.heap.size + 1, #[.float .f32 x], 22), (w.heap.size, vls 178 (clw c t), 35)] (((w.alloc (.cells (vls 178 (clw c t)) 35)).alloc (.cells #[.float .f32 x] 22)).alloc (.cells (vls 178 (clw (fun _ => 0) 0)) 35))) := hid (((((Kept.nil w).push _ _).push _ _).push _ _).sub (by simp))
  have tok1 : True := trivial
  have HV := hid (fun w => iValidColumn c t hb true (by simp [h]) w)
  have HS := hid (fun w => iShare_f x hx hn w)
  clear hb h hx hn
  go_enter Try.func15, Try.ntmps15
  go_wp2_with (refine wpList_load_row rfl 35 _ rfl w.heap.size rfl 35 (vls 178 (clw c t)) (0, 0) _ (k0.out.v in2) Try.underlying35 rfl (by rw [vls_size]; exact info_col) ?_)
  refine (HV.out _).mono ?_
  rintro e w1 ⟨rfl, hb1⟩
  have k1 := hid (k0.out.stay hb1)
  have c1 : w1.cell? ⟨w.heap.size + 1, 0, none⟩ = some (.float .f32 x) := (cell_of_row w1 _ 0 _ _ _ (k1.out.at (x := (w.heap.size + 1, #[.float .f32 x], 22)) in1)).trans rfl
  clear k0 hb1
  go_wp2_with fail
  refine (HS.out _).mono ?_
  rintro e w2 ⟨rfl, hb2⟩
  have k2 := hid (k1.out.stay hb2)
  clear c1 k1 hb2
  go_wp2_with (have _t := tok1; refine store_row (by rfl) 35 _ _ (by rfl) (w.heap.size + 1 + 1) (vls 178 (clw (fun _ => 0) 0)) (vls 178 (clw (fun _ => 0) 0)) (by rfl) (by rfl) k2.out (by rw [vls_size]; exact info_col) (by simp) (vls_one (clw_one _ _)) (by omega) (neC (by omega) (neC (by omega) ne0)) ?_; intro xk3 k3; replace k3 := hid k3; clear k2 tok1)
  exact bodyPost_ret (results_row_tmp rfl _ _ (w.heap.size + 1 + 1) 35 (vls 178 (clw (fun _ => 0) 0)) (0, 0) _ rfl (k3.out.v in0) Try.underlying35 rfl (by rw [vls_size]; exact info_col)) rfl ⟨rfl, k3.out.1⟩

set_option maxRecDepth 100000 in
set_option maxHeartbeats 1000000 in
theorem iStirColumn_range2 (c : Nat → Nat) (t : Int) (hb : ∀ i, i < 177 → c i < 4294967296) (h : ColOk c t) (x : Nat) (hx : Share x) (hn : 1056964608 < x) (w : World) :
    Calls Try.prog 15 #[.agg (vls 178 (clw c t)), .float .f32 x] w fun e w' => e = .returned (.tuple #[.agg (vls 178 (clw (fun _ => 0) 0)), .int .i64 2]) ∧ Below w.heap.size w w' := by
  have k0 : Hid (Kept w [(w.heap.size + 1 + 1, vls 178 (clw (fun _ => 0) 0), 35), (w.heap.size + 1, #[.float .f32 x], 22), (w.heap.size, vls 178 (clw c t), 35)] (((w.alloc (.cells (vls 178 (clw c t)) 35)).alloc (.cells #[.float .f32 x] 22)).alloc (.cells (vls 178 (clw (fun _ => 0) 0)) 35))) := hid (((((Kept.nil w).push _ _).push _ _).push _ _).sub (by simp))
  have tok1 : True := trivial
  have HV := hid (fun w => iValidColumn c t hb true (by simp [h]) w)
  have HS := hid (fun w => iShare_t x hx w)
  have ho : (FloatKind.f32.format.order x 1056964608 == some .gt) = true := by
    have hi := INF_val
    show (S.order x 1056964608 == some .gt) = true
    rw [order_lt (by unfold Share at hx; omega) (by decide), Nat.compare_eq_gt.2 hn]; rfl
  clear hb h hx hn
  go_enter Try.func15, Try.ntmps15
  go_wp2_with (refine wpList_load_row rfl 35 _ rfl w.heap.size rfl 35 (vls 178 (clw c t)) (0, 0) _ (k0.out.v in2) Try.underlying35 rfl (by rw [vls_size]; exact info_col) ?_)
  refine (HV.out _).mono ?_
  rintro e w1 ⟨rfl, hb1⟩
  have k1 := hid (k0.out.stay hb1)
  have c1 : w1.cell? ⟨w.heap.size + 1, 0, none⟩ = some (.float .f32 x) := (cell_of_row w1 _ 0 _ _ _ (k1.out.at (x := (w.heap.size + 1, #[.float .f32 x], 22)) in1)).trans rfl
  clear k0 hb1
  go_wp2_with fail
  refine (HS.out _).mono ?_
  rintro e w2 ⟨rfl, rfl⟩
  have k2 := k1
  clear k1
  go_wp2_with (have _t := tok1; refine store_row (by rfl) 35 _ _ (by rfl) (w.heap.size + 1 + 1) (vls 178 (clw (fun _ => 0) 0)) (vls 178 (clw (fun _ => 0) 0)) (by rfl) (by rfl) k2.out (by rw [vls_size]; exact info_col) (by simp) (vls_one (clw_one _ _)) (by omega) (neC (by omega) (neC (by omega) ne0)) ?_; intro xk3 k3; replace k3 := hid k3; clear k2 tok1)
  exact bodyPost_ret (results_row_tmp rfl _ _ (w.heap.size + 1 + 1) 35 (vls 178 (clw (fun _ => 0) 0)) (0, 0) _ rfl (k3.out.v in0) Try.underlying35 rfl (by rw [vls_size]; exact info_col)) rfl ⟨rfl, k3.out.1⟩

set_option maxRecDepth 100000 in
set_option maxHeartbeats 1000000 in
theorem iStirColumn_ok (c : Nat → Nat) (t : Int) (hb : ∀ i, i < 177 → c i < 4294967296) (h : ColOk c t) (x : Nat) (hx : x ≤ 1056964608) (K : Nat) (hK : K ≤ 7) (hM : ∀ j, j < K → MixOk (sxS c x j) x j) (hN : K < 7 → ¬ MixOk (sxS c x K) x K) (r : Nat → Nat) (s n : Int) (hr : if K = 7 then r = sxS c x 7 ∧ s = t ∧ n = 0 else r = (fun _ => 0) ∧ s = 0 ∧ n = 4) (w : World) :
    Calls Try.prog 15 #[.agg (vls 178 (clw c t)), .float .f32 x] w fun e w' => e = .returned (.tuple #[.agg (vls 178 (clw r s)), .int .i64 n]) ∧ Below w.heap.size w w' := by
  have k0 : Hid (Kept w [(w.heap.size + 1 + 1, vls 178 (clw (fun _ => 0) 0), 35), (w.heap.size + 1, #[.float .f32 x], 22), (w.heap.size, vls 178 (clw c t), 35)] (((w.alloc (.cells (vls 178 (clw c t)) 35)).alloc (.cells #[.float .f32 x] 22)).alloc (.cells (vls 178 (clw (fun _ => 0) 0)) 35))) := hid (((((Kept.nil w).push _ _).push _ _).push _ _).sub (by simp))
  have tok1 : True := trivial
  have HV := hid (fun w => iValidColumn c t hb true (by simp [h]) w)
  have hs : Share x := by unfold Share; omega
  have HS := hid (fun w => iShare_t x hs w)
  have ho : (FloatKind.f32.format.order x 1056964608 == some .gt) = false := by
    have hi := INF_val
    show (S.order x 1056964608 == some .gt) = false
    rw [order_lt (by omega) (by decide)]
    rcases Nat.lt_or_ge x 1056964608 with h | h
    · rw [Nat.compare_eq_lt.2 h]; rfl
    · rw [show x = 1056964608 by omega]; decide
  have hmf : ∀ (fn : Fn) (first cap : Array Value) (w : World), (Instr.makeFunc fn first cap).run Try.prog w = .ok (.func fn first cap) w := fun _ _ _ _ => rfl
  have HA : Hid (∀ w1 : World, Kept w [(w.heap.size + 1 + 1, vls 178 (clw (fun _ => 0) 0), 35), (w.heap.size + 1, #[.float .f32 x], 22), (w.heap.size, vls 178 (clw c t), 35)] w1 → Calls Try.prog 59 #[.func (.func 60) #[] #[.pointer (some ⟨w.heap.size, 0, none⟩), .pointer (some ⟨w.heap.size + 1, 0, none⟩)]] w1 fun e w' => e = .returned (.tuple #[.agg (vls 178 (clw r s)), .int .i64 n]) ∧ Below w1.heap.size w1 w') := hid (fun w1 hk => by
    have hce : ∀ w : World, (callFunc 60 #[.pointer (some ⟨w1.heap.size, 0, none⟩), .pointer (some ⟨w1.heap.size, 0, none⟩)]).run Try.prog w = .ok (.enter 60 #[.pointer (some ⟨w1.heap.size, 0, none⟩), .pointer (some ⟨w1.heap.size, 0, none⟩)]) w := fun w => by go_simp
    have hcl := fun (u : World) (hu : Below w1.heap.size w1 u) => iStirCl c t hb h x hs K hK hM hN u w.heap.size (w.heap.size + 1) ((hk.stay hu).v in2) ((cell_of_row u (w.heap.size + 1) 0 _ _ _ ((hk.stay hu).at (x := (w.heap.size + 1, #[.float .f32 x], 22)) in1)).trans rfl)
    by_cases h7 : K = 7
    · rw [if_pos h7] at hr
      obtain ⟨rfl, rfl, rfl⟩ := hr
      exact iAttemptC_ok _ _ _ _ w1 (fun u hu => (hcl u hu).mono (fun e u' he => by rw [if_pos h7] at he; exact he)) (fun w => by go_simp)
    · rw [if_neg h7] at hr
      obtain ⟨rfl, rfl, rfl⟩ := hr
      exact iAttemptC_f _ _ 4 w1 (fun u hu => (hcl u hu).mono (fun e u' he => by rw [if_neg h7] at he; exact he)) (fun w => by go_simp))
  clear hb h hx hs hK hM hN hr
  go_enter Try.func15, Try.ntmps15
  go_wp2_with (refine wpList_load_row rfl 35 _ rfl w.heap.size rfl 35 (vls 178 (clw c t)) (0, 0) _ (k0.out.v in2) Try.underlying35 rfl (by rw [vls_size]; exact info_col) ?_)
  refine (HV.out _).mono ?_
  rintro e w1 ⟨rfl, hb1⟩
  have k1 := hid (k0.out.stay hb1)
  have c1 : w1.cell? ⟨w.heap.size + 1, 0, none⟩ = some (.float .f32 x) := (cell_of_row w1 _ 0 _ _ _ (k1.out.at (x := (w.heap.size + 1, #[.float .f32 x], 22)) in1)).trans rfl
  clear k0 hb1
  go_wp2_with fail
  refine (HS.out _).mono ?_
  rintro e w2 ⟨rfl, rfl⟩
  go_wp2_with fail
  refine (HA.out _ k1.out).mono ?_
  rintro e w3 ⟨rfl, hb3⟩
  have k3 := hid (k1.out.stay hb3)
  clear c1 k1 hb3
  go_wp2_with (have _t := tok1; refine store_row (by rfl) 35 _ _ (by rfl) (w.heap.size + 1 + 1) (vls 178 (clw r s)) (vls 178 (clw (fun _ => 0) 0)) (by rfl) (by rfl) k3.out (by rw [vls_size]; exact info_col) (by simp) (vls_one (clw_one _ _)) (by omega) (neC (by omega) (neC (by omega) ne0)) ?_; intro xk4 k4; replace k4 := hid k4; clear k3 tok1)
  exact bodyPost_ret (results_row_tmp rfl _ _ (w.heap.size + 1 + 1) 35 (vls 178 (clw r s)) (0, 0) _ rfl (k4.out.v in0) Try.underlying35 rfl (by rw [vls_size]; exact info_col)) rfl ⟨rfl, k4.out.1⟩

theorem in5 {α : Type} {x a b c d e : α} {l : List α} : x ∈ a :: b :: c :: d :: e :: x :: l := List.mem_cons_of_mem _ in4

theorem in6 {α : Type} {x a b c d e f : α} {l : List α} : x ∈ a :: b :: c :: d :: e :: f :: x :: l := List.mem_cons_of_mem _ in5

theorem airs_at {w : World} {g : Nat} {c : Nat → Nat} {t : Int} {T : TypeId} {i j : Nat} (h : vAt w g 178 (clw c t) T) (hi : i < 8) (hj : j < 8) :
    w.cell? ⟨g, 160 + i * 2, none⟩ = some (.float .f32 (heC c i)) ∧ w.cell? ⟨g, 160 + i * 2 + 1, none⟩ = some (.float .f32 (vaC c i)) ∧ w.cell? ⟨g, 160 + j * 2, none⟩ = some (.float .f32 (heC c j)) ∧ w.cell? ⟨g, 160 + j * 2 + 1, none⟩ = some (.float .f32 (vaC c j)) :=
  ⟨h.ch hi, h.cv hi, h.ch hj, h.cv hj⟩

theorem add_k {k : Nat} (hk : k < 7) (w : World) : (binOp .add 3 (.int .i64 (k : Int)) (.int .i64 1)).run Try.prog w = .ok (.int .i64 ((k : Int) + 1)) w := by
  have hx : k = 0 ∨ k = 1 ∨ k = 2 ∨ k = 3 ∨ k = 4 ∨ k = 5 ∨ k = 6 := by omega
  rcases hx with rfl | rfl | rfl | rfl | rfl | rfl | rfl <;> rfl

theorem ix_air {i : Nat} (hi : i < 8) (g : Nat) (w : World) : (Instr.indexAt 33 (.pointer (some ⟨g, 160, none⟩)) (.int .i64 (i : Int))).run Try.prog w = .ok (.pointer (some ⟨g, 160 + i * 2, none⟩)) w := by
  have ha : Try.prog.arrayLen 33 = 8 := by kernel_rfl
  have hz : ∀ w, (sizeOf (Try.prog.elem 33)).run Try.prog w = .ok 2 w := fun w => by kernel_rfl
  have h8 : (i : Int) < 8 := by omega
  rw [run_indexAt_array _ _ _ _ _ (by kernel_rfl)]
  simp [ha, hz, h8, Addr.add]

set_option maxRecDepth 100000 in
set_option maxHeartbeats 4000000 in
theorem sStir_ok (c : Nat → Nat) (t : Int) (hb : ∀ i, i < 177 → c i < 4294967296) (h : ColOk c t) (x : Nat) (hx : x ≤ 1056964608) (K : Nat) (hK : K ≤ 7) (hM : ∀ j, j < K → MixOk (sxS c x j) x j) (hN : K < 7 → ¬ MixOk (sxS c x K) x K) (r : Nat → Nat) (s n : Int) (hr : if K = 7 then r = sxS c x 7 ∧ s = t ∧ n = 0 else r = (fun _ => 0) ∧ s = 0 ∧ n = 4) (w : World) (g : Nat) (hg : vAt w g 178 (clw c t) 35) :
    Calls Try.prog 54 #[.pointer (some ⟨g, 0, none⟩), .float .f32 x] w fun e w' => e = .returned (.tuple #[.agg (vls 178 (clw r s)), .int .i64 n]) ∧ Below w.heap.size w w' := by
  have kg : Hid (Kept w [(w.heap.size, vls 178 (clw (fun _ => 0) 0), 35), (g, vls 178 (clw c t), 35)] (w.alloc (.cells (vls 178 (clw (fun _ => 0) 0)) 35))) := hid (((Kept.nil w).add hg).push _ _)
  have hs : Share x := by unfold Share; omega
  have HX := hid hs
  have HC := hid h
  have HB := hid hb
  have HK := hid hK
  have HM := hid hM
  have HN := hid hN
  have HR := hid hr
  have ho : (FloatKind.f32.format.order x 1056964608 == some .gt) = false := by
    have hi := INF_val
    show (S.order x 1056964608 == some .gt) = false
    rw [order_lt (by omega) (by decide)]
    rcases Nat.lt_or_ge x 1056964608 with h | h
    · rw [Nat.compare_eq_lt.2 h]; rfl
    · rw [show x = 1056964608 by omega]; decide
  have kz : Hid (Kept w [(w.heap.size + 1, vls 178 (clw (fun _ => 0) 0), 35), (w.heap.size, vls 178 (clw (fun _ => 0) 0), 35)] ((w.alloc (.cells (vls 178 (clw (fun _ => 0) 0)) 35)).alloc (.cells (vls 178 (clw (fun _ => 0) 0)) 35))) := hid ((((Kept.nil w).push _ _).push _ _).sub (by simp))
  have HG := hid (lt_of_block hg)
  clear hb h hx hs hK hM hN hr hg
  have tok0 : True := trivial
  go_enter Try.func54, Try.ntmps54
  go_wp2_with fail
  refine (sShare_t x HX.out _).mono ?_
  rintro e w0 ⟨rfl, rfl⟩
  go_wp2_with (first | (refine wpList_load_row (by rfl) 35 _ (by rfl) g (by rfl) 35 (vls 178 (clw c t)) (0, 0) _ (kg.out.v in1) Try.underlying35 (by rfl) (by rw [vls_size]; exact info_col) ?_) | (have _t := tok0; clear tok0; refine store_row (by rfl) 35 _ _ (by rfl) (w.heap.size + 1) (vls 178 (clw c t)) (vls 178 (clw (fun _ => 0) 0)) (by rfl) (by rfl) kz.out (by rw [vls_size]; exact info_col) (by simp) (vls_one (clw_one _ _)) (by omega) (neC (by omega) ne0) ?_; intro xk k0; replace k0 := hid k0))
  go_loopw [7] (fun i wr => ∃ k : Nat, k ≤ K ∧ i = .int .i64 k ∧ Hid (Kept w [(w.heap.size + 1, vls 178 (clw (sxS c x k) t), 35), (w.heap.size, vls 178 (clw (fun _ => 0) 0), 35)] wr)) (fun i _ => 7 - (intOf i).toNat)
  case atStart => exact ⟨0, by omega, rfl, k0⟩
  case round =>
    clear k0 kg kz HG
    obtain ⟨k, hk, rfl, h0⟩ := hrel
    have hk7 : k ≤ 7 := by have := HK.out; omega
    have hk8 : (k : Int) < 8 := by omega
    by_cases hlt : k < 7
    · have HL := hid hlt
      have HKk := hid hk
      have hk4 : (k : Int) + 1 < 8 := by omega
      have hC : ColOk (sxS c x k) t := stir_ok HX.out HC.out (by omega) (fun j hj => HM.out j (by omega))
      have Ak := hid (hC.sz k (by omega))
      have Ak1 := hid (hC.sz (k + 1) (by omega))
      have HBk := hid (lt_stir HX.out HB.out HC.out hk7 (fun j hj => HM.out j (by omega)))
      have AF := hid (airs_f HX.out hlt HBk.out hC)
      obtain ⟨r1, n1, hr1⟩ : ∃ (r1 : Nat → Nat) (n1 : Int), (Fins (mixed (rowK (sxS c x k) k) (rowK (sxS c x k) (k + 1)) x) → r1 = mixed (rowK (sxS c x k) k) (rowK (sxS c x k) (k + 1)) x ∧ n1 = 0) ∧ (¬ Fins (mixed (rowK (sxS c x k) k) (rowK (sxS c x k) (k + 1)) x) → r1 = (fun _ => 0) ∧ n1 = 4) := by
        by_cases hf : Fins (mixed (rowK (sxS c x k) k) (rowK (sxS c x k) (k + 1)) x)
        · exact ⟨_, _, fun _ => ⟨rfl, rfl⟩, fun h => absurd hf h⟩
        · exact ⟨_, _, fun h => absurd h hf, fun _ => ⟨rfl, rfl⟩⟩
      obtain ⟨r2, n2, hr2⟩ : ∃ (r2 : Nat → Nat) (n2 : Int), (Fins (mixed (rowK (sxS c x k) (k + 1)) (rowK (sxS c x k) k) x) → r2 = mixed (rowK (sxS c x k) (k + 1)) (rowK (sxS c x k) k) x ∧ n2 = 0) ∧ (¬ Fins (mixed (rowK (sxS c x k) (k + 1)) (rowK (sxS c x k) k) x) → r2 = (fun _ => 0) ∧ n2 = 4) := by
        by_cases hf : Fins (mixed (rowK (sxS c x k) (k + 1)) (rowK (sxS c x k) k) x)
        · exact ⟨_, _, fun _ => ⟨rfl, rfl⟩, fun h => absurd hf h⟩
        · exact ⟨_, _, fun h => absurd h hf, fun _ => ⟨rfl, rfl⟩⟩
      have HR1 := hid hr1
      have HR2 := hid hr2
      have k1 := hid (h0.out.push (fls fun _ => 0) 30)
      have hxa := ix_air (i := k) (by omega)
      have hxb := ix_air (i := k + 1) (by omega)
      have addk := fun w => add_k hlt w
      rw [show ((k + 1 : Nat) : Int) = (k : Int) + 1 by omega] at hxb
      clear hr1 hr2
      clear hC hlt hk hk7
      have tok1 : True := trivial
      go_wp2_with (first | (have _t := tok1; clear tok1; refine wpList_load_as (by rfl) 30 _ (by rfl) (w.heap.size + 1) (k * 20) (by rfl) 178 (clw (sxS c x k) t) 35 (h0.out.v in0) 20 (by have := HL.out; omega) (fls (rowK (sxS c x k) k)) (part_dr _ t (by have := HL.out; omega)) _ Try.underlying30 (by rfl) info_arr ?_; have tok2 : True := trivial) | (have _t := tok2; clear tok2; refine store_row (by rfl) 30 _ _ (by rfl) (wr.heap.size) (fls (rowK (sxS c x k) k)) (fls fun _ => 0) (by rfl) (by rfl) k1.out (by rw [fls_size]; exact info_arr) (by rw [fls_size, fls_size]) (vls_one (n := 20) (f := flw _) (fun _ => rfl)) (h0.out.size) (h0.out.fresh) ?_; intro wA kA; replace kA := hid kA; have kA2 := hid (kA.out.push (fls fun _ => 0) 30); have tok3 : True := trivial) | (have _t := tok3; clear tok3; refine wpList_load_as (by rfl) 30 _ (by rfl) (w.heap.size + 1) ((k + 1) * 20) (by rfl) 178 (clw (sxS c x k) t) 35 (kA.out.v in1) 20 (by have := HL.out; omega) (fls (rowK (sxS c x k) (k + 1))) (part_dr _ t (by have := HL.out; omega)) _ Try.underlying30 (by rfl) info_arr ?_; have tok4 : True := trivial) | (have _t := tok4; clear tok4; refine store_row (by rfl) 30 _ _ (by rfl) (wA.heap.size) (fls (rowK (sxS c x k) (k + 1))) (fls fun _ => 0) (by rfl) (by rfl) kA2.out (by rw [fls_size]; exact info_arr) (by rw [fls_size, fls_size]) (vls_one (n := 20) (f := flw _) (fun _ => rfl)) (kA.out.size) (kA.out.fresh) ?_; intro wB kB; replace kB := hid kB; have tok5 : True := trivial) | (have _t := tok5; clear tok5; refine wpList_load_row (by rfl) 30 _ (by rfl) (wr.heap.size) (by rfl) 30 (fls (rowK (sxS c x k) k)) (0, 0) _ (kB.out.at (x := (wr.heap.size, fls (rowK (sxS c x k) k), 30)) in1) Try.underlying30 (by rfl) (by rw [fls_size]; exact info_arr) ?_; have tok6 : True := trivial) | (have _t := tok6; clear tok6; refine wpList_load_row (by rfl) 30 _ (by rfl) (wA.heap.size) (by rfl) 30 (fls (rowK (sxS c x k) (k + 1))) (0, 0) _ (kB.out.at (x := (wA.heap.size, fls (rowK (sxS c x k) (k + 1)), 30)) in0) Try.underlying30 (by rfl) (by rw [fls_size]; exact info_arr) ?_))
      refine (sMixSizes_ok _ Ak.out _ Ak1.out x HX.out r1 n1 HR1.out.1 HR1.out.2 _).mono ?_
      rintro e w1 ⟨rfl, hb1⟩
      have qr := hid (kA.out.lt (x := (w.heap.size + 1, vls 178 (clw (sxS c x k) t), 35)) in1)
      have kC := hid (kB.out.stay hb1)
      have q1 := hid (kC.out.lt (x := (w.heap.size + 1, vls 178 (clw (sxS c x k) t), 35)) in2)
      have kC2 := hid (kC.out.push (fls fun _ => 0) 30)
      clear hb1 kB kA kA2 k1 h0
      have tok7 : True := trivial
      go_wp2_with (first | (have _t := tok7; clear tok7; refine store_row (by rfl) 30 _ _ (by rfl) (w1.heap.size) (fls r1) (fls fun _ => 0) (by rfl) (by rfl) kC2.out (by rw [fls_size]; exact info_arr) (by rw [fls_size, fls_size]) (vls_one (n := 20) (f := flw _) (fun _ => rfl)) (kC.out.size) (kC.out.fresh) ?_; intro wD kD; replace kD := hid kD; have tok8 : True := trivial) | (have _t := tok8; clear tok8; refine wpList_load_row (by rfl) 30 _ (by rfl) (wA.heap.size) (by rfl) 30 (fls (rowK (sxS c x k) (k + 1))) (0, 0) _ (kD.out.at (x := (wA.heap.size, fls (rowK (sxS c x k) (k + 1)), 30)) in1) Try.underlying30 (by rfl) (by rw [fls_size]; exact info_arr) ?_; have tok9 : True := trivial) | (have _t := tok9; clear tok9; refine wpList_load_row (by rfl) 30 _ (by rfl) (wr.heap.size) (by rfl) 30 (fls (rowK (sxS c x k) k)) (0, 0) _ (kD.out.at (x := (wr.heap.size, fls (rowK (sxS c x k) k), 30)) in2) Try.underlying30 (by rfl) (by rw [fls_size]; exact info_arr) ?_))
      refine (sMixSizes_ok _ Ak1.out _ Ak.out x HX.out r2 n2 HR2.out.1 HR2.out.2 _).mono ?_
      rintro e w2 ⟨rfl, hb2⟩
      have kE := hid (kD.out.stay hb2)
      have q2 := hid (kE.out.lt (x := (w.heap.size + 1, vls 178 (clw (sxS c x k) t), 35)) in3)
      have kE2 := hid (kE.out.push (fls fun _ => 0) 30)
      clear hb2 kD kC kC2
      have tok10 : True := trivial
      go_wp2_with (first | (have _t := tok10; clear tok10; refine store_row (by rfl) 30 _ _ (by rfl) (w2.heap.size) (fls r2) (fls fun _ => 0) (by rfl) (by rfl) kE2.out (by rw [fls_size]; exact info_arr) (by rw [fls_size, fls_size]) (vls_one (n := 20) (f := flw _) (fun _ => rfl)) (kE.out.size) (kE.out.fresh) ?_; intro wF kF; replace kF := hid kF))
      clear kE kE2

      refine region_act (w0 := w) (lk := [(w2.heap.size, fls r2, 30), (w1.heap.size, fls r1, 30), (wA.heap.size, fls (rowK (sxS c x k) (k + 1)), 30), (wr.heap.size, fls (rowK (sxS c x k) k), 30), (w.heap.size + 1, vls 178 (clw (sxS c x k) t), 35), (w.heap.size, vls 178 (clw (fun _ => 0) 0), 35)]) (fun a0 a1 w1q => ∃ g, a1 = ((((((((((a0.put (some 55) (.int .i64 (k : Int))).put (some 56) (.pointer (some ⟨w.heap.size + 1, 160, none⟩))).put (some 57) (.pointer (some ⟨w.heap.size + 1, 160 + k * 2, none⟩))).put (some 58) (.int .i64 (k : Int))).put (some 59) (.int .i64 ((k : Int) + 1))).put (some 60) (.pointer (some ⟨w.heap.size + 1, 160, none⟩))).put (some 61) (.pointer (some ⟨w.heap.size + 1, 160 + (k + 1) * 2, none⟩))).put (some 62) (.float .f32 x)).put (some 63) (.agg #[.float .f32 (mixW (heC (sxS c x k) k) (heC (sxS c x k) (k + 1)) x), .float .f32 (mixW (vaC (sxS c x k) k) (vaC (sxS c x k) (k + 1)) x)])).put (some 14) (.pointer (some ⟨g, 0, none⟩))) ∧ w.heap.size + 1 ≠ g ∧ Kept w ((g, #[.float .f32 (mixW (heC (sxS c x k) k) (heC (sxS c x k) (k + 1)) x), .float .f32 (mixW (vaC (sxS c x k) k) (vaC (sxS c x k) (k + 1)) x)], 32) :: [(w2.heap.size, fls r2, 30), (w1.heap.size, fls r1, 30), (wA.heap.size, fls (rowK (sxS c x k) (k + 1)), 30), (wr.heap.size, fls (rowK (sxS c x k) k), 30), (w.heap.size + 1, vls 178 (clw (sxS c x k) t), 35), (w.heap.size, vls 178 (clw (fun _ => 0) 0), 35)]) w1q) 11 #[false, false, false, false, false, false, false, false, false, false, false] (by kernel_rfl) rfl rfl ?_ ?_
      · have kd := kF.out.drew
        clear kF
        generalize World.drew _ = wd at kd ⊢
        refine take_val 0 _ _ (.int .i64 (k : Int)) rfl (by rfl) (by kernel_rfl) (by kernel_rfl) (by kernel_rfl) (fun w => by rfl) rfl rfl kd ?_
        simp only [Act.put, List.setIfInBounds_toArray, List.set_cons_zero, List.set_cons_succ]
        refine take_val 1 _ _ (.pointer (some ⟨w.heap.size + 1, 160, none⟩)) rfl (by rfl) (by kernel_rfl) (by kernel_rfl) (by kernel_rfl) (fun w => by unfold execOp; go_simp) rfl rfl kd ?_
        simp only [Act.put, List.setIfInBounds_toArray, List.set_cons_zero, List.set_cons_succ]
        refine take_val 2 _ _ (.pointer (some ⟨w.heap.size + 1, 160 + k * 2, none⟩)) rfl (by rfl) (by kernel_rfl) (by kernel_rfl) (by kernel_rfl) (fun w => by unfold execOp; go_simp) rfl rfl kd ?_
        simp only [Act.put, List.setIfInBounds_toArray, List.set_cons_zero, List.set_cons_succ]
        refine take_val 3 _ _ (.int .i64 (k : Int)) rfl (by rfl) (by kernel_rfl) (by kernel_rfl) (by kernel_rfl) (fun w => by rfl) rfl rfl kd ?_
        simp only [Act.put, List.setIfInBounds_toArray, List.set_cons_zero, List.set_cons_succ]
        refine take_val 4 _ _ (.int .i64 ((k : Int) + 1)) rfl (by rfl) (by kernel_rfl) (by kernel_rfl) (by kernel_rfl) (fun w => run_binop_val _ _ _ _ (by rfl) (by rfl) (by simp [eqGuard]) (addk w)) rfl rfl kd ?_
        simp only [Act.put, List.setIfInBounds_toArray, List.set_cons_zero, List.set_cons_succ]
        refine take_val 5 _ _ (.pointer (some ⟨w.heap.size + 1, 160, none⟩)) rfl (by rfl) (by kernel_rfl) (by kernel_rfl) (by kernel_rfl) (fun w => by unfold execOp; go_simp) rfl rfl kd ?_
        simp only [Act.put, List.setIfInBounds_toArray, List.set_cons_zero, List.set_cons_succ]
        refine take_val 6 _ _ (.pointer (some ⟨w.heap.size + 1, 160 + (k + 1) * 2, none⟩)) rfl (by rfl) (by kernel_rfl) (by kernel_rfl) (by kernel_rfl) (fun w => by unfold execOp; go_simp) rfl rfl kd ?_
        simp only [Act.put, List.setIfInBounds_toArray, List.set_cons_zero, List.set_cons_succ]
        refine take_val 7 _ _ (.float .f32 x) rfl (by rfl) (by kernel_rfl) (by kernel_rfl) (by kernel_rfl) (fun w => by rfl) rfl rfl kd ?_
        simp only [Act.put, List.setIfInBounds_toArray, List.set_cons_zero, List.set_cons_succ]
        refine wpAnyH_ready (rs := [8, 9]) (by kernel_rfl) (by simp) ?_
        refine callK 8 _ _ (.agg #[.float .f32 (mixW (heC (sxS c x k) k) (heC (sxS c x k) (k + 1)) x), .float .f32 (mixW (vaC (sxS c x k) k) (vaC (sxS c x k) (k + 1)) x)]) kd rfl (by rfl) 112 #[.pointer (some ⟨w.heap.size + 1, 160 + k * 2, none⟩), .pointer (some ⟨w.heap.size + 1, 160 + (k + 1) * 2, none⟩), .float .f32 x] (fun w => by unfold execOp; go_simp) rfl rfl ?hc1 (fun w1 k1 => ?_) ?_
        case hc1 => exact sMixAt _ _ _ _ x AF.out.h1 AF.out.v1 _ (w.heap.size + 1) (160 + k * 2) (w.heap.size + 1) (160 + (k + 1) * 2) (fun wx hbx => airs_at (Kept.v (B := w.heap.size + 1) (n := 178) (f := clw (sxS c x k) t) (T := 35) (kd.stay hbx) (by first | exact in4 | exact in5 | exact in6)) (by have := HL.out; omega) (by have := HL.out; omega))
        · refine ⟨k1, ?_⟩
          simp only [Act.put, List.setIfInBounds_toArray, List.set_cons_zero, List.set_cons_succ]
          refine wpAnyH_ready (rs := [9]) (by kernel_rfl) (by simp) ?_
          refine allocK 9 (fun g => _) _ k1 rfl (by rfl) (#[.float .f32 0, .float .f32 0]) 32 (by unfold execOp; go_simp) (fun g => rfl) rfl (fun w2 g2 k2 hB2 hn2 => ?_) AllReadyH.nil
          refine ⟨k2.tail, ?_⟩
          simp only [Act.put, List.setIfInBounds_toArray, List.set_cons_zero, List.set_cons_succ]
          refine wpAnyH_ready (rs := [10]) (by kernel_rfl) (by simp) ?_
          refine storeK 10 _ _ k2 hB2 hn2 rfl (by rfl) 32 _ _ rfl (#[.float .f32 (mixW (heC (sxS c x k) k) (heC (sxS c x k) (k + 1)) x), .float .f32 (mixW (vaC (sxS c x k) k) (vaC (sxS c x k) (k + 1)) x)]) rfl rfl (info_air) (by simp) (two_one _ _) rfl rfl (fun w3 k3 => ?_) AllReadyH.nil
          refine ⟨k3.tail, ?_⟩
          refine wpAnyH_done (by kernel_rfl) ?_ _
          exact ⟨rfl, g2, rfl, hn2 (w.heap.size + 1, vls 178 (clw (sxS c x k) t), 35) (by first | exact in4 | exact in5 | exact in6), k3⟩
        refine allocK 9 (fun g => _) _ kd rfl (by rfl) (#[.float .f32 0, .float .f32 0]) 32 (by unfold execOp; go_simp) (fun g => rfl) rfl (fun w4 g4 k4 hB4 hn4 => ?_) AllReadyH.nil
        refine ⟨k4.tail, ?_⟩
        simp only [Act.put, List.setIfInBounds_toArray, List.set_cons_zero, List.set_cons_succ]
        refine wpAnyH_ready (rs := [8]) (by kernel_rfl) (by simp) ?_
        refine callK 8 _ _ (.agg #[.float .f32 (mixW (heC (sxS c x k) k) (heC (sxS c x k) (k + 1)) x), .float .f32 (mixW (vaC (sxS c x k) k) (vaC (sxS c x k) (k + 1)) x)]) k4 rfl (by rfl) 112 #[.pointer (some ⟨w.heap.size + 1, 160 + k * 2, none⟩), .pointer (some ⟨w.heap.size + 1, 160 + (k + 1) * 2, none⟩), .float .f32 x] (fun w => by unfold execOp; go_simp) rfl rfl ?hc5 (fun w5 k5 => ?_) AllReadyH.nil
        case hc5 => exact sMixAt _ _ _ _ x AF.out.h1 AF.out.v1 _ (w.heap.size + 1) (160 + k * 2) (w.heap.size + 1) (160 + (k + 1) * 2) (fun wx hbx => airs_at (Kept.v (B := w.heap.size + 1) (n := 178) (f := clw (sxS c x k) t) (T := 35) (k4.stay hbx) (by first | exact in4 | exact in5 | exact in6)) (by have := HL.out; omega) (by have := HL.out; omega))
        refine ⟨k5.tail, ?_⟩
        simp only [Act.put, List.setIfInBounds_toArray, List.set_cons_zero, List.set_cons_succ]
        refine wpAnyH_ready (rs := [10]) (by kernel_rfl) (by simp) ?_
        refine storeK 10 _ _ k5 hB4 hn4 rfl (by rfl) 32 _ _ rfl (#[.float .f32 (mixW (heC (sxS c x k) k) (heC (sxS c x k) (k + 1)) x), .float .f32 (mixW (vaC (sxS c x k) k) (vaC (sxS c x k) (k + 1)) x)]) rfl rfl (info_air) (by simp) (two_one _ _) rfl rfl (fun w6 k6 => ?_) AllReadyH.nil
        refine ⟨k6.tail, ?_⟩
        refine wpAnyH_done (by kernel_rfl) ?_ _
        exact ⟨rfl, g4, rfl, hn4 (w.heap.size + 1, vls 178 (clw (sxS c x k) t), 35) (by first | exact in4 | exact in5 | exact in6), k6⟩
      rintro a1 wgA ⟨gA, rfl, hqgA, kgA⟩
      clear kF
      replace kgA := hid kgA
      have kG := kgA
      clear kgA
      simp only [Act.put, List.setIfInBounds_toArray, List.set_cons_zero, List.set_cons_succ]
      go_wp2_with fail
      refine region_act (w0 := w) (lk := [(gA, #[.float .f32 (mixW (heC (sxS c x k) k) (heC (sxS c x k) (k + 1)) x), .float .f32 (mixW (vaC (sxS c x k) k) (vaC (sxS c x k) (k + 1)) x)], 32), (w2.heap.size, fls r2, 30), (w1.heap.size, fls r1, 30), (wA.heap.size, fls (rowK (sxS c x k) (k + 1)), 30), (wr.heap.size, fls (rowK (sxS c x k) k), 30), (w.heap.size + 1, vls 178 (clw (sxS c x k) t), 35), (w.heap.size, vls 178 (clw (fun _ => 0) 0), 35)]) (fun a0 a1 w1q => ∃ g, a1 = ((((((((((a0.put (some 64) (.int .i64 (k : Int))).put (some 65) (.int .i64 ((k : Int) + 1))).put (some 66) (.pointer (some ⟨w.heap.size + 1, 160, none⟩))).put (some 67) (.pointer (some ⟨w.heap.size + 1, 160 + (k + 1) * 2, none⟩))).put (some 68) (.int .i64 (k : Int))).put (some 69) (.pointer (some ⟨w.heap.size + 1, 160, none⟩))).put (some 70) (.pointer (some ⟨w.heap.size + 1, 160 + k * 2, none⟩))).put (some 71) (.float .f32 x)).put (some 72) (.agg #[.float .f32 (mixW (heC (sxS c x k) (k + 1)) (heC (sxS c x k) k) x), .float .f32 (mixW (vaC (sxS c x k) (k + 1)) (vaC (sxS c x k) k) x)])).put (some 15) (.pointer (some ⟨g, 0, none⟩))) ∧ w.heap.size + 1 ≠ g ∧ Kept w ((g, #[.float .f32 (mixW (heC (sxS c x k) (k + 1)) (heC (sxS c x k) k) x), .float .f32 (mixW (vaC (sxS c x k) (k + 1)) (vaC (sxS c x k) k) x)], 32) :: [(gA, #[.float .f32 (mixW (heC (sxS c x k) k) (heC (sxS c x k) (k + 1)) x), .float .f32 (mixW (vaC (sxS c x k) k) (vaC (sxS c x k) (k + 1)) x)], 32), (w2.heap.size, fls r2, 30), (w1.heap.size, fls r1, 30), (wA.heap.size, fls (rowK (sxS c x k) (k + 1)), 30), (wr.heap.size, fls (rowK (sxS c x k) k), 30), (w.heap.size + 1, vls 178 (clw (sxS c x k) t), 35), (w.heap.size, vls 178 (clw (fun _ => 0) 0), 35)]) w1q) 11 #[false, false, false, false, false, false, false, false, false, false, false] (by kernel_rfl) rfl rfl ?_ ?_
      · have kd := kG.out.drew
        clear kG
        generalize World.drew _ = wd at kd ⊢
        refine take_val 0 _ _ (.int .i64 (k : Int)) rfl (by rfl) (by kernel_rfl) (by kernel_rfl) (by kernel_rfl) (fun w => by rfl) rfl rfl kd ?_
        simp only [Act.put, List.setIfInBounds_toArray, List.set_cons_zero, List.set_cons_succ]
        refine take_val 1 _ _ (.int .i64 ((k : Int) + 1)) rfl (by rfl) (by kernel_rfl) (by kernel_rfl) (by kernel_rfl) (fun w => run_binop_val _ _ _ _ (by rfl) (by rfl) (by simp [eqGuard]) (addk w)) rfl rfl kd ?_
        simp only [Act.put, List.setIfInBounds_toArray, List.set_cons_zero, List.set_cons_succ]
        refine take_val 2 _ _ (.pointer (some ⟨w.heap.size + 1, 160, none⟩)) rfl (by rfl) (by kernel_rfl) (by kernel_rfl) (by kernel_rfl) (fun w => by unfold execOp; go_simp) rfl rfl kd ?_
        simp only [Act.put, List.setIfInBounds_toArray, List.set_cons_zero, List.set_cons_succ]
        refine take_val 3 _ _ (.pointer (some ⟨w.heap.size + 1, 160 + (k + 1) * 2, none⟩)) rfl (by rfl) (by kernel_rfl) (by kernel_rfl) (by kernel_rfl) (fun w => by unfold execOp; go_simp) rfl rfl kd ?_
        simp only [Act.put, List.setIfInBounds_toArray, List.set_cons_zero, List.set_cons_succ]
        refine take_val 4 _ _ (.int .i64 (k : Int)) rfl (by rfl) (by kernel_rfl) (by kernel_rfl) (by kernel_rfl) (fun w => by rfl) rfl rfl kd ?_
        simp only [Act.put, List.setIfInBounds_toArray, List.set_cons_zero, List.set_cons_succ]
        refine take_val 5 _ _ (.pointer (some ⟨w.heap.size + 1, 160, none⟩)) rfl (by rfl) (by kernel_rfl) (by kernel_rfl) (by kernel_rfl) (fun w => by unfold execOp; go_simp) rfl rfl kd ?_
        simp only [Act.put, List.setIfInBounds_toArray, List.set_cons_zero, List.set_cons_succ]
        refine take_val 6 _ _ (.pointer (some ⟨w.heap.size + 1, 160 + k * 2, none⟩)) rfl (by rfl) (by kernel_rfl) (by kernel_rfl) (by kernel_rfl) (fun w => by unfold execOp; go_simp) rfl rfl kd ?_
        simp only [Act.put, List.setIfInBounds_toArray, List.set_cons_zero, List.set_cons_succ]
        refine take_val 7 _ _ (.float .f32 x) rfl (by rfl) (by kernel_rfl) (by kernel_rfl) (by kernel_rfl) (fun w => by rfl) rfl rfl kd ?_
        simp only [Act.put, List.setIfInBounds_toArray, List.set_cons_zero, List.set_cons_succ]
        refine wpAnyH_ready (rs := [8, 9]) (by kernel_rfl) (by simp) ?_
        refine callK 8 _ _ (.agg #[.float .f32 (mixW (heC (sxS c x k) (k + 1)) (heC (sxS c x k) k) x), .float .f32 (mixW (vaC (sxS c x k) (k + 1)) (vaC (sxS c x k) k) x)]) kd rfl (by rfl) 112 #[.pointer (some ⟨w.heap.size + 1, 160 + (k + 1) * 2, none⟩), .pointer (some ⟨w.heap.size + 1, 160 + k * 2, none⟩), .float .f32 x] (fun w => by unfold execOp; go_simp) rfl rfl ?hc1 (fun w1 k1 => ?_) ?_
        case hc1 => exact sMixAt _ _ _ _ x AF.out.h2 AF.out.v2 _ (w.heap.size + 1) (160 + (k + 1) * 2) (w.heap.size + 1) (160 + k * 2) (fun wx hbx => airs_at (Kept.v (B := w.heap.size + 1) (n := 178) (f := clw (sxS c x k) t) (T := 35) (kd.stay hbx) (by first | exact in4 | exact in5 | exact in6)) (by have := HL.out; omega) (by have := HL.out; omega))
        · refine ⟨k1, ?_⟩
          simp only [Act.put, List.setIfInBounds_toArray, List.set_cons_zero, List.set_cons_succ]
          refine wpAnyH_ready (rs := [9]) (by kernel_rfl) (by simp) ?_
          refine allocK 9 (fun g => _) _ k1 rfl (by rfl) (#[.float .f32 0, .float .f32 0]) 32 (by unfold execOp; go_simp) (fun g => rfl) rfl (fun w2 g2 k2 hB2 hn2 => ?_) AllReadyH.nil
          refine ⟨k2.tail, ?_⟩
          simp only [Act.put, List.setIfInBounds_toArray, List.set_cons_zero, List.set_cons_succ]
          refine wpAnyH_ready (rs := [10]) (by kernel_rfl) (by simp) ?_
          refine storeK 10 _ _ k2 hB2 hn2 rfl (by rfl) 32 _ _ rfl (#[.float .f32 (mixW (heC (sxS c x k) (k + 1)) (heC (sxS c x k) k) x), .float .f32 (mixW (vaC (sxS c x k) (k + 1)) (vaC (sxS c x k) k) x)]) rfl rfl (info_air) (by simp) (two_one _ _) rfl rfl (fun w3 k3 => ?_) AllReadyH.nil
          refine ⟨k3.tail, ?_⟩
          refine wpAnyH_done (by kernel_rfl) ?_ _
          exact ⟨rfl, g2, rfl, hn2 (w.heap.size + 1, vls 178 (clw (sxS c x k) t), 35) (by first | exact in4 | exact in5 | exact in6), k3⟩
        refine allocK 9 (fun g => _) _ kd rfl (by rfl) (#[.float .f32 0, .float .f32 0]) 32 (by unfold execOp; go_simp) (fun g => rfl) rfl (fun w4 g4 k4 hB4 hn4 => ?_) AllReadyH.nil
        refine ⟨k4.tail, ?_⟩
        simp only [Act.put, List.setIfInBounds_toArray, List.set_cons_zero, List.set_cons_succ]
        refine wpAnyH_ready (rs := [8]) (by kernel_rfl) (by simp) ?_
        refine callK 8 _ _ (.agg #[.float .f32 (mixW (heC (sxS c x k) (k + 1)) (heC (sxS c x k) k) x), .float .f32 (mixW (vaC (sxS c x k) (k + 1)) (vaC (sxS c x k) k) x)]) k4 rfl (by rfl) 112 #[.pointer (some ⟨w.heap.size + 1, 160 + (k + 1) * 2, none⟩), .pointer (some ⟨w.heap.size + 1, 160 + k * 2, none⟩), .float .f32 x] (fun w => by unfold execOp; go_simp) rfl rfl ?hc5 (fun w5 k5 => ?_) AllReadyH.nil
        case hc5 => exact sMixAt _ _ _ _ x AF.out.h2 AF.out.v2 _ (w.heap.size + 1) (160 + (k + 1) * 2) (w.heap.size + 1) (160 + k * 2) (fun wx hbx => airs_at (Kept.v (B := w.heap.size + 1) (n := 178) (f := clw (sxS c x k) t) (T := 35) (k4.stay hbx) (by first | exact in4 | exact in5 | exact in6)) (by have := HL.out; omega) (by have := HL.out; omega))
        refine ⟨k5.tail, ?_⟩
        simp only [Act.put, List.setIfInBounds_toArray, List.set_cons_zero, List.set_cons_succ]
        refine wpAnyH_ready (rs := [10]) (by kernel_rfl) (by simp) ?_
        refine storeK 10 _ _ k5 hB4 hn4 rfl (by rfl) 32 _ _ rfl (#[.float .f32 (mixW (heC (sxS c x k) (k + 1)) (heC (sxS c x k) k) x), .float .f32 (mixW (vaC (sxS c x k) (k + 1)) (vaC (sxS c x k) k) x)]) rfl rfl (info_air) (by simp) (two_one _ _) rfl rfl (fun w6 k6 => ?_) AllReadyH.nil
        refine ⟨k6.tail, ?_⟩
        refine wpAnyH_done (by kernel_rfl) ?_ _
        exact ⟨rfl, g4, rfl, hn4 (w.heap.size + 1, vls 178 (clw (sxS c x k) t), 35) (by first | exact in4 | exact in5 | exact in6), k6⟩
      rintro a1 wgB ⟨gB, rfl, hqgB, kgB⟩
      clear kG
      replace kgB := hid kgB
      simp only [Act.put, List.setIfInBounds_toArray, List.set_cons_zero, List.set_cons_succ]
      replace hqA := hid hqgA
      replace hqB := hid hqgB
      clear hqgA hqgB
      by_cases hm : MixOk (sxS c x k) x k
      · have HKK : Hid (k < K) := hid (by
          rcases Nat.lt_or_ge k K with h | h
          · exact h
          · obtain rfl : k = K := by have := HKk.out; omega
            exact absurd hm (HN.out HL.out))
        obtain ⟨rfl, rfl⟩ := HR1.out.1 hm.d1
        obtain ⟨rfl, rfl⟩ := HR2.out.1 hm.d2
        have G3 := hid hm.a1
        have G4 := hid hm.a2
        clear hm HR1 HR2
        have kp : Hid (Kept w [(w.heap.size + 1, vls 178 (clw (sxS c x k) t), 35), (gB, #[.float .f32 (mixW (heC (sxS c x k) (k + 1)) (heC (sxS c x k) k) x), .float .f32 (mixW (vaC (sxS c x k) (k + 1)) (vaC (sxS c x k) k) x)], 32), (gA, #[.float .f32 (mixW (heC (sxS c x k) k) (heC (sxS c x k) (k + 1)) x), .float .f32 (mixW (vaC (sxS c x k) k) (vaC (sxS c x k) (k + 1)) x)], 32), (w2.heap.size, fls (mixed (rowK (sxS c x k) (k + 1)) (rowK (sxS c x k) k) x), 30), (w1.heap.size, fls (mixed (rowK (sxS c x k) k) (rowK (sxS c x k) (k + 1)) x), 30), (w.heap.size, vls 178 (clw (fun _ => 0) 0), 35)] wgB) := hid (kgB.out.sub (by
          intro y hy
          simp only [List.mem_cons, List.not_mem_nil, or_false] at hy ⊢
          rcases hy with rfl | rfl | rfl | rfl | rfl | rfl <;> simp))
        have gAt := hid (kgB.out.at (x := (gA, #[.float .f32 (mixW (heC (sxS c x k) k) (heC (sxS c x k) (k + 1)) x), .float .f32 (mixW (vaC (sxS c x k) k) (vaC (sxS c x k) (k + 1)) x)], 32)) in1)
        have gBt := hid (kgB.out.at (x := (gB, #[.float .f32 (mixW (heC (sxS c x k) (k + 1)) (heC (sxS c x k) k) x), .float .f32 (mixW (vaC (sxS c x k) (k + 1)) (vaC (sxS c x k) k) x)], 32)) in0)
        clear kgB
        go_wp2_with fail
        refine (sAirOk_t _ _ G3.out _ gA 32 gAt.out).mono ?_
        rintro e w7 ⟨rfl, rfl⟩
        go_wp2_with fail
        refine (sAirOk_t _ _ G4.out _ gB 32 gBt.out).mono ?_
        rintro e w8 ⟨rfl, rfl⟩
        have tok21 : True := trivial
        go_wp2_with (first | (have _t := tok21; clear tok21; refine wpList_load_row (by rfl) 30 _ (by rfl) (w1.heap.size) (by rfl) 30 (fls (mixed (rowK (sxS c x k) k) (rowK (sxS c x k) (k + 1)) x)) (0, 0) _ (kp.out.at (x := (w1.heap.size, fls (mixed (rowK (sxS c x k) k) (rowK (sxS c x k) (k + 1)) x), 30)) in4) Try.underlying30 (by rfl) (by rw [fls_size]; exact info_arr) ?_; have tok22 : True := trivial) | (have _t := tok22; clear tok22; refine store_cut rfl 30 _ _ (by rfl) (w.heap.size + 1) (k * 20) 20 (flw fun j => mixW (rowK (sxS c x k) k j) (rowK (sxS c x k) (k + 1) j) x) (fls (mixed (rowK (sxS c x k) k) (rowK (sxS c x k) (k + 1)) x)) (by rfl) (by rfl) (rfl) (info_arr) (fun _ => rfl) kp.out (by have := HL.out; omega) (Nat.le_succ _) (neC (Ne.symm hqB.out) (neC (Ne.symm hqA.out) (neC (Nat.ne_of_gt q2.out) (neC (Nat.ne_of_gt q1.out) (neC (by omega) ne0))))) ?_; intro xkp1 kp1; replace kp1 := hid kp1; have tok23 : True := trivial) | (have _t := tok23; clear tok23; refine wpList_load_row (by rfl) 30 _ (by rfl) (w2.heap.size) (by rfl) 30 (fls (mixed (rowK (sxS c x k) (k + 1)) (rowK (sxS c x k) k) x)) (0, 0) _ (kp1.out.at (x := (w2.heap.size, fls (mixed (rowK (sxS c x k) (k + 1)) (rowK (sxS c x k) k) x), 30)) in3) Try.underlying30 (by rfl) (by rw [fls_size]; exact info_arr) ?_; have tok24 : True := trivial) | (have _t := tok24; clear tok24; refine store_cut rfl 30 _ _ (by rfl) (w.heap.size + 1) ((k + 1) * 20) 20 (flw fun j => mixW (rowK (sxS c x k) (k + 1) j) (rowK (sxS c x k) k j) x) (fls (mixed (rowK (sxS c x k) (k + 1)) (rowK (sxS c x k) k) x)) (by rfl) (by rfl) (rfl) (info_arr) (fun _ => rfl) kp1.out (by have := HL.out; omega) (Nat.le_succ _) (neC (Ne.symm hqB.out) (neC (Ne.symm hqA.out) (neC (Nat.ne_of_gt q2.out) (neC (Nat.ne_of_gt q1.out) (neC (by omega) ne0))))) ?_; intro xkp2 kp2; replace kp2 := hid kp2; replace kp2 := hid (Kept.ext kp2.out (sxD_is (sxS c x k) t x k HL.out)); have tok25 : True := trivial) | (have _t := tok25; clear tok25; refine wpList_load_row (by rfl) 32 _ (by rfl) (gA) (by rfl) 32 (#[.float .f32 (mixW (heC (sxS c x k) k) (heC (sxS c x k) (k + 1)) x), .float .f32 (mixW (vaC (sxS c x k) k) (vaC (sxS c x k) (k + 1)) x)]) (0, 0) _ (kp2.out.at (x := (gA, #[.float .f32 (mixW (heC (sxS c x k) k) (heC (sxS c x k) (k + 1)) x), .float .f32 (mixW (vaC (sxS c x k) k) (vaC (sxS c x k) (k + 1)) x)], 32)) in2) Try.underlying32 (by rfl) (info_air) ?_; have tok26 : True := trivial) | (have _t := tok26; clear tok26; refine store_cut rfl 32 _ _ (by rfl) (w.heap.size + 1) (160 + k * 2) 2 (flw fun j => mixW ((sxD (sxS c x k) x k) (160 + k * 2 + j)) ((sxD (sxS c x k) x k) (160 + (k + 1) * 2 + j)) x) (#[.float .f32 (mixW (heC (sxS c x k) k) (heC (sxS c x k) (k + 1)) x), .float .f32 (mixW (vaC (sxS c x k) k) (vaC (sxS c x k) (k + 1)) x)]) (by rfl) (by rfl) (two_mix HL.out _ _) (info_air) (fun _ => rfl) kp2.out (by have := HL.out; omega) (Nat.le_succ _) (neC (Ne.symm hqB.out) (neC (Ne.symm hqA.out) (neC (Nat.ne_of_gt q2.out) (neC (Nat.ne_of_gt q1.out) (neC (by omega) ne0))))) ?_; intro xkp3 kp3; replace kp3 := hid kp3; have tok27 : True := trivial) | (have _t := tok27; clear tok27; refine wpList_load_row (by rfl) 32 _ (by rfl) (gB) (by rfl) 32 (#[.float .f32 (mixW (heC (sxS c x k) (k + 1)) (heC (sxS c x k) k) x), .float .f32 (mixW (vaC (sxS c x k) (k + 1)) (vaC (sxS c x k) k) x)]) (0, 0) _ (kp3.out.at (x := (gB, #[.float .f32 (mixW (heC (sxS c x k) (k + 1)) (heC (sxS c x k) k) x), .float .f32 (mixW (vaC (sxS c x k) (k + 1)) (vaC (sxS c x k) k) x)], 32)) in1) Try.underlying32 (by rfl) (info_air) ?_; have tok28 : True := trivial) | (have _t := tok28; clear tok28; refine store_cut rfl 32 _ _ (by rfl) (w.heap.size + 1) (160 + (k + 1) * 2) 2 (flw fun j => mixW ((sxD (sxS c x k) x k) (160 + (k + 1) * 2 + j)) ((sxD (sxS c x k) x k) (160 + k * 2 + j)) x) (#[.float .f32 (mixW (heC (sxS c x k) (k + 1)) (heC (sxS c x k) k) x), .float .f32 (mixW (vaC (sxS c x k) (k + 1)) (vaC (sxS c x k) k) x)]) (by rfl) (by rfl) (two_mix HL.out _ _) (info_air) (fun _ => rfl) kp3.out (by have := HL.out; omega) (Nat.le_succ _) (neC (Ne.symm hqB.out) (neC (Ne.symm hqA.out) (neC (Nat.ne_of_gt q2.out) (neC (Nat.ne_of_gt q1.out) (neC (by omega) ne0))))) ?_; intro xkp4 kp4; replace kp4 := hid kp4))
        have kr : Hid (Kept w [(w.heap.size + 1, vls 178 (clw (sxS c x (k + 1)) t), 35), (w.heap.size, vls 178 (clw (fun _ => 0) 0), 35)] xkp4) := hid ((Kept.ext kp4.out (sxA_is (sxD (sxS c x k) x k) t x k HL.out)).sub (by
          intro y hy
          rcases List.mem_cons.1 hy with rfl | hy
          · exact in0
          · rw [List.mem_singleton.1 hy]; exact in5))
        clear kp kp1 kp2 kp3 kp4 gAt gBt
        go_roundw
        case rel => exact ⟨k + 1, HKK.out, by go_num, kr⟩
        case measure => have := HL.out; simp [intOf]; omega
      · obtain rfl : k = K := by
          rcases Nat.lt_or_ge k K with h | h
          · exact absurd (HM.out k h) hm
          · have := HKk.out; omega
        have hK7 : ¬ k = 7 := by have := HL.out; omega
        have hr := HR.out
        rw [if_neg hK7] at hr
        obtain ⟨rfl, rfl, rfl⟩ := hr
        have kz : Hid (Kept w [(w.heap.size, vls 178 (clw (fun _ => 0) 0), 35)] wgB) := hid (kgB.out.sub (by
          intro y hy
          rw [List.mem_singleton.1 hy]; simp))
        have gAt := hid (kgB.out.at (x := (gA, #[.float .f32 (mixW (heC (sxS c x k) k) (heC (sxS c x k) (k + 1)) x), .float .f32 (mixW (vaC (sxS c x k) k) (vaC (sxS c x k) (k + 1)) x)], 32)) in1)
        have gBt := hid (kgB.out.at (x := (gB, #[.float .f32 (mixW (heC (sxS c x k) (k + 1)) (heC (sxS c x k) k) x), .float .f32 (mixW (vaC (sxS c x k) (k + 1)) (vaC (sxS c x k) k) x)], 32)) in0)
        clear kgB HR
        have vA : Hid (mixW (vaC (sxS c x k) k) (vaC (sxS c x k) (k + 1)) x < 4294967296) := hid AF.out.v1.lt
        have vB : Hid (mixW (vaC (sxS c x k) (k + 1)) (vaC (sxS c x k) k) x < 4294967296) := hid AF.out.v2.lt
        rcases mix_cases hm with g1 | ⟨g1, g2⟩ | ⟨g1, g2, g3⟩ | ⟨g1, g2, g3, g4⟩
        · obtain ⟨_, rfl⟩ := HR1.out.2 g1
          clear hm g1 HR1 HR2
          have tok31 : True := trivial
          go_wp2_with (have _t := tok31; refine store_row (by rfl) 35 _ _ (by rfl) (w.heap.size) (vls 178 (clw (fun _ => 0) 0)) (vls 178 (clw (fun _ => 0) 0)) (by rfl) (by rfl) kz.out (by rw [vls_size]; exact info_col) (by simp) (vls_one (clw_one _ _)) (Nat.le_refl _) ne0 ?_; intro xky ky; replace ky := hid ky; clear kz tok31)
          exact bodyPost_ret (results_row_tmp rfl _ _ (w.heap.size) 35 (vls 178 (clw (fun _ => 0) 0)) (0, 0) _ rfl (ky.out.v in0) Try.underlying35 rfl (by rw [vls_size]; exact info_col)) rfl ⟨rfl, ky.out.1⟩
        · obtain ⟨_, rfl⟩ := HR1.out.1 g1
          obtain ⟨_, rfl⟩ := HR2.out.2 g2
          clear hm g1 g2 HR1 HR2
          have tok31 : True := trivial
          go_wp2_with (have _t := tok31; refine store_row (by rfl) 35 _ _ (by rfl) (w.heap.size) (vls 178 (clw (fun _ => 0) 0)) (vls 178 (clw (fun _ => 0) 0)) (by rfl) (by rfl) kz.out (by rw [vls_size]; exact info_col) (by simp) (vls_one (clw_one _ _)) (Nat.le_refl _) ne0 ?_; intro xky ky; replace ky := hid ky; clear kz tok31)
          exact bodyPost_ret (results_row_tmp rfl _ _ (w.heap.size) 35 (vls 178 (clw (fun _ => 0) 0)) (0, 0) _ rfl (ky.out.v in0) Try.underlying35 rfl (by rw [vls_size]; exact info_col)) rfl ⟨rfl, ky.out.1⟩
        · obtain ⟨_, rfl⟩ := HR1.out.1 g1
          obtain ⟨_, rfl⟩ := HR2.out.1 g2
          have G3 := hid g3
          clear hm g1 g2 g3 HR1 HR2
          go_wp2_with fail
          refine (sAirOk_f _ _ vA.out G3.out _ gA 32 gAt.out).mono ?_
          rintro e w7 ⟨rfl, hb7⟩
          replace kz := hid (kz.out.stay hb7)
          have tok31 : True := trivial
          go_wp2_with (have _t := tok31; refine store_row (by rfl) 35 _ _ (by rfl) (w.heap.size) (vls 178 (clw (fun _ => 0) 0)) (vls 178 (clw (fun _ => 0) 0)) (by rfl) (by rfl) kz.out (by rw [vls_size]; exact info_col) (by simp) (vls_one (clw_one _ _)) (Nat.le_refl _) ne0 ?_; intro xky ky; replace ky := hid ky; clear kz tok31)
          exact bodyPost_ret (results_row_tmp rfl _ _ (w.heap.size) 35 (vls 178 (clw (fun _ => 0) 0)) (0, 0) _ rfl (ky.out.v in0) Try.underlying35 rfl (by rw [vls_size]; exact info_col)) rfl ⟨rfl, ky.out.1⟩
        · obtain ⟨_, rfl⟩ := HR1.out.1 g1
          obtain ⟨_, rfl⟩ := HR2.out.1 g2
          have G3 := hid g3
          have G4 := hid g4
          clear hm g1 g2 g3 g4 HR1 HR2
          go_wp2_with fail
          refine (sAirOk_t _ _ G3.out _ gA 32 gAt.out).mono ?_
          rintro e w7 ⟨rfl, rfl⟩
          go_wp2_with fail
          refine (sAirOk_f _ _ vB.out G4.out _ gB 32 gBt.out).mono ?_
          rintro e w8 ⟨rfl, hb8⟩
          replace kz := hid (kz.out.stay hb8)
          have tok31 : True := trivial
          go_wp2_with (have _t := tok31; refine store_row (by rfl) 35 _ _ (by rfl) (w.heap.size) (vls 178 (clw (fun _ => 0) 0)) (vls 178 (clw (fun _ => 0) 0)) (by rfl) (by rfl) kz.out (by rw [vls_size]; exact info_col) (by simp) (vls_one (clw_one _ _)) (Nat.le_refl _) ne0 ?_; intro xky ky; replace ky := hid ky; clear kz tok31)
          exact bodyPost_ret (results_row_tmp rfl _ _ (w.heap.size) 35 (vls 178 (clw (fun _ => 0) 0)) (0, 0) _ rfl (ky.out.v in0) Try.underlying35 rfl (by rw [vls_size]; exact info_col)) rfl ⟨rfl, ky.out.1⟩
    · obtain rfl : k = 7 := by omega
      obtain rfl : K = 7 := by have := HK.out; omega
      have hr := HR.out
      rw [if_pos rfl] at hr
      obtain ⟨rfl, rfl, rfl⟩ := hr
      have h4 : ¬ (((7 : Nat) : Int) + 1 < 8) := by omega
      have hC : ColOk (sxS c x 7) s := stir_ok HX.out HC.out (by omega) HM.out
      have hL := lt_stir HX.out HB.out HC.out (Nat.le_refl 7) HM.out
      have HS := hid (fun w1 hg => sMadeC_t (sxS c x 7) s hL hC w1 (w.heap.size + 1) 35 hg)
      clear hC hL hk hk7 hlt HR
      go_wp2_with fail
      refine (HS.out _ (h0.out.v in0)).mono ?_
      rintro e w3 ⟨rfl, hb3⟩
      have kz := hid ((h0.out.stay hb3).tail)
      have tok31 : True := trivial
      go_wp2_with (have _t := tok31; refine store_row (by rfl) 35 _ _ (by rfl) (w.heap.size) (vls 178 (clw (sxS c x 7) s)) (vls 178 (clw (fun _ => 0) 0)) (by rfl) (by rfl) kz.out (by rw [vls_size]; exact info_col) (by simp) (vls_one (clw_one _ _)) (Nat.le_refl _) ne0 ?_; intro xky ky; replace ky := hid ky; clear kz tok31)
      exact bodyPost_ret (results_row_tmp rfl _ _ (w.heap.size) 35 (vls 178 (clw (sxS c x 7) s)) (0, 0) _ rfl (ky.out.v in0) Try.underlying35 rfl (by rw [vls_size]; exact info_col)) rfl ⟨rfl, ky.out.1⟩

theorem words_cons : ∀ (v : List Char) (r : List Char), (∀ c ∈ v, c ≠ Char.ofNat 32) → wordsSigns (v ++ Char.ofNat 32 :: r) = v :: wordsSigns r
  | [], r, _ => rfl
  | c :: v, r, h => by
    have ih := words_cons v r (fun x hx => h x (by simp [hx]))
    have hc : c ≠ Char.ofNat 32 := h c (by simp)
    show wordsSigns (c :: (v ++ Char.ofNat 32 :: r)) = _
    rw [wordsSigns.eq_3 _ _ (fun e => hc e), ih]

def w0 : List Nat := [104, 97, 114, 110, 101, 115, 115]

def w1 : List Nat := [99, 51, 54, 52, 56, 54, 53, 52, 51, 50, 97, 52, 52, 52, 101, 99, 51, 56, 52, 98, 48, 52, 50, 55, 102, 100, 102, 49, 49, 55, 52, 48, 49, 99, 100, 49, 50, 50, 97, 52, 51, 53, 50, 98, 56, 101, 57, 52, 97, 56, 99, 57, 48, 99, 56, 52, 55, 98, 97, 55, 52, 57, 50, 101]

def w2 : List Nat := [99, 117, 116]

def w3 : List Nat := [97, 116, 32, 108, 111, 111, 112, 46, 101, 120, 97, 109, 112, 108, 101, 47, 103, 48, 49, 50, 50, 52, 47, 108, 97, 119, 115, 46, 70, 110, 69, 120, 97, 99, 116, 83, 116, 105, 114, 67, 111, 108, 117, 109, 110, 32, 108, 111, 111, 112, 46, 101, 120, 97, 109, 112, 108, 101, 47, 103, 48, 49, 50, 50, 52, 47, 108, 97, 119, 115, 46, 70, 110, 69, 120, 97, 99, 116, 71, 114, 111, 119, 79, 110, 99, 101, 32, 108, 111, 111, 112, 46, 101, 120, 97, 109, 112, 108, 101, 47, 103, 48, 49, 50, 50, 52, 47, 108, 97, 119, 115, 46, 70, 110, 69, 120, 97, 99, 116, 71, 114, 111, 119, 83, 116, 101, 112, 115, 32, 108, 111, 111, 112, 46, 101, 120, 97, 109, 112, 108, 101, 47, 103, 48, 49, 50, 50, 52, 47, 108, 97, 119, 115, 46, 70, 110, 69, 120, 97, 99, 116, 83, 116, 101, 112, 115, 84, 111, 68, 114, 121, 32, 108, 111, 111, 112, 46, 101, 120, 97, 109, 112, 108, 101, 47, 103, 48, 49, 50, 50, 52, 47, 108, 97, 119, 115, 46, 70, 110, 69, 120, 97, 99, 116, 71, 114, 111, 119, 67, 111, 108, 117, 109, 110, 32, 108, 111, 111, 112, 46, 101, 120, 97, 109, 112, 108, 101, 47, 103, 48, 49, 50, 50, 52, 47, 108, 97, 119, 115, 46, 70, 110, 69, 120, 97, 99, 116, 86, 97, 108, 105, 100, 68, 101, 101, 100, 32, 108, 111, 111, 112, 46, 101, 120, 97, 109, 112, 108, 101, 47, 103, 48, 49, 50, 50, 52, 47, 108, 97, 119, 115, 46, 70, 110, 69, 120, 97, 99, 116, 67, 111, 108, 108, 105, 100, 101, 80, 97, 105, 114, 115, 32, 108, 111, 111, 112, 46, 101, 120, 97, 109, 112, 108, 101, 47, 103, 48, 49, 50, 50, 52, 47, 108, 97, 119, 115, 46, 70, 110, 69, 120, 97, 99, 116, 83, 116, 101, 97, 100, 121, 83, 111, 117, 110, 100, 105, 110, 103, 32, 108, 111, 111, 112, 46, 101, 120, 97, 109, 112, 108, 101, 47, 103, 48, 49, 50, 50, 52, 47, 108, 97, 119, 115, 46, 70, 110, 69, 120, 97, 99, 116, 82, 105, 115, 101, 73, 110, 32, 108, 111, 111, 112, 46, 101, 120, 97, 109, 112, 108, 101, 47, 103, 48, 49, 50, 50, 52, 47, 108, 97, 119, 115, 46, 70, 110, 69, 120, 97, 99, 116, 84, 104, 105, 114, 100, 82, 111, 111, 116]

def letters (l : List Nat) : List Char := l.map Char.ofNat

theorem head_reads : Try.prog.initOrder = String.ofList (letters w0 ++ Char.ofNat 32 :: (letters w1 ++ Char.ofNat 32 :: (letters w2 ++ Char.ofNat 32 :: letters w3))) := by kernel_rfl

theorem no_blank {l : List Nat} (h : l.all (fun n => Char.ofNat n != Char.ofNat 32) = true) : ∀ c ∈ letters l, c ≠ Char.ofNat 32 := by
  intro c hc
  obtain ⟨n, hn, rfl⟩ := List.mem_map.1 hc
  have := List.all_eq_true.1 h n hn
  simpa using this

theorem h0 : letters w0 = "harness".toList := by kernel_rfl

theorem h2 : letters w2 = "cut".toList := by kernel_rfl

theorem sums : isSumSigns (letters w1) = true := by kernel_rfl

theorem words : wordsSigns Try.prog.initOrder.toList = "harness".toList :: letters w1 :: "cut".toList :: wordsSigns (letters w3) := by
  rw [head_reads, String.toList_ofList, words_cons _ _ (no_blank (by decide +kernel)), words_cons _ _ (no_blank (by decide +kernel)), words_cons _ _ (no_blank (by decide +kernel)), h0, h2]

theorem behind : ∃ r, behindMainWord (wordsSigns Try.prog.initOrder.toList) = "cut".toList :: r := by
  refine ⟨wordsSigns (letters w3), ?_⟩
  rw [words]
  generalize wordsSigns (letters w3) = r
  have hs := sums
  generalize letters w1 = v at hs
  unfold behindMainWord
  simp [hs]

theorem not_later : Try.prog.laysLater = false := by kernel_rfl

theorem no_reflect : Try.prog.bearsReflect = false := by kernel_rfl

theorem no_doors : Try.prog.doorFits [] = true := by kernel_rfl

theorem strips (r : List (List Char)) : stripLifts liftWords ("cut".toList :: r) = ([], "cut".toList :: r) := by kernel_rfl

theorem may_enter_of (P : Program) (r : List (List Char)) (h : behindMainWord (wordsSigns P.initOrder.toList) = "cut".toList :: r) (h1 : P.laysLater = false) (h2 : P.bearsReflect = false) (h3 : P.doorFits [] = true) : P.mayEnter = true := by
  unfold Program.mayEnter
  rw [h]
  dsimp only
  rw [strips, h1, h2, h3]
  kernel_rfl

theorem lifts_final_of (P : Program) (r : List (List Char)) (h : behindMainWord (wordsSigns P.initOrder.toList) = "cut".toList :: r) : P.liftsFinal = false := by
  unfold Program.liftsFinal Program.headLifts
  rw [h]
  dsimp only
  rw [strips]
  kernel_rfl

theorem made_of (P : Program) (r : List (List Char)) (h : behindMainWord (wordsSigns P.initOrder.toList) = "cut".toList :: r) : P.make = some .cut := by
  unfold Program.make
  rw [h]
  kernel_rfl

theorem may_enter : Try.prog.mayEnter = true := let ⟨r, h⟩ := behind; may_enter_of _ r h not_later no_reflect no_doors

theorem lifts_final : Try.prog.liftsFinal = false := let ⟨r, h⟩ := behind; lifts_final_of _ r h

theorem made : Try.prog.make = some .cut := let ⟨r, h⟩ := behind; made_of _ r h

theorem laid : laidOutB Try.prog = true := by kernel_rfl

theorem rowed : mapsRowed Try.prog = true := by kernel_rfl

theorem no_stops : Try.prog.stops = [] := by kernel_rfl

theorem no_knobs : Try.prog.stopKnobs = [] := by kernel_rfl

theorem plain_keys : Try.prog.plainKeys = false := by kernel_rfl

theorem stops_heard : Try.prog.stopsHeard = true := by kernel_rfl

theorem arr2 {α : Type} {cs : Array α} (h : cs.size = 2) : ∃ c0 c1, cs = #[c0, c1] := by
  obtain ⟨l⟩ := cs
  match l, h with
  | [a, b], _ => exact ⟨a, b, rfl⟩

theorem own : ownKnob Try.prog.godebug = none := by kernel_rfl

theorem rdf : Try.prog.readableRec 22 = true ∧ 22 < Try.prog.types.size := ⟨by kernel_rfl, of_decide_eq_true (by kernel_rfl)⟩

theorem cells178 : Try.prog.cellsOf 29 = 178 := by kernel_rfl

theorem types178 : Try.prog.cellTypes Try.prog.depth 29 = some (List.replicate 177 22 ++ [2]) := by kernel_rfl

theorem rdc : Try.prog.readableRec 29 = true ∧ 29 < Try.prog.types.size := ⟨by kernel_rfl, of_decide_eq_true (by kernel_rfl)⟩
end Go.Proofs.Ythpimindkmmkjaa
