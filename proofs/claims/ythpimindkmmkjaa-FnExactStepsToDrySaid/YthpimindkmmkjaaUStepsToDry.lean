import Derived.Test.YthpimindkmmkjaaVStepsToDry
import Derived.Test.YthpimindkmmkjaaCStepsToDry
import Derived.Test.YthpimindkmmkjaaChecked
import Derived.Test.YthpimindkmmkjaaRows
import Derived.Laws.FloatArith
import Derived.ProofKit
import Derived.WalkKit
import Derived.WalkLawsBesides
import Derived.WalkSpells
import Derived.Deep.QuietTactic
import Derived.BigQuiet
import Derived.Deep.RegionHeld3
import Derived.ChangeKeysEq
import Derived.Laws.BitsAllLaws
import Derived.Deep.MidRow
import Derived.Deep.WholeRow
import Derived.StillTailTactics
import Derived.Deep.Slices
import Derived.ChangeSame
import Derived.OrdersIn
import Derived.ControlIn
import Derived.RangeFuncSeq
import Derived.RangeFuncNested
import Derived.ArgAppend
import Derived.OwnWalkIn
import Derived.TacticsInMore
import Derived.Below
import Derived.Laws.AppendOwn
import Derived.RangeFuncLeaves
import Derived.RangeFuncBox
import Derived.MapKept
import Derived.StillTail
import Derived.Carry
import Derived.Shelf.Abstract
import Derived.OpenShut
/- The law FnExactStepsToDry of chapter 1: at every argument the call returns true, and what was there before it is as it was. -/
namespace Go.Proofs.Ythpimindkmmkjaa
open Go.RowKit Go.Fl

set_option maxRecDepth 100000 in
theorem iCheckG_bad1 (c : Nat → Nat) (h v t : Nat) (n : Int) (hw : ∀ i, i < 20 → c i < 4294967296) (hc : ¬ Amts c) (w : World) :
    Calls Try.prog 69 #[.agg (fls c), .agg #[.float .f32 h, .float .f32 v], .float .f32 t, .int .i64 n] w fun e w' => e = .returned (.int .i64 1) ∧ Below w.heap.size w w' := by
  have k0 : Hid (Kept w [(w.heap.size + 1, #[.float .f32 h, .float .f32 v], 32), (w.heap.size, fls c, 30)] ((w.alloc (.cells (fls c) 30)).alloc (.cells #[.float .f32 h, .float .f32 v] 32))) := hid ((((Kept.nil w).push _ _).push _ _).sub (by simp))
  have H1 := hid (validSizes_f c hw hc)
  clear hc hw
  go_enter Try.func69, Try.ntmps69
  go_wp2_with (refine wpList_load_row rfl 30 _ rfl (w.heap.size) rfl 30 (fls c) (0, 0) _ (k0.out.at (x := (w.heap.size, fls c, 30)) in1) Try.underlying30 rfl (by rw [fls_size]; exact info_arr) ?_)
  refine (H1.out _).mono ?_
  rintro e w1 ⟨rfl, hb1⟩
  have k1 := hid (k0.out.stay hb1)
  clear k0 hb1
  go_wp2
  go_ret
  exact ⟨rfl, k1.out.1⟩

set_option maxRecDepth 100000 in
theorem iCheckG_bad2 (c : Nat → Nat) (h v t : Nat) (n : Int) (hc : Amts c) (hv : v < 4294967296) (hq : airB h v = false) (w : World) :
    Calls Try.prog 69 #[.agg (fls c), .agg #[.float .f32 h, .float .f32 v], .float .f32 t, .int .i64 n] w fun e w' => e = .returned (.int .i64 1) ∧ Below w.heap.size w w' := by
  have k0 : Hid (Kept w [(w.heap.size + 1, #[.float .f32 h, .float .f32 v], 32), (w.heap.size, fls c, 30)] ((w.alloc (.cells (fls c) 30)).alloc (.cells #[.float .f32 h, .float .f32 v] 32))) := hid ((((Kept.nil w).push _ _).push _ _).sub (by simp))
  have H1 := hid (validSizes_t c hc)
  have HV := hid (iValidAir h v hv false hq)
  clear hc hv hq
  go_enter Try.func69, Try.ntmps69
  go_wp2_with (refine wpList_load_row rfl 30 _ rfl (w.heap.size) rfl 30 (fls c) (0, 0) _ (k0.out.at (x := (w.heap.size, fls c, 30)) in1) Try.underlying30 rfl (by rw [fls_size]; exact info_arr) ?_)
  refine (H1.out _).mono ?_
  rintro e w1 ⟨rfl, hb1⟩
  have k1 := hid (k0.out.stay hb1)
  clear k0 hb1
  go_wp2_with (refine wpList_load_g rfl 32 _ rfl (w.heap.size + 1) rfl 32 (#[.float .f32 h, .float .f32 v]) (0, 0) _ (k1.out.at (x := (w.heap.size + 1, #[.float .f32 h, .float .f32 v], 32)) in0) Try.underlying32 rfl (info_air) ?_)
  refine (HV.out _).mono ?_
  rintro e w2 ⟨rfl, hb2⟩
  have k2 := hid (k1.out.stay hb2)
  clear k1 hb2
  go_wp2
  go_ret
  exact ⟨rfl, k2.out.1⟩

set_option maxRecDepth 100000 in
theorem iCheckG_bad3 (c : Nat → Nat) (h v t : Nat) (n : Int) (hc : Amts c) (hv : v < 4294967296) (hq : airB h v = true) (hl : t < 4294967296) (ht : amtB t = false) (w : World) :
    Calls Try.prog 69 #[.agg (fls c), .agg #[.float .f32 h, .float .f32 v], .float .f32 t, .int .i64 n] w fun e w' => e = .returned (.int .i64 2) ∧ Below w.heap.size w w' := by
  have k0 : Hid (Kept w [(w.heap.size + 1, #[.float .f32 h, .float .f32 v], 32), (w.heap.size, fls c, 30)] ((w.alloc (.cells (fls c) 30)).alloc (.cells #[.float .f32 h, .float .f32 v] 32))) := hid ((((Kept.nil w).push _ _).push _ _).sub (by simp))
  have H1 := hid (validSizes_t c hc)
  have HV := hid (iValidAir h v hv true hq)
  have HL := hid hl
  have HT := hid ht
  clear hc hv hq hl ht
  go_enter Try.func69, Try.ntmps69
  go_wp2_with (refine wpList_load_row rfl 30 _ rfl (w.heap.size) rfl 30 (fls c) (0, 0) _ (k0.out.at (x := (w.heap.size, fls c, 30)) in1) Try.underlying30 rfl (by rw [fls_size]; exact info_arr) ?_)
  refine (H1.out _).mono ?_
  rintro e w1 ⟨rfl, hb1⟩
  have k1 := hid (k0.out.stay hb1)
  clear k0 hb1
  go_wp2_with (refine wpList_load_g rfl 32 _ rfl (w.heap.size + 1) rfl 32 (#[.float .f32 h, .float .f32 v]) (0, 0) _ (k1.out.at (x := (w.heap.size + 1, #[.float .f32 h, .float .f32 v], 32)) in0) Try.underlying32 rfl (info_air) ?_)
  refine (HV.out _).mono ?_
  rintro e w2 ⟨rfl, hb2⟩
  have k2 := hid (k1.out.stay hb2)
  clear k1 hb2
  go_wp2_with fail
  refine (isAmount_f t HL.out HT.out _).mono ?_
  rintro e w3 ⟨rfl, hb3⟩
  have k3 := hid (k2.out.stay hb3)
  clear hb3
  go_wp2
  go_ret
  exact ⟨rfl, k3.out.1⟩

set_option maxRecDepth 100000 in
theorem iCheckG_neg (c : Nat → Nat) (h v t : Nat) (n : Int) (hc : Amts c) (hv : v < 4294967296) (hq : airB h v = true) (ht : amtB t = true) (hn : n < 0) (w : World) :
    Calls Try.prog 69 #[.agg (fls c), .agg #[.float .f32 h, .float .f32 v], .float .f32 t, .int .i64 n] w fun e w' => e = .returned (.int .i64 2) ∧ Below w.heap.size w w' := by
  have k0 : Hid (Kept w [(w.heap.size + 1, #[.float .f32 h, .float .f32 v], 32), (w.heap.size, fls c, 30)] ((w.alloc (.cells (fls c) 30)).alloc (.cells #[.float .f32 h, .float .f32 v] 32))) := hid ((((Kept.nil w).push _ _).push _ _).sub (by simp))
  have H1 := hid (validSizes_t c hc)
  have HV := hid (iValidAir h v hv true hq)
  have HT := hid ht
  clear hc hv hq ht
  go_enter Try.func69, Try.ntmps69
  go_wp2_with (refine wpList_load_row rfl 30 _ rfl (w.heap.size) rfl 30 (fls c) (0, 0) _ (k0.out.at (x := (w.heap.size, fls c, 30)) in1) Try.underlying30 rfl (by rw [fls_size]; exact info_arr) ?_)
  refine (H1.out _).mono ?_
  rintro e w1 ⟨rfl, hb1⟩
  have k1 := hid (k0.out.stay hb1)
  clear k0 hb1
  go_wp2_with (refine wpList_load_g rfl 32 _ rfl (w.heap.size + 1) rfl 32 (#[.float .f32 h, .float .f32 v]) (0, 0) _ (k1.out.at (x := (w.heap.size + 1, #[.float .f32 h, .float .f32 v], 32)) in0) Try.underlying32 rfl (info_air) ?_)
  refine (HV.out _).mono ?_
  rintro e w2 ⟨rfl, hb2⟩
  have k2 := hid (k1.out.stay hb2)
  clear k1 hb2
  go_wp2_with fail
  refine (isAmount_t t HT.out _).mono ?_
  rintro e w3 ⟨rfl, rfl⟩
  go_wp2
  go_ret
  exact ⟨rfl, k2.out.1⟩

set_option maxRecDepth 100000 in
theorem iCheckG_big (c : Nat → Nat) (h v t : Nat) (n : Int) (hc : Amts c) (hv : v < 4294967296) (hq : airB h v = true) (ht : amtB t = true) (h0 : ¬ n < 0) (hn : 200 < n) (w : World) :
    Calls Try.prog 69 #[.agg (fls c), .agg #[.float .f32 h, .float .f32 v], .float .f32 t, .int .i64 n] w fun e w' => e = .returned (.int .i64 2) ∧ Below w.heap.size w w' := by
  have k0 : Hid (Kept w [(w.heap.size + 1, #[.float .f32 h, .float .f32 v], 32), (w.heap.size, fls c, 30)] ((w.alloc (.cells (fls c) 30)).alloc (.cells #[.float .f32 h, .float .f32 v] 32))) := hid ((((Kept.nil w).push _ _).push _ _).sub (by simp))
  have H1 := hid (validSizes_t c hc)
  have HV := hid (iValidAir h v hv true hq)
  have HT := hid ht
  clear hc hv hq ht
  go_enter Try.func69, Try.ntmps69
  go_wp2_with (refine wpList_load_row rfl 30 _ rfl (w.heap.size) rfl 30 (fls c) (0, 0) _ (k0.out.at (x := (w.heap.size, fls c, 30)) in1) Try.underlying30 rfl (by rw [fls_size]; exact info_arr) ?_)
  refine (H1.out _).mono ?_
  rintro e w1 ⟨rfl, hb1⟩
  have k1 := hid (k0.out.stay hb1)
  clear k0 hb1
  go_wp2_with (refine wpList_load_g rfl 32 _ rfl (w.heap.size + 1) rfl 32 (#[.float .f32 h, .float .f32 v]) (0, 0) _ (k1.out.at (x := (w.heap.size + 1, #[.float .f32 h, .float .f32 v], 32)) in0) Try.underlying32 rfl (info_air) ?_)
  refine (HV.out _).mono ?_
  rintro e w2 ⟨rfl, hb2⟩
  have k2 := hid (k1.out.stay hb2)
  clear k1 hb2
  go_wp2_with fail
  refine (isAmount_t t HT.out _).mono ?_
  rintro e w3 ⟨rfl, rfl⟩
  go_wp2
  go_ret
  exact ⟨rfl, k2.out.1⟩

set_option maxRecDepth 100000 in
theorem iCheckG_ok (c : Nat → Nat) (h v t : Nat) (n : Int) (hc : Amts c) (hv : v < 4294967296) (hq : airB h v = true) (ht : amtB t = true) (h0 : ¬ n < 0) (hn : ¬ 200 < n) (w : World) :
    Calls Try.prog 69 #[.agg (fls c), .agg #[.float .f32 h, .float .f32 v], .float .f32 t, .int .i64 n] w fun e w' => e = .returned (.int .i64 0) ∧ Below w.heap.size w w' := by
  have k0 : Hid (Kept w [(w.heap.size + 1, #[.float .f32 h, .float .f32 v], 32), (w.heap.size, fls c, 30)] ((w.alloc (.cells (fls c) 30)).alloc (.cells #[.float .f32 h, .float .f32 v] 32))) := hid ((((Kept.nil w).push _ _).push _ _).sub (by simp))
  have H1 := hid (validSizes_t c hc)
  have HV := hid (iValidAir h v hv true hq)
  have HT := hid ht
  clear hc hv hq ht
  go_enter Try.func69, Try.ntmps69
  go_wp2_with (refine wpList_load_row rfl 30 _ rfl (w.heap.size) rfl 30 (fls c) (0, 0) _ (k0.out.at (x := (w.heap.size, fls c, 30)) in1) Try.underlying30 rfl (by rw [fls_size]; exact info_arr) ?_)
  refine (H1.out _).mono ?_
  rintro e w1 ⟨rfl, hb1⟩
  have k1 := hid (k0.out.stay hb1)
  clear k0 hb1
  go_wp2_with (refine wpList_load_g rfl 32 _ rfl (w.heap.size + 1) rfl 32 (#[.float .f32 h, .float .f32 v]) (0, 0) _ (k1.out.at (x := (w.heap.size + 1, #[.float .f32 h, .float .f32 v], 32)) in0) Try.underlying32 rfl (info_air) ?_)
  refine (HV.out _).mono ?_
  rintro e w2 ⟨rfl, hb2⟩
  have k2 := hid (k1.out.stay hb2)
  clear k1 hb2
  go_wp2_with fail
  refine (isAmount_t t HT.out _).mono ?_
  rintro e w3 ⟨rfl, rfl⟩
  go_wp2
  go_ret
  exact ⟨rfl, k2.out.1⟩

theorem per4 {α : Type} (a b c d : α) : ∀ x ∈ [c, b, a, d], x ∈ [a, b, c, d] := fun x hx => by
  simp only [List.mem_cons, List.not_mem_nil, or_false] at hx ⊢
  rcases hx with h | h | h | h
  · exact .inr (.inr (.inl h))
  · exact .inr (.inl h)
  · exact .inl h
  · exact .inr (.inr (.inr h))

theorem newG_q (t B : Nat) (wd : World) (kb : B < wd.heap.size) : Calls Try.prog 72 #[.float .f32 t] wd fun e w' => ∃ v, (∃ r, v = .agg #[.float .f32 t, .map (some r)] ∧ B < r ∧ r < w'.heap.size ∧ MapOf satF IsHeat w' r) ∧ e = .returned v ∧ Below wd.heap.size wd w' := by
  refine (iNewG t wd).mono ?_
  rintro e w' ⟨rfl, hb, hm⟩
  have h2 : wd.heap.size + 1 < w'.heap.size := by obtain ⟨_, _, hx, _⟩ := hm; exact lt_of_block hx
  exact ⟨_, ⟨_, rfl, by omega, h2, hm⟩, rfl, hb⟩

theorem stepsG_q (t r : Nat) (c : Nat → Nat) (h v N : Nat) (w4 : World) : Calls Try.prog 73 #[.agg #[.float .f32 t, .map (some r)], .agg (fls c), .agg #[.float .f32 h, .float .f32 v], .int .i64 (N : Int)] w4 fun e w' =>
    ∃ v9, (∃ q0, v9 = .func (.func 128) #[] #[.pointer (some ⟨q0 + 1, 0, none⟩), .pointer (some ⟨q0 + 1 + 1, 0, none⟩), .pointer (some ⟨q0 + 1 + 1 + 1, 0, none⟩), .pointer (some ⟨q0, 0, none⟩)] ∧ w4.heap.size = q0 ∧ Kept w4 [(q0 + 1 + 1 + 1, #[.int .i64 (N : Int)], 2), (q0 + 1 + 1, #[.float .f32 h, .float .f32 v], 32), (q0 + 1, fls c, 30), (q0, #[.float .f32 t, .map (some r)], 122)] w') ∧ e = .returned v9 ∧ Below w4.heap.size w4 w' := by
  refine (iStepsG t r c h v (N : Int) w4).mono ?_
  rintro e w' ⟨rfl, k⟩
  exact ⟨_, ⟨_, rfl, rfl, k⟩, rfl, k.1⟩

/-- Whether there are no droplets. -/
def DryC (c : Nat → Nat) : Prop := sumF c 19 = 0

set_option maxRecDepth 100000 in
theorem iIsDry (c : Nat → Nat) (h : Amts c) (q : Bool) (hq : q = true ↔ DryC c) (w : World) :
    Calls Try.prog 75 #[.agg (fls c)] w fun e w' => e = .returned (.bool q) ∧ Below w.heap.size w w' := by
  have hn : nnB (sumF c 19) = true := sumF_nn 19 (fun i hi => amt_nn (h i (by omega)))
  have k0 : Hid (Kept w [(w.heap.size, fls c, 30)] (w.alloc (.cells (fls c) 30))) := hid ((Kept.nil w).push _ _)
  have H := hid h
  have HQ := hid hq
  have HN := hid hn
  clear h hq hn
  rcases hf : finB (sumF c 19) with _ | _
  · have ht := told_f hf
    have hC := fun w => iCountOf_ok c H.out w
    rw [ht] at hC
    have HC := hid hC
    have e : q = false := by
      rw [← Bool.not_eq_true]
      intro x
      have := HQ.out.1 x
      unfold DryC at this
      rw [this] at hf
      cases hf
    subst e
    clear hC ht hf HQ HN
    go_enter Try.func75, Try.ntmps75
    go_wp2_with (first | (refine wpList_load_row rfl 30 _ rfl (w.heap.size) rfl 30 (fls c) (0, 0) _ (k0.out.at (x := (w.heap.size, fls c, 30)) in0) Try.underlying30 rfl (by rw [fls_size]; exact info_arr) ?_))
    refine (HC.out _).mono ?_
    rintro e w1 ⟨rfl, hb1⟩
    have k1 := hid (k0.out.stay hb1)
    clear k0 hb1
    go_wp2
    go_ret
    exact ⟨rfl, k1.out.1⟩
  · have ht := told_t hf
    have hC := fun w => iCountOf_ok c H.out w
    rw [ht] at hC
    have HC := hid hC
    have hx : sumF c 19 < INF := by
      have h1 := HN.out
      have h2 := hf
      rw [nnB_iff] at h1
      rcases Nat.lt_or_ge (sumF c 19) INF with x | x
      · exact x
      · have e : sumF c 19 = INF := by omega
        rw [e] at h2
        cases h2
    have ho : FloatKind.f32.format.order (sumF c 19) 0 = some (compare (sumF c 19) 0) := order_zero_pos hx
    have hq2 : q = (FloatKind.f32.format.order (sumF c 19) 0 == some .eq) := by
      rw [ho]
      by_cases e : sumF c 19 = 0
      · have := HQ.out.2 e
        rw [this, e]
        rfl
      · have : q = false := by
          rw [← Bool.not_eq_true]
          exact fun x => e (HQ.out.1 x)
        rw [this]
        symm
        have : compare (sumF c 19) 0 = .gt := Nat.compare_eq_gt.2 (by omega)
        rw [this]
        rfl
    have HO := hid hq2
    clear hC ht hf hx ho hq2 HQ HN
    revert HC HO
    generalize sumF c 19 = x
    intro HC HO
    go_enter Try.func75, Try.ntmps75
    go_wp2_with (first | (refine wpList_load_row rfl 30 _ rfl (w.heap.size) rfl 30 (fls c) (0, 0) _ (k0.out.at (x := (w.heap.size, fls c, 30)) in0) Try.underlying30 rfl (by rw [fls_size]; exact info_arr) ?_))
    refine (HC.out _).mono ?_
    rintro e w1 ⟨rfl, hb1⟩
    have k1 := hid (k0.out.stay hb1)
    clear k0 hb1
    go_wp2
    go_ret
    refine ⟨?_, k1.out.1⟩
    rw [HO.out]
    rfl

set_option maxRecDepth 100000 in
set_option maxHeartbeats 1000000 in
theorem iCatchY_panic (n9 : Nat) (n : Int) (ga gc : Nat) (hac : ga ≠ gc) (m m2 : Int) (w : World) (k0 : HK (fun _ => True) w [(gc, #[.int .i64 m], 2), (ga, #[.int .i64 m2], 2)] w) :
    CallsDIn Fence.wide n9 Try.prog 76 #[.pointer (some ⟨ga, 0, none⟩), .pointer (some ⟨gc, 0, none⟩)] (.panicking [{ v := .iface 241 (.int .i64 n), recovered := false }]) w fun e u' w' =>
      e = .returned (.tuple #[]) ∧ u' = .panicking [{ v := .iface 241 (.int .i64 n), recovered := true }] ∧ HK (fun _ => True) w [(gc, #[.int .i64 n], 2), (ga, #[.int .i64 0], 2)] w' ∧ Keeps (fun k => k = ga ∨ k = gc) w w' := by
  have hne : ∀ w : World, (binOp .neq 20 (.iface 241 (.int .i64 n)) .nilIface).run Try.prog w = .ok (.bool true) w := fun _ => by kernel_rfl
  have K0 := hid k0
  have N3 := hid hac
  clear k0 hac
  refine callsDIn_of_wpS n9 Try.func76 rfl fun c₀ cs hu => ?_
  apply wpS_seq
  apply wpS_region
  simp [wpOpsS, go_sem, recoverD, hu, Try.ntmps76, Exit.thenS]
  refine wpS_of_wp ?_
  simp only [Array.replicate, List.setIfInBounds_toArray, List.replicate, List.set_cons_zero, List.set_cons_succ, List.append_toArray, List.cons_append, List.nil_append]
  go_wp2_with fail
  refine (iCodeOfS n _).mono ?_
  rintro e w1 ⟨rfl, rfl⟩
  have q0 := hid (Keeps.refl (fun k => k = ga ∨ k = gc) w)
  have tok1 : True := trivial
  go_wp2_with (first | (have _t := tok1; clear tok1; refine store_cellE 2 (by rfl) 2 _ _ (by rfl) ga (.int .i64 0) (.int .i64 m2) (by rfl) (by rfl) (K0.out.at (x := (ga, #[.int .i64 m2], 2)) in1) (by kernel_rfl) (by rfl) (by rfl) (fun w4 e4 => ?_); have X4 := hid (e4 ▸ ((K0.out.sub (l' := [(ga, #[.int .i64 m2], 2), (gc, #[.int .i64 m], 2)]) (swap2 _ _)).cell1 (neC N3.out.symm ne0) (.int .i64 0))); have q4 := hid (e4 ▸ q0.out.trans (Keeps.setCell ⟨ga, 0, none⟩ _ (Or.inl rfl))); clear e4; have tok3 : True := trivial) | (have _t := tok3; clear tok3; refine store_cellE 2 (by rfl) 2 _ _ (by rfl) gc (.int .i64 n) (.int .i64 m) (by rfl) (by rfl) (X4.out.at (x := (gc, #[.int .i64 m], 2)) in1) (by kernel_rfl) (by rfl) (by rfl) (fun w5 e5 => ?_); have X5 := hid (e5 ▸ ((X4.out.sub (l' := [(gc, #[.int .i64 m], 2), (ga, #[.int .i64 0], 2)]) (swap2 _ _)).cell1 (neC N3.out ne0) (.int .i64 n))); have q5 := hid (e5 ▸ q4.out.trans (Keeps.setCell ⟨gc, 0, none⟩ _ (Or.inr rfl))); clear e5))
  exact ⟨rfl, _, rfl, .tuple #[], by simp [results, Try.results76], rfl, rfl, X5.out, q5.out⟩

theorem iCatchY_idle (n9 : Nat) (ga gc : Nat) (w : World) :
    CallsDIn Fence.wide n9 Try.prog 76 #[.pointer (some ⟨ga, 0, none⟩), .pointer (some ⟨gc, 0, none⟩)] .returning w fun e u' w' => e = .returned (.tuple #[]) ∧ u' = .returning ∧ w' = w := by
  have hne : ∀ w : World, (binOp .neq 20 .nilIface .nilIface).run Try.prog w = .ok (.bool false) w := fun _ => by kernel_rfl
  refine callsDIn_of_wpS n9 Try.func76 rfl fun c₀ cs hu => ?_
  apply wpS_seq
  apply wpS_region
  simp [wpOpsS, go_sem, recoverD, hu, Try.ntmps76, Exit.thenS]
  refine wpS_of_wp ?_
  simp only [Array.replicate, List.setIfInBounds_toArray, List.replicate, List.set_cons_zero, List.set_cons_succ, List.append_toArray, List.cons_append, List.nil_append]
  go_wp2
  exact ⟨rfl, .returning, by cases c₀; simp_all, .tuple #[], by simp [results, Try.results76], rfl, rfl, rfl⟩

set_option maxRecDepth 100000 in
set_option maxHeartbeats 1000000 in
theorem iDry_bad (c : Nat → Nat) (h v t : Nat) (m n : Int) (hn : n ≠ 0)
    (hc : ∀ w, Calls Try.prog 69 #[.agg (fls c), .agg #[.float .f32 h, .float .f32 v], .float .f32 t, .int .i64 m] w fun e w' => e = .returned (.int .i64 n) ∧ Below w.heap.size w w') (w : World) :
    Calls Try.prog 26 #[.agg (fls c), .agg #[.float .f32 h, .float .f32 v], .float .f32 t, .int .i64 m] w fun e w' =>
      e = .returned (.tuple #[.int .i64 0, .int .i64 n]) ∧ Below w.heap.size w w' := by
  have k0 : Hid (Kept w [(w.heap.size + 1 + 1 + 1, #[.int .i64 0], 2), (w.heap.size + 1 + 1, #[.int .i64 0], 2), (w.heap.size + 1, #[.float .f32 h, .float .f32 v], 32), (w.heap.size, fls c, 30)] ((((w.alloc (.cells (fls c) 30)).alloc (.cells #[.float .f32 h, .float .f32 v] 32)).alloc (.cells #[.int .i64 0] 2)).alloc (.cells #[.int .i64 0] 2))) := by
    have := (((((Kept.nil w).push (fls c) 30).push #[.float .f32 h, .float .f32 v] 32).push #[.int .i64 0] 2).push #[.int .i64 0] 2)
    simp only [World.size_alloc] at this
    exact hid this
  have HC := hid hc
  have HN := hn
  clear hc hn
  go_enter Try.func26, Try.ntmps26
  have tok1 : True := trivial
  go_wp2_with (first | (have _t := tok1; clear tok1; refine wpList_load_row (by rfl) 30 _ (by rfl) (w.heap.size) (by rfl) 30 (fls c) (0, 0) _ (k0.out.at (x := (w.heap.size, fls c, 30)) in3) Try.underlying30 (by rfl) (by rw [fls_size]; exact info_arr) ?_; have tok2 : True := trivial) | (have _t := tok2; clear tok2; refine wpList_load_row (by rfl) 32 _ (by rfl) (w.heap.size + 1) (by rfl) 32 (#[.float .f32 h, .float .f32 v]) (0, 0) _ (k0.out.at (x := (w.heap.size + 1, #[.float .f32 h, .float .f32 v], 32)) in2) Try.underlying32 (by rfl) (info_air) ?_))
  refine (HC.out _).mono ?_
  rintro e w1 ⟨rfl, hb1⟩
  have k1 := hid (k0.out.stay hb1)
  have tok1 : True := trivial
  clear k0 hb1 HC
  go_wp2_with (first | (have _t := tok1; clear tok1; refine store_cellE 2 (by rfl) 2 _ _ (by rfl) (w.heap.size + 1 + 1 + 1) (.int .i64 n) (.int .i64 0) (by rfl) (by rfl) (k1.out.at (x := (w.heap.size + 1 + 1 + 1, #[.int .i64 0], 2)) in0) (by kernel_rfl) (by rfl) (by rfl) (fun w2 e2 => ?_); have k2 := hid (e2 ▸ (k1.out.cell1 (by omega) (neC (by omega) (neC (by omega) (neC (by omega) ne0))) (.int .i64 n))); have c2 : w2.cell? ⟨w.heap.size + 1 + 1 + 1, 0, none⟩ = some (.int .i64 n) := k2.out.c in0; clear e2))
  clear c2
  refine region_act (w0 := w) (lk := [(w.heap.size + 1 + 1 + 1, #[.int .i64 n], 2), (w.heap.size + 1 + 1, #[.int .i64 0], 2), (w.heap.size + 1, #[.float .f32 h, .float .f32 v], 32), (w.heap.size, fls c, 30)]) (fun a0 a1 wq => a1 = a0.put (some 19) (.int .i64 n) ∧ Kept w [(w.heap.size + 1 + 1 + 1, #[.int .i64 n], 2), (w.heap.size + 1 + 1, #[.int .i64 0], 2), (w.heap.size + 1, #[.float .f32 h, .float .f32 v], 32), (w.heap.size, fls c, 30)] wq) 3 #[false, false, false] (by kernel_rfl) rfl rfl ?_ ?_
  · have kd := k2.out.drew
    generalize World.drew _ = wd at kd ⊢
    refine take_cell 0 _ _ (.int .i64 n) rfl (by rfl) (by kernel_rfl) (by kernel_rfl) (by kernel_rfl) (fun wq hS => by have hcell : wq.cell? ⟨w.heap.size + 1 + 1 + 1, 0, none⟩ = some (.int .i64 n) := hS.c in0; clear hS; unfold execOp; go_simp) rfl rfl kd ?_
    simp only [Act.put, List.setIfInBounds_toArray, List.set_cons_zero, List.set_cons_succ]
    refine wpAnyH_ready (rs := [1]) (by kernel_rfl) (by simp) ?_
    refine storeS1 1 _ rfl (by rfl) 2 _ _ rfl (.int .i64 0) rfl rfl (kd.at (x := (w.heap.size + 1 + 1, #[.int .i64 0], 2)) in1) (by kernel_rfl) rfl rfl rfl (fun w6 e6 => ?_) AllReadyH.nil
    have k6 := e6 ▸ (kd.swap.cell1 (by omega) (neC (by omega) (neC (by omega) (neC (by omega) ne0))) (.int .i64 0)).swap
    clear e6 kd
    refine ⟨k6, ?_⟩
    refine wpAnyH_ready (rs := [2]) (by kernel_rfl) (by simp) ?_
    refine storeS1 2 _ rfl (by rfl) 2 _ _ rfl (.int .i64 n) rfl rfl (k6.at (x := (w.heap.size + 1 + 1 + 1, #[.int .i64 n], 2)) in0) (by kernel_rfl) rfl rfl rfl (fun w7 e7 => ?_) AllReadyH.nil
    have k7 := e7 ▸ (k6.cell1 (by omega) (neC (by omega) (neC (by omega) (neC (by omega) ne0))) (.int .i64 n))
    clear e7 k6
    refine ⟨k7, ?_⟩
    refine wpAnyH_done (by kernel_rfl) ?_ _
    exact ⟨rfl, by simp only [Act.put], k7⟩
  rintro a1 w6 ⟨rfl, k6⟩
  have k6 := hid k6
  clear k2
  simp only [Act.put, List.setIfInBounds_toArray, List.set_cons_zero, List.set_cons_succ]
  go_wp2_with fail
  have e2 : (loadVar 2 ⟨w.heap.size + 1 + 1, 0, none⟩).run Try.prog w6 = .ok (.int .i64 0) w6 := by
    have c7 : World.cell? w6 ⟨w.heap.size + 1 + 1, 0, none⟩ = some (.int .i64 0) := k6.out.c in1
    clear k6
    simp [go_sem, c7]
  have e3 : (loadVar 2 ⟨w.heap.size + 1 + 1 + 1, 0, none⟩).run Try.prog w6 = .ok (.int .i64 n) w6 := by
    have c7 : World.cell? w6 ⟨w.heap.size + 1 + 1 + 1, 0, none⟩ = some (.int .i64 n) := k6.out.c in0
    clear e2 k6
    simp [go_sem, c7]
  refine ⟨rfl, .tuple #[.int .i64 0, .int .i64 n], ?_, rfl, k6.out.1⟩
  simp [results, Try.results26, asAddr, e2, e3, Sem.run_bind, Result.andThen_ok]

set_option maxRecDepth 100000 in
set_option maxHeartbeats 1000000 in
theorem iDry_now (c : Nat → Nat) (h v t : Nat) (m : Int) (hd : Amts c) (h0 : DryC c)
    (hc : ∀ w, Calls Try.prog 69 #[.agg (fls c), .agg #[.float .f32 h, .float .f32 v], .float .f32 t, .int .i64 m] w fun e w' => e = .returned (.int .i64 0) ∧ Below w.heap.size w w') (w : World) :
    Calls Try.prog 26 #[.agg (fls c), .agg #[.float .f32 h, .float .f32 v], .float .f32 t, .int .i64 m] w fun e w' =>
      e = .returned (.tuple #[.int .i64 0, .int .i64 0]) ∧ Below w.heap.size w w' := by
  have k0 : Hid (Kept w [(w.heap.size + 1 + 1 + 1, #[.int .i64 0], 2), (w.heap.size + 1 + 1, #[.int .i64 0], 2), (w.heap.size + 1, #[.float .f32 h, .float .f32 v], 32), (w.heap.size, fls c, 30)] ((((w.alloc (.cells (fls c) 30)).alloc (.cells #[.float .f32 h, .float .f32 v] 32)).alloc (.cells #[.int .i64 0] 2)).alloc (.cells #[.int .i64 0] 2))) := by
    have := (((((Kept.nil w).push (fls c) 30).push #[.float .f32 h, .float .f32 v] 32).push #[.int .i64 0] 2).push #[.int .i64 0] 2)
    simp only [World.size_alloc] at this
    exact hid this
  have HC := hid hc
  have HD := hid fun w => iIsDry c hd true ⟨fun _ => h0, fun _ => rfl⟩ w
  clear hc hd h0
  go_enter Try.func26, Try.ntmps26
  have tok1 : True := trivial
  go_wp2_with (first | (have _t := tok1; clear tok1; refine wpList_load_row (by rfl) 30 _ (by rfl) (w.heap.size) (by rfl) 30 (fls c) (0, 0) _ (k0.out.at (x := (w.heap.size, fls c, 30)) in3) Try.underlying30 (by rfl) (by rw [fls_size]; exact info_arr) ?_; have tok2 : True := trivial) | (have _t := tok2; clear tok2; refine wpList_load_row (by rfl) 32 _ (by rfl) (w.heap.size + 1) (by rfl) 32 (#[.float .f32 h, .float .f32 v]) (0, 0) _ (k0.out.at (x := (w.heap.size + 1, #[.float .f32 h, .float .f32 v], 32)) in2) Try.underlying32 (by rfl) (info_air) ?_))
  refine (HC.out _).mono ?_
  rintro e w1 ⟨rfl, hb1⟩
  have k1 := hid (k0.out.stay hb1)
  have tok1 : True := trivial
  clear k0 hb1 HC
  go_wp2_with (first | (have _t := tok1; clear tok1; refine store_cellE 2 (by rfl) 2 _ _ (by rfl) (w.heap.size + 1 + 1 + 1) (.int .i64 0) (.int .i64 0) (by rfl) (by rfl) (k1.out.at (x := (w.heap.size + 1 + 1 + 1, #[.int .i64 0], 2)) in0) (by kernel_rfl) (by rfl) (by rfl) (fun w2 e2 => ?_); have k2 := hid (e2 ▸ (k1.out.cell1 (by omega) (neC (by omega) (neC (by omega) (neC (by omega) ne0))) (.int .i64 0))); have c2 : w2.cell? ⟨w.heap.size + 1 + 1 + 1, 0, none⟩ = some (.int .i64 0) := k2.out.c in0; clear e2; have tok2 : True := trivial) | (have _t := tok2; clear tok2; refine wpList_load_row (by rfl) 30 _ (by rfl) (w.heap.size) (by rfl) 30 (fls c) (0, 0) _ (k2.out.at (x := (w.heap.size, fls c, 30)) in3) Try.underlying30 (by rfl) (by rw [fls_size]; exact info_arr) ?_))
  refine (HD.out _).mono ?_
  rintro e w3 ⟨rfl, hb3⟩
  have k3 := hid (k2.out.stay hb3)
  have tok1 : True := trivial
  clear k2 hb3 HD c2
  go_wp2_with (first | (have _t := tok1; clear tok1; refine store_cellE 2 (by rfl) 2 _ _ (by rfl) (w.heap.size + 1 + 1) (.int .i64 0) (.int .i64 0) (by rfl) (by rfl) (k3.out.at (x := (w.heap.size + 1 + 1, #[.int .i64 0], 2)) in1) (by kernel_rfl) (by rfl) (by rfl) (fun w4 e2 => ?_); have k4 := hid (e2 ▸ (k3.out.swap.cell1 (by omega) (neC (by omega) (neC (by omega) (neC (by omega) ne0))) (.int .i64 0)).swap); have c4 : w4.cell? ⟨w.heap.size + 1 + 1, 0, none⟩ = some (.int .i64 0) := k4.out.c in1; clear e2; have tok2 : True := trivial) | (have _t := tok2; clear tok2; refine store_cellE 2 (by rfl) 2 _ _ (by rfl) (w.heap.size + 1 + 1 + 1) (.int .i64 0) (.int .i64 0) (by rfl) (by rfl) (k4.out.at (x := (w.heap.size + 1 + 1 + 1, #[.int .i64 0], 2)) in0) (by kernel_rfl) (by rfl) (by rfl) (fun w5 e2 => ?_); have k5 := hid (e2 ▸ (k4.out.cell1 (by omega) (neC (by omega) (neC (by omega) (neC (by omega) ne0))) (.int .i64 0))); have c5 : w5.cell? ⟨w.heap.size + 1 + 1 + 1, 0, none⟩ = some (.int .i64 0) := k5.out.c in0; clear e2))
  have e2 : (loadVar 2 ⟨w.heap.size + 1 + 1, 0, none⟩).run Try.prog w5 = .ok (.int .i64 0) w5 := by
    have c7 : World.cell? w5 ⟨w.heap.size + 1 + 1, 0, none⟩ = some (.int .i64 0) := k5.out.c in1
    clear k5 c4 c5
    simp [go_sem, c7]
  have e3 : (loadVar 2 ⟨w.heap.size + 1 + 1 + 1, 0, none⟩).run Try.prog w5 = .ok (.int .i64 0) w5 := by
    clear e2 k5 c4
    simp [go_sem, c5]
  refine ⟨rfl, .tuple #[.int .i64 0, .int .i64 0], ?_, rfl, k5.out.1⟩
  simp [results, Try.results26, asAddr, e2, e3, Sem.run_bind, Result.andThen_ok, Act.put]

theorem gIterX (X : Nat → Prop) (t r q0 : Nat) (s : GSt) (hs : GVal t s) (N K : Nat) (hKN : K ≤ N) (hN : N ≤ 1048576) (hM : ∀ j, j < K → GOk t (gSt t s j)) (hbad : K < N → ¬ GOk t (gSt t s K)) (w5 : World) (hX : ∀ k, X k → k < r) (hrq : r < q0) (hq5 : q0 + 1 + 1 + 1 < w5.heap.size)
    (hm : MapOf satF IsHeat w5 r) (kL : Kept w5 [(q0 + 1 + 1 + 1, #[.int .i64 (N : Int)], 2), (q0 + 1 + 1, #[.float .f32 s.h, .float .f32 s.v], 32), (q0 + 1, fls s.c, 30), (q0, #[.float .f32 t, .map (some r)], 122)] w5) :
    NumIter Fence.wide (9 - 1) Try.prog 128 #[.pointer (some ⟨q0 + 1, 0, none⟩), .pointer (some ⟨q0 + 1 + 1, 0, none⟩), .pointer (some ⟨q0 + 1 + 1 + 1, 0, none⟩), .pointer (some ⟨q0, 0, none⟩)] (encG t s) K r (GEnd K N) X w5 := by
  intro J Jx W hb hz hJ hJx hY h0
  refine gSteps_in (9 - 1) (w5.heap.size + 1) t r s hs N K hKN hN hM hbad (q0 + 1) (q0 + 1 + 1) (q0 + 1 + 1 + 1) q0 (fun k => X k ∨ k = w5.heap.size + 1) J Jx W ⟨Below.refl _ W, fun x hx => ?_⟩
    (hm.keeps (X := fun _ => False) (Keeps.of hb) (fun x => x)) (fun k hk => ?_) (fun h => ?_) (fun x hx h => ?_) hJ hJx hY h0
  · exact (kL.stay hb).2 x (per4 _ _ _ _ x hx)
  · rcases hk with hk | hk
    · have := hX k hk; omega
    · omega
  · rcases h with h | h
    · have := hX _ h; omega
    · omega
  · simp only [List.mem_cons, List.not_mem_nil, or_false] at hx
    rcases hx with rfl | rfl | rfl | rfl <;> rcases h with h | h
    all_goals first
      | (simp only at h; omega)
      | (have := hX _ h; simp only at this; omega)

def dCode (N K : Nat) : Int := if K = N then 7 else 4

set_option maxRecDepth 100000 in
set_option maxHeartbeats 1000000 in
theorem iDry_ok (t : Nat) (s : GSt) (hs : GVal t s) (hv : s.v < 4294967296) (N K : Nat) (hN : N ≤ 200) (hKN : K ≤ N) (hM : ∀ j, j < K → GOk t (gSt t s j)) (hbad : K < N → ¬ GOk t (gSt t s K)) (h0 : ¬ DryC s.c) (o n : Int)
    (ho1 : ∀ D : Nat, D ≤ K → DryC (gSt t s D).c → (∀ j, j < D → ¬ DryC (gSt t s j).c) → o = (D : Int) ∧ n = 0) (ho2 : (∀ j, j ≤ K → ¬ DryC (gSt t s j).c) → o = 0 ∧ n = dCode N K) (w : World) :
    Calls Try.prog 26 #[.agg (fls s.c), .agg #[.float .f32 s.h, .float .f32 s.v], .float .f32 t, .int .i64 (N : Int)] w fun e w' =>
      e = .returned (.tuple #[.int .i64 o, .int .i64 n]) ∧ Below w.heap.size w w' := by
  have k0 : Hid (Kept w [(w.heap.size + 1 + 1 + 1, #[.int .i64 0], 2), (w.heap.size + 1 + 1, #[.int .i64 0], 2), (w.heap.size + 1, #[.float .f32 s.h, .float .f32 s.v], 32), (w.heap.size, fls s.c, 30)] ((((w.alloc (.cells (fls s.c) 30)).alloc (.cells #[.float .f32 s.h, .float .f32 s.v] 32)).alloc (.cells #[.int .i64 0] 2)).alloc (.cells #[.int .i64 0] 2))) := by
    have := (((((Kept.nil w).push (fls s.c) 30).push #[.float .f32 s.h, .float .f32 s.v] 32).push #[.int .i64 0] 2).push #[.int .i64 0] 2)
    simp only [World.size_alloc] at this
    exact hid this
  have HC := hid (fun w => iCheckG_ok s.c s.h s.v t (N : Int) hs.c hv hs.q hs.t (by omega) (by omega) w)
  have HD := hid (fun w => iIsDry s.c hs.c false ⟨(fun e => by cases e), fun e => absurd e h0⟩ w)
  have HI0 := hid h0
  have HS := hid hs
  have HM := hid hM
  have HBAD := hid hbad
  have HKN := hid hKN
  have HN := hid hN
  have HO1 := hid ho1
  have HO2 := hid ho2
  have hmf : ∀ (fn : Fn) (first cap : Array Value) (w : World), (Instr.makeFunc fn first cap).run Try.prog w = .ok (.func fn first cap) w := fun _ _ _ _ => rfl
  clear hs hv hM hbad hKN hN h0 ho1 ho2
  refine (callsIn_wide (n := 9)).1 ?_
  refine callsIn_of_wp_marks Try.func26 rfl trivial ?_ rfl
  refine wpIn_wide.2 ?_
  simp only [Try.ntmps26, List.size_toArray, List.length_cons, List.length_nil, Nat.reduceAdd, Nat.reduceSub, Array.replicate_succ, Array.replicate_zero, List.push_toArray, List.append_toArray, List.nil_append, List.cons_append]
  have tok1 : True := trivial
  go_wp2_with (first | (have _t := tok1; clear tok1; refine wpList_load_row (by rfl) 30 _ (by rfl) (w.heap.size) (by rfl) 30 (fls s.c) (0, 0) _ (k0.out.at (x := (w.heap.size, fls s.c, 30)) in3) Try.underlying30 (by rfl) (by rw [fls_size]; exact info_arr) ?_; have tok2 : True := trivial) | (have _t := tok2; clear tok2; refine wpList_load_row (by rfl) 32 _ (by rfl) (w.heap.size + 1) (by rfl) 32 (#[.float .f32 s.h, .float .f32 s.v]) (0, 0) _ (k0.out.at (x := (w.heap.size + 1, #[.float .f32 s.h, .float .f32 s.v], 32)) in2) Try.underlying32 (by rfl) (info_air) ?_))
  refine (HC.out _).mono ?_
  rintro e w1 ⟨rfl, hb1⟩
  have k1 := hid (k0.out.stay hb1)
  have tok1 : True := trivial
  clear k0 hb1 HC
  go_wp2_with (first | (have _t := tok1; clear tok1; refine store_cellE 2 (by rfl) 2 _ _ (by rfl) (w.heap.size + 1 + 1 + 1) (.int .i64 0) (.int .i64 0) (by rfl) (by rfl) (k1.out.at (x := (w.heap.size + 1 + 1 + 1, #[.int .i64 0], 2)) in0) (by kernel_rfl) (by rfl) (by rfl) (fun w2 e2 => ?_); have k2 := hid (e2 ▸ (k1.out.cell1 (by omega) (neC (by omega) (neC (by omega) (neC (by omega) ne0))) (.int .i64 0))); have c2 : w2.cell? ⟨w.heap.size + 1 + 1 + 1, 0, none⟩ = some (.int .i64 0) := k2.out.c in0; clear e2; have tok2 : True := trivial) | (have _t := tok2; clear tok2; refine wpList_load_row (by rfl) 30 _ (by rfl) (w.heap.size) (by rfl) 30 (fls s.c) (0, 0) _ (k2.out.at (x := (w.heap.size, fls s.c, 30)) in3) Try.underlying30 (by rfl) (by rw [fls_size]; exact info_arr) ?_))
  refine (HD.out _).mono ?_
  rintro e w3 ⟨rfl, hb3⟩
  have k3 := hid (k2.out.stay hb3)
  have tok1 : True := trivial
  clear k2 hb3 HD c2
  go_wp2_with (have _t := tok1; clear tok1; refine store_cellE 2 (by rfl) 2 _ _ (by rfl) (w3.heap.size) (.int .i64 0) (.int .i64 0) (by rfl) (by rfl) (World.alloc_heap_new w3 _) (by kernel_rfl) (by rfl) (by rfl) (fun w4 e4 => ?_); have k4 := hid (e4 ▸ ((k3.out.push #[.int .i64 0] 2).cell1 k3.out.1.size (fun x hx => k3.out.fresh x hx) (.int .i64 0))); have c4 : w4.cell? ⟨w3.heap.size, 0, none⟩ = some (.int .i64 0) := k4.out.c in0; clear e4)
  clear c4
  refine region_act (w0 := w) (lk := [(w3.heap.size, #[.int .i64 0], 2), (w.heap.size + 1 + 1 + 1, #[.int .i64 0], 2), (w.heap.size + 1 + 1, #[.int .i64 0], 2), (w.heap.size + 1, #[.float .f32 s.h, .float .f32 s.v], 32), (w.heap.size, fls s.c, 30)]) (fun a0 a1 w1q => ∃ r q0, a1 = ((((((a0.put (some 23) (.float .f32 t)).put (some 25) (.agg (fls s.c))).put (some 26) (.agg #[.float .f32 s.h, .float .f32 s.v])).put (some 27) (.int .i64 (N : Int))).put (some 24) (.agg #[.float .f32 t, .map (some r)])).put (some 28) (.func (.func 128) #[] #[.pointer (some ⟨q0 + 1, 0, none⟩), .pointer (some ⟨q0 + 1 + 1, 0, none⟩), .pointer (some ⟨q0 + 1 + 1 + 1, 0, none⟩), .pointer (some ⟨q0, 0, none⟩)])) ∧ w3.heap.size < r ∧ r < q0 ∧ q0 + 1 + 1 + 1 < w1q.heap.size ∧ MapOf satF IsHeat w1q r ∧ Kept w [(w3.heap.size, #[.int .i64 0], 2), (w.heap.size + 1 + 1 + 1, #[.int .i64 0], 2), (w.heap.size + 1 + 1, #[.int .i64 0], 2), (w.heap.size + 1, #[.float .f32 s.h, .float .f32 s.v], 32), (w.heap.size, fls s.c, 30)] w1q ∧ Kept w1q [(q0 + 1 + 1 + 1, #[.int .i64 (N : Int)], 2), (q0 + 1 + 1, #[.float .f32 s.h, .float .f32 s.v], 32), (q0 + 1, fls s.c, 30), (q0, #[.float .f32 t, .map (some r)], 122)] w1q) 6 #[false, false, false, false, false, false] (by kernel_rfl) rfl rfl ?_ ?_
  · have kd := k4.out.drew
    generalize World.drew _ = wd at kd ⊢
    refine take_val 0 _ _ (.float .f32 t) rfl (by rfl) (by kernel_rfl) (by kernel_rfl) (by kernel_rfl) (fun w => by rfl) rfl rfl kd ?_
    simp only [Act.put, List.setIfInBounds_toArray, List.set_cons_zero, List.set_cons_succ]
    refine take_load 2 _ _ rfl (by rfl) (by kernel_rfl) (by kernel_rfl) (by kernel_rfl) 30 _ rfl (w.heap.size) (fls s.c) 30 rfl in4 _ Try.underlying30 rfl (by rw [fls_size]; exact info_arr) rfl rfl kd ?_
    simp only [Act.put, List.setIfInBounds_toArray, List.set_cons_zero, List.set_cons_succ]
    refine take_load 3 _ _ rfl (by rfl) (by kernel_rfl) (by kernel_rfl) (by kernel_rfl) 32 _ rfl (w.heap.size + 1) (#[.float .f32 s.h, .float .f32 s.v]) 32 rfl in3 _ Try.underlying32 rfl (info_air) rfl rfl kd ?_
    simp only [Act.put, List.setIfInBounds_toArray, List.set_cons_zero, List.set_cons_succ]
    refine take_val 4 _ _ (.int .i64 (N : Int)) rfl (by rfl) (by kernel_rfl) (by kernel_rfl) (by kernel_rfl) (fun w => by rfl) rfl rfl kd ?_
    simp only [Act.put, List.setIfInBounds_toArray, List.set_cons_zero, List.set_cons_succ]
    refine wpAnyH_ready (rs := [1]) (by kernel_rfl) (by simp) ?_
    refine callKQ 1 _ (fun v w9 => ∃ r, v = .agg #[.float .f32 t, .map (some r)] ∧ w3.heap.size < r ∧ r < w9.heap.size ∧ MapOf satF IsHeat w9 r) kd rfl (by rfl) 72 #[.float .f32 t] (fun w => by unfold execOp; go_simp) rfl ?hc1 (fun v w4 hq k4 hb4 => ?_) AllReadyH.nil
    case hc1 => exact newG_q t _ wd (kd.lt in0)
    obtain ⟨r, rfl, hr0, hr4, hm4⟩ := hq
    refine ⟨k4, ?_⟩
    simp only [Act.put, List.setIfInBounds_toArray, List.set_cons_zero, List.set_cons_succ]
    refine wpAnyH_ready (rs := [5]) (by kernel_rfl) (by simp) ?_
    refine callKQ 5 _ (fun v w9 => ∃ q0, v = .func (.func 128) #[] #[.pointer (some ⟨q0 + 1, 0, none⟩), .pointer (some ⟨q0 + 1 + 1, 0, none⟩), .pointer (some ⟨q0 + 1 + 1 + 1, 0, none⟩), .pointer (some ⟨q0, 0, none⟩)] ∧ w4.heap.size = q0 ∧ Kept w4 [(q0 + 1 + 1 + 1, #[.int .i64 (N : Int)], 2), (q0 + 1 + 1, #[.float .f32 s.h, .float .f32 s.v], 32), (q0 + 1, fls s.c, 30), (q0, #[.float .f32 t, .map (some r)], 122)] w9) k4 rfl (by rfl) 73 #[.agg #[.float .f32 t, .map (some r)], .agg (fls s.c), .agg #[.float .f32 s.h, .float .f32 s.v], .int .i64 (N : Int)] (fun w => by unfold execOp; go_simp) rfl ?hc2 (fun v w6 hq k6 hb6 => ?_) AllReadyH.nil
    case hc2 => exact stepsG_q t r s.c s.h s.v N w4
    obtain ⟨q0, rfl, hq0, kL⟩ := hq
    refine ⟨k6, ?_⟩
    simp only [Act.put, List.setIfInBounds_toArray, List.set_cons_zero, List.set_cons_succ]
    refine wpAnyH_done (by kernel_rfl) ?_ _
    exact ⟨rfl, r, q0, by simp only, hr0, by omega, kL.lt in0, hm4.keeps (X := fun _ => False) (Keeps.of hb6) (fun x => x), k6, kL.here⟩
  rintro a1 w5 ⟨r, q0, rfl, hr0, hrq, hq5, hm5, k5, kL⟩
  have HB : Hid (w.heap.size + 1 + 1 + 1 < w3.heap.size) := hid (k3.out.lt in0)
  have k5 := hid k5
  have kL := hid kL
  have hm5 := hid hm5
  have HR0 := hid hr0
  have HRQ := hid hrq
  have HQ5 := hid hq5
  clear k4 k3 hr0 hrq hq5
  simp only [Act.put, List.setIfInBounds_toArray, List.set_cons_zero, List.set_cons_succ]
  go_wp2_with fail
  refine (wpIn_wide (n := 9)).1 ?_
  refine range_nums (F := Fence.wide) (n := 9) (gf := 128) (lb := #[.pointer (some ⟨q0 + 1, 0, none⟩), .pointer (some ⟨q0 + 1 + 1, 0, none⟩), .pointer (some ⟨q0 + 1 + 1 + 1, 0, none⟩), .pointer (some ⟨q0, 0, none⟩)])
    (encs := encG t s) (M := K) (mr := r) (E := GEnd K N) (X := Trio w3.heap.size (w.heap.size + 1 + 1) (w.heap.size + 1 + 1 + 1)) rfl (by decide) (by rfl) trivial (Go.Proofs.enters_of Try.func128 (by kernel_rfl) rfl) (fun i => rfl) (by have := HRQ.out; have := HQ5.out; omega)
    (fun k hk => by have := HR0.out; have := HRQ.out; have := HQ5.out; have := HB.out; unfold Trio at hk; omega)
    ?hit (fun i V => (∀ j, j ≤ i → ¬ DryC (gSt t s j).c) ∧ Kept w [(w3.heap.size, #[.int .i64 (i : Int)], 2), (w.heap.size + 1 + 1 + 1, #[.int .i64 0], 2), (w.heap.size + 1 + 1, #[.int .i64 0], 2), (w.heap.size + 1, #[.float .f32 s.h, .float .f32 s.v], 32), (w.heap.size, fls s.c, 30)] V) (fun c i V => c = .ret ∧ DryC (gSt t s i).c ∧ (∀ j, j < i → ¬ DryC (gSt t s j).c) ∧ Kept w [(w3.heap.size, #[.int .i64 (i : Int)], 2), (w.heap.size + 1 + 1 + 1, #[.int .i64 0], 2), (w.heap.size + 1 + 1, #[.int .i64 (i : Int)], 2), (w.heap.size + 1, #[.float .f32 s.h, .float .f32 s.v], 32), (w.heap.size, fls s.c, 30)] V) (fun i b V => ∃ h1, b = { tmps := #[.agg (fls s.c), .agg #[.float .f32 s.h, .float .f32 s.v], .float .f32 t, .int .i64 (N : Int), .pointer (some ⟨w.heap.size, 0, none⟩), .pointer (some ⟨w.heap.size + 1, 0, none⟩), undef, undef, .pointer (some ⟨w.heap.size + 1 + 1, 0, none⟩), .pointer (some ⟨w.heap.size + 1 + 1 + 1, 0, none⟩), .pointer (some ⟨w3.heap.size, 0, none⟩), .pointer (some ⟨h1, 0, none⟩), .agg (fls s.c), .agg #[.float .f32 s.h, .float .f32 s.v], .float .f32 t, .int .i64 (N : Int), .int .i64 0, .int .i64 0, .bool false, undef, .agg (fls s.c), .bool false, .func (.func 76) #[] #[.pointer (some ⟨w.heap.size + 1 + 1, 0, none⟩), .pointer (some ⟨w.heap.size + 1 + 1 + 1, 0, none⟩)], .float .f32 t, .agg #[.float .f32 t, .map (some r)], .agg (fls s.c), .agg #[.float .f32 s.h, .float .f32 s.v], .int .i64 (N : Int), .func (.func 128) #[] #[.pointer (some ⟨q0 + 1, 0, none⟩), .pointer (some ⟨q0 + 1 + 1, 0, none⟩), .pointer (some ⟨q0 + 1 + 1 + 1, 0, none⟩), .pointer (some ⟨q0, 0, none⟩)], .agg (fls (gSt t s (i + 1)).c), .agg #[.float .f32 (gSt t s (i + 1)).h, .float .f32 (gSt t s (i + 1)).v], undef, undef, undef, undef, undef], defers := [] } ∧ w5.heap.size ≤ h1 ∧ h1 ≠ w5.heap.size + 1 ∧ V.heap[h1]? = some (.cells (fls (gSt t s (i + 1)).c) 30 (0, 0))) ?hI ?hIx ?hAx ?h0 ?assign ?body ?done ?panic ?out ?stop
  case hit => exact gIterX _ t r q0 s HS.out N K HKN.out (by have := HN.out; omega) HM.out HBAD.out w5 (fun k hk => by have := HR0.out; have := HRQ.out; have := HQ5.out; have := HB.out; unfold Trio at hk; omega) HRQ.out HQ5.out hm5.out kL.out
  case hI =>
    rintro i V V' ⟨hd, h⟩ k
    have := HR0.out
    have := HRQ.out
    have := HQ5.out
    have := HB.out
    exact ⟨hd, h.far k (fun i hi => by unfold RowK at hi; omega) (farC (by unfold RowK; omega) (farC (by unfold RowK; omega) (farC (by unfold RowK; omega) (farC (by unfold RowK; omega) (farC (by unfold RowK; omega) far0)))))⟩
  case hIx =>
    rintro c i V V' ⟨hc, hd, he, h⟩ k
    have := HR0.out
    have := HRQ.out
    have := HQ5.out
    have := HB.out
    exact ⟨hc, hd, he, h.far k (fun i hi => by unfold RowK at hi; omega) (farC (by unfold RowK; omega) (farC (by unfold RowK; omega) (farC (by unfold RowK; omega) (farC (by unfold RowK; omega) (farC (by unfold RowK; omega) far0)))))⟩
  case hAx =>
    rintro i b V V' ⟨h1, rfl, l1, l2, r1⟩ k
    exact ⟨h1, rfl, l1, l2, k.row r1 (by omega)⟩
  case h0 =>
    refine ⟨fun j hj => ?_, k5.out⟩
    obtain rfl : j = 0 := by omega
    exact HI0.out
  case assign =>
    rintro i V B hi ⟨hI1, hI⟩ hsz hB
    have HI := hid hI
    have HI1 := hid hI1
    have HBX := hid hB
    have hZ := hid hsz
    clear hI hI1 hB hsz
    unfold encG
    have tok1 : True := trivial
    gi_wp2_with (first
      | (have _t := tok1; clear tok1; refine storeL 30 (by rfl) 30 _ _ (by rfl) V.heap.size (fls (gSt t s (i + 1)).c) (fls fun _ => 0) (by rfl) (by rfl) (World.alloc_heap_new V _) (by rw [fls_size]; exact info_arr) (by simp) (vls_one (n := 20) (f := flw (gSt t s (i + 1)).c) (fun _ => rfl)) (fun V1 e1 => ?_); have K1 := hid (e1 ▸ ((Kept.nil V).push (fls fun _ => 0) 30).set (Nat.le_refl _) ne0 (fls (gSt t s (i + 1)).c)); clear e1))
    have h2 := hZ.out
    exact HBX.out _ V1 (Keeps.of K1.out.1) ⟨HI1.out, HI.out.stay K1.out.1⟩ ⟨V.heap.size, rfl, by omega, by omega, K1.out.at (x := (V.heap.size, fls (gSt t s (i + 1)).c, 30)) in0⟩
  case body =>
    rintro i b' V hi ⟨hI1, hI⟩ ⟨h1, rfl, l1, l2, r1⟩
    have hi2 : i < 200 := by have := HKN.out; have := HN.out; omega
    have hA : Amts (gSt t s (i + 1)).c := (HS.out.at (k := i + 1) fun j hj => HM.out j (by omega)).c
    have kI := hid hI
    have HI1 := hid hI1
    have c0 := kI.out.c (g := w3.heap.size) in0
    have R1 := hid r1
    have HB2 := HB.out
    have NH : Hid (¬ Trio w3.heap.size (w.heap.size + 1 + 1) (w.heap.size + 1 + 1 + 1) h1) := hid (by have := HR0.out; have := HRQ.out; have := HQ5.out; have := HB.out; unfold Trio; omega)
    clear hI hI1 l2 r1 hi l1
    have tok1 : True := trivial
    by_cases hd : DryC (gSt t s (i + 1)).c
    · have HF := hid (fun w => iIsDry (gSt t s (i + 1)).c hA true ⟨fun _ => hd, fun _ => rfl⟩ w)
      have HDN := hid hd
      clear hA hd
      gi_wp2_with (first
        | (have _t := tok1; clear tok1; refine storeL1 2 (by rfl) 2 _ _ (by rfl) (w3.heap.size) (.int .i64 ((i : Int) + 1)) (.int .i64 (i : Int)) (by rfl) (by rfl) (kI.out.at (x := (w3.heap.size, #[.int .i64 (i : Int)], 2)) in0) (by kernel_rfl) (by rfl) (by rfl) (fun V1 e1 => ?_); have k1 := hid (e1 ▸ kI.out.cell1 (by omega) (neC (by omega) (neC (by omega) (neC (by omega) (neC (by omega) ne0)))) (.int .i64 ((i : Int) + 1))); have X1 := hid (show Keeps (Trio w3.heap.size (w.heap.size + 1 + 1) (w.heap.size + 1 + 1 + 1)) V V1 from e1 ▸ Keeps.setCell _ _ (Or.inl rfl)); have R2 := hid (X1.out.row R1.out NH.out); clear e1; have tok2 : True := trivial)
        | (have _t := tok2; clear tok2; refine loadL (by rfl) (.agg (fls (gSt t s (i + 1)).c)) (run_load_rows 30 _ (by rfl) h1 (fls (gSt t s (i + 1)).c) 30 _ (by rfl) R2.out Try.underlying30 (by rfl) (by rw [fls_size]; exact info_arr)) _ _ (by rfl) ?_; have tok3 : True := trivial)
        | (have _t := tok3; clear tok3; refine ⟨trivial, ?_⟩; gi_at_call 75; refine (CallsIn.inRound (w5.heap.size + 1) (callsIn_wide.2 (HF.out _))).mono ?_; rintro e V2 ⟨rfl, hb2⟩; have k2 := hid (k1.out.stay hb2); have X2 := hid (X1.out.trans (Keeps.of hb2)); have c2 := k2.out.c (g := w3.heap.size) in0; clear hb2; have tok4 : True := trivial)
        | (have _t := tok4; clear tok4; refine storeL1 2 (by rfl) 2 _ _ (by rfl) (w.heap.size + 1 + 1) (.int .i64 ((i : Int) + 1)) (.int .i64 0) (by rfl) (by rfl) (k2.out.at (x := (w.heap.size + 1 + 1, #[.int .i64 0], 2)) in2) (by kernel_rfl) (by rfl) (by rfl) (fun V3 e3 => ?_); have k3 := hid (e3 ▸ (k2.out.up2.cell1 (by omega) (neC (by omega) (neC (by omega) (neC (by omega) (neC (by omega) ne0)))) (.int .i64 ((i : Int) + 1))).dn2); have X3 := hid (show Keeps (Trio w3.heap.size (w.heap.size + 1 + 1) (w.heap.size + 1 + 1 + 1)) V V3 from X2.out.trans (e3 ▸ Keeps.setCell _ _ (Or.inr (Or.inl rfl)))); clear e3; have tok5 : True := trivial)
        | (have _t := tok5; clear tok5; refine storeL1 2 (by rfl) 2 _ _ (by rfl) (w.heap.size + 1 + 1 + 1) (.int .i64 0) (.int .i64 0) (by rfl) (by rfl) (k3.out.at (x := (w.heap.size + 1 + 1 + 1, #[.int .i64 0], 2)) in1) (by kernel_rfl) (by rfl) (by rfl) (fun V4 e4 => ?_); have k4 := hid (e4 ▸ (k3.out.swap.cell1 (by omega) (neC (by omega) (neC (by omega) (neC (by omega) (neC (by omega) ne0)))) (.int .i64 0)).swap); have X4 := hid (show Keeps (Trio w3.heap.size (w.heap.size + 1 + 1) (w.heap.size + 1 + 1 + 1)) V V4 from X3.out.trans (e4 ▸ Keeps.setCell _ _ (Or.inr (Or.inr rfl)))); clear e4))
      exact ⟨X4.out, rfl, HDN.out, fun j hj => HI1.out j (by omega), k4.out⟩
    · have HF := hid (fun w => iIsDry (gSt t s (i + 1)).c hA false ⟨(fun e => by cases e), fun e => absurd e hd⟩ w)
      have HDN := hid hd
      clear hA hd
      gi_wp2_with (first
        | (have _t := tok1; clear tok1; refine storeL1 2 (by rfl) 2 _ _ (by rfl) (w3.heap.size) (.int .i64 ((i : Int) + 1)) (.int .i64 (i : Int)) (by rfl) (by rfl) (kI.out.at (x := (w3.heap.size, #[.int .i64 (i : Int)], 2)) in0) (by kernel_rfl) (by rfl) (by rfl) (fun V1 e1 => ?_); have k1 := hid (e1 ▸ kI.out.cell1 (by omega) (neC (by omega) (neC (by omega) (neC (by omega) (neC (by omega) ne0)))) (.int .i64 ((i : Int) + 1))); have X1 := hid (show Keeps (Trio w3.heap.size (w.heap.size + 1 + 1) (w.heap.size + 1 + 1 + 1)) V V1 from e1 ▸ Keeps.setCell _ _ (Or.inl rfl)); have R2 := hid (X1.out.row R1.out NH.out); clear e1; have tok2 : True := trivial)
        | (have _t := tok2; clear tok2; refine loadL (by rfl) (.agg (fls (gSt t s (i + 1)).c)) (run_load_rows 30 _ (by rfl) h1 (fls (gSt t s (i + 1)).c) 30 _ (by rfl) R2.out Try.underlying30 (by rfl) (by rw [fls_size]; exact info_arr)) _ _ (by rfl) ?_; have tok3 : True := trivial)
        | (have _t := tok3; clear tok3; refine ⟨trivial, ?_⟩; gi_at_call 75; refine (CallsIn.inRound (w5.heap.size + 1) (callsIn_wide.2 (HF.out _))).mono ?_; rintro e V2 ⟨rfl, hb2⟩; have k2 := hid (k1.out.stay hb2); have X2 := hid (X1.out.trans (Keeps.of hb2)); clear hb2))
      refine ⟨X2.out, fun j hj => ?_, k2.out⟩
      by_cases e : j = i + 1
      · rw [e]; exact HDN.out
      · exact HI1.out j (by omega)
  case out => unfold GEnd; split <;> simp
  case done =>
    rintro v V hE ⟨hI1, hI⟩ hdf
    have eK : K = N := by
      by_cases e : K = N
      · exact e
      · unfold GEnd at hE
        rw [if_neg e] at hE
        cases hE
    clear hE
    obtain ⟨hO, hn⟩ := HO2.out hI1
    have hn : n = 7 := hn.trans (if_pos eK)
    have HO := hid hO
    have HE := hid hn
    have k1 := hid hI
    have hD := hid hdf
    have HQ : Hid (w3.heap.size < r) := hid HR0.out
    have HB2 := HB.out
    have HQ2 : Hid (w3.heap.size < w5.heap.size) := hid (by have := HR0.out; have := HRQ.out; have := HQ5.out; have := HB.out; omega)
    clear hI hdf hmf hI1 hO hn eK
    have tok1 : True := trivial
    go_wp2_with (first | (have _t := tok1; clear tok1; refine store_cellE 2 (by rfl) 2 _ _ (by rfl) (w.heap.size + 1 + 1) (.int .i64 0) (.int .i64 0) (by rfl) (by rfl) (k1.out.at (x := (w.heap.size + 1 + 1, #[.int .i64 0], 2)) in2) (by kernel_rfl) (by rfl) (by rfl) (fun V2 e2 => ?_); have k2 := hid (e2 ▸ (k1.out.up2.cell1 (by omega) (neC (by omega) (neC (by omega) (neC (by omega) (neC (by omega) ne0)))) (.int .i64 0)).dn2); have d2 : Hid (V2.heap[w5.heap.size]? = some (.deferred (some []))) := hid ((show Keeps (fun k => k = w.heap.size + 1 + 1) V V2 from e2 ▸ Keeps.setCell _ _ rfl).row hD.out (by have := HQ2.out; omega)); clear e2; have tok2 : True := trivial) | (have _t := tok2; clear tok2; refine store_cellE 2 (by rfl) 2 _ _ (by rfl) (w.heap.size + 1 + 1 + 1) (.int .i64 7) (.int .i64 0) (by rfl) (by rfl) (k2.out.at (x := (w.heap.size + 1 + 1 + 1, #[.int .i64 0], 2)) in1) (by kernel_rfl) (by rfl) (by rfl) (fun V3 e2 => ?_); have k3 := hid (e2 ▸ (k2.out.swap.cell1 (by omega) (neC (by omega) (neC (by omega) (neC (by omega) (neC (by omega) ne0)))) (.int .i64 7)).swap); have d3 : Hid (V3.heap[w5.heap.size]? = some (.deferred (some []))) := hid ((show Keeps (fun k => k = w.heap.size + 1 + 1 + 1) V2 V3 from e2 ▸ Keeps.setCell _ _ rfl).row d2.out (by have := HQ2.out; omega)); clear e2))
    rw [HO.out, HE.out]
    refine ⟨by simp, .inl ⟨_, _, rfl, run_takeDeferred d3.out, ?_⟩⟩
    have k7 := hid (k3.out.far (Keeps.putObj (X := fun k => k = w5.heap.size) (w := V3) w5.heap.size (.deferred none) rfl) (fun i hi => by have := HQ2.out; omega) (by have := HQ2.out; exact (farC (X := fun k => k = w5.heap.size) (by omega) (farC (X := fun k => k = w5.heap.size) (by omega) (farC (X := fun k => k = w5.heap.size) (by omega) (farC (X := fun k => k = w5.heap.size) (by omega) (farC (X := fun k => k = w5.heap.size) (by omega) (far0 (X := fun k => k = w5.heap.size)))))))))
    clear k3 d3
    generalize World.putObj V3 _ _ = w7 at k7 ⊢
    refine ⟨by simp, .inr ⟨(fun h => by cases h), _, _, 76, #[.pointer (some ⟨w.heap.size + 1 + 1, 0, none⟩), .pointer (some ⟨w.heap.size + 1 + 1 + 1, 0, none⟩)], rfl, by simp [go_sem], (fun _ _ => trivial), (iCatchY_idle (9 - 1) (w.heap.size + 1 + 1) (w.heap.size + 1 + 1 + 1) w7).mono ?_⟩⟩
    rintro e u' w'' ⟨rfl, rfl, rfl⟩
    have e2 : (loadVar 2 ⟨w.heap.size + 1 + 1, 0, none⟩).run Try.prog w'' = .ok (.int .i64 0) w'' := by
      have c7 : World.cell? w'' ⟨w.heap.size + 1 + 1, 0, none⟩ = some (.int .i64 0) := k7.out.c in2
      clear k7
      simp [go_sem, c7]
    have e3 : (loadVar 2 ⟨w.heap.size + 1 + 1 + 1, 0, none⟩).run Try.prog w'' = .ok (.int .i64 7) w'' := by
      have c7 : World.cell? w'' ⟨w.heap.size + 1 + 1 + 1, 0, none⟩ = some (.int .i64 7) := k7.out.c in1
      clear k7 e2
      simp [go_sem, c7]
    refine ⟨.tuple #[.int .i64 0, .int .i64 7], ?_, rfl, k7.out.1⟩
    simp [results, Try.results26, asAddr, e2, e3, Sem.run_bind, Result.andThen_ok, Act.put]
  case panic =>
    rintro chain V hE ⟨hI1, hI⟩ hdf
    have eK : K ≠ N := by
      intro e
      unfold GEnd at hE
      rw [if_pos e] at hE
      obtain ⟨v, hv⟩ := hE
      cases hv
    unfold GEnd at hE
    rw [if_neg eK] at hE
    cases hE
    obtain ⟨hO, hn⟩ := HO2.out hI1
    have hn : n = 4 := hn.trans (if_neg eK)
    have HO := hid hO
    have HE := hid hn
    have k1 := hid hI
    have d1 := hid hdf
    have HB2 := HB.out
    have HQ2 : Hid (w3.heap.size < w5.heap.size) := hid (by have := HR0.out; have := HRQ.out; have := HQ5.out; have := HB.out; omega)
    clear hI hdf hmf hI1 hO hn eK
    go_wp2
    rw [HO.out, HE.out]
    refine ⟨by simp, .inl ⟨_, _, rfl, run_takeDeferred d1.out, ?_⟩⟩
    have k6 := hid (k1.out.far (Keeps.putObj (X := fun k => k = w5.heap.size) (w := V) w5.heap.size (.deferred none) rfl) (fun i hi => by have := HQ2.out; omega) (by have := HQ2.out; exact (farC (X := fun k => k = w5.heap.size) (by omega) (farC (X := fun k => k = w5.heap.size) (by omega) (farC (X := fun k => k = w5.heap.size) (by omega) (farC (X := fun k => k = w5.heap.size) (by omega) (farC (X := fun k => k = w5.heap.size) (by omega) (far0 (X := fun k => k = w5.heap.size)))))))))
    clear k1 d1
    generalize World.putObj V _ _ = w6 at k6 ⊢
    have HH : HK (fun _ => True) w6 [(w.heap.size + 1 + 1 + 1, #[.int .i64 0], 2), (w.heap.size + 1 + 1, #[.int .i64 0], 2)] w6 := ⟨Keeps.refl _ _, fun x hx => k6.out.2 x (by
      simp only [List.mem_cons, List.not_mem_nil, or_false] at hx ⊢
      rcases hx with h | h
      · exact .inr (.inl h)
      · exact .inr (.inr (.inl h)))⟩
    refine ⟨by simp, .inr ⟨(fun h => by cases h), _, _, 76, #[.pointer (some ⟨w.heap.size + 1 + 1, 0, none⟩), .pointer (some ⟨w.heap.size + 1 + 1 + 1, 0, none⟩)], rfl, by simp [go_sem], (fun _ _ => trivial), (iCatchY_panic (9 - 1) 4 (w.heap.size + 1 + 1) (w.heap.size + 1 + 1 + 1) (by omega) 0 0 w6 HH).mono ?_⟩⟩
    rintro e u' w'' ⟨rfl, rfl, h7, q7⟩
    have c8 : World.cell? w'' ⟨w.heap.size + 1 + 1, 0, none⟩ = some (.int .i64 0) := (cell_of_row _ (w.heap.size + 1 + 1) 0 _ _ _ (h7.rows _ in1)).trans rfl
    have c9 : World.cell? w'' ⟨w.heap.size + 1 + 1 + 1, 0, none⟩ = some (.int .i64 4) := (cell_of_row _ (w.heap.size + 1 + 1 + 1) 0 _ _ _ (h7.rows _ in0)).trans rfl
    have hb : Below w.heap.size w w'' := k6.out.1.trans (q7.below k6.out.1.size fun k hk hX => by rcases hX with hX | hX <;> omega)
    have hB := hid hb
    clear HH h7 q7 k6 hb
    have e2 : (loadVar 2 ⟨w.heap.size + 1 + 1, 0, none⟩).run Try.prog w'' = .ok (.int .i64 0) w'' := by
      clear c9 hB
      simp [go_sem, c8]
    have e3 : (loadVar 2 ⟨w.heap.size + 1 + 1 + 1, 0, none⟩).run Try.prog w'' = .ok (.int .i64 4) w'' := by
      clear c8 e2 hB
      simp [go_sem, c9]
    refine ⟨.tuple #[.int .i64 0, .int .i64 4], ?_, rfl, hB.out⟩
    simp [results, Try.results26, asAddr, e2, e3, Sem.run_bind, Result.andThen_ok]
  case stop =>
    rintro c i V hi ⟨rfl, hd, he, hI⟩ hdf
    obtain ⟨hO, hn⟩ := HO1.out i hi hd he
    have HO := hid hO
    have HE := hid hn
    have kF := hid hI
    have dF := hid hdf
    have HB2 := HB.out
    have HQ2 : Hid (w3.heap.size < w5.heap.size) := hid (by have := HR0.out; have := HRQ.out; have := HQ5.out; have := HB.out; omega)
    clear hI hdf hmf hO hn hd he hi
    refine wpIn_wide.2 ?_
    go_wp2
    rw [HO.out, HE.out]
    refine ⟨by simp, .inl ⟨_, _, rfl, run_takeDeferred dF.out, ?_⟩⟩
    have k7 := hid (kF.out.far (Keeps.putObj (X := fun k => k = w5.heap.size) (w := V) w5.heap.size (.deferred none) rfl) (fun i hi => by have := HQ2.out; omega) (by have := HQ2.out; exact (farC (X := fun k => k = w5.heap.size) (by omega) (farC (X := fun k => k = w5.heap.size) (by omega) (farC (X := fun k => k = w5.heap.size) (by omega) (farC (X := fun k => k = w5.heap.size) (by omega) (farC (X := fun k => k = w5.heap.size) (by omega) (far0 (X := fun k => k = w5.heap.size)))))))))
    clear kF dF
    generalize World.putObj V _ _ = w7 at k7 ⊢
    refine ⟨by simp, .inr ⟨(fun h => by cases h), _, _, 76, #[.pointer (some ⟨w.heap.size + 1 + 1, 0, none⟩), .pointer (some ⟨w.heap.size + 1 + 1 + 1, 0, none⟩)], rfl, by simp [go_sem], (fun _ _ => trivial), (iCatchY_idle (9 - 1) (w.heap.size + 1 + 1) (w.heap.size + 1 + 1 + 1) w7).mono ?_⟩⟩
    rintro e u' w'' ⟨rfl, rfl, rfl⟩
    have e2 : (loadVar 2 ⟨w.heap.size + 1 + 1, 0, none⟩).run Try.prog w'' = .ok (.int .i64 (i : Int)) w'' := by
      have c7 : World.cell? w'' ⟨w.heap.size + 1 + 1, 0, none⟩ = some (.int .i64 (i : Int)) := k7.out.c in2
      clear k7
      simp [go_sem, c7]
    have e3 : (loadVar 2 ⟨w.heap.size + 1 + 1 + 1, 0, none⟩).run Try.prog w'' = .ok (.int .i64 0) w'' := by
      have c7 : World.cell? w'' ⟨w.heap.size + 1 + 1 + 1, 0, none⟩ = some (.int .i64 0) := k7.out.c in1
      clear k7 e2
      simp [go_sem, c7]
    refine ⟨.tuple #[.int .i64 (i : Int), .int .i64 0], ?_, rfl, k7.out.1⟩
    simp [results, Try.results26, asAddr, e2, e3, Sem.run_bind, Result.andThen_ok]

set_option maxRecDepth 100000 in
theorem sSpendG_lo (h v G x : Nat) (hr : S.sub v G = some x) (h0 : (FloatKind.f32.format.order x 0 == some .lt) = true) (w : World) :
    Calls Try.prog 127 #[.agg #[.float .f32 h, .float .f32 v], .float .f32 G] w fun e w' => e = .returned (.agg #[.float .f32 h, .float .f32 0]) ∧ Below w.heap.size w w' := by
  have hb := fun w => run_float_arith (P := Try.prog) w .sub 22 .f32 _ _ _ hr
  have c0 : (FloatKind.f32.format.order 0 1148846080 == some .gt) = false := by decide +kernel
  clear hr
  have kE : Hid (Kept w [(w.heap.size, #[.float .f32 h, .float .f32 0], 32), (w.heap.size + 1, #[.float .f32 h, .float .f32 0], 32)] ((w.alloc (.cells #[.float .f32 h, .float .f32 0] 32)).alloc (.cells #[.float .f32 h, .float .f32 0] 32))) := hid ((((Kept.nil w).push #[.float .f32 h, .float .f32 0] 32).push #[.float .f32 h, .float .f32 0] 32).sub (by simp))
  go_enter Try.func127, Try.ntmps127
  go_wp2
  exact bodyPost_ret (results_cell_row rfl _ _ (w.heap.size + 1) 32 #[.float .f32 h, .float .f32 0] (0, 0) _ rfl (kE.out.at (x := (w.heap.size + 1, #[.float .f32 h, .float .f32 0], 32)) in1) Try.underlying32 rfl info_air) rfl ⟨rfl, kE.out.1⟩

set_option maxRecDepth 100000 in
theorem sSpendG_hi (h v G x : Nat) (hr : S.sub v G = some x) (h0 : (FloatKind.f32.format.order x 0 == some .lt) = false) (h1 : (FloatKind.f32.format.order x 1148846080 == some .gt) = true) (w : World) :
    Calls Try.prog 127 #[.agg #[.float .f32 h, .float .f32 v], .float .f32 G] w fun e w' => e = .returned (.agg #[.float .f32 h, .float .f32 1148846080]) ∧ Below w.heap.size w w' := by
  have hb := fun w => run_float_arith (P := Try.prog) w .sub 22 .f32 _ _ _ hr
  have _ := trivial
  clear hr
  have kE : Hid (Kept w [(w.heap.size, #[.float .f32 h, .float .f32 1148846080], 32), (w.heap.size + 1, #[.float .f32 h, .float .f32 1148846080], 32)] ((w.alloc (.cells #[.float .f32 h, .float .f32 1148846080] 32)).alloc (.cells #[.float .f32 h, .float .f32 1148846080] 32))) := hid ((((Kept.nil w).push #[.float .f32 h, .float .f32 1148846080] 32).push #[.float .f32 h, .float .f32 1148846080] 32).sub (by simp))
  go_enter Try.func127, Try.ntmps127
  go_wp2
  exact bodyPost_ret (results_cell_row rfl _ _ (w.heap.size + 1) 32 #[.float .f32 h, .float .f32 1148846080] (0, 0) _ rfl (kE.out.at (x := (w.heap.size + 1, #[.float .f32 h, .float .f32 1148846080], 32)) in1) Try.underlying32 rfl info_air) rfl ⟨rfl, kE.out.1⟩

set_option maxRecDepth 100000 in
theorem sSpendG_mid (h v G x : Nat) (hr : S.sub v G = some x) (h0 : (FloatKind.f32.format.order x 0 == some .lt) = false) (h1 : (FloatKind.f32.format.order x 1148846080 == some .gt) = false) (w : World) :
    Calls Try.prog 127 #[.agg #[.float .f32 h, .float .f32 v], .float .f32 G] w fun e w' => e = .returned (.agg #[.float .f32 h, .float .f32 x]) ∧ Below w.heap.size w w' := by
  have hb := fun w => run_float_arith (P := Try.prog) w .sub 22 .f32 _ _ _ hr
  have _ := trivial
  clear hr
  have kE : Hid (Kept w [(w.heap.size, #[.float .f32 h, .float .f32 x], 32), (w.heap.size + 1, #[.float .f32 h, .float .f32 x], 32)] ((w.alloc (.cells #[.float .f32 h, .float .f32 x] 32)).alloc (.cells #[.float .f32 h, .float .f32 x] 32))) := hid ((((Kept.nil w).push #[.float .f32 h, .float .f32 x] 32).push #[.float .f32 h, .float .f32 x] 32).sub (by simp))
  go_enter Try.func127, Try.ntmps127
  go_wp2
  exact bodyPost_ret (results_cell_row rfl _ _ (w.heap.size + 1) 32 #[.float .f32 h, .float .f32 x] (0, 0) _ rfl (kE.out.at (x := (w.heap.size + 1, #[.float .f32 h, .float .f32 x], 32)) in1) Try.underlying32 rfl info_air) rfl ⟨rfl, kE.out.1⟩

set_option maxRecDepth 100000 in
theorem sWarmG_lo (h v G x : Nat) (hr : S.add h G = some x) (h0 : (FloatKind.f32.format.order x 3262119936 == some .lt) = true) (h1 : (FloatKind.f32.format.order x 1114636288 == some .gt) = false) (w : World) :
    Calls Try.prog 126 #[.agg #[.float .f32 h, .float .f32 v], .float .f32 G] w fun e w' => e = .returned (.agg #[.float .f32 3262119936, .float .f32 v]) ∧ Below w.heap.size w w' := by
  have hb := fun w => run_float_arith (P := Try.prog) w .add 22 .f32 _ _ _ hr
  have _ := trivial
  clear hr
  have kE : Hid (Kept w [(w.heap.size, #[.float .f32 3262119936, .float .f32 v], 32), (w.heap.size + 1, #[.float .f32 3262119936, .float .f32 v], 32)] ((w.alloc (.cells #[.float .f32 3262119936, .float .f32 v] 32)).alloc (.cells #[.float .f32 3262119936, .float .f32 v] 32))) := hid ((((Kept.nil w).push #[.float .f32 3262119936, .float .f32 v] 32).push #[.float .f32 3262119936, .float .f32 v] 32).sub (by simp))
  go_enter Try.func126, Try.ntmps126
  go_wp2
  exact bodyPost_ret (results_cell_row rfl _ _ (w.heap.size + 1) 32 #[.float .f32 3262119936, .float .f32 v] (0, 0) _ rfl (kE.out.at (x := (w.heap.size + 1, #[.float .f32 3262119936, .float .f32 v], 32)) in1) Try.underlying32 rfl info_air) rfl ⟨rfl, kE.out.1⟩

set_option maxRecDepth 100000 in
theorem sWarmG_hi (h v G x : Nat) (hr : S.add h G = some x) (h1 : (FloatKind.f32.format.order x 1114636288 == some .gt) = true) (w : World) :
    Calls Try.prog 126 #[.agg #[.float .f32 h, .float .f32 v], .float .f32 G] w fun e w' => e = .returned (.agg #[.float .f32 1114636288, .float .f32 v]) ∧ Below w.heap.size w w' := by
  have hb := fun w => run_float_arith (P := Try.prog) w .add 22 .f32 _ _ _ hr
  have c1 : (FloatKind.f32.format.order 1114636288 3262119936 == some .lt) = false := by decide +kernel
  clear hr
  have kE : Hid (Kept w [(w.heap.size, #[.float .f32 1114636288, .float .f32 v], 32), (w.heap.size + 1, #[.float .f32 1114636288, .float .f32 v], 32)] ((w.alloc (.cells #[.float .f32 1114636288, .float .f32 v] 32)).alloc (.cells #[.float .f32 1114636288, .float .f32 v] 32))) := hid ((((Kept.nil w).push #[.float .f32 1114636288, .float .f32 v] 32).push #[.float .f32 1114636288, .float .f32 v] 32).sub (by simp))
  go_enter Try.func126, Try.ntmps126
  go_wp2
  exact bodyPost_ret (results_cell_row rfl _ _ (w.heap.size + 1) 32 #[.float .f32 1114636288, .float .f32 v] (0, 0) _ rfl (kE.out.at (x := (w.heap.size + 1, #[.float .f32 1114636288, .float .f32 v], 32)) in1) Try.underlying32 rfl info_air) rfl ⟨rfl, kE.out.1⟩

set_option maxRecDepth 100000 in
theorem sWarmG_mid (h v G x : Nat) (hr : S.add h G = some x) (h0 : (FloatKind.f32.format.order x 3262119936 == some .lt) = false) (h1 : (FloatKind.f32.format.order x 1114636288 == some .gt) = false) (w : World) :
    Calls Try.prog 126 #[.agg #[.float .f32 h, .float .f32 v], .float .f32 G] w fun e w' => e = .returned (.agg #[.float .f32 x, .float .f32 v]) ∧ Below w.heap.size w w' := by
  have hb := fun w => run_float_arith (P := Try.prog) w .add 22 .f32 _ _ _ hr
  have _ := trivial
  clear hr
  have kE : Hid (Kept w [(w.heap.size, #[.float .f32 x, .float .f32 v], 32), (w.heap.size + 1, #[.float .f32 x, .float .f32 v], 32)] ((w.alloc (.cells #[.float .f32 x, .float .f32 v] 32)).alloc (.cells #[.float .f32 x, .float .f32 v] 32))) := hid ((((Kept.nil w).push #[.float .f32 x, .float .f32 v] 32).push #[.float .f32 x, .float .f32 v] 32).sub (by simp))
  go_enter Try.func126, Try.ntmps126
  go_wp2
  exact bodyPost_ret (results_cell_row rfl _ _ (w.heap.size + 1) 32 #[.float .f32 x, .float .f32 v] (0, 0) _ rfl (kE.out.at (x := (w.heap.size + 1, #[.float .f32 x, .float .f32 v], 32)) in1) Try.underlying32 rfl info_air) rfl ⟨rfl, kE.out.1⟩

/-- What is spent of the vapour, and what warms. -/
theorem sSpendG (h v G : Nat) (A : StepA h v G) (w : World) : Calls Try.prog 127 #[.agg #[.float .f32 h, .float .f32 v], .float .f32 G] w fun e w' => e = .returned (.agg #[.float .f32 h, .float .f32 (nvW v G)]) ∧ Below w.heap.size w w' := by
  have o1 := lt_nw A.cv.nw A.cv.fl
  have o2 := gt_nw A.cv.nw A.cv.fh
  have hlt := A.cv.lt
  unfold nvW cl
  by_cases h1 : sv (fsb v G) < sv 0
  · rw [if_pos h1]
    rw [decide_eq_true h1] at o1
    exact sSpendG_lo h v G _ A.s o1 w
  · rw [if_neg h1]
    rw [decide_eq_false h1] at o1
    by_cases h2 : sv 1148846080 < sv (fsb v G)
    · rw [if_pos h2]
      rw [decide_eq_true h2] at o2
      exact sSpendG_hi h v G _ A.s o1 o2 w
    · rw [if_neg h2]
      rw [decide_eq_false h2] at o2
      exact sSpendG_mid h v G _ A.s o1 o2 w

theorem sWarmG (h v v2 G : Nat) (A : StepA h v G) (w : World) : Calls Try.prog 126 #[.agg #[.float .f32 h, .float .f32 v2], .float .f32 (fmul 1073741824 G)] w fun e w' => e = .returned (.agg #[.float .f32 (nhW h G), .float .f32 v2]) ∧ Below w.heap.size w w' := by
  have o1 := lt_nw A.ch.nw A.ch.fl
  have o2 := gt_nw A.ch.nw A.ch.fh
  have hlt := A.ch.lt
  unfold nhW cl
  by_cases h1 : sv (fadd h (fmul 1073741824 G)) < sv 3262119936
  · rw [if_pos h1]
    rw [decide_eq_true h1] at o1
    rw [decide_eq_false (by omega)] at o2
    exact sWarmG_lo h v2 _ _ A.a o1 o2 w
  · rw [if_neg h1]
    rw [decide_eq_false h1] at o1
    by_cases h2 : sv 1114636288 < sv (fadd h (fmul 1073741824 G))
    · rw [if_pos h2]
      rw [decide_eq_true h2] at o2
      exact sWarmG_hi h v2 _ _ A.a o2 w
    · rw [if_neg h2]
      rw [decide_eq_false h2] at o2
      exact sWarmG_mid h v2 _ _ A.a o1 o2 w

set_option maxHeartbeats 2000000 in
set_option maxRecDepth 100000 in
theorem sGains (x t : Nat) (hx : x < 4294967296) (hf : finB x = true) (ht : amtB t = true) (w : World) :
    Calls Try.prog 124 #[.float .f32 x, .float .f32 t] w fun e w' => ∃ M : Nat → Nat, (∀ k, k < 20 → GFits x t k (M k)) ∧ e = .returned (.agg (vls 20 (flw M))) ∧ Below w.heap.size w w' := by
  have A1 : Hid (vAt (w.alloc (.cells (fls fun _ => 0) 23)) w.heap.size 20 (flw fun _ => 0) 23) := hid (vAt.new w 20 (flw fun _ => 0) 23)
  have b0 := boxed w (.cells (fls fun _ => 0) 23)
  have HX := hid hx
  have HF := hid hf
  have HT := hid ht
  clear hx hf ht
  go_enter Try.func124, Try.ntmps124
  have N0 : Hid (vAt ((w.alloc (.cells (fls fun _ => 0) 23)).alloc (.cells (fls fun _ => 0) 23)) (w.heap.size + 1) 20 (flw fun _ => 0) 23) := hid (vAt.new1 w (.cells (fls fun _ => 0) 23) 20 (flw fun _ => 0) 23)
  have HL := hid (Nat.le_refl (w.heap.size + 1))
  have M0 := hid (N0.out.setRow (flw fun _ => 0))
  have M1 := hid ((A1.out.alloc (.cells (fls fun _ => 0) 23)).setRowOther (k := (w.heap.size + 1)) (by omega) (vls 20 (flw fun _ => 0)))
  have mb := below_row (b0.alloc b0.size (.cells (fls fun _ => 0) 23)) (Nat.le_succ _) (g := (w.heap.size + 1)) (vls 20 (flw fun _ => 0))
  have tok1 : True := trivial
  go_wp2_with (have _t := tok1; refine wpList_store_row rfl 23 _ _ rfl ((w.heap.size + 1)) (vls 20 (flw fun _ => 0)) rfl rfl 23 _ N0.out (by rw [vls_size]; exact info_a20) (by simp) (vls_one (flw_one _)) ?_; generalize (((w.alloc (.cells (fls fun _ => 0) 23)).alloc (.cells (fls fun _ => 0) 23)).setRow (w.heap.size + 1) (vls 20 (flw fun _ => 0))) = w2 at M0 M1 mb ⊢; clear N0 A1 b0 tok1)
  go_loopw [6] (fun i wr => ∃ k : Nat, k ≤ 20 ∧ i = .int .i64 k ∧ (∃ M : Nat → Nat, Hid (∀ i, i < k → GFits x t i (M i)) ∧ Hid (vAt wr (w.heap.size + 1) 20 (flw M) 23)) ∧ Hid (vAt wr w.heap.size 20 (flw fun _ => 0) 23) ∧ Hid (Below w.heap.size w wr)) (fun i _ => 20 - (intOf i).toNat)
  case atStart => exact ⟨0, by omega, rfl, ⟨fun _ => 0, hid fun i hi => by omega, M0⟩, M1, hid mb⟩
  case round =>
    obtain ⟨k, hk, rfl, ⟨M, hM, h0⟩, h1, hb⟩ := hrel
    by_cases hlt : k < 20
    · have HK := hid hlt
      have hk3 : (k : Int) < 20 := by omega
      clear M0 M1 mb
      have H := hid (gain_ok HX.out HF.out HT.out HK.out)
      have r1 := fun w => run_float_arith (P := Try.prog) w .mul 22 .f32 _ _ _ H.out.r1
      have r3 := fun w => run_neg_mass (P := Try.prog) HK.out w
      go_wp2_with fail
      refine (sMass k HK.out _).mono ?_
      rintro e wa ⟨rfl, rfl⟩
      go_wp2_with fail
      refine (sRad k HK.out _).mono ?_
      rintro e wa ⟨rfl, rfl⟩
      rcases hn : gNan x t k with _ | _
      · have hr2 := H.out.r2 hn
        have r2 := fun w => run_float_arith (P := Try.prog) w .mul 22 .f32 _ _ _ hr2.1
        have hcs := hold_cases x hr2.2 H.out.m1 H.out.m0
        rw [show sgnW x (min (gqW x t k) (mass k)) = gainW x t k from rfl] at hcs
        have g0 := h0
        have g1 := h1
        have gb := hb
        clear h0 h1 hb hr2
        have HG' := hid (show GFits x t k (gainW x t k) from ⟨fun _ => rfl, fun h => absurd (hn.symm.trans h) Bool.noConfusion⟩)
        clear hn
        rcases hcs with ⟨c1, c2, c3⟩ | ⟨c1, c2, c3⟩ | ⟨c1, c2, c3⟩
        · have HG := hid (c3 ▸ HG'.out)
          clear HG' c3
          have q0 := g0.out.cell HK.out
          have f0 := g0.out.frozen k
          have n0 := hid (g0.out.fset k (mass k))
          have n1 := hid (g1.out.setOther (a := ⟨(w.heap.size + 1), k, none⟩) (by first | (simp; done) | (simp; omega)) (.float .f32 (mass k)))
          have nb := gb.out.setCell (p := ⟨(w.heap.size + 1), k, none⟩) (by first | (simp; done) | (simp; omega)) (.float .f32 (mass k))
          have HM : Hid (∀ i, i < k + 1 → GFits x t i (upd M k (mass k) i)) := hid fun i hi => by
            by_cases e : i = k
            · rw [e, show upd M k (mass k) k = (mass k) from if_pos rfl]; exact HG.out
            · rw [show upd M k (mass k) i = M i from if_neg e]; exact hM.out i (by omega)
          clear gb g0 g1 hM
          go_wp2
          go_roundw
          case rel => exact ⟨k + 1, by omega, by go_num, ⟨_, HM, n0⟩, n1, hid nb⟩
          case measure => simp [intOf]; omega
        · have HG := hid (c3 ▸ HG'.out)
          clear HG' c3
          have q0 := g0.out.cell HK.out
          have f0 := g0.out.frozen k
          have n0 := hid (g0.out.fset k (sgnW x (gqW x t k)))
          have n1 := hid (g1.out.setOther (a := ⟨(w.heap.size + 1), k, none⟩) (by first | (simp; done) | (simp; omega)) (.float .f32 (sgnW x (gqW x t k))))
          have nb := gb.out.setCell (p := ⟨(w.heap.size + 1), k, none⟩) (by first | (simp; done) | (simp; omega)) (.float .f32 (sgnW x (gqW x t k)))
          have HM : Hid (∀ i, i < k + 1 → GFits x t i (upd M k (sgnW x (gqW x t k)) i)) := hid fun i hi => by
            by_cases e : i = k
            · rw [e, show upd M k (sgnW x (gqW x t k)) k = (sgnW x (gqW x t k)) from if_pos rfl]; exact HG.out
            · rw [show upd M k (sgnW x (gqW x t k)) i = M i from if_neg e]; exact hM.out i (by omega)
          clear gb g0 g1 hM
          go_wp2
          go_roundw
          case rel => exact ⟨k + 1, by omega, by go_num, ⟨_, HM, n0⟩, n1, hid nb⟩
          case measure => simp [intOf]; omega
        · have HG := hid (c3 ▸ HG'.out)
          clear HG' c3
          have q0 := g0.out.cell HK.out
          have f0 := g0.out.frozen k
          have n0 := hid (g0.out.fset k (2147483648 + mass k))
          have n1 := hid (g1.out.setOther (a := ⟨(w.heap.size + 1), k, none⟩) (by first | (simp; done) | (simp; omega)) (.float .f32 (2147483648 + mass k)))
          have nb := gb.out.setCell (p := ⟨(w.heap.size + 1), k, none⟩) (by first | (simp; done) | (simp; omega)) (.float .f32 (2147483648 + mass k))
          have HM : Hid (∀ i, i < k + 1 → GFits x t i (upd M k (2147483648 + mass k) i)) := hid fun i hi => by
            by_cases e : i = k
            · rw [e, show upd M k (2147483648 + mass k) k = (2147483648 + mass k) from if_pos rfl]; exact HG.out
            · rw [show upd M k (2147483648 + mass k) i = M i from if_neg e]; exact hM.out i (by omega)
          clear gb g0 g1 hM
          go_wp2
          go_roundw
          case rel => exact ⟨k + 1, by omega, by go_num, ⟨_, HM, n0⟩, n1, hid nb⟩
          case measure => simp [intOf]; omega
      · obtain ⟨z, w4, r2, hz, hz2, hw4⟩ : ∃ z w4, (binOp .mul 22 (.float .f32 (sgnW x (fmul (rad k) (mg x)))) (.float .f32 t)).run Try.prog wr = .ok (.float .f32 z) w4 ∧ INF < mg z ∧ z < 4294967296 ∧ w4 = wr.drew := by
          obtain ⟨z, a, b, c⟩ := run_arith_nan (P := Try.prog) (w := wr) .mul (.inr (.inr (.inl rfl))) 22 _ _ (H.out.r3 hn)
          exact ⟨z, _, a, b, c, rfl⟩
        have c1 : (FloatKind.f32.format.order z (mass k) == some .gt) = false := by
          rw [show FloatKind.f32.format.order z (mass k) = none from order_nan32 hz]; rfl
        have c2 : (FloatKind.f32.format.order z (2147483648 + mass k) == some .lt) = false := by
          rw [show FloatKind.f32.format.order z (2147483648 + mass k) = none from order_nan32 hz]; rfl
        have HG := hid (show GFits x t k z from ⟨fun h => absurd (hn.symm.trans h) Bool.noConfusion, fun _ => ⟨hz2, finB_iff'.2 (by omega)⟩⟩)
        have g0 : Hid (vAt w4 (w.heap.size + 1) 20 (flw M) 23) := by rw [hw4]; exact hid h0.out.drew
        have g1 : Hid (vAt w4 w.heap.size 20 (flw fun _ => 0) 23) := by rw [hw4]; exact hid h1.out.drew
        have gb : Hid (Below w.heap.size w w4) := by rw [hw4]; exact hid hb.out.drew
        clear hz hz2 hw4 hn h0 h1 hb
        have q0 := g0.out.cell HK.out
        have f0 := g0.out.frozen k
        have n0 := hid (g0.out.fset k z)
        have n1 := hid (g1.out.setOther (a := ⟨(w.heap.size + 1), k, none⟩) (by first | (simp; done) | (simp; omega)) (.float .f32 z))
        have nb := gb.out.setCell (p := ⟨(w.heap.size + 1), k, none⟩) (by first | (simp; done) | (simp; omega)) (.float .f32 z)
        have HM : Hid (∀ i, i < k + 1 → GFits x t i (upd M k z i)) := hid fun i hi => by
          by_cases e : i = k
          · rw [e, show upd M k z k = z from if_pos rfl]; exact HG.out
          · rw [show upd M k z i = M i from if_neg e]; exact hM.out i (by omega)
        clear gb g0 g1 hM
        go_wp2
        go_roundw
        case rel => exact ⟨k + 1, by omega, by go_num, ⟨_, HM, n0⟩, n1, hid nb⟩
        case measure => simp [intOf]; omega
    · obtain rfl : k = 20 := by omega
      have hl := HL.out
      go_wp2_with (first | (refine wpList_load_row rfl 23 _ rfl ((w.heap.size + 1)) rfl 23 (vls 20 (flw M)) (0, 0) _ h0.out Try.underlying23 rfl (by rw [vls_size]; exact info_a20) ?_) | (refine wpList_store_row rfl 23 _ _ rfl (w.heap.size) (vls 20 (flw M)) rfl rfl 23 _ h1.out (by rw [vls_size]; exact info_a20) (by simp) (vls_one (flw_one _)) ?_))
      exact bodyPost_ret (results_cell_row rfl _ _ (w.heap.size) 23 (vls 20 (flw M)) (0, 0) _ rfl (h1.out.setRow (flw M)) Try.underlying23 rfl (by rw [vls_size]; exact info_a20)) rfl ⟨M, hM.out, rfl, below_row hb.out (by omega) _⟩

theorem sGainsX (x t : Nat) (h : ExF x t) (w : World) : Calls Try.prog 124 #[.float .f32 x, .float .f32 t] w fun e w' => e = .returned (.agg (fls (g1W x t))) ∧ Below w.heap.size w w' := by
  refine (sGains x t h.lt h.fin h.t w).mono fun e w' hh => ?_
  obtain ⟨M, hM, he, hb⟩ := hh
  have h2 : fls M = fls (g1W x t) := fls_ext fun i hi => (hM i hi).1 (h.nan i hi)
  exact ⟨he.trans (congrArg (fun z => Ending.returned (Value.agg z)) h2), hb⟩

set_option maxRecDepth 100000 in
set_option maxHeartbeats 400000 in
theorem sOnce_bad1 (c : Nat → Nat) (h v t : Nat) (hc : Amts c) (hh : IsHeat h) (hq : airB h v = true) (ht : amtB t = true) (hn : ¬ ShOk c (g1W (excF h v) t)) (w : World) (p k : Nat) (T1 T2 : TypeId) (hp : arrAt w p c T1) (hk : airAt w k h v T2) :
    Calls Try.prog 67 #[.pointer (some ⟨p, 0, none⟩), .pointer (some ⟨k, 0, none⟩), .float .f32 t] w fun e w' => e = .returned (.tuple #[.agg (fls fun _ => 0), .agg #[.float .f32 0, .float .f32 0], .int .i64 4]) ∧ Below w.heap.size w w' := by
  have kk : Kept w [(p, fls c, T1), (k, #[.float .f32 h, .float .f32 v], T2)] w := ⟨Below.refl _ _, fun x hx => by
    simp only [List.mem_cons, List.not_mem_nil, or_false] at hx
    rcases hx with rfl | rfl
    · exact hp
    · exact hk⟩
  have lp : p < w.heap.size := kk.lt (x := (p, fls c, T1)) in0
  have lk : k < w.heap.size := kk.lt (x := (k, #[.float .f32 h, .float .f32 v], T2)) in1
  have k0 : Hid (Kept w [(w.heap.size + 1, #[.float .f32 0, .float .f32 0], 32), (w.heap.size, fls fun _ => 0, 30), (p, fls c, T1), (k, #[.float .f32 h, .float .f32 v], T2)] ((w.alloc (.cells (fls fun _ => 0) 30)).alloc (.cells #[.float .f32 0, .float .f32 0] 32))) := by
    have := (kk.push (fls fun _ => 0) 30).push #[.float .f32 0, .float .f32 0] 32
    simp only [World.size_alloc] at this
    exact hid this
  have hX := exf_of hh hq ht
  have HE := hid (fun w r U hr => sExcess h v hh.1 hq w r U hr)
  have HG := hid (fun w => sGainsX (excF h v) t hX w)
  have HS := hid (fun w p q T1 T2 hp hq => sShift c (g1W (excF h v) t) hc hX.g1 (fun _ => 0) 0 4 (fun h => absurd h hn) (fun _ => ⟨rfl, rfl, rfl⟩) w p q T1 T2 hp hq)
  clear kk hp hk hX hc hh hq ht hn
  go_enter Try.func67, Try.ntmps67
  go_wp2_with fail
  refine (HE.out _ k T2 (k0.out.at (x := (k, #[.float .f32 h, .float .f32 v], T2)) in3)).mono ?_
  rintro e w0 ⟨rfl, hb0⟩
  have k1 := hid (k0.out.stay hb0)
  clear hb0 k0
  go_wp2_with fail
  refine (HG.out _).mono ?_
  rintro e w1 ⟨rfl, hb1⟩
  have k2 := hid (k1.out.stay hb1)
  clear hb1 k1
  have k2z := hid (k2.out.push (fls fun _ => 0) 23)
  have tok1 : True := trivial
  go_wp2_with (first | (have _t := tok1; clear tok1; refine store_row (by rfl) 23 _ _ (by rfl) (w1.heap.size) (fls (g1W (excF h v) t)) (fls fun _ => 0) (by rfl) (by rfl) k2z.out (by rw [fls_size]; exact info_a20) (by simp) (vls_one (n := 20) (f := flw (g1W (excF h v) t)) (fun _ => rfl)) (k2.out.size) (k2.out.fresh) (fun w2 k3 => ?_); replace k3 := hid k3; clear k2z))
  clear k2
  refine (HS.out w2 p w1.heap.size T1 23 (k3.out.at (x := (p, fls c, T1)) in3) (k3.out.at (x := (w1.heap.size, fls (g1W (excF h v) t), 23)) in0)).mono ?_
  rintro e w3 ⟨rfl, hb3⟩
  have k4 := hid (k3.out.stay hb3)
  clear hb3 k3
  have k4z := hid (k4.out.push (fls fun _ => 0) 30)
  have tok1 : True := trivial
  go_wp2_with (first
    | (have _t := tok1; clear tok1; refine store_rowE (by rfl) 30 _ _ (by rfl) (w3.heap.size) (fls fun _ => 0) (fls fun _ => 0) (by rfl) (by rfl) (k4z.out.at (x := (w3.heap.size, fls fun _ => 0, 30)) in0) (by rw [fls_size]; exact info_arr) (by simp) (vls_one (n := 20) (f := flw fun _ => 0) (fun _ => rfl)) (fun w5 e5 => ?_); have k5 := hid (e5 ▸ k4z.out.same in0 k4.out.size); clear e5 k4z; have tok2 : True := trivial)
    | (have _t := tok2; clear tok2; refine store_rowE (by rfl) 30 _ _ (by rfl) (w.heap.size) (fls fun _ => 0) (fls fun _ => 0) (by rfl) (by rfl) (k5.out.at (x := (w.heap.size, fls fun _ => 0, 30)) in3) (by rw [fls_size]; exact info_arr) (by simp) (vls_one (n := 20) (f := flw fun _ => 0) (fun _ => rfl)) (fun w6 e6 => ?_); have k6 := hid (e6 ▸ k5.out.same in3 (Nat.le_refl _)); clear e6 k5; have tok3 : True := trivial)
    | (have _t := tok3; clear tok3; refine store_rowE (by rfl) 32 _ _ (by rfl) (w.heap.size + 1) (#[.float .f32 0, .float .f32 0]) (#[.float .f32 0, .float .f32 0]) (by rfl) (by rfl) (k6.out.at (x := (w.heap.size + 1, #[.float .f32 0, .float .f32 0], 32)) in2) (info_air) (by simp) (two_one _ _) (fun w7 e7 => ?_); have k7 := hid (e7 ▸ k6.out.same (g := w.heap.size + 1) in2 (by omega)); clear e7 k6))
  have e1 : (loadVar 30 ⟨w.heap.size, 0, none⟩).run Try.prog w7 = .ok (.agg (fls fun _ => 0)) w7 := run_loadVar_row _ (w.heap.size) 30 30 (fls fun _ => 0) (0, 0) _ (k7.out.at (x := (w.heap.size, fls fun _ => 0, 30)) in3) Try.underlying30 rfl (by rw [fls_size]; exact info_arr)
  have e2 : (loadVar 32 ⟨w.heap.size + 1, 0, none⟩).run Try.prog w7 = .ok (.agg #[.float .f32 0, .float .f32 0]) w7 := run_loadVar_row _ (w.heap.size + 1) 32 32 (#[.float .f32 0, .float .f32 0]) (0, 0) _ (k7.out.at (x := (w.heap.size + 1, #[.float .f32 0, .float .f32 0], 32)) in2) Try.underlying32 rfl (info_air)
  refine ⟨rfl, .tuple #[.agg (fls fun _ => 0), .agg #[.float .f32 0, .float .f32 0], .int .i64 4], ?_, rfl, k7.out.1⟩
  simp [results, Try.results67, asAddr, e1, e2, Sem.run_bind, Result.andThen_ok]

set_option maxRecDepth 100000 in
set_option maxHeartbeats 400000 in
theorem sOnce_small1 (c : Nat → Nat) (h v t : Nat) (hc : Amts c) (hh : IsHeat h) (hq : airB h v = true) (ht : amtB t = true) (x : Nat) (hxe : excF h v = x) (ho : ShOk c (g1W x t)) (R : Nat → Nat) (hR : shN c (g1W x t) 20 = R) (z : Nat) (hz : watG c (g1W x t) = z) (G : Nat) (hG : S.div z 1199570944 = some G) (A : StepA h v G) (H V : Nat) (hH : nhW h G = H) (hV : nvW v G = V) (hVl : V < 4294967296) (hHV : airB H V = true) (h0 : (FloatKind.f32.format.order x 0 == some .gt) = true) (h1 : (FloatKind.f32.format.order G x == some .gt) = false) (w : World) (p k : Nat) (T1 T2 : TypeId) (hp : arrAt w p c T1) (hk : airAt w k h v T2) :
    Calls Try.prog 67 #[.pointer (some ⟨p, 0, none⟩), .pointer (some ⟨k, 0, none⟩), .float .f32 t] w fun e w' => e = .returned (.tuple #[.agg (fls R), .agg #[.float .f32 H, .float .f32 V], .int .i64 0]) ∧ Below w.heap.size w w' := by
  have kk : Kept w [(p, fls c, T1), (k, #[.float .f32 h, .float .f32 v], T2)] w := ⟨Below.refl _ _, fun x hx => by
    simp only [List.mem_cons, List.not_mem_nil, or_false] at hx
    rcases hx with rfl | rfl
    · exact hp
    · exact hk⟩
  have lp : p < w.heap.size := kk.lt (x := (p, fls c, T1)) in0
  have lk : k < w.heap.size := kk.lt (x := (k, #[.float .f32 h, .float .f32 v], T2)) in1
  have k0 : Hid (Kept w [(w.heap.size + 1, #[.float .f32 0, .float .f32 0], 32), (w.heap.size, fls fun _ => 0, 30), (p, fls c, T1), (k, #[.float .f32 h, .float .f32 v], T2)] ((w.alloc (.cells (fls fun _ => 0) 30)).alloc (.cells #[.float .f32 0, .float .f32 0] 32))) := by
    have := (kk.push (fls fun _ => 0) 30).push #[.float .f32 0, .float .f32 0] 32
    simp only [World.size_alloc] at this
    exact hid this
  have hX := exf_of hh hq ht
  have HE := fun w r U hr => sExcess h v hh.1 hq w r U hr
  rw [hxe] at HE
  rw [hxe] at hX
  have HE := hid HE
  have HG := hid (fun w => sGainsX x t hX w)
  have HS := hid (fun w p q T1 T2 hp hq => sShift c (g1W x t) hc hX.g1 R z 0 (fun _ => ⟨hR.symm, hz.symm, rfl⟩) (fun h => absurd ho h) w p q T1 T2 hp hq)
  have HP := hid (fun w => sSpendG h v G A w)
  have HW := hid (fun w => sWarmG h v V G A w)
  rw [hV] at HP
  rw [hH] at HW
  have HO := hid (fun w g T hg => sAirOk H V hVl true hHV w g T hg)
  have rq := fun w => run_float_arith (P := Try.prog) w .quo 22 .f32 _ _ _ hG
  have rm := fun w => run_float_arith (P := Try.prog) w .mul 22 .f32 _ _ _ A.m
  clear kk hp hk hX hc hh hq ht hxe ho hR hz hG A hH hV hVl hHV
  go_enter Try.func67, Try.ntmps67
  go_wp2_with fail
  refine (HE.out _ k T2 (k0.out.at (x := (k, #[.float .f32 h, .float .f32 v], T2)) in3)).mono ?_
  rintro e w0 ⟨rfl, hb0⟩
  have k1 := hid (k0.out.stay hb0)
  clear hb0 k0
  go_wp2_with fail
  refine (HG.out _).mono ?_
  rintro e w1 ⟨rfl, hb1⟩
  have k2 := hid (k1.out.stay hb1)
  clear hb1 k1
  have k2z := hid (k2.out.push (fls fun _ => 0) 23)
  have tok1 : True := trivial
  go_wp2_with (first | (have _t := tok1; clear tok1; refine store_row (by rfl) 23 _ _ (by rfl) (w1.heap.size) (fls (g1W x t)) (fls fun _ => 0) (by rfl) (by rfl) k2z.out (by rw [fls_size]; exact info_a20) (by simp) (vls_one (n := 20) (f := flw (g1W x t)) (fun _ => rfl)) (k2.out.size) (k2.out.fresh) (fun w2 k3 => ?_); replace k3 := hid k3; clear k2z))
  clear k2
  refine (HS.out w2 p w1.heap.size T1 23 (k3.out.at (x := (p, fls c, T1)) in3) (k3.out.at (x := (w1.heap.size, fls (g1W x t), 23)) in0)).mono ?_
  rintro e w3 ⟨rfl, hb3⟩
  have k4 := hid (k3.out.stay hb3)
  clear hb3 k3
  have k4z := hid (k4.out.push (fls fun _ => 0) 30)
  have tok1 : True := trivial
  go_wp2_with (first
    | (have _t := tok1; clear tok1; refine store_rowE (by rfl) 30 _ _ (by rfl) (w3.heap.size) (fls R) (fls fun _ => 0) (by rfl) (by rfl) (k4z.out.at (x := (w3.heap.size, fls fun _ => 0, 30)) in0) (by rw [fls_size]; exact info_arr) (by simp) (vls_one (n := 20) (f := flw R) (fun _ => rfl)) (fun w5 e5 => ?_); have k5 := hid (e5 ▸ k4z.out.set k4.out.size k4.out.fresh (fls R)); clear e5 k4z; have tok2 : True := trivial)
    | (have _t := tok2; clear tok2; refine wpList_load_row (by rfl) 32 _ (by rfl) k (by rfl) T2 (#[.float .f32 h, .float .f32 v]) (0, 0) _ (k5.out.at (x := (k, #[.float .f32 h, .float .f32 v], T2)) (List.mem_cons_of_mem _ in4)) Try.underlying32 (by rfl) (info_air) ?_))
  refine (HP.out _).mono ?_
  rintro e w6 ⟨rfl, hb6⟩
  have k6 := hid (k5.out.stay hb6)
  clear hb6 k5
  go_wp2_with fail
  refine (HW.out _).mono ?_
  rintro e w7 ⟨rfl, hb7⟩
  have k7 := hid (k6.out.stay hb7)
  clear hb7 k6
  have k7z := hid (k7.out.push #[.float .f32 0, .float .f32 0] 32)
  have tok1 : True := trivial
  go_wp2_with (first | (have _t := tok1; clear tok1; refine store_rowE (by rfl) 32 _ _ (by rfl) (w7.heap.size) (#[.float .f32 H, .float .f32 V]) (#[.float .f32 0, .float .f32 0]) (by rfl) (by rfl) (k7z.out.at (x := (w7.heap.size, #[.float .f32 0, .float .f32 0], 32)) in0) (info_air) (by simp) (two_one _ _) (fun w8 e8 => ?_); have k8 := hid (e8 ▸ k7z.out.set k7.out.size k7.out.fresh (#[.float .f32 H, .float .f32 V])); clear e8 k7z))
  refine (HO.out w8 (w7.heap.size) 32 (k8.out.at (x := (w7.heap.size, #[.float .f32 H, .float .f32 V], 32)) in0)).mono ?_
  rintro e w9 ⟨rfl, hb9⟩
  have k9 := hid (k8.out.stay hb9)
  have z3 := k4.out.lt (x := (w.heap.size + 1, #[.float .f32 0, .float .f32 0], 32)) in1
  have z7 := k7.out.lt (x := (w.heap.size + 1, #[.float .f32 0, .float .f32 0], 32)) in2
  clear hb9 k8 k7
  go_wp2_with fail
  refine region_act (w0 := w) (lk := [(w7.heap.size, #[.float .f32 H, .float .f32 V], 32), (w3.heap.size, fls R, 30)]) (fun a0 a1 wq => a1 = (((a0.put (some 86) (.agg (fls R))).put (some 87) (.agg #[.float .f32 H, .float .f32 V])).put (some 8) (.int .i64 0)) ∧ Kept w [(w.heap.size + 1, #[.float .f32 H, .float .f32 V], 32), (w.heap.size, fls R, 30)] wq) 5 #[false, false, false, false, false] (by kernel_rfl) rfl rfl ?_ ?_
  · have kd : Kept w [(w.heap.size + 1, #[.float .f32 0, .float .f32 0], 32), (w.heap.size, fls fun _ => 0, 30), (w7.heap.size, #[.float .f32 H, .float .f32 V], 32), (w3.heap.size, fls R, 30)] w9.drew := k9.out.drew.sub (pick4 _ _ _ _ _ _)
    generalize World.drew _ = wd at kd ⊢
    refine take_load 0 _ _ rfl (by rfl) (by kernel_rfl) (by kernel_rfl) (by kernel_rfl) 30 _ rfl (w3.heap.size) (fls R) 30 rfl (by simp) _ Try.underlying30 rfl (by rw [fls_size]; exact info_arr) rfl rfl kd.tail.tail ?_
    simp only [Act.put, List.setIfInBounds_toArray, List.set_cons_zero, List.set_cons_succ]
    refine take_load 1 _ _ rfl (by rfl) (by kernel_rfl) (by kernel_rfl) (by kernel_rfl) 32 _ rfl (w7.heap.size) (#[.float .f32 H, .float .f32 V]) 32 rfl (by simp) _ Try.underlying32 rfl (info_air) rfl rfl kd.tail.tail ?_
    simp only [Act.put, List.setIfInBounds_toArray, List.set_cons_zero, List.set_cons_succ]
    refine wpAnyH_ready (rs := [2]) (by kernel_rfl) (by simp) ?_
    refine storeK 2 _ _ (kd).swap (Nat.le_refl _) (neC (by omega) (neC (by omega) (neC (by omega) ne0))) rfl (by rfl) 30 _ _ rfl (fls R) rfl rfl (by rw [fls_size]; exact info_arr) (by simp) (vls_one (n := 20) (f := flw R) (fun _ => rfl)) rfl rfl (fun w1 k1 => ?_) AllReadyH.nil
    refine ⟨k1.tail.tail, ?_⟩
    refine wpAnyH_ready (rs := [3]) (by kernel_rfl) (by simp) ?_
    refine storeK 3 _ _ (k1).swap (by omega) (neC (by omega) (neC (by omega) (neC (by omega) ne0))) rfl (by rfl) 32 _ _ rfl (#[.float .f32 H, .float .f32 V]) rfl rfl (info_air) (by simp) (two_one _ _) rfl rfl (fun w2 k2 => ?_) AllReadyH.nil
    refine ⟨k2.tail.tail, ?_⟩
    refine take_val 4 _ _ (.int .i64 0) rfl (by rfl) (by kernel_rfl) (by kernel_rfl) (by kernel_rfl) (fun w => by rfl) rfl rfl k2.tail.tail ?_
    simp only [Act.put, List.setIfInBounds_toArray, List.set_cons_zero, List.set_cons_succ]
    refine wpAnyH_done (by kernel_rfl) ?_ _
    exact ⟨rfl, by simp only [Act.put], k2.sub (pick2 _ _ _)⟩
  rintro a1 wX ⟨rfl, kX⟩
  have kX := hid kX
  clear k9
  simp only [Act.put, List.setIfInBounds_toArray, List.set_cons_zero, List.set_cons_succ]
  go_wp2_with fail
  have e1 : (loadVar 30 ⟨w.heap.size, 0, none⟩).run Try.prog wX = .ok (.agg (fls R)) wX := run_loadVar_row _ (w.heap.size) 30 30 (fls R) (0, 0) _ (kX.out.at (x := (w.heap.size, fls R, 30)) in1) Try.underlying30 rfl (by rw [fls_size]; exact info_arr)
  have e2 : (loadVar 32 ⟨w.heap.size + 1, 0, none⟩).run Try.prog wX = .ok (.agg #[.float .f32 H, .float .f32 V]) wX := run_loadVar_row _ (w.heap.size + 1) 32 32 (#[.float .f32 H, .float .f32 V]) (0, 0) _ (kX.out.at (x := (w.heap.size + 1, #[.float .f32 H, .float .f32 V], 32)) in0) Try.underlying32 rfl (info_air)
  refine ⟨rfl, .tuple #[.agg (fls R), .agg #[.float .f32 H, .float .f32 V], .int .i64 0], ?_, rfl, kX.out.1⟩
  simp [results, Try.results67, asAddr, e1, e2, Sem.run_bind, Result.andThen_ok]

set_option maxRecDepth 100000 in
set_option maxHeartbeats 400000 in
theorem sOnce_small0 (c : Nat → Nat) (h v t : Nat) (hc : Amts c) (hh : IsHeat h) (hq : airB h v = true) (ht : amtB t = true) (x : Nat) (hxe : excF h v = x) (ho : ShOk c (g1W x t)) (R : Nat → Nat) (hR : shN c (g1W x t) 20 = R) (z : Nat) (hz : watG c (g1W x t) = z) (G : Nat) (hG : S.div z 1199570944 = some G) (A : StepA h v G) (H V : Nat) (hH : nhW h G = H) (hV : nvW v G = V) (hVl : V < 4294967296) (hHV : airB H V = true) (h0 : (FloatKind.f32.format.order x 0 == some .gt) = false) (w : World) (p k : Nat) (T1 T2 : TypeId) (hp : arrAt w p c T1) (hk : airAt w k h v T2) :
    Calls Try.prog 67 #[.pointer (some ⟨p, 0, none⟩), .pointer (some ⟨k, 0, none⟩), .float .f32 t] w fun e w' => e = .returned (.tuple #[.agg (fls R), .agg #[.float .f32 H, .float .f32 V], .int .i64 0]) ∧ Below w.heap.size w w' := by
  have kk : Kept w [(p, fls c, T1), (k, #[.float .f32 h, .float .f32 v], T2)] w := ⟨Below.refl _ _, fun x hx => by
    simp only [List.mem_cons, List.not_mem_nil, or_false] at hx
    rcases hx with rfl | rfl
    · exact hp
    · exact hk⟩
  have lp : p < w.heap.size := kk.lt (x := (p, fls c, T1)) in0
  have lk : k < w.heap.size := kk.lt (x := (k, #[.float .f32 h, .float .f32 v], T2)) in1
  have k0 : Hid (Kept w [(w.heap.size + 1, #[.float .f32 0, .float .f32 0], 32), (w.heap.size, fls fun _ => 0, 30), (p, fls c, T1), (k, #[.float .f32 h, .float .f32 v], T2)] ((w.alloc (.cells (fls fun _ => 0) 30)).alloc (.cells #[.float .f32 0, .float .f32 0] 32))) := by
    have := (kk.push (fls fun _ => 0) 30).push #[.float .f32 0, .float .f32 0] 32
    simp only [World.size_alloc] at this
    exact hid this
  have hX := exf_of hh hq ht
  have HE := fun w r U hr => sExcess h v hh.1 hq w r U hr
  rw [hxe] at HE
  rw [hxe] at hX
  have HE := hid HE
  have HG := hid (fun w => sGainsX x t hX w)
  have HS := hid (fun w p q T1 T2 hp hq => sShift c (g1W x t) hc hX.g1 R z 0 (fun _ => ⟨hR.symm, hz.symm, rfl⟩) (fun h => absurd ho h) w p q T1 T2 hp hq)
  have HP := hid (fun w => sSpendG h v G A w)
  have HW := hid (fun w => sWarmG h v V G A w)
  rw [hV] at HP
  rw [hH] at HW
  have HO := hid (fun w g T hg => sAirOk H V hVl true hHV w g T hg)
  have rq := fun w => run_float_arith (P := Try.prog) w .quo 22 .f32 _ _ _ hG
  have rm := fun w => run_float_arith (P := Try.prog) w .mul 22 .f32 _ _ _ A.m
  clear kk hp hk hX hc hh hq ht hxe ho hR hz hG A hH hV hVl hHV
  go_enter Try.func67, Try.ntmps67
  go_wp2_with fail
  refine (HE.out _ k T2 (k0.out.at (x := (k, #[.float .f32 h, .float .f32 v], T2)) in3)).mono ?_
  rintro e w0 ⟨rfl, hb0⟩
  have k1 := hid (k0.out.stay hb0)
  clear hb0 k0
  go_wp2_with fail
  refine (HG.out _).mono ?_
  rintro e w1 ⟨rfl, hb1⟩
  have k2 := hid (k1.out.stay hb1)
  clear hb1 k1
  have k2z := hid (k2.out.push (fls fun _ => 0) 23)
  have tok1 : True := trivial
  go_wp2_with (first | (have _t := tok1; clear tok1; refine store_row (by rfl) 23 _ _ (by rfl) (w1.heap.size) (fls (g1W x t)) (fls fun _ => 0) (by rfl) (by rfl) k2z.out (by rw [fls_size]; exact info_a20) (by simp) (vls_one (n := 20) (f := flw (g1W x t)) (fun _ => rfl)) (k2.out.size) (k2.out.fresh) (fun w2 k3 => ?_); replace k3 := hid k3; clear k2z))
  clear k2
  refine (HS.out w2 p w1.heap.size T1 23 (k3.out.at (x := (p, fls c, T1)) in3) (k3.out.at (x := (w1.heap.size, fls (g1W x t), 23)) in0)).mono ?_
  rintro e w3 ⟨rfl, hb3⟩
  have k4 := hid (k3.out.stay hb3)
  clear hb3 k3
  have k4z := hid (k4.out.push (fls fun _ => 0) 30)
  have tok1 : True := trivial
  go_wp2_with (first
    | (have _t := tok1; clear tok1; refine store_rowE (by rfl) 30 _ _ (by rfl) (w3.heap.size) (fls R) (fls fun _ => 0) (by rfl) (by rfl) (k4z.out.at (x := (w3.heap.size, fls fun _ => 0, 30)) in0) (by rw [fls_size]; exact info_arr) (by simp) (vls_one (n := 20) (f := flw R) (fun _ => rfl)) (fun w5 e5 => ?_); have k5 := hid (e5 ▸ k4z.out.set k4.out.size k4.out.fresh (fls R)); clear e5 k4z; have tok2 : True := trivial)
    | (have _t := tok2; clear tok2; refine wpList_load_row (by rfl) 32 _ (by rfl) k (by rfl) T2 (#[.float .f32 h, .float .f32 v]) (0, 0) _ (k5.out.at (x := (k, #[.float .f32 h, .float .f32 v], T2)) (List.mem_cons_of_mem _ in4)) Try.underlying32 (by rfl) (info_air) ?_))
  refine (HP.out _).mono ?_
  rintro e w6 ⟨rfl, hb6⟩
  have k6 := hid (k5.out.stay hb6)
  clear hb6 k5
  go_wp2_with fail
  refine (HW.out _).mono ?_
  rintro e w7 ⟨rfl, hb7⟩
  have k7 := hid (k6.out.stay hb7)
  clear hb7 k6
  have k7z := hid (k7.out.push #[.float .f32 0, .float .f32 0] 32)
  have tok1 : True := trivial
  go_wp2_with (first | (have _t := tok1; clear tok1; refine store_rowE (by rfl) 32 _ _ (by rfl) (w7.heap.size) (#[.float .f32 H, .float .f32 V]) (#[.float .f32 0, .float .f32 0]) (by rfl) (by rfl) (k7z.out.at (x := (w7.heap.size, #[.float .f32 0, .float .f32 0], 32)) in0) (info_air) (by simp) (two_one _ _) (fun w8 e8 => ?_); have k8 := hid (e8 ▸ k7z.out.set k7.out.size k7.out.fresh (#[.float .f32 H, .float .f32 V])); clear e8 k7z))
  refine (HO.out w8 (w7.heap.size) 32 (k8.out.at (x := (w7.heap.size, #[.float .f32 H, .float .f32 V], 32)) in0)).mono ?_
  rintro e w9 ⟨rfl, hb9⟩
  have k9 := hid (k8.out.stay hb9)
  have z3 := k4.out.lt (x := (w.heap.size + 1, #[.float .f32 0, .float .f32 0], 32)) in1
  have z7 := k7.out.lt (x := (w.heap.size + 1, #[.float .f32 0, .float .f32 0], 32)) in2
  clear hb9 k8 k7
  go_wp2_with fail
  refine region_act (w0 := w) (lk := [(w7.heap.size, #[.float .f32 H, .float .f32 V], 32), (w3.heap.size, fls R, 30)]) (fun a0 a1 wq => a1 = (((a0.put (some 86) (.agg (fls R))).put (some 87) (.agg #[.float .f32 H, .float .f32 V])).put (some 8) (.int .i64 0)) ∧ Kept w [(w.heap.size + 1, #[.float .f32 H, .float .f32 V], 32), (w.heap.size, fls R, 30)] wq) 5 #[false, false, false, false, false] (by kernel_rfl) rfl rfl ?_ ?_
  · have kd : Kept w [(w.heap.size + 1, #[.float .f32 0, .float .f32 0], 32), (w.heap.size, fls fun _ => 0, 30), (w7.heap.size, #[.float .f32 H, .float .f32 V], 32), (w3.heap.size, fls R, 30)] w9.drew := k9.out.drew.sub (pick4 _ _ _ _ _ _)
    generalize World.drew _ = wd at kd ⊢
    refine take_load 0 _ _ rfl (by rfl) (by kernel_rfl) (by kernel_rfl) (by kernel_rfl) 30 _ rfl (w3.heap.size) (fls R) 30 rfl (by simp) _ Try.underlying30 rfl (by rw [fls_size]; exact info_arr) rfl rfl kd.tail.tail ?_
    simp only [Act.put, List.setIfInBounds_toArray, List.set_cons_zero, List.set_cons_succ]
    refine take_load 1 _ _ rfl (by rfl) (by kernel_rfl) (by kernel_rfl) (by kernel_rfl) 32 _ rfl (w7.heap.size) (#[.float .f32 H, .float .f32 V]) 32 rfl (by simp) _ Try.underlying32 rfl (info_air) rfl rfl kd.tail.tail ?_
    simp only [Act.put, List.setIfInBounds_toArray, List.set_cons_zero, List.set_cons_succ]
    refine wpAnyH_ready (rs := [2]) (by kernel_rfl) (by simp) ?_
    refine storeK 2 _ _ (kd).swap (Nat.le_refl _) (neC (by omega) (neC (by omega) (neC (by omega) ne0))) rfl (by rfl) 30 _ _ rfl (fls R) rfl rfl (by rw [fls_size]; exact info_arr) (by simp) (vls_one (n := 20) (f := flw R) (fun _ => rfl)) rfl rfl (fun w1 k1 => ?_) AllReadyH.nil
    refine ⟨k1.tail.tail, ?_⟩
    refine wpAnyH_ready (rs := [3]) (by kernel_rfl) (by simp) ?_
    refine storeK 3 _ _ (k1).swap (by omega) (neC (by omega) (neC (by omega) (neC (by omega) ne0))) rfl (by rfl) 32 _ _ rfl (#[.float .f32 H, .float .f32 V]) rfl rfl (info_air) (by simp) (two_one _ _) rfl rfl (fun w2 k2 => ?_) AllReadyH.nil
    refine ⟨k2.tail.tail, ?_⟩
    refine take_val 4 _ _ (.int .i64 0) rfl (by rfl) (by kernel_rfl) (by kernel_rfl) (by kernel_rfl) (fun w => by rfl) rfl rfl k2.tail.tail ?_
    simp only [Act.put, List.setIfInBounds_toArray, List.set_cons_zero, List.set_cons_succ]
    refine wpAnyH_done (by kernel_rfl) ?_ _
    exact ⟨rfl, by simp only [Act.put], k2.sub (pick2 _ _ _)⟩
  rintro a1 wX ⟨rfl, kX⟩
  have kX := hid kX
  clear k9
  simp only [Act.put, List.setIfInBounds_toArray, List.set_cons_zero, List.set_cons_succ]
  go_wp2_with fail
  have e1 : (loadVar 30 ⟨w.heap.size, 0, none⟩).run Try.prog wX = .ok (.agg (fls R)) wX := run_loadVar_row _ (w.heap.size) 30 30 (fls R) (0, 0) _ (kX.out.at (x := (w.heap.size, fls R, 30)) in1) Try.underlying30 rfl (by rw [fls_size]; exact info_arr)
  have e2 : (loadVar 32 ⟨w.heap.size + 1, 0, none⟩).run Try.prog wX = .ok (.agg #[.float .f32 H, .float .f32 V]) wX := run_loadVar_row _ (w.heap.size + 1) 32 32 (#[.float .f32 H, .float .f32 V]) (0, 0) _ (kX.out.at (x := (w.heap.size + 1, #[.float .f32 H, .float .f32 V], 32)) in0) Try.underlying32 rfl (info_air)
  refine ⟨rfl, .tuple #[.agg (fls R), .agg #[.float .f32 H, .float .f32 V], .int .i64 0], ?_, rfl, kX.out.1⟩
  simp [results, Try.results67, asAddr, e1, e2, Sem.run_bind, Result.andThen_ok]

set_option maxRecDepth 100000 in
set_option maxHeartbeats 400000 in
theorem sOnce_big_bad (c : Nat → Nat) (h v t : Nat) (hc : Amts c) (hh : IsHeat h) (hq : airB h v = true) (ht : amtB t = true) (x : Nat) (hxe : excF h v = x) (ho : ShOk c (g1W x t)) (R1 : Nat → Nat) (hR1 : shN c (g1W x t) 20 = R1) (z1 : Nat) (hz1 : watG c (g1W x t) = z1) (G1 : Nat) (hG1 : S.div z1 1199570944 = some G1) (h0 : (FloatKind.f32.format.order x 0 == some .gt) = true) (h1 : (FloatKind.f32.format.order G1 x == some .gt) = true) (D : Nat) (hD : S.div x G1 = some D) (hM : ∀ i, i < 20 → S.mul (g1W x t i) D = some (g2W c x t i) ∧ FW (g2W c x t i)) (hn : ¬ ShOk c (g2W c x t)) (w : World) (p k : Nat) (T1 T2 : TypeId) (hp : arrAt w p c T1) (hk : airAt w k h v T2) :
    Calls Try.prog 67 #[.pointer (some ⟨p, 0, none⟩), .pointer (some ⟨k, 0, none⟩), .float .f32 t] w fun e w' => e = .returned (.tuple #[.agg (fls fun _ => 0), .agg #[.float .f32 0, .float .f32 0], .int .i64 4]) ∧ Below w.heap.size w w' := by
  have kk : Kept w [(p, fls c, T1), (k, #[.float .f32 h, .float .f32 v], T2)] w := ⟨Below.refl _ _, fun x hx => by
    simp only [List.mem_cons, List.not_mem_nil, or_false] at hx
    rcases hx with rfl | rfl
    · exact hp
    · exact hk⟩
  have lp : p < w.heap.size := kk.lt (x := (p, fls c, T1)) in0
  have lk : k < w.heap.size := kk.lt (x := (k, #[.float .f32 h, .float .f32 v], T2)) in1
  have k0 : Hid (Kept w [(w.heap.size + 1, #[.float .f32 0, .float .f32 0], 32), (w.heap.size, fls fun _ => 0, 30), (p, fls c, T1), (k, #[.float .f32 h, .float .f32 v], T2)] ((w.alloc (.cells (fls fun _ => 0) 30)).alloc (.cells #[.float .f32 0, .float .f32 0] 32))) := by
    have := (kk.push (fls fun _ => 0) 30).push #[.float .f32 0, .float .f32 0] 32
    simp only [World.size_alloc] at this
    exact hid this
  have hX := exf_of hh hq ht
  have HE := fun w r U hr => sExcess h v hh.1 hq w r U hr
  rw [hxe] at HE
  rw [hxe] at hX
  have HE := hid HE
  have HG := hid (fun w => sGainsX x t hX w)
  have HS := hid (fun w p q T1 T2 hp hq => sShift c (g1W x t) hc hX.g1 R1 z1 0 (fun _ => ⟨hR1.symm, hz1.symm, rfl⟩) (fun h => absurd ho h) w p q T1 T2 hp hq)
  have HM := hid hM
  have rq := fun w => run_float_arith (P := Try.prog) w .quo 22 .f32 _ _ _ hG1
  have rd := fun w => run_float_arith (P := Try.prog) w .quo 22 .f32 _ _ _ hD
  have HS2 := hid (fun w p q T1 T2 hp hq => sShift c (g2W c x t) hc (fun i hi => (hM i hi).2) (fun _ => 0) 0 4 (fun h => absurd h hn) (fun _ => ⟨rfl, rfl, rfl⟩) w p q T1 T2 hp hq)
  clear kk hp hk hX hc hh hq ht hxe ho hR1 hz1 hG1 hD hM hn
  go_enter Try.func67, Try.ntmps67
  go_wp2_with fail
  refine (HE.out _ k T2 (k0.out.at (x := (k, #[.float .f32 h, .float .f32 v], T2)) in3)).mono ?_
  rintro e w0 ⟨rfl, hb0⟩
  have k1 := hid (k0.out.stay hb0)
  clear hb0 k0
  go_wp2_with fail
  refine (HG.out _).mono ?_
  rintro e w1 ⟨rfl, hb1⟩
  have k2 := hid (k1.out.stay hb1)
  clear hb1 k1
  have k2z := hid (k2.out.push (fls fun _ => 0) 23)
  have tok1 : True := trivial
  go_wp2_with (first | (have _t := tok1; clear tok1; refine store_row (by rfl) 23 _ _ (by rfl) (w1.heap.size) (fls (g1W x t)) (fls fun _ => 0) (by rfl) (by rfl) k2z.out (by rw [fls_size]; exact info_a20) (by simp) (vls_one (n := 20) (f := flw (g1W x t)) (fun _ => rfl)) (k2.out.size) (k2.out.fresh) (fun w2 k3 => ?_); replace k3 := hid k3; clear k2z))
  have m1 := k2.out.lt (x := (w.heap.size + 1, #[.float .f32 0, .float .f32 0], 32)) in0
  clear k2
  refine (HS.out w2 p w1.heap.size T1 23 (k3.out.at (x := (p, fls c, T1)) in3) (k3.out.at (x := (w1.heap.size, fls (g1W x t), 23)) in0)).mono ?_
  rintro e w3 ⟨rfl, hb3⟩
  have k4 := hid (k3.out.stay hb3)
  clear hb3 k3
  have m3 := k4.out.lt (x := (w1.heap.size, fls (g1W x t), 23)) in0
  have k4z := hid (k4.out.push (fls fun _ => 0) 30)
  have tok1 : True := trivial
  go_wp2_with (first
    | (have _t := tok1; clear tok1; refine store_rowE (by rfl) 30 _ _ (by rfl) (w3.heap.size) (fls R1) (fls fun _ => 0) (by rfl) (by rfl) (k4z.out.at (x := (w3.heap.size, fls fun _ => 0, 30)) in0) (by rw [fls_size]; exact info_arr) (by simp) (vls_one (n := 20) (f := flw R1) (fun _ => rfl)) (fun w5 e5 => ?_); have k5 := hid (e5 ▸ k4z.out.set k4.out.size k4.out.fresh (fls R1)); clear e5 k4z))
  have kE : Hid (Kept w [(w1.heap.size, vls 20 (flw (g1W x t)), 23), (w3.heap.size, fls R1, 30), (w.heap.size + 1, #[.float .f32 0, .float .f32 0], 32), (w.heap.size, fls fun _ => 0, 30), (p, fls c, T1), (k, #[.float .f32 h, .float .f32 v], T2)] w5) := hid k5.out.swap
  have M1 := hid m1
  have M3 := hid m3
  clear k5 k4 m1 m3
  go_loopw [15] (fun i wr => ∃ kk : Nat, kk ≤ 20 ∧ i = .int .i64 kk ∧ Hid (Kept w [(w1.heap.size, vls 20 (flw (prt (g2W c x t) (g1W x t) kk)), 23), (w3.heap.size, fls R1, 30), (w.heap.size + 1, #[.float .f32 0, .float .f32 0], 32), (w.heap.size, fls fun _ => 0, 30), (p, fls c, T1), (k, #[.float .f32 h, .float .f32 v], T2)] wr)) (fun i _ => 20 - (intOf i).toNat)
  case atStart => exact ⟨0, by omega, rfl, hid (Kept.ext (f := flw (g1W x t)) (d := flw (prt (g2W c x t) (g1W x t) 0)) kE.out (fun i _ => by unfold flw prt; rw [if_neg (by omega)]))⟩
  case round =>
    clear kE rq rd h0 h1
    obtain ⟨kk, hk, rfl, h0⟩ := hrel
    by_cases hlt : kk < 20
    · have HL := hid hlt
      have hk3 : (kk : Int) < 20 := by omega
      have hcell : wr.cell? ⟨w1.heap.size, kk, none⟩ = some (.float .f32 (g1W x t kk)) := by
        rw [(h0.out.v in0).cell hlt]
        unfold flw prt
        rw [if_neg (by omega)]
      have rm := fun w => run_float_arith (P := Try.prog) w .mul 22 .f32 _ _ _ (HM.out kk hlt).1
      clear hk hlt
      go_wp2_with (refine store_one (by rfl) 22 _ _ (by rfl) (by kernel_rfl) (w1.heap.size) kk (.float .f32 (g2W c x t kk)) (by rfl) (by rfl) rfl rfl h0.out HL.out (by have := M1.out; omega) (neC (Nat.ne_of_gt M3.out) (neC (Nat.ne_of_lt M1.out) (neC (by have := M1.out; omega) (neC (by have := M1.out; omega) (neC (by have := M1.out; omega) ne0))))) ?_; intro xk1 k1; replace k1 := hid k1)
      have k2 := hid (k1.out.ext (fun i _ => prt_upd _ _ _ _))
      clear k1 hcell rm h0
      go_roundw
      case rel => exact ⟨kk + 1, HL.out, by go_num, k2⟩
      case measure => have := HL.out; simp [intOf]; omega
    · obtain rfl : kk = 20 := by omega
      have kF : Hid (Kept w [(w1.heap.size, vls 20 (flw (g2W c x t)), 23), (w3.heap.size, fls R1, 30), (w.heap.size + 1, #[.float .f32 0, .float .f32 0], 32), (w.heap.size, fls fun _ => 0, 30), (p, fls c, T1), (k, #[.float .f32 h, .float .f32 v], T2)] wr) := hid (Kept.ext (d := flw (g2W c x t)) h0.out (fun i hi => by unfold flw prt; rw [if_pos hi]))
      clear h0 hlt hk
      go_wp2_with fail
      refine (HS2.out wr p w1.heap.size T1 23 (kF.out.at (x := (p, fls c, T1)) in4) (kF.out.at (x := (w1.heap.size, vls 20 (flw (g2W c x t)), 23)) in0)).mono ?_
      rintro e wS ⟨rfl, hbS⟩
      have k4 := hid (kF.out.stay hbS)
      clear hbS kF
      have k4z := hid (k4.out.push (fls fun _ => 0) 30)
      have tok1 : True := trivial
      go_wp2_with (first
        | (have _t := tok1; clear tok1; refine store_rowE (by rfl) 30 _ _ (by rfl) (wS.heap.size) (fls fun _ => 0) (fls fun _ => 0) (by rfl) (by rfl) (k4z.out.at (x := (wS.heap.size, fls fun _ => 0, 30)) in0) (by rw [fls_size]; exact info_arr) (by simp) (vls_one (n := 20) (f := flw fun _ => 0) (fun _ => rfl)) (fun w5 e5 => ?_); have k5 := hid (e5 ▸ k4z.out.same in0 k4.out.size); clear e5 k4z; have tok2 : True := trivial)
        | (have _t := tok2; clear tok2; refine store_rowE (by rfl) 30 _ _ (by rfl) (w.heap.size) (fls fun _ => 0) (fls fun _ => 0) (by rfl) (by rfl) (k5.out.at (x := (w.heap.size, fls fun _ => 0, 30)) in4) (by rw [fls_size]; exact info_arr) (by simp) (vls_one (n := 20) (f := flw fun _ => 0) (fun _ => rfl)) (fun w6 e6 => ?_); have k6 := hid (e6 ▸ k5.out.same in4 (Nat.le_refl _)); clear e6 k5; have tok3 : True := trivial)
        | (have _t := tok3; clear tok3; refine store_rowE (by rfl) 32 _ _ (by rfl) (w.heap.size + 1) (#[.float .f32 0, .float .f32 0]) (#[.float .f32 0, .float .f32 0]) (by rfl) (by rfl) (k6.out.at (x := (w.heap.size + 1, #[.float .f32 0, .float .f32 0], 32)) in3) (info_air) (by simp) (two_one _ _) (fun w7 e7 => ?_); have k7 := hid (e7 ▸ k6.out.same (g := w.heap.size + 1) in3 (by omega)); clear e7 k6))
      have e1 : (loadVar 30 ⟨w.heap.size, 0, none⟩).run Try.prog w7 = .ok (.agg (fls fun _ => 0)) w7 := run_loadVar_row _ (w.heap.size) 30 30 (fls fun _ => 0) (0, 0) _ (k7.out.at (x := (w.heap.size, fls fun _ => 0, 30)) in4) Try.underlying30 rfl (by rw [fls_size]; exact info_arr)
      have e2 : (loadVar 32 ⟨w.heap.size + 1, 0, none⟩).run Try.prog w7 = .ok (.agg #[.float .f32 0, .float .f32 0]) w7 := run_loadVar_row _ (w.heap.size + 1) 32 32 (#[.float .f32 0, .float .f32 0]) (0, 0) _ (k7.out.at (x := (w.heap.size + 1, #[.float .f32 0, .float .f32 0], 32)) in3) Try.underlying32 rfl (info_air)
      refine ⟨rfl, .tuple #[.agg (fls fun _ => 0), .agg #[.float .f32 0, .float .f32 0], .int .i64 4], ?_, rfl, k7.out.1⟩
      simp [results, Try.results67, asAddr, e1, e2, Sem.run_bind, Result.andThen_ok]

set_option maxRecDepth 100000 in
set_option maxHeartbeats 400000 in
theorem sOnce_big_ok (c : Nat → Nat) (h v t : Nat) (hc : Amts c) (hh : IsHeat h) (hq : airB h v = true) (ht : amtB t = true) (x : Nat) (hxe : excF h v = x) (ho : ShOk c (g1W x t)) (R1 : Nat → Nat) (hR1 : shN c (g1W x t) 20 = R1) (z1 : Nat) (hz1 : watG c (g1W x t) = z1) (G1 : Nat) (hG1 : S.div z1 1199570944 = some G1) (h0 : (FloatKind.f32.format.order x 0 == some .gt) = true) (h1 : (FloatKind.f32.format.order G1 x == some .gt) = true) (D : Nat) (hD : S.div x G1 = some D) (hM : ∀ i, i < 20 → S.mul (g1W x t i) D = some (g2W c x t i) ∧ FW (g2W c x t i)) (ho2 : ShOk c (g2W c x t)) (R : Nat → Nat) (hR : shN c (g2W c x t) 20 = R) (z : Nat) (hz : watG c (g2W c x t) = z) (G : Nat) (hG : S.div z 1199570944 = some G) (A : StepA h v G) (H V : Nat) (hH : nhW h G = H) (hV : nvW v G = V) (hVl : V < 4294967296) (hHV : airB H V = true) (w : World) (p k : Nat) (T1 T2 : TypeId) (hp : arrAt w p c T1) (hk : airAt w k h v T2) :
    Calls Try.prog 67 #[.pointer (some ⟨p, 0, none⟩), .pointer (some ⟨k, 0, none⟩), .float .f32 t] w fun e w' => e = .returned (.tuple #[.agg (fls R), .agg #[.float .f32 H, .float .f32 V], .int .i64 0]) ∧ Below w.heap.size w w' := by
  have kk : Kept w [(p, fls c, T1), (k, #[.float .f32 h, .float .f32 v], T2)] w := ⟨Below.refl _ _, fun x hx => by
    simp only [List.mem_cons, List.not_mem_nil, or_false] at hx
    rcases hx with rfl | rfl
    · exact hp
    · exact hk⟩
  have lp : p < w.heap.size := kk.lt (x := (p, fls c, T1)) in0
  have lk : k < w.heap.size := kk.lt (x := (k, #[.float .f32 h, .float .f32 v], T2)) in1
  have k0 : Hid (Kept w [(w.heap.size + 1, #[.float .f32 0, .float .f32 0], 32), (w.heap.size, fls fun _ => 0, 30), (p, fls c, T1), (k, #[.float .f32 h, .float .f32 v], T2)] ((w.alloc (.cells (fls fun _ => 0) 30)).alloc (.cells #[.float .f32 0, .float .f32 0] 32))) := by
    have := (kk.push (fls fun _ => 0) 30).push #[.float .f32 0, .float .f32 0] 32
    simp only [World.size_alloc] at this
    exact hid this
  have hX := exf_of hh hq ht
  have HE := fun w r U hr => sExcess h v hh.1 hq w r U hr
  rw [hxe] at HE
  rw [hxe] at hX
  have HE := hid HE
  have HG := hid (fun w => sGainsX x t hX w)
  have HS := hid (fun w p q T1 T2 hp hq => sShift c (g1W x t) hc hX.g1 R1 z1 0 (fun _ => ⟨hR1.symm, hz1.symm, rfl⟩) (fun h => absurd ho h) w p q T1 T2 hp hq)
  have HM := hid hM
  have rq := fun w => run_float_arith (P := Try.prog) w .quo 22 .f32 _ _ _ hG1
  have rd := fun w => run_float_arith (P := Try.prog) w .quo 22 .f32 _ _ _ hD
  have HS2 := hid (fun w p q T1 T2 hp hq => sShift c (g2W c x t) hc (fun i hi => (hM i hi).2) R z 0 (fun _ => ⟨hR.symm, hz.symm, rfl⟩) (fun h => absurd ho2 h) w p q T1 T2 hp hq)
  have HP := hid (fun w => sSpendG h v G A w)
  have HW := hid (fun w => sWarmG h v V G A w)
  rw [hV] at HP
  rw [hH] at HW
  have HO := hid (fun w g T hg => sAirOk H V hVl true hHV w g T hg)
  have rq2 := fun w => run_float_arith (P := Try.prog) w .quo 22 .f32 _ _ _ hG
  have rm := fun w => run_float_arith (P := Try.prog) w .mul 22 .f32 _ _ _ A.m
  clear kk hp hk hX hc hh hq ht hxe ho hR1 hz1 hG1 hD hM ho2 hR hz hG A hH hV hVl hHV
  go_enter Try.func67, Try.ntmps67
  go_wp2_with fail
  refine (HE.out _ k T2 (k0.out.at (x := (k, #[.float .f32 h, .float .f32 v], T2)) in3)).mono ?_
  rintro e w0 ⟨rfl, hb0⟩
  have k1 := hid (k0.out.stay hb0)
  clear hb0 k0
  go_wp2_with fail
  refine (HG.out _).mono ?_
  rintro e w1 ⟨rfl, hb1⟩
  have k2 := hid (k1.out.stay hb1)
  clear hb1 k1
  have k2z := hid (k2.out.push (fls fun _ => 0) 23)
  have tok1 : True := trivial
  go_wp2_with (first | (have _t := tok1; clear tok1; refine store_row (by rfl) 23 _ _ (by rfl) (w1.heap.size) (fls (g1W x t)) (fls fun _ => 0) (by rfl) (by rfl) k2z.out (by rw [fls_size]; exact info_a20) (by simp) (vls_one (n := 20) (f := flw (g1W x t)) (fun _ => rfl)) (k2.out.size) (k2.out.fresh) (fun w2 k3 => ?_); replace k3 := hid k3; clear k2z))
  have m1 := k2.out.lt (x := (w.heap.size + 1, #[.float .f32 0, .float .f32 0], 32)) in0
  clear k2
  refine (HS.out w2 p w1.heap.size T1 23 (k3.out.at (x := (p, fls c, T1)) in3) (k3.out.at (x := (w1.heap.size, fls (g1W x t), 23)) in0)).mono ?_
  rintro e w3 ⟨rfl, hb3⟩
  have k4 := hid (k3.out.stay hb3)
  clear hb3 k3
  have m3 := k4.out.lt (x := (w1.heap.size, fls (g1W x t), 23)) in0
  have k4z := hid (k4.out.push (fls fun _ => 0) 30)
  have tok1 : True := trivial
  go_wp2_with (first
    | (have _t := tok1; clear tok1; refine store_rowE (by rfl) 30 _ _ (by rfl) (w3.heap.size) (fls R1) (fls fun _ => 0) (by rfl) (by rfl) (k4z.out.at (x := (w3.heap.size, fls fun _ => 0, 30)) in0) (by rw [fls_size]; exact info_arr) (by simp) (vls_one (n := 20) (f := flw R1) (fun _ => rfl)) (fun w5 e5 => ?_); have k5 := hid (e5 ▸ k4z.out.set k4.out.size k4.out.fresh (fls R1)); clear e5 k4z))
  have kE : Hid (Kept w [(w1.heap.size, vls 20 (flw (g1W x t)), 23), (w3.heap.size, fls R1, 30), (w.heap.size + 1, #[.float .f32 0, .float .f32 0], 32), (w.heap.size, fls fun _ => 0, 30), (p, fls c, T1), (k, #[.float .f32 h, .float .f32 v], T2)] w5) := hid k5.out.swap
  have M1 := hid m1
  have M3 := hid m3
  clear k5 k4 m1 m3
  go_loopw [15] (fun i wr => ∃ kk : Nat, kk ≤ 20 ∧ i = .int .i64 kk ∧ Hid (Kept w [(w1.heap.size, vls 20 (flw (prt (g2W c x t) (g1W x t) kk)), 23), (w3.heap.size, fls R1, 30), (w.heap.size + 1, #[.float .f32 0, .float .f32 0], 32), (w.heap.size, fls fun _ => 0, 30), (p, fls c, T1), (k, #[.float .f32 h, .float .f32 v], T2)] wr)) (fun i _ => 20 - (intOf i).toNat)
  case atStart => exact ⟨0, by omega, rfl, hid (Kept.ext (f := flw (g1W x t)) (d := flw (prt (g2W c x t) (g1W x t) 0)) kE.out (fun i _ => by unfold flw prt; rw [if_neg (by omega)]))⟩
  case round =>
    clear kE rq rd h0 h1
    obtain ⟨kk, hk, rfl, h0⟩ := hrel
    by_cases hlt : kk < 20
    · have HL := hid hlt
      have hk3 : (kk : Int) < 20 := by omega
      have hcell : wr.cell? ⟨w1.heap.size, kk, none⟩ = some (.float .f32 (g1W x t kk)) := by
        rw [(h0.out.v in0).cell hlt]
        unfold flw prt
        rw [if_neg (by omega)]
      have rm := fun w => run_float_arith (P := Try.prog) w .mul 22 .f32 _ _ _ (HM.out kk hlt).1
      clear hk hlt
      go_wp2_with (refine store_one (by rfl) 22 _ _ (by rfl) (by kernel_rfl) (w1.heap.size) kk (.float .f32 (g2W c x t kk)) (by rfl) (by rfl) rfl rfl h0.out HL.out (by have := M1.out; omega) (neC (Nat.ne_of_gt M3.out) (neC (Nat.ne_of_lt M1.out) (neC (by have := M1.out; omega) (neC (by have := M1.out; omega) (neC (by have := M1.out; omega) ne0))))) ?_; intro xk1 k1; replace k1 := hid k1)
      have k2 := hid (k1.out.ext (fun i _ => prt_upd _ _ _ _))
      clear k1 hcell rm h0
      go_roundw
      case rel => exact ⟨kk + 1, HL.out, by go_num, k2⟩
      case measure => have := HL.out; simp [intOf]; omega
    · obtain rfl : kk = 20 := by omega
      have kF : Hid (Kept w [(w1.heap.size, vls 20 (flw (g2W c x t)), 23), (w3.heap.size, fls R1, 30), (w.heap.size + 1, #[.float .f32 0, .float .f32 0], 32), (w.heap.size, fls fun _ => 0, 30), (p, fls c, T1), (k, #[.float .f32 h, .float .f32 v], T2)] wr) := hid (Kept.ext (d := flw (g2W c x t)) h0.out (fun i hi => by unfold flw prt; rw [if_pos hi]))
      clear h0 hlt hk
      go_wp2_with fail
      refine (HS2.out wr p w1.heap.size T1 23 (kF.out.at (x := (p, fls c, T1)) in4) (kF.out.at (x := (w1.heap.size, vls 20 (flw (g2W c x t)), 23)) in0)).mono ?_
      rintro e wS ⟨rfl, hbS⟩
      have k4 := hid (kF.out.stay hbS)
      clear hbS kF
      have k4z := hid (k4.out.push (fls fun _ => 0) 30)
      have tok1 : True := trivial
      go_wp2_with (first
        | (have _t := tok1; clear tok1; refine store_rowE (by rfl) 30 _ _ (by rfl) (wS.heap.size) (fls R) (fls fun _ => 0) (by rfl) (by rfl) (k4z.out.at (x := (wS.heap.size, fls fun _ => 0, 30)) in0) (by rw [fls_size]; exact info_arr) (by simp) (vls_one (n := 20) (f := flw R) (fun _ => rfl)) (fun wT e5 => ?_); have k4y := hid (e5 ▸ k4z.out.set k4.out.size k4.out.fresh (fls R)); clear e5 k4z; have tok2 : True := trivial)
        | (have _t := tok2; clear tok2; refine wpList_load_row (by rfl) 30 _ (by rfl) (wS.heap.size) (by rfl) 30 (fls R) (0, 0) _ (k4y.out.at (x := (wS.heap.size, fls R, 30)) in0) Try.underlying30 (by rfl) (by rw [fls_size]; exact info_arr) ?_; have tok3 : True := trivial)
        | (have _t := tok3; clear tok3; refine store_rowE (by rfl) 30 _ _ (by rfl) (w3.heap.size) (fls R) (fls R1) (by rfl) (by rfl) (k4y.out.at (x := (w3.heap.size, fls R1, 30)) in2) (by rw [fls_size]; exact info_arr) (by simp) (vls_one (n := 20) (f := flw R) (fun _ => rfl)) (fun wU e6 => ?_); have k5 := hid (e6 ▸ k4y.out.tail.swap.set (by have := M1.out; have := M3.out; omega) (neC (Nat.ne_of_lt M3.out) (neC (by have := M1.out; have := M3.out; omega) (neC (by have := M1.out; have := M3.out; omega) (neC (by have := M1.out; have := M3.out; omega) (neC (by have := M1.out; have := M3.out; omega) ne0))))) (fls R)); clear e6 k4y; have tok4 : True := trivial)
        | (have _t := tok4; clear tok4; refine wpList_load_row (by rfl) 32 _ (by rfl) k (by rfl) T2 (#[.float .f32 h, .float .f32 v]) (0, 0) _ (k5.out.at (x := (k, #[.float .f32 h, .float .f32 v], T2)) (List.mem_cons_of_mem _ in4)) Try.underlying32 (by rfl) (info_air) ?_))
      refine (HP.out _).mono ?_
      rintro e w6 ⟨rfl, hb6⟩
      have k6 := hid (k5.out.stay hb6)
      clear hb6 k5
      go_wp2_with fail
      refine (HW.out _).mono ?_
      rintro e w7 ⟨rfl, hb7⟩
      have k7 := hid (k6.out.stay hb7)
      clear hb7 k6
      have k7z := hid (k7.out.push #[.float .f32 0, .float .f32 0] 32)
      have tok1 : True := trivial
      go_wp2_with (first | (have _t := tok1; clear tok1; refine store_rowE (by rfl) 32 _ _ (by rfl) (w7.heap.size) (#[.float .f32 H, .float .f32 V]) (#[.float .f32 0, .float .f32 0]) (by rfl) (by rfl) (k7z.out.at (x := (w7.heap.size, #[.float .f32 0, .float .f32 0], 32)) in0) (info_air) (by simp) (two_one _ _) (fun w8 e8 => ?_); have k8 := hid (e8 ▸ k7z.out.set k7.out.size k7.out.fresh (#[.float .f32 H, .float .f32 V])); clear e8 k7z))
      refine (HO.out w8 (w7.heap.size) 32 (k8.out.at (x := (w7.heap.size, #[.float .f32 H, .float .f32 V], 32)) in0)).mono ?_
      rintro e w9 ⟨rfl, hb9⟩
      have k9 := hid (k8.out.stay hb9)
      have z3 : w.heap.size + 1 < w3.heap.size := by have := M1.out; have := M3.out; omega
      have z7 := k7.out.lt (x := (w.heap.size + 1, #[.float .f32 0, .float .f32 0], 32)) in2
      clear hb9 k8 k7
      go_wp2_with fail
      refine region_act (w0 := w) (lk := [(w7.heap.size, #[.float .f32 H, .float .f32 V], 32), (w3.heap.size, fls R, 30)]) (fun a0 a1 wq => a1 = (((a0.put (some 86) (.agg (fls R))).put (some 87) (.agg #[.float .f32 H, .float .f32 V])).put (some 8) (.int .i64 0)) ∧ Kept w [(w.heap.size + 1, #[.float .f32 H, .float .f32 V], 32), (w.heap.size, fls R, 30)] wq) 5 #[false, false, false, false, false] (by kernel_rfl) rfl rfl ?_ ?_
      · have kd : Kept w [(w.heap.size + 1, #[.float .f32 0, .float .f32 0], 32), (w.heap.size, fls fun _ => 0, 30), (w7.heap.size, #[.float .f32 H, .float .f32 V], 32), (w3.heap.size, fls R, 30)] w9.drew := k9.out.drew.sub (pick4 _ _ _ _ _ _)
        generalize World.drew _ = wd at kd ⊢
        refine take_load 0 _ _ rfl (by rfl) (by kernel_rfl) (by kernel_rfl) (by kernel_rfl) 30 _ rfl (w3.heap.size) (fls R) 30 rfl (by simp) _ Try.underlying30 rfl (by rw [fls_size]; exact info_arr) rfl rfl kd.tail.tail ?_
        simp only [Act.put, List.setIfInBounds_toArray, List.set_cons_zero, List.set_cons_succ]
        refine take_load 1 _ _ rfl (by rfl) (by kernel_rfl) (by kernel_rfl) (by kernel_rfl) 32 _ rfl (w7.heap.size) (#[.float .f32 H, .float .f32 V]) 32 rfl (by simp) _ Try.underlying32 rfl (info_air) rfl rfl kd.tail.tail ?_
        simp only [Act.put, List.setIfInBounds_toArray, List.set_cons_zero, List.set_cons_succ]
        refine wpAnyH_ready (rs := [2]) (by kernel_rfl) (by simp) ?_
        refine storeK 2 _ _ (kd).swap (Nat.le_refl _) (neC (by omega) (neC (by omega) (neC (by omega) ne0))) rfl (by rfl) 30 _ _ rfl (fls R) rfl rfl (by rw [fls_size]; exact info_arr) (by simp) (vls_one (n := 20) (f := flw R) (fun _ => rfl)) rfl rfl (fun w1 k1 => ?_) AllReadyH.nil
        refine ⟨k1.tail.tail, ?_⟩
        refine wpAnyH_ready (rs := [3]) (by kernel_rfl) (by simp) ?_
        refine storeK 3 _ _ (k1).swap (by omega) (neC (by omega) (neC (by omega) (neC (by omega) ne0))) rfl (by rfl) 32 _ _ rfl (#[.float .f32 H, .float .f32 V]) rfl rfl (info_air) (by simp) (two_one _ _) rfl rfl (fun w2 k2 => ?_) AllReadyH.nil
        refine ⟨k2.tail.tail, ?_⟩
        refine take_val 4 _ _ (.int .i64 0) rfl (by rfl) (by kernel_rfl) (by kernel_rfl) (by kernel_rfl) (fun w => by rfl) rfl rfl k2.tail.tail ?_
        simp only [Act.put, List.setIfInBounds_toArray, List.set_cons_zero, List.set_cons_succ]
        refine wpAnyH_done (by kernel_rfl) ?_ _
        exact ⟨rfl, by simp only [Act.put], k2.sub (pick2 _ _ _)⟩
      rintro a1 wX ⟨rfl, kX⟩
      have kX := hid kX
      clear k9
      simp only [Act.put, List.setIfInBounds_toArray, List.set_cons_zero, List.set_cons_succ]
      go_wp2_with fail
      have e1 : (loadVar 30 ⟨w.heap.size, 0, none⟩).run Try.prog wX = .ok (.agg (fls R)) wX := run_loadVar_row _ (w.heap.size) 30 30 (fls R) (0, 0) _ (kX.out.at (x := (w.heap.size, fls R, 30)) in1) Try.underlying30 rfl (by rw [fls_size]; exact info_arr)
      have e2 : (loadVar 32 ⟨w.heap.size + 1, 0, none⟩).run Try.prog wX = .ok (.agg #[.float .f32 H, .float .f32 V]) wX := run_loadVar_row _ (w.heap.size + 1) 32 32 (#[.float .f32 H, .float .f32 V]) (0, 0) _ (kX.out.at (x := (w.heap.size + 1, #[.float .f32 H, .float .f32 V], 32)) in0) Try.underlying32 rfl (info_air)
      refine ⟨rfl, .tuple #[.agg (fls R), .agg #[.float .f32 H, .float .f32 V], .int .i64 0], ?_, rfl, kX.out.1⟩
      simp [results, Try.results67, asAddr, e1, e2, Sem.run_bind, Result.andThen_ok]

theorem vap_lt {h v : Nat} (hq : airB h v = true) : v < 4294967296 := by
  have := amtB_iff.1 (airB_iff.1 hq).2.1
  have hI := INF_val
  omega

theorem sOnce_t (t : Nat) (s : GSt) (hs : GVal t s) (hok : GOk t s) (w : World) (p k : Nat) (T1 T2 : TypeId) (hp : arrAt w p s.c T1) (hk : airAt w k s.h s.v T2) :
    Calls Try.prog 67 #[.pointer (some ⟨p, 0, none⟩), .pointer (some ⟨k, 0, none⟩), .float .f32 t] w fun e w' =>
      e = .returned (.tuple #[.agg (fls (gNext t s).c), .agg #[.float .f32 (gNext t s).h, .float .f32 (gNext t s).v], .int .i64 0]) ∧ Below w.heap.size w w' := by
  have hX := exf_of hs.h hs.q hs.t
  have fw := gainS_fw hs.c hX hok
  have A := step_a hs.h.1 hs.q fw
  have B := step_air A (airB_iff.1 hs.q).2.1 fw
  have ho : ShOk s.c (g1W (excF s.h s.v) t) := hok.1
  have d1 := s1_fw hs.c hX ho
  by_cases hb : bigG (excF s.h s.v) (s1W s.c (excF s.h s.v) t) = true
  · have ho2 := hok.2 hb
    have hM := g2_fw hs.c hX ho hb
    have hD := (big_by hX d1.2 hb).1
    have eS : gainS s.c (excF s.h s.v) t = grW (watG s.c (g2W s.c (excF s.h s.v) t)) := if_pos hb
    have eR : gainR s.c (excF s.h s.v) t = shN s.c (g2W s.c (excF s.h s.v) t) 20 := if_pos hb
    have hG := (gr_fw (wat_fw hs.c (fun i hi => (hM i hi).2) ho2)).1
    unfold gNext
    rw [eS] at A B
    rw [eS, eR]
    have hb2 := hb
    unfold bigG at hb2
    rw [Bool.and_eq_true] at hb2
    exact sOnce_big_ok s.c s.h s.v t hs.c hs.h hs.q hs.t _ rfl ho _ rfl _ rfl _ d1.1 hb2.1 hb2.2 _ hD hM ho2 _ rfl _ rfl _ hG A _ _ rfl rfl (vap_lt B.2) B.2 w p k T1 T2 hp hk
  · have eS : gainS s.c (excF s.h s.v) t = s1W s.c (excF s.h s.v) t := if_neg hb
    have eR : gainR s.c (excF s.h s.v) t = shN s.c (g1W (excF s.h s.v) t) 20 := if_neg hb
    unfold gNext
    rw [eS] at A B
    rw [eS, eR]
    unfold bigG at hb
    cases h0 : (FloatKind.f32.format.order (excF s.h s.v) 0 == some .gt) with
    | false => exact sOnce_small0 s.c s.h s.v t hs.c hs.h hs.q hs.t _ rfl ho _ rfl _ rfl _ d1.1 A _ _ rfl rfl (vap_lt B.2) B.2 h0 w p k T1 T2 hp hk
    | true =>
      have h1 : (FloatKind.f32.format.order (s1W s.c (excF s.h s.v) t) (excF s.h s.v) == some .gt) = false := by
        cases h1 : (FloatKind.f32.format.order (s1W s.c (excF s.h s.v) t) (excF s.h s.v) == some .gt) with
        | false => rfl
        | true => exact absurd (by rw [h0, h1]; rfl) hb
      exact sOnce_small1 s.c s.h s.v t hs.c hs.h hs.q hs.t _ rfl ho _ rfl _ rfl _ d1.1 A _ _ rfl rfl (vap_lt B.2) B.2 h0 h1 w p k T1 T2 hp hk

theorem sOnce_f (t : Nat) (s : GSt) (hs : GVal t s) (hno : ¬ GOk t s) (w : World) (p k : Nat) (T1 T2 : TypeId) (hp : arrAt w p s.c T1) (hk : airAt w k s.h s.v T2) :
    Calls Try.prog 67 #[.pointer (some ⟨p, 0, none⟩), .pointer (some ⟨k, 0, none⟩), .float .f32 t] w fun e w' =>
      e = .returned (.tuple #[.agg (fls fun _ => 0), .agg #[.float .f32 0, .float .f32 0], .int .i64 4]) ∧ Below w.heap.size w w' := by
  have hX := exf_of hs.h hs.q hs.t
  by_cases ho : ShOk s.c (g1W (excF s.h s.v) t)
  · have d1 := s1_fw hs.c hX ho
    by_cases hb : bigG (excF s.h s.v) (s1W s.c (excF s.h s.v) t) = true
    · have hM := g2_fw hs.c hX ho hb
      have hD := (big_by hX d1.2 hb).1
      have hn : ¬ ShOk s.c (g2W s.c (excF s.h s.v) t) := fun h => hno ⟨ho, fun _ => h⟩
      have hb2 := hb
      unfold bigG at hb2
      rw [Bool.and_eq_true] at hb2
      exact sOnce_big_bad s.c s.h s.v t hs.c hs.h hs.q hs.t _ rfl ho _ rfl _ rfl _ d1.1 hb2.1 hb2.2 _ hD hM hn w p k T1 T2 hp hk
    · exact absurd ⟨ho, fun h => absurd h hb⟩ hno
  · exact sOnce_bad1 s.c s.h s.v t hs.c hs.h hs.q hs.t ho w p k T1 T2 hp hk

theorem eq_zero_nn {x : Nat} (h : nnB x = true) : (FloatKind.f32.format.order x 0 == some .eq) = true ↔ x = 0 := by
  rw [nnB_iff] at h
  rcases Nat.lt_or_ge x INF with hx | hx
  · have ho : FloatKind.f32.format.order x 0 = some (compare x 0) := order_zero_pos hx
    rw [ho]
    by_cases e : x = 0
    · subst e; exact ⟨fun _ => rfl, fun _ => rfl⟩
    · have : compare x 0 = .gt := Nat.compare_eq_gt.2 (by omega)
      rw [this]
      exact ⟨fun q => (by cases q), fun q => absurd q e⟩
  · have e : x = INF := by omega
    subst e
    exact ⟨fun q => absurd q (by decide), fun q => absurd q (by decide)⟩

set_option maxRecDepth 100000 in
set_option maxHeartbeats 1000000 in
theorem sDry_bad1 (c : Nat → Nat) (h v t : Nat) (n : Int) (hw : ∀ i, i < 20 → c i < 4294967296) (hc : ¬ Amts c) (w : World) :
    Calls Try.prog 25 #[.agg (fls c), .agg #[.float .f32 h, .float .f32 v], .float .f32 t, .int .i64 n] w fun e w' => e = .returned (.tuple #[.int .i64 0, .int .i64 1]) ∧ Below w.heap.size w w' := by
  have k0 : Hid (Kept w [(w.heap.size, fls c, 30), (w.heap.size + 1, #[.float .f32 h, .float .f32 v], 32)] ((w.alloc (.cells (fls c) 30)).alloc (.cells #[.float .f32 h, .float .f32 v] 32))) := by
    have := ((((Kept.nil w).push (fls c) 30).push #[.float .f32 h, .float .f32 v] 32)).swap
    simp only [World.size_alloc] at this
    exact hid this
  have H1 := hid (fun w g T hg => sOk_f c hw hc w g T hg)
  clear hw hc
  go_enter Try.func25, Try.ntmps25
  go_wp2_with fail
  refine (H1.out _ (w.heap.size) 30 (k0.out.at (x := (w.heap.size, fls c, 30)) in0)).mono ?_
  rintro e w1 ⟨rfl, hb1⟩
  have k0 := hid (k0.out.stay hb1)
  clear hb1
  go_wp2
  go_ret2
  exact ⟨rfl, k0.out.1⟩

set_option maxRecDepth 100000 in
set_option maxHeartbeats 1000000 in
theorem sDry_bad2 (c : Nat → Nat) (h v t : Nat) (n : Int) (hc : Amts c) (hv : v < 4294967296) (hq : airB h v = false) (w : World) :
    Calls Try.prog 25 #[.agg (fls c), .agg #[.float .f32 h, .float .f32 v], .float .f32 t, .int .i64 n] w fun e w' => e = .returned (.tuple #[.int .i64 0, .int .i64 1]) ∧ Below w.heap.size w w' := by
  have k0 : Hid (Kept w [(w.heap.size, fls c, 30), (w.heap.size + 1, #[.float .f32 h, .float .f32 v], 32)] ((w.alloc (.cells (fls c) 30)).alloc (.cells #[.float .f32 h, .float .f32 v] 32))) := by
    have := ((((Kept.nil w).push (fls c) 30).push #[.float .f32 h, .float .f32 v] 32)).swap
    simp only [World.size_alloc] at this
    exact hid this
  have H1 := hid (fun w g T hg => sOk_t c hc w g T hg)
  have H2 := hid (fun w g T hg => sAirOk_f h v hv hq w g T hg)
  clear hc hv hq
  go_enter Try.func25, Try.ntmps25
  go_wp2_with fail
  refine (H1.out _ (w.heap.size) 30 (k0.out.at (x := (w.heap.size, fls c, 30)) in0)).mono ?_
  rintro e w1 ⟨rfl, rfl⟩
  go_wp2_with fail
  refine (H2.out _ (w.heap.size + 1) 32 (k0.out.at (x := (w.heap.size + 1, #[.float .f32 h, .float .f32 v], 32)) in1)).mono ?_
  rintro e w1 ⟨rfl, hb1⟩
  have k0 := hid (k0.out.stay hb1)
  clear hb1
  go_wp2
  go_ret2
  exact ⟨rfl, k0.out.1⟩

set_option maxRecDepth 100000 in
set_option maxHeartbeats 1000000 in
theorem sDry_bad3 (c : Nat → Nat) (h v t : Nat) (n : Int) (hc : Amts c) (hq : airB h v = true) (hl : t < 4294967296) (ha : amtB t = false) (w : World) :
    Calls Try.prog 25 #[.agg (fls c), .agg #[.float .f32 h, .float .f32 v], .float .f32 t, .int .i64 n] w fun e w' => e = .returned (.tuple #[.int .i64 0, .int .i64 2]) ∧ Below w.heap.size w w' := by
  have k0 : Hid (Kept w [(w.heap.size, fls c, 30), (w.heap.size + 1, #[.float .f32 h, .float .f32 v], 32)] ((w.alloc (.cells (fls c) 30)).alloc (.cells #[.float .f32 h, .float .f32 v] 32))) := by
    have := ((((Kept.nil w).push (fls c) 30).push #[.float .f32 h, .float .f32 v] 32)).swap
    simp only [World.size_alloc] at this
    exact hid this
  have H1 := hid (fun w g T hg => sOk_t c hc w g T hg)
  have H2 := hid (fun w g T hg => sAirOk_t h v hq w g T hg)
  have H3 := hid (fun w => sAmount_f t hl ha w)
  clear hc hq hl ha
  go_enter Try.func25, Try.ntmps25
  go_wp2_with fail
  refine (H1.out _ (w.heap.size) 30 (k0.out.at (x := (w.heap.size, fls c, 30)) in0)).mono ?_
  rintro e w1 ⟨rfl, rfl⟩
  go_wp2_with fail
  refine (H2.out _ (w.heap.size + 1) 32 (k0.out.at (x := (w.heap.size + 1, #[.float .f32 h, .float .f32 v], 32)) in1)).mono ?_
  rintro e w1 ⟨rfl, rfl⟩
  go_wp2_with fail
  refine (H3.out _).mono ?_
  rintro e w1 ⟨rfl, hb1⟩
  have k0 := hid (k0.out.stay hb1)
  clear hb1
  go_wp2
  go_ret2
  exact ⟨rfl, k0.out.1⟩

set_option maxRecDepth 100000 in
set_option maxHeartbeats 1000000 in
theorem sDry_bad4 (c : Nat → Nat) (h v t : Nat) (n : Int) (hc : Amts c) (hq : airB h v = true) (ha : amtB t = true) (hn : ¬ (0 ≤ n ∧ n ≤ 200)) (w : World) :
    Calls Try.prog 25 #[.agg (fls c), .agg #[.float .f32 h, .float .f32 v], .float .f32 t, .int .i64 n] w fun e w' => e = .returned (.tuple #[.int .i64 0, .int .i64 2]) ∧ Below w.heap.size w w' := by
  have k0 : Hid (Kept w [(w.heap.size, fls c, 30), (w.heap.size + 1, #[.float .f32 h, .float .f32 v], 32)] ((w.alloc (.cells (fls c) 30)).alloc (.cells #[.float .f32 h, .float .f32 v] 32))) := by
    have := ((((Kept.nil w).push (fls c) 30).push #[.float .f32 h, .float .f32 v] 32)).swap
    simp only [World.size_alloc] at this
    exact hid this
  have H1 := hid (fun w g T hg => sOk_t c hc w g T hg)
  have H2 := hid (fun w g T hg => sAirOk_t h v hq w g T hg)
  have H3 := hid (fun w => sAmount_t t ha w)
  have H4 := hid (fun w => l00In_f n 0 200 hn w)
  clear hc hq ha hn
  go_enter Try.func25, Try.ntmps25
  go_wp2_with fail
  refine (H1.out _ (w.heap.size) 30 (k0.out.at (x := (w.heap.size, fls c, 30)) in0)).mono ?_
  rintro e w1 ⟨rfl, rfl⟩
  go_wp2_with fail
  refine (H2.out _ (w.heap.size + 1) 32 (k0.out.at (x := (w.heap.size + 1, #[.float .f32 h, .float .f32 v], 32)) in1)).mono ?_
  rintro e w1 ⟨rfl, rfl⟩
  go_wp2_with fail
  refine (H3.out _).mono ?_
  rintro e w1 ⟨rfl, rfl⟩
  go_wp2_with fail
  refine (H4.out _).mono ?_
  rintro e w1 ⟨rfl, rfl⟩
  go_wp2
  go_ret2
  exact ⟨rfl, k0.out.1⟩

set_option maxRecDepth 100000 in
set_option maxHeartbeats 1000000 in
theorem sDry_ok (t : Nat) (s : GSt) (hs : GVal t s) (N K : Nat) (hN : N ≤ 200) (hKN : K ≤ N) (hM : ∀ j, j < K → GOk t (gSt t s j)) (hbad : K < N → ¬ GOk t (gSt t s K)) (o n : Int)
    (ho1 : ∀ D : Nat, D ≤ K → DryC (gSt t s D).c → (∀ j, j < D → ¬ DryC (gSt t s j).c) → o = (D : Int) ∧ n = 0) (ho2 : (∀ j, j ≤ K → ¬ DryC (gSt t s j).c) → o = 0 ∧ n = dCode N K) (w : World) :
    Calls Try.prog 25 #[.agg (fls s.c), .agg #[.float .f32 s.h, .float .f32 s.v], .float .f32 t, .int .i64 (N : Int)] w fun e w' => e = .returned (.tuple #[.int .i64 o, .int .i64 n]) ∧ Below w.heap.size w w' := by
  have k0 : Hid (Kept w [(w.heap.size, fls s.c, 30), (w.heap.size + 1, #[.float .f32 s.h, .float .f32 s.v], 32)] ((w.alloc (.cells (fls s.c) 30)).alloc (.cells #[.float .f32 s.h, .float .f32 s.v] 32))) := by
    have := ((((Kept.nil w).push (fls s.c) 30).push #[.float .f32 s.h, .float .f32 s.v] 32)).swap
    simp only [World.size_alloc] at this
    exact hid this
  have H1 := hid (fun w g T hg => sOk_t s.c hs.c w g T hg)
  have H2 := hid (fun w g T hg => sAirOk_t s.h s.v hs.q w g T hg)
  have H3 := hid (fun w => sAmount_t t hs.t w)
  have H4 := hid (fun w => l00In_t (N : Int) 0 200 (by omega) (by omega) w)
  have HS := hid hs
  have HM := hid hM
  have HBAD := hid hbad
  have HKN := hid hKN
  have HO1 := hid ho1
  have HO2 := hid ho2
  clear hs hM hbad hKN ho1 ho2
  go_enter Try.func25, Try.ntmps25
  go_wp2_with fail
  refine (H1.out _ (w.heap.size) 30 (k0.out.at (x := (w.heap.size, fls s.c, 30)) in0)).mono ?_
  rintro e w1 ⟨rfl, rfl⟩
  go_wp2_with fail
  refine (H2.out _ (w.heap.size + 1) 32 (k0.out.at (x := (w.heap.size + 1, #[.float .f32 s.h, .float .f32 s.v], 32)) in1)).mono ?_
  rintro e w1 ⟨rfl, rfl⟩
  go_wp2_with fail
  refine (H3.out _).mono ?_
  rintro e w1 ⟨rfl, rfl⟩
  go_wp2_with fail
  refine (H4.out _).mono ?_
  rintro e w1 ⟨rfl, rfl⟩
  go_wp2_with fail
  go_loopw [10] (fun i wr => ∃ kk : Nat, kk ≤ K ∧ i = .int .i64 kk ∧ Hid (∀ j, j < kk → ¬ DryC (gSt t s j).c) ∧ Hid (Kept w [(w.heap.size, fls (gSt t s kk).c, 30), (w.heap.size + 1, #[.float .f32 (gSt t s kk).h, .float .f32 (gSt t s kk).v], 32)] wr)) (fun i _ => N - (intOf i).toNat)
  case atStart => exact ⟨0, Nat.zero_le _, rfl, hid fun j hj => absurd hj (Nat.not_lt_zero j), k0⟩
  case round =>
    clear k0 H1 H2 H3 H4
    obtain ⟨kk, hk, rfl, hd0, h0⟩ := hrel
    have hV := HS.out.at (k := kk) (fun j hj => HM.out j (by omega))
    have hn : nnB (sumF (gSt t s kk).c 19) = true := sumF_nn 19 (fun i hi => amt_nn (hV.c i (by omega)))
    have HT := hid (fun w g T hg => sCount (gSt t s kk).c (fun i hi => amt_nn (hV.c i hi)) w g T hg)
    have HQ := hid (eq_zero_nn hn)
    have HV := hid hV
    clear hn hV
    go_wp2_with fail
    refine (HT.out _ (w.heap.size) 30 (h0.out.at (x := (w.heap.size, fls (gSt t s kk).c, 30)) in0)).mono ?_
    rintro e wq ⟨rfl, rfl⟩
    by_cases hd : DryC (gSt t s kk).c
    · obtain ⟨e1, e2⟩ := HO1.out kk hk hd hd0.out
      have hq : (FloatKind.f32.format.order (sumF (gSt t s kk).c 19) 0 == some .eq) = true := HQ.out.2 hd
      have E1 := hid e1
      have E2 := hid e2
      clear HT HQ hd e1 e2 HO1 HO2 HBAD HM
      revert hq
      generalize sumF (gSt t s kk).c 19 = x
      intro hq
      go_wp2
      go_ret2
      rw [E1.out, E2.out]
      exact ⟨rfl, h0.out.1⟩
    · have hq : (FloatKind.f32.format.order (sumF (gSt t s kk).c 19) 0 == some .eq) = false := by
        rw [← Bool.not_eq_true]
        exact fun e => hd (HQ.out.1 e)
      have HD := hid hd
      have HDN : Hid (∀ j, j < kk + 1 → ¬ DryC (gSt t s j).c) := hid fun j hj => by
        by_cases e : j = kk
        · rw [e]; exact HD.out
        · exact hd0.out j (by omega)
      clear HT HQ hd hd0 HD
      revert hq
      generalize sumF (gSt t s kk).c 19 = x
      intro hq
      by_cases hkN : kk = N
      · obtain rfl : kk = K := by have := HKN.out; omega
        obtain ⟨e1, e2⟩ := HO2.out (fun j hj => HDN.out j (by omega))
        have e2 : n = 7 := e2.trans (if_pos hkN)
        have E1 := hid e1
        have E2 := hid e2
        have hki : ((kk : Nat) : Int) = (N : Int) := by omega
        clear e1 e2 HO1 HO2 HBAD HM
        go_wp2
        go_ret2
        rw [E1.out, E2.out]
        exact ⟨rfl, h0.out.1⟩
      · have hki : ¬ ((kk : Nat) : Int) = (N : Int) := by omega
        by_cases hlt : kk < K
        · have HL := hid hlt
          have hb2 : kk < 200 := by have := HKN.out; omega
          have HC := hid (fun w2 hp hk2 => sOnce_t t (gSt t s kk) HV.out (HM.out kk hlt) w2 (w.heap.size) (w.heap.size + 1) 30 32 hp hk2)
          clear HV hlt hk hkN
          go_wp2_with fail
          refine (HC.out wr (h0.out.at (x := (w.heap.size, fls (gSt t s kk).c, 30)) in0) (h0.out.at (x := (w.heap.size + 1, #[.float .f32 (gSt t s kk).h, .float .f32 (gSt t s kk).v], 32)) in1)).mono ?_
          rintro e w2 ⟨rfl, hb2⟩
          have k1 := hid (h0.out.stay hb2)
          have m1 := k1.out.lt (x := (w.heap.size + 1, #[.float .f32 (gSt t s kk).h, .float .f32 (gSt t s kk).v], 32)) in1
          have kP : Hid (Kept w [(w2.heap.size + 1, #[.float .f32 0, .float .f32 0], 32), (w2.heap.size, fls fun _ => 0, 30), (w.heap.size, fls (gSt t s kk).c, 30), (w.heap.size + 1, #[.float .f32 (gSt t s kk).h, .float .f32 (gSt t s kk).v], 32)] ((w2.alloc (.cells (fls fun _ => 0) 30)).alloc (.cells #[.float .f32 0, .float .f32 0] 32))) := by
            have := (k1.out.push (fls fun _ => 0) 30).push #[.float .f32 0, .float .f32 0] 32
            simp only [World.size_alloc] at this
            exact hid this
          clear h0 hb2 k1
          have tok1 : True := trivial
          go_wp2_with (first | (have _t := tok1; clear tok1; refine store_rowE (by rfl) 30 _ _ (by rfl) (w2.heap.size) (fls (gSt t s (kk + 1)).c) (fls fun _ => 0) (by rfl) (by rfl) (kP.out.at (x := (w2.heap.size, fls fun _ => 0, 30)) in1) (by rw [fls_size]; exact info_arr) (by simp) (vls_one (n := 20) (f := flw ((gSt t s (kk + 1)).c)) (fun _ => rfl)) (fun w3 e3 => ?_); have kQ := hid (e3 ▸ (kP.out.swap.set (by omega) (neC (by omega) (neC (by omega) (neC (by omega) ne0))) (fls (gSt t s (kk + 1)).c)).swap); clear e3 kP; have tok2 : True := trivial) | (have _t := tok2; clear tok2; refine store_rowE (by rfl) 32 _ _ (by rfl) (w2.heap.size + 1) (#[.float .f32 (gSt t s (kk + 1)).h, .float .f32 (gSt t s (kk + 1)).v]) (#[.float .f32 0, .float .f32 0]) (by rfl) (by rfl) (kQ.out.at (x := (w2.heap.size + 1, #[.float .f32 0, .float .f32 0], 32)) in0) (info_air) (by simp) (two_one _ _) (fun w4 e4 => ?_); have kR := hid (e4 ▸ kQ.out.set (by omega) (neC (by omega) (neC (by omega) (neC (by omega) ne0))) (#[.float .f32 (gSt t s (kk + 1)).h, .float .f32 (gSt t s (kk + 1)).v])); clear e4 kQ; have tok3 : True := trivial) | (have _t := tok3; clear tok3; refine wpList_load_row (by rfl) 30 _ (by rfl) (w2.heap.size) (by rfl) 30 (fls (gSt t s (kk + 1)).c) (0, 0) _ (kR.out.at (x := (w2.heap.size, fls (gSt t s (kk + 1)).c, 30)) in1) Try.underlying30 (by rfl) (by rw [fls_size]; exact info_arr) ?_; have tok4 : True := trivial) | (have _t := tok4; clear tok4; refine store_rowE (by rfl) 30 _ _ (by rfl) (w.heap.size) (fls (gSt t s (kk + 1)).c) (fls (gSt t s kk).c) (by rfl) (by rfl) (kR.out.at (x := (w.heap.size, fls (gSt t s kk).c, 30)) in2) (by rw [fls_size]; exact info_arr) (by simp) (vls_one (n := 20) (f := flw ((gSt t s (kk + 1)).c)) (fun _ => rfl)) (fun w5 e5 => ?_); have kS := hid (e5 ▸ (kR.out.up2.set (by omega) (neC (by omega) (neC (by omega) (neC (by omega) ne0))) (fls (gSt t s (kk + 1)).c)).dn2); clear e5 kR; have tok5 : True := trivial) | (have _t := tok5; clear tok5; refine wpList_load_row (by rfl) 32 _ (by rfl) (w2.heap.size + 1) (by rfl) 32 (#[.float .f32 (gSt t s (kk + 1)).h, .float .f32 (gSt t s (kk + 1)).v]) (0, 0) _ (kS.out.at (x := (w2.heap.size + 1, #[.float .f32 (gSt t s (kk + 1)).h, .float .f32 (gSt t s (kk + 1)).v], 32)) in0) Try.underlying32 (by rfl) (info_air) ?_; have tok6 : True := trivial) | (have _t := tok6; clear tok6; refine store_rowE (by rfl) 32 _ _ (by rfl) (w.heap.size + 1) (#[.float .f32 (gSt t s (kk + 1)).h, .float .f32 (gSt t s (kk + 1)).v]) (#[.float .f32 (gSt t s kk).h, .float .f32 (gSt t s kk).v]) (by rfl) (by rfl) (kS.out.at (x := (w.heap.size + 1, #[.float .f32 (gSt t s kk).h, .float .f32 (gSt t s kk).v], 32)) in3) (info_air) (by simp) (two_one _ _) (fun w6 e6 => ?_); have kT := hid (e6 ▸ (kS.out.up3.set (by omega) (neC (by omega) (neC (by omega) (neC (by omega) ne0))) (#[.float .f32 (gSt t s (kk + 1)).h, .float .f32 (gSt t s (kk + 1)).v])).dn3); clear e6 kS))
          go_roundw
          case rel => exact ⟨kk + 1, HL.out, by go_num, HDN, hid (kT.out.tail.tail)⟩
          case measure => have := HL.out; have := HKN.out; simp [intOf]; omega
        · obtain rfl : kk = K := by omega
          have hlN : kk < N := by have := HKN.out; omega
          obtain ⟨e1, e2⟩ := HO2.out (fun j hj => HDN.out j (by omega))
          have e2 : n = 4 := e2.trans (if_neg hkN)
          have E1 := hid e1
          have E2 := hid e2
          have HC := hid (fun w2 hp hk2 => sOnce_f t (gSt t s kk) HV.out (HBAD.out hlN) w2 (w.heap.size) (w.heap.size + 1) 30 32 hp hk2)
          clear HV hlt hk hkN e1 e2 hlN
          go_wp2_with fail
          refine (HC.out wr (h0.out.at (x := (w.heap.size, fls (gSt t s kk).c, 30)) in0) (h0.out.at (x := (w.heap.size + 1, #[.float .f32 (gSt t s kk).h, .float .f32 (gSt t s kk).v], 32)) in1)).mono ?_
          rintro e w2 ⟨rfl, hb2⟩
          have k1 := hid (h0.out.stay hb2)
          have m1 := k1.out.lt (x := (w.heap.size + 1, #[.float .f32 (gSt t s kk).h, .float .f32 (gSt t s kk).v], 32)) in1
          have kP : Hid (Kept w [(w2.heap.size + 1, #[.float .f32 0, .float .f32 0], 32), (w2.heap.size, fls fun _ => 0, 30), (w.heap.size, fls (gSt t s kk).c, 30), (w.heap.size + 1, #[.float .f32 (gSt t s kk).h, .float .f32 (gSt t s kk).v], 32)] ((w2.alloc (.cells (fls fun _ => 0) 30)).alloc (.cells #[.float .f32 0, .float .f32 0] 32))) := by
            have := (k1.out.push (fls fun _ => 0) 30).push #[.float .f32 0, .float .f32 0] 32
            simp only [World.size_alloc] at this
            exact hid this
          clear h0 hb2 k1
          have tok1 : True := trivial
          go_wp2_with (first | (have _t := tok1; clear tok1; refine store_rowE (by rfl) 30 _ _ (by rfl) (w2.heap.size) (fls fun _ => 0) (fls fun _ => 0) (by rfl) (by rfl) (kP.out.at (x := (w2.heap.size, fls fun _ => 0, 30)) in1) (by rw [fls_size]; exact info_arr) (by simp) (vls_one (n := 20) (f := flw (fun _ => 0)) (fun _ => rfl)) (fun w3 e3 => ?_); have kQ := hid (e3 ▸ (kP.out.swap.set (by omega) (neC (by omega) (neC (by omega) (neC (by omega) ne0))) (fls fun _ => 0)).swap); clear e3 kP; have tok2 : True := trivial) | (have _t := tok2; clear tok2; refine store_rowE (by rfl) 32 _ _ (by rfl) (w2.heap.size + 1) (#[.float .f32 0, .float .f32 0]) (#[.float .f32 0, .float .f32 0]) (by rfl) (by rfl) (kQ.out.at (x := (w2.heap.size + 1, #[.float .f32 0, .float .f32 0], 32)) in0) (info_air) (by simp) (two_one _ _) (fun w4 e4 => ?_); have kR := hid (e4 ▸ kQ.out.set (by omega) (neC (by omega) (neC (by omega) (neC (by omega) ne0))) (#[.float .f32 0, .float .f32 0])); clear e4 kQ))
          go_ret2
          rw [E1.out, E2.out]
          exact ⟨rfl, kR.out.1⟩

theorem words_cons : ∀ (v : List Char) (r : List Char), (∀ c ∈ v, c ≠ Char.ofNat 32) → wordsSigns (v ++ Char.ofNat 32 :: r) = v :: wordsSigns r
  | [], r, _ => rfl
  | c :: v, r, h => by
    have ih := words_cons v r (fun x hx => h x (by simp [hx]))
    have hc : c ≠ Char.ofNat 32 := h c (by simp)
    show wordsSigns (c :: (v ++ Char.ofNat 32 :: r)) = _
    rw [wordsSigns.eq_3 _ _ (fun e => hc e), ih]

def w0 : List Nat := [104, 97, 114, 110, 101, 115, 115]

def w1 : List Nat := [99, 51, 54, 52, 56, 54, 53, 52, 51, 50, 97, 52, 52, 52, 101, 99, 51, 56, 52, 98, 48, 52, 50, 55, 102, 100, 102, 49, 49, 55, 52, 48, 49, 99, 100, 49, 50, 50, 97, 52, 51, 53, 50, 98, 56, 101, 57, 52, 97, 56, 99, 57, 48, 99, 56, 52, 55, 98, 97, 55, 52, 57, 50, 101]

def w2 : List Nat := [99, 117, 116]

def w3 : List Nat := [97, 116, 32, 108, 111, 111, 112, 46, 101, 120, 97, 109, 112, 108, 101, 47, 103, 48, 49, 50, 50, 52, 47, 108, 97, 119, 115, 46, 70, 110, 69, 120, 97, 99, 116, 83, 116, 105, 114, 67, 111, 108, 117, 109, 110, 32, 108, 111, 111, 112, 46, 101, 120, 97, 109, 112, 108, 101, 47, 103, 48, 49, 50, 50, 52, 47, 108, 97, 119, 115, 46, 70, 110, 69, 120, 97, 99, 116, 71, 114, 111, 119, 79, 110, 99, 101, 32, 108, 111, 111, 112, 46, 101, 120, 97, 109, 112, 108, 101, 47, 103, 48, 49, 50, 50, 52, 47, 108, 97, 119, 115, 46, 70, 110, 69, 120, 97, 99, 116, 71, 114, 111, 119, 83, 116, 101, 112, 115, 32, 108, 111, 111, 112, 46, 101, 120, 97, 109, 112, 108, 101, 47, 103, 48, 49, 50, 50, 52, 47, 108, 97, 119, 115, 46, 70, 110, 69, 120, 97, 99, 116, 83, 116, 101, 112, 115, 84, 111, 68, 114, 121, 32, 108, 111, 111, 112, 46, 101, 120, 97, 109, 112, 108, 101, 47, 103, 48, 49, 50, 50, 52, 47, 108, 97, 119, 115, 46, 70, 110, 69, 120, 97, 99, 116, 71, 114, 111, 119, 67, 111, 108, 117, 109, 110, 32, 108, 111, 111, 112, 46, 101, 120, 97, 109, 112, 108, 101, 47, 103, 48, 49, 50, 50, 52, 47, 108, 97, 119, 115, 46, 70, 110, 69, 120, 97, 99, 116, 86, 97, 108, 105, 100, 68, 101, 101, 100, 32, 108, 111, 111, 112, 46, 101, 120, 97, 109, 112, 108, 101, 47, 103, 48, 49, 50, 50, 52, 47, 108, 97, 119, 115, 46, 70, 110, 69, 120, 97, 99, 116, 67, 111, 108, 108, 105, 100, 101, 80, 97, 105, 114, 115, 32, 108, 111, 111, 112, 46, 101, 120, 97, 109, 112, 108, 101, 47, 103, 48, 49, 50, 50, 52, 47, 108, 97, 119, 115, 46, 70, 110, 69, 120, 97, 99, 116, 83, 116, 101, 97, 100, 121, 83, 111, 117, 110, 100, 105, 110, 103, 32, 108, 111, 111, 112, 46, 101, 120, 97, 109, 112, 108, 101, 47, 103, 48, 49, 50, 50, 52, 47, 108, 97, 119, 115, 46, 70, 110, 69, 120, 97, 99, 116, 82, 105, 115, 101, 73, 110, 32, 108, 111, 111, 112, 46, 101, 120, 97, 109, 112, 108, 101, 47, 103, 48, 49, 50, 50, 52, 47, 108, 97, 119, 115, 46, 70, 110, 69, 120, 97, 99, 116, 84, 104, 105, 114, 100, 82, 111, 111, 116]

def letters (l : List Nat) : List Char := l.map Char.ofNat

theorem head_reads : Try.prog.initOrder = String.ofList (letters w0 ++ Char.ofNat 32 :: (letters w1 ++ Char.ofNat 32 :: (letters w2 ++ Char.ofNat 32 :: letters w3))) := by kernel_rfl

theorem no_blank {l : List Nat} (h : l.all (fun n => Char.ofNat n != Char.ofNat 32) = true) : ∀ c ∈ letters l, c ≠ Char.ofNat 32 := by
  intro c hc
  obtain ⟨n, hn, rfl⟩ := List.mem_map.1 hc
  have := List.all_eq_true.1 h n hn
  simpa using this

theorem h0 : letters w0 = "harness".toList := by kernel_rfl

theorem h2 : letters w2 = "cut".toList := by kernel_rfl

theorem sums : isSumSigns (letters w1) = true := by kernel_rfl

theorem words : wordsSigns Try.prog.initOrder.toList = "harness".toList :: letters w1 :: "cut".toList :: wordsSigns (letters w3) := by
  rw [head_reads, String.toList_ofList, words_cons _ _ (no_blank (by decide +kernel)), words_cons _ _ (no_blank (by decide +kernel)), words_cons _ _ (no_blank (by decide +kernel)), h0, h2]

theorem behind : ∃ r, behindMainWord (wordsSigns Try.prog.initOrder.toList) = "cut".toList :: r := by
  refine ⟨wordsSigns (letters w3), ?_⟩
  rw [words]
  generalize wordsSigns (letters w3) = r
  have hs := sums
  generalize letters w1 = v at hs
  unfold behindMainWord
  simp [hs]

theorem not_later : Try.prog.laysLater = false := by kernel_rfl

theorem no_reflect : Try.prog.bearsReflect = false := by kernel_rfl

theorem no_doors : Try.prog.doorFits [] = true := by kernel_rfl

theorem strips (r : List (List Char)) : stripLifts liftWords ("cut".toList :: r) = ([], "cut".toList :: r) := by kernel_rfl

theorem may_enter_of (P : Program) (r : List (List Char)) (h : behindMainWord (wordsSigns P.initOrder.toList) = "cut".toList :: r) (h1 : P.laysLater = false) (h2 : P.bearsReflect = false) (h3 : P.doorFits [] = true) : P.mayEnter = true := by
  unfold Program.mayEnter
  rw [h]
  dsimp only
  rw [strips, h1, h2, h3]
  kernel_rfl

theorem lifts_final_of (P : Program) (r : List (List Char)) (h : behindMainWord (wordsSigns P.initOrder.toList) = "cut".toList :: r) : P.liftsFinal = false := by
  unfold Program.liftsFinal Program.headLifts
  rw [h]
  dsimp only
  rw [strips]
  kernel_rfl

theorem made_of (P : Program) (r : List (List Char)) (h : behindMainWord (wordsSigns P.initOrder.toList) = "cut".toList :: r) : P.make = some .cut := by
  unfold Program.make
  rw [h]
  kernel_rfl

theorem may_enter : Try.prog.mayEnter = true := let ⟨r, h⟩ := behind; may_enter_of _ r h not_later no_reflect no_doors

theorem lifts_final : Try.prog.liftsFinal = false := let ⟨r, h⟩ := behind; lifts_final_of _ r h

theorem made : Try.prog.make = some .cut := let ⟨r, h⟩ := behind; made_of _ r h

theorem laid : laidOutB Try.prog = true := by kernel_rfl

theorem rowed : mapsRowed Try.prog = true := by kernel_rfl

theorem no_stops : Try.prog.stops = [] := by kernel_rfl

theorem no_knobs : Try.prog.stopKnobs = [] := by kernel_rfl

theorem plain_keys : Try.prog.plainKeys = false := by kernel_rfl

theorem stops_heard : Try.prog.stopsHeard = true := by kernel_rfl

theorem own : ownKnob Try.prog.godebug = none := by kernel_rfl

theorem cells20 : Try.prog.cellsOf 23 = 20 := by kernel_rfl

theorem types20 : Try.prog.cellTypes Try.prog.depth 23 = some (List.replicate 20 22) := by kernel_rfl

theorem rda : Try.prog.readableRec 23 = true ∧ 23 < Try.prog.types.size := ⟨by kernel_rfl, of_decide_eq_true (by kernel_rfl)⟩

theorem rdf : Try.prog.readableRec 22 = true ∧ 22 < Try.prog.types.size := ⟨by kernel_rfl, of_decide_eq_true (by kernel_rfl)⟩

theorem arr4 {α : Type} {cs : Array α} (h : cs.size = 4) : ∃ c0 c1 c2 c3, cs = #[c0, c1, c2, c3] := by
  obtain ⟨l⟩ := cs
  match l, h with
  | [a, b, c, d], _ => exact ⟨a, b, c, d, rfl⟩

theorem cells2 : Try.prog.cellsOf 26 = 2 := by kernel_rfl

theorem types2 : Try.prog.cellTypes Try.prog.depth 26 = some [22, 22] := by kernel_rfl

theorem rdA : Try.prog.readableRec 26 = true ∧ 26 < Try.prog.types.size := ⟨by kernel_rfl, of_decide_eq_true (by kernel_rfl)⟩

theorem rdi : Try.prog.readableRec 2 = true ∧ 2 < Try.prog.types.size := ⟨by kernel_rfl, of_decide_eq_true (by kernel_rfl)⟩
end Go.Proofs.Ythpimindkmmkjaa
