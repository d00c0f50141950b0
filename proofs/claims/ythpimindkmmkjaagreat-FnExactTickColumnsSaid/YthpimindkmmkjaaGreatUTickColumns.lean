import Derived.Test.YthpimindkmmkjaaGreatVTickColumns
import Derived.Test.YthpimindkmmkjaaGreatCTickColumns
import Derived.Test.YthpimindkmmkjaaGreatChecked
import Derived.Test.YthpimindkmmkjaaGreatRows
import Derived.Laws.FloatArith
import Derived.ProofKit
import Derived.WalkKit
import Derived.WalkLawsBesides
import Derived.WalkSpells
import Derived.Deep.QuietTactic
import Derived.BigQuiet
import Derived.Deep.RegionHeld3
import Derived.ChangeKeysEq
import Derived.Laws.BitsAllLaws
import Derived.Deep.MidRow
import Derived.Deep.WholeRow
import Derived.StillTailTactics
import Derived.Deep.Slices
import Derived.ChangeSame
import Derived.OrdersIn
import Derived.ControlIn
import Derived.RangeFuncSeq
import Derived.RangeFuncNested
import Derived.ArgAppend
import Derived.OwnWalkIn
import Derived.TacticsInMore
import Derived.Below
import Derived.Laws.AppendOwn
import Derived.RangeFuncLeaves
import Derived.RangeFuncBox
import Derived.MapKept
import Derived.StillTail
import Derived.Carry
import Derived.Shelf.Abstract
import Derived.OpenShut
/- The law FnExactTickColumns of chapter 1: at every argument the call returns true, and what was there before it is as it was. -/
namespace Go.Proofs.YthpimindkmmkjaaGreat
open Go.RowKit Go.Fl

theorem per4 {α : Type} (a b c d : α) : ∀ x ∈ [c, b, a, d], x ∈ [a, b, c, d] := fun x hx => by
  simp only [List.mem_cons, List.not_mem_nil, or_false] at hx ⊢
  rcases hx with h | h | h | h
  · exact .inr (.inr (.inl h))
  · exact .inr (.inl h)
  · exact .inl h
  · exact .inr (.inr (.inr h))

theorem newG_q (t B : Nat) (wd : World) (kb : B < wd.heap.size) : Calls Tryz.prog 115 #[.float .f32 t] wd fun e w' => ∃ v, (∃ r, v = .agg #[.float .f32 t, .map (some r)] ∧ B < r ∧ r < w'.heap.size ∧ MapOf satF IsHeat w' r) ∧ e = .returned v ∧ Below wd.heap.size wd w' := by
  refine (iNewG t wd).mono ?_
  rintro e w' ⟨rfl, hb, hm⟩
  have h2 : wd.heap.size + 1 < w'.heap.size := by obtain ⟨_, _, hx, _⟩ := hm; exact lt_of_block hx
  exact ⟨_, ⟨_, rfl, by omega, h2, hm⟩, rfl, hb⟩

theorem stepsG_q (t r : Nat) (c : Nat → Nat) (h v N : Nat) (w4 : World) : Calls Tryz.prog 116 #[.agg #[.float .f32 t, .map (some r)], .agg (fls c), .agg #[.float .f32 h, .float .f32 v], .int .i64 (N : Int)] w4 fun e w' =>
    ∃ v9, (∃ q0, v9 = .func (.func 137) #[] #[.pointer (some ⟨q0 + 1, 0, none⟩), .pointer (some ⟨q0 + 1 + 1, 0, none⟩), .pointer (some ⟨q0 + 1 + 1 + 1, 0, none⟩), .pointer (some ⟨q0, 0, none⟩)] ∧ w4.heap.size = q0 ∧ Kept w4 [(q0 + 1 + 1 + 1, #[.int .i64 (N : Int)], 2), (q0 + 1 + 1, #[.float .f32 h, .float .f32 v], 32), (q0 + 1, fls c, 30), (q0, #[.float .f32 t, .map (some r)], 148)] w') ∧ e = .returned v9 ∧ Below w4.heap.size w4 w' := by
  refine (iStepsG t r c h v (N : Int) w4).mono ?_
  rintro e w' ⟨rfl, k⟩
  exact ⟨_, ⟨_, rfl, rfl, k⟩, rfl, k.1⟩

/-- What a round turns. -/
def Duo (B : Nat) : Nat → Prop := fun k => k = B + 1 + 1 ∨ k = B + 1 + 1 + 1

theorem kept_step {w V V' : World} {r B : Nat} {n : Value} {c8 a9 a5 c4 : Array Value} {T0 T1 T2 T3 T4 : TypeId} (hr : w.heap.size + 1 + 1 + 1 + 1 < r) (hB : w.heap.size + 1 + 1 + 1 + 1 < B)
    (h : Kept w [(w.heap.size + 1 + 1 + 1 + 1, #[n], T0), (w.heap.size + 1 + 1 + 1, a9, T1), (w.heap.size + 1 + 1, c8, T2), (w.heap.size + 1, a5, T3), (w.heap.size, c4, T4)] V) (k : Keeps (RowK r B) V V') :
    Kept w [(w.heap.size + 1 + 1 + 1 + 1, #[n], T0), (w.heap.size + 1 + 1 + 1, a9, T1), (w.heap.size + 1 + 1, c8, T2), (w.heap.size + 1, a5, T3), (w.heap.size, c4, T4)] V' := by
  refine ⟨h.1.trans (k.below h.1.size fun i hi hx => ?_), fun x hx => k.row (h.2 x hx) fun hX => ?_⟩
  · rcases hx with hx | hx <;> omega
  · simp only [List.mem_cons, List.not_mem_nil, or_false] at hx
    rcases hX with hX | hX <;> rcases hx with rfl | rfl | rfl | rfl | rfl <;> simp only at hX <;> omega

theorem kept_trio {w V V' : World} {n n' : Value} {c8 a9 a5 c4 c8' a9' : Array Value} {T0 T1 T2 T3 T4 : TypeId}
    (h : Kept w [(w.heap.size + 1 + 1 + 1 + 1, #[n], T0), (w.heap.size + 1 + 1 + 1, a9, T1), (w.heap.size + 1 + 1, c8, T2), (w.heap.size + 1, a5, T3), (w.heap.size, c4, T4)] V)
    (hh : HK (fun _ => True) V [(w.heap.size + 1 + 1 + 1 + 1, #[n'], T0), (w.heap.size + 1 + 1 + 1, a9', T1), (w.heap.size + 1 + 1, c8', T2)] V') (k : Keeps (Trio (w.heap.size + 1 + 1) (w.heap.size + 1 + 1 + 1) (w.heap.size + 1 + 1 + 1 + 1)) V V') :
    Kept w [(w.heap.size + 1 + 1 + 1 + 1, #[n'], T0), (w.heap.size + 1 + 1 + 1, a9', T1), (w.heap.size + 1 + 1, c8', T2), (w.heap.size + 1, a5, T3), (w.heap.size, c4, T4)] V' := by
  refine ⟨h.1.trans (k.below h.1.size fun i hi hx => ?_), fun x hx => ?_⟩
  · rcases hx with hx | hx | hx <;> omega
  · rcases List.mem_cons.1 hx with rfl | hx
    · exact hh.at in0
    rcases List.mem_cons.1 hx with rfl | hx
    · exact hh.at in1
    rcases List.mem_cons.1 hx with rfl | hx
    · exact hh.at in2
    rcases List.mem_cons.1 hx with rfl | hx
    · exact k.row (h.at in3) (fun hX => by rcases hX with hX | hX | hX <;> omega)
    rcases List.mem_cons.1 hx with rfl | hx
    · exact k.row (h.at in4) (fun hX => by rcases hX with hX | hX | hX <;> omega)
    · cases hx

theorem gIter (t r q0 : Nat) (s : GSt) (hs : GVal t s) (N K : Nat) (hKN : K ≤ N) (hN : N ≤ 1048576) (hM : ∀ j, j < K → GOk t (gSt t s j)) (hbad : K < N → ¬ GOk t (gSt t s K)) (w w5 : World) (hr : w.heap.size + 1 + 1 + 1 + 1 < r) (hrq : r < q0) (hq5 : q0 + 1 + 1 + 1 < w5.heap.size)
    (hm : MapOf satF IsHeat w5 r) (kL : Kept w5 [(q0 + 1 + 1 + 1, #[.int .i64 (N : Int)], 2), (q0 + 1 + 1, #[.float .f32 s.h, .float .f32 s.v], 32), (q0 + 1, fls s.c, 30), (q0, #[.float .f32 t, .map (some r)], 148)] w5) :
    NumIter Fence.wide (9 - 1) Tryz.prog 137 #[.pointer (some ⟨q0 + 1, 0, none⟩), .pointer (some ⟨q0 + 1 + 1, 0, none⟩), .pointer (some ⟨q0 + 1 + 1 + 1, 0, none⟩), .pointer (some ⟨q0, 0, none⟩)] (encG t s) K r (GEnd K N) (Duo w.heap.size) w5 := by
  intro J Jx W hb hz hJ hJx hY h0
  refine gSteps_in (9 - 1) (w5.heap.size + 1) t r s hs N K hKN hN hM hbad (q0 + 1) (q0 + 1 + 1) (q0 + 1 + 1 + 1) q0 (fun k => Duo w.heap.size k ∨ k = w5.heap.size + 1) J Jx W ⟨Below.refl _ W, fun x hx => ?_⟩
    (hm.keeps (X := fun _ => False) (Keeps.of hb) (fun x => x)) (fun k hk => ?_) (fun h => ?_) (fun x hx h => ?_) hJ hJx hY h0
  · exact (kL.stay hb).2 x (per4 _ _ _ _ x hx)
  · unfold Duo at hk; omega
  · unfold Duo at h; omega
  · simp only [List.mem_cons, List.not_mem_nil, or_false] at hx
    unfold Duo at h
    rcases hx with rfl | rfl | rfl | rfl <;> simp only at h <;> omega

/-- What GrowSteps gives where K of N steps can be made. -/
def gOut (t : Nat) (s : GSt) (N K : Nat) : GSt := if K = N then gSt t s N else ⟨fun _ => 0, 0, 0⟩

def gCode (N K : Nat) : Int := if K = N then 0 else 4

set_option maxRecDepth 100000 in
set_option maxHeartbeats 1000000 in
theorem iGrow (t : Nat) (s : GSt) (hs : GVal t s) (hv : s.v < 4294967296) (N K : Nat) (hN : N ≤ 200) (hKN : K ≤ N) (hM : ∀ j, j < K → GOk t (gSt t s j)) (hbad : K < N → ¬ GOk t (gSt t s K)) (w : World) :
    Calls Tryz.prog 84 #[.agg (fls s.c), .agg #[.float .f32 s.h, .float .f32 s.v], .float .f32 t, .int .i64 (N : Int)] w fun e w' =>
      e = .returned (.tuple #[.agg (fls (gOut t s N K).c), .agg #[.float .f32 (gOut t s N K).h, .float .f32 (gOut t s N K).v], .int .i64 (gCode N K)]) ∧ Below w.heap.size w w' := by
  have k0 : Hid (Kept w [(w.heap.size + 1 + 1 + 1 + 1, #[.int .i64 0], 2), (w.heap.size + 1 + 1 + 1, #[.float .f32 0, .float .f32 0], 32), (w.heap.size + 1 + 1, fls fun _ => 0, 30), (w.heap.size + 1, #[.float .f32 s.h, .float .f32 s.v], 32), (w.heap.size, fls s.c, 30)] (((((w.alloc (.cells (fls s.c) 30)).alloc (.cells #[.float .f32 s.h, .float .f32 s.v] 32)).alloc (.cells (fls fun _ => 0) 30)).alloc (.cells #[.float .f32 0, .float .f32 0] 32)).alloc (.cells #[.int .i64 0] 2))) := by
    have := ((((((Kept.nil w).push (fls s.c) 30).push #[.float .f32 s.h, .float .f32 s.v] 32).push (fls fun _ => 0) 30).push #[.float .f32 0, .float .f32 0] 32).push #[.int .i64 0] 2)
    simp only [World.size_alloc] at this
    exact hid this
  have HC := hid (fun w => iCheckG_ok s.c s.h s.v t (N : Int) hs.c hv hs.q hs.t (by omega) (by omega) w)
  have HS := hid hs
  have HM := hid hM
  have HBAD := hid hbad
  have HKN := hid hKN
  have HN := hid hN
  have hmf : ∀ (fn : Fn) (first cap : Array Value) (w : World), (Instr.makeFunc fn first cap).run Tryz.prog w = .ok (.func fn first cap) w := fun _ _ _ _ => rfl
  clear hs hv hM hbad hKN hN
  refine (callsIn_wide (n := 9)).1 ?_
  refine callsIn_of_wp_marks Tryz.func84 rfl trivial ?_ rfl
  refine wpIn_wide.2 ?_
  simp only [Tryz.ntmps84, List.size_toArray, List.length_cons, List.length_nil, Nat.reduceAdd, Nat.reduceSub, Array.replicate_succ, Array.replicate_zero, List.push_toArray, List.append_toArray, List.nil_append, List.cons_append]
  have tok1 : True := trivial
  go_wp2_with (first | (have _t := tok1; clear tok1; refine wpList_load_row (by rfl) 30 _ (by rfl) (w.heap.size) (by rfl) 30 (fls s.c) (0, 0) _ (k0.out.at (x := (w.heap.size, fls s.c, 30)) in4) Tryz.underlying30 (by rfl) (by rw [fls_size]; exact info_arr) ?_; have tok2 : True := trivial) | (have _t := tok2; clear tok2; refine wpList_load_row (by rfl) 32 _ (by rfl) (w.heap.size + 1) (by rfl) 32 (#[.float .f32 s.h, .float .f32 s.v]) (0, 0) _ (k0.out.at (x := (w.heap.size + 1, #[.float .f32 s.h, .float .f32 s.v], 32)) in3) Tryz.underlying32 (by rfl) (info_air) ?_))
  refine (HC.out _).mono ?_
  rintro e w1 ⟨rfl, hb1⟩
  have k1 := hid (k0.out.stay hb1)
  have tok2 : True := trivial
  clear k0 hb1 HC
  go_wp2_with (first | (have _t := tok2; clear tok2; refine store_cellE 2 (by rfl) 2 _ _ (by rfl) (w.heap.size + 1 + 1 + 1 + 1) (.int .i64 0) (.int .i64 0) (by rfl) (by rfl) (k1.out.at (x := (w.heap.size + 1 + 1 + 1 + 1, #[.int .i64 0], 2)) in0) (by kernel_rfl) (by rfl) (by rfl) (fun w2 e2 => ?_); have k2 := hid (e2 ▸ k1.out.lcell (by omega) (neC (by omega) (neC (by omega) (neC (by omega) (neC (by omega) ne0)))) 0 (.int .i64 0)); have c2 : w2.cell? ⟨w.heap.size + 1 + 1 + 1 + 1, 0, none⟩ = some (.int .i64 0) := (cell_of_row w2 _ 0 _ _ _ (k2.out.at (x := (w.heap.size + 1 + 1 + 1 + 1, #[.int .i64 0], 2)) in0)).trans rfl; clear e2))
  have k2 : Hid (Kept w [(w.heap.size + 1 + 1 + 1 + 1, #[.int .i64 0], 2), (w.heap.size + 1 + 1 + 1, #[.float .f32 0, .float .f32 0], 32), (w.heap.size + 1 + 1, fls fun _ => 0, 30), (w.heap.size + 1, #[.float .f32 s.h, .float .f32 s.v], 32), (w.heap.size, fls s.c, 30)] w2) := k2
  clear c2 k1
  refine region_act (w0 := w) (lk := [(w.heap.size + 1 + 1 + 1 + 1, #[.int .i64 0], 2), (w.heap.size + 1, #[.float .f32 s.h, .float .f32 s.v], 32), (w.heap.size, fls s.c, 30)]) (fun a0 a1 w1q => a1 = ((a0.put (some 24) (.agg (fls s.c))).put (some 25) (.agg #[.float .f32 s.h, .float .f32 s.v])) ∧ Kept w [(w.heap.size + 1 + 1 + 1 + 1, #[.int .i64 0], 2), (w.heap.size + 1 + 1 + 1, #[.float .f32 s.h, .float .f32 s.v], 32), (w.heap.size + 1 + 1, fls s.c, 30), (w.heap.size + 1, #[.float .f32 s.h, .float .f32 s.v], 32), (w.heap.size, fls s.c, 30)] w1q) 4 #[false, false, false, false] (by kernel_rfl) rfl rfl ?_ ?_
  · have kd : Kept w [(w.heap.size + 1 + 1 + 1, #[.float .f32 0, .float .f32 0], 32), (w.heap.size + 1 + 1, fls fun _ => 0, 30), (w.heap.size + 1 + 1 + 1 + 1, #[.int .i64 0], 2), (w.heap.size + 1, #[.float .f32 s.h, .float .f32 s.v], 32), (w.heap.size, fls s.c, 30)] w2.drew := k2.out.drew.sub (rot5 _ _ _ _ _)
    generalize World.drew _ = wd at kd ⊢
    refine take_load 0 _ _ rfl (by rfl) (by kernel_rfl) (by kernel_rfl) (by kernel_rfl) 30 _ rfl (w.heap.size) (fls s.c) 30 rfl (by simp) _ Tryz.underlying30 rfl (by rw [fls_size]; exact info_arr) rfl rfl kd.tail.tail ?_
    simp only [Act.put, List.setIfInBounds_toArray, List.set_cons_zero, List.set_cons_succ]
    refine take_load 1 _ _ rfl (by rfl) (by kernel_rfl) (by kernel_rfl) (by kernel_rfl) 32 _ rfl (w.heap.size + 1) (#[.float .f32 s.h, .float .f32 s.v]) 32 rfl (by simp) _ Tryz.underlying32 rfl (info_air) rfl rfl kd.tail.tail ?_
    simp only [Act.put, List.setIfInBounds_toArray, List.set_cons_zero, List.set_cons_succ]
    refine wpAnyH_ready (rs := [2]) (by kernel_rfl) (by simp) ?_
    refine storeK 2 _ _ (kd).swap (by omega) (neC (by omega) (neC (by omega) (neC (by omega) (neC (by omega) ne0)))) rfl (by rfl) 30 _ _ rfl (fls s.c) rfl rfl (by rw [fls_size]; exact info_arr) (by simp) (vls_one (n := 20) (f := flw s.c) (fun _ => rfl)) rfl rfl (fun w1 k1 => ?_) AllReadyH.nil
    refine ⟨k1.tail.tail, ?_⟩
    refine wpAnyH_ready (rs := [3]) (by kernel_rfl) (by simp) ?_
    refine storeK 3 _ _ (k1).swap (by omega) (neC (by omega) (neC (by omega) (neC (by omega) (neC (by omega) ne0)))) rfl (by rfl) 32 _ _ rfl (#[.float .f32 s.h, .float .f32 s.v]) rfl rfl (info_air) (by simp) (two_one _ _) rfl rfl (fun w2 k2 => ?_) AllReadyH.nil
    refine ⟨k2.tail.tail, ?_⟩
    refine wpAnyH_done (by kernel_rfl) ?_ _
    exact ⟨rfl, by simp only [Act.put], k2.sub (unrot5 _ _ _ _ _)⟩
  rintro a1 w3 ⟨rfl, k3⟩
  have k3 := hid k3
  clear k2
  simp only [Act.put, List.setIfInBounds_toArray, List.set_cons_zero, List.set_cons_succ]
  go_wp2_with fail
  refine region_act (w0 := w) (lk := [(w.heap.size + 1 + 1 + 1 + 1, #[.int .i64 0], 2), (w.heap.size + 1 + 1 + 1, #[.float .f32 s.h, .float .f32 s.v], 32), (w.heap.size + 1 + 1, fls s.c, 30), (w.heap.size + 1, #[.float .f32 s.h, .float .f32 s.v], 32), (w.heap.size, fls s.c, 30)]) (fun a0 a1 w1q => ∃ r q0, a1 = ((((((a0.put (some 26) (.float .f32 t)).put (some 28) (.agg (fls s.c))).put (some 29) (.agg #[.float .f32 s.h, .float .f32 s.v])).put (some 30) (.int .i64 (N : Int))).put (some 27) (.agg #[.float .f32 t, .map (some r)])).put (some 31) (.func (.func 137) #[] #[.pointer (some ⟨q0 + 1, 0, none⟩), .pointer (some ⟨q0 + 1 + 1, 0, none⟩), .pointer (some ⟨q0 + 1 + 1 + 1, 0, none⟩), .pointer (some ⟨q0, 0, none⟩)])) ∧ w.heap.size + 1 + 1 + 1 + 1 < r ∧ r < q0 ∧ q0 + 1 + 1 + 1 < w1q.heap.size ∧ MapOf satF IsHeat w1q r ∧ Kept w [(w.heap.size + 1 + 1 + 1 + 1, #[.int .i64 0], 2), (w.heap.size + 1 + 1 + 1, #[.float .f32 s.h, .float .f32 s.v], 32), (w.heap.size + 1 + 1, fls s.c, 30), (w.heap.size + 1, #[.float .f32 s.h, .float .f32 s.v], 32), (w.heap.size, fls s.c, 30)] w1q ∧ Kept w1q [(q0 + 1 + 1 + 1, #[.int .i64 (N : Int)], 2), (q0 + 1 + 1, #[.float .f32 s.h, .float .f32 s.v], 32), (q0 + 1, fls s.c, 30), (q0, #[.float .f32 t, .map (some r)], 148)] w1q) 6 #[false, false, false, false, false, false] (by kernel_rfl) rfl rfl ?_ ?_
  · have kd := k3.out.drew
    generalize World.drew _ = wd at kd ⊢
    refine take_val 0 _ _ (.float .f32 t) rfl (by rfl) (by kernel_rfl) (by kernel_rfl) (by kernel_rfl) (fun w => by rfl) rfl rfl kd ?_
    simp only [Act.put, List.setIfInBounds_toArray, List.set_cons_zero, List.set_cons_succ]
    refine take_load 2 _ _ rfl (by rfl) (by kernel_rfl) (by kernel_rfl) (by kernel_rfl) 30 _ rfl (w.heap.size) (fls s.c) 30 rfl (by simp) _ Tryz.underlying30 rfl (by rw [fls_size]; exact info_arr) rfl rfl kd ?_
    simp only [Act.put, List.setIfInBounds_toArray, List.set_cons_zero, List.set_cons_succ]
    refine take_load 3 _ _ rfl (by rfl) (by kernel_rfl) (by kernel_rfl) (by kernel_rfl) 32 _ rfl (w.heap.size + 1) (#[.float .f32 s.h, .float .f32 s.v]) 32 rfl (by simp) _ Tryz.underlying32 rfl (info_air) rfl rfl kd ?_
    simp only [Act.put, List.setIfInBounds_toArray, List.set_cons_zero, List.set_cons_succ]
    refine take_val 4 _ _ (.int .i64 (N : Int)) rfl (by rfl) (by kernel_rfl) (by kernel_rfl) (by kernel_rfl) (fun w => by rfl) rfl rfl kd ?_
    simp only [Act.put, List.setIfInBounds_toArray, List.set_cons_zero, List.set_cons_succ]
    refine wpAnyH_ready (rs := [1]) (by kernel_rfl) (by simp) ?_
    refine callKQ 1 _ (fun v w9 => ∃ r, v = .agg #[.float .f32 t, .map (some r)] ∧ w.heap.size + 1 + 1 + 1 + 1 < r ∧ r < w9.heap.size ∧ MapOf satF IsHeat w9 r) kd rfl (by rfl) 115 #[.float .f32 t] (fun w => by unfold execOp; go_simp) rfl ?hc1 (fun v w4 hq k4 hb4 => ?_) AllReadyH.nil
    case hc1 => exact newG_q t _ wd (kd.lt in0)
    obtain ⟨r, rfl, hr0, hr4, hm4⟩ := hq
    refine ⟨k4, ?_⟩
    simp only [Act.put, List.setIfInBounds_toArray, List.set_cons_zero, List.set_cons_succ]
    refine wpAnyH_ready (rs := [5]) (by kernel_rfl) (by simp) ?_
    refine callKQ 5 _ (fun v w9 => ∃ q0, v = .func (.func 137) #[] #[.pointer (some ⟨q0 + 1, 0, none⟩), .pointer (some ⟨q0 + 1 + 1, 0, none⟩), .pointer (some ⟨q0 + 1 + 1 + 1, 0, none⟩), .pointer (some ⟨q0, 0, none⟩)] ∧ w4.heap.size = q0 ∧ Kept w4 [(q0 + 1 + 1 + 1, #[.int .i64 (N : Int)], 2), (q0 + 1 + 1, #[.float .f32 s.h, .float .f32 s.v], 32), (q0 + 1, fls s.c, 30), (q0, #[.float .f32 t, .map (some r)], 148)] w9) k4 rfl (by rfl) 116 #[.agg #[.float .f32 t, .map (some r)], .agg (fls s.c), .agg #[.float .f32 s.h, .float .f32 s.v], .int .i64 (N : Int)] (fun w => by unfold execOp; go_simp) rfl ?hc2 (fun v w6 hq k6 hb6 => ?_) AllReadyH.nil
    case hc2 => exact stepsG_q t r s.c s.h s.v N w4
    obtain ⟨q0, rfl, hq0, kL⟩ := hq
    refine ⟨k6, ?_⟩
    simp only [Act.put, List.setIfInBounds_toArray, List.set_cons_zero, List.set_cons_succ]
    refine wpAnyH_done (by kernel_rfl) ?_ _
    exact ⟨rfl, r, q0, by simp only, hr0, by omega, kL.lt in0, hm4.keeps (X := fun _ => False) (Keeps.of hb6) (fun x => x), k6, kL.here⟩
  rintro a1 w5 ⟨r, q0, rfl, hr0, hrq, hq5, hm5, k5, kL⟩
  have k5 := hid k5
  have kL := hid kL
  have hm5 := hid hm5
  have HR0 := hid hr0
  have HRQ := hid hrq
  have HQ5 := hid hq5
  clear k3 hr0 hrq hq5
  simp only [Act.put, List.setIfInBounds_toArray, List.set_cons_zero, List.set_cons_succ]
  go_wp2_with fail
  refine (wpIn_wide (n := 9)).1 ?_
  refine range_nums (F := Fence.wide) (n := 9) (gf := 137) (lb := #[.pointer (some ⟨q0 + 1, 0, none⟩), .pointer (some ⟨q0 + 1 + 1, 0, none⟩), .pointer (some ⟨q0 + 1 + 1 + 1, 0, none⟩), .pointer (some ⟨q0, 0, none⟩)])
    (encs := encG t s) (M := K) (mr := r) (E := GEnd K N) (X := Duo w.heap.size) rfl (by decide) (by rfl) trivial (Go.Proofs.enters_of Tryz.func137 (by kernel_rfl) rfl) (fun i => rfl) (by have := HRQ.out; have := HQ5.out; omega)
    (fun k hk => by have := HR0.out; have := HRQ.out; have := HQ5.out; unfold Duo at hk; omega)
    ?hit (fun i V => Kept w [(w.heap.size + 1 + 1 + 1 + 1, #[.int .i64 0], 2), (w.heap.size + 1 + 1 + 1, #[.float .f32 (gSt t s i).h, .float .f32 (gSt t s i).v], 32), (w.heap.size + 1 + 1, fls (gSt t s i).c, 30), (w.heap.size + 1, #[.float .f32 s.h, .float .f32 s.v], 32), (w.heap.size, fls s.c, 30)] V) (fun _ _ _ => False) (fun i b V => ∃ h1 h2, b = { tmps := #[.agg (fls s.c), .agg #[.float .f32 s.h, .float .f32 s.v], .float .f32 t, .int .i64 (N : Int), .pointer (some ⟨w.heap.size, 0, none⟩), .pointer (some ⟨w.heap.size + 1, 0, none⟩), undef, undef, .pointer (some ⟨w.heap.size + 1 + 1, 0, none⟩), .pointer (some ⟨w.heap.size + 1 + 1 + 1, 0, none⟩), .pointer (some ⟨w.heap.size + 1 + 1 + 1 + 1, 0, none⟩), .pointer (some ⟨h1, 0, none⟩), .pointer (some ⟨h2, 0, none⟩), .agg (fls s.c), .agg #[.float .f32 s.h, .float .f32 s.v], .float .f32 t, .int .i64 (N : Int), .int .i64 0, .int .i64 0, .bool false, undef, undef, undef, .func (.func 113) #[] #[.pointer (some ⟨w.heap.size + 1 + 1, 0, none⟩), .pointer (some ⟨w.heap.size + 1 + 1 + 1, 0, none⟩), .pointer (some ⟨w.heap.size + 1 + 1 + 1 + 1, 0, none⟩)], .agg (fls s.c), .agg #[.float .f32 s.h, .float .f32 s.v], .float .f32 t, .agg #[.float .f32 t, .map (some r)], .agg (fls s.c), .agg #[.float .f32 s.h, .float .f32 s.v], .int .i64 (N : Int), .func (.func 137) #[] #[.pointer (some ⟨q0 + 1, 0, none⟩), .pointer (some ⟨q0 + 1 + 1, 0, none⟩), .pointer (some ⟨q0 + 1 + 1 + 1, 0, none⟩), .pointer (some ⟨q0, 0, none⟩)], .agg (fls (gSt t s (i + 1)).c), .agg #[.float .f32 (gSt t s (i + 1)).h, .float .f32 (gSt t s (i + 1)).v], undef, undef, undef, undef], defers := [] } ∧ w5.heap.size + 1 < h1 ∧ w5.heap.size + 1 < h2 ∧ V.heap[h1]? = some (.cells (fls (gSt t s (i + 1)).c) 30 (0, 0)) ∧ V.heap[h2]? = some (.cells (#[.float .f32 (gSt t s (i + 1)).h, .float .f32 (gSt t s (i + 1)).v]) 32 (0, 0))) ?hI (fun _ _ _ _ h _ => h) ?hAx k5.out ?assign ?body ?done ?panic ?out (fun _ _ _ _ h _ => h.elim)
  case hit => exact gIter t r q0 s HS.out N K HKN.out (by have := HN.out; omega) HM.out HBAD.out w w5 HR0.out HRQ.out HQ5.out hm5.out kL.out
  case hI => exact fun i V V' h k => kept_step HR0.out (by have := HR0.out; have := HRQ.out; have := HQ5.out; omega) h k
  case assign =>
    intro i V B hi hI hsz hB
    have HI := hid hI
    have HB := hid hB
    have hZ := hid hsz
    clear hI hB hsz
    unfold encG
    have tok1 : True := trivial
    gi_wp2_with (first
      | (have _t := tok1; clear tok1; refine storeL 30 (by rfl) 30 _ _ (by rfl) V.heap.size (fls (gSt t s (i + 1)).c) (fls fun _ => 0) (by rfl) (by rfl) (World.alloc_heap_new V _) (by rw [fls_size]; exact info_arr) (by simp) (vls_one (n := 20) (f := flw (gSt t s (i + 1)).c) (fun _ => rfl)) (fun V1 e1 => ?_); have K1 := hid (e1 ▸ ((Kept.nil V).push (fls fun _ => 0) 30).set (Nat.le_refl _) ne0 (fls (gSt t s (i + 1)).c)); clear e1; have tok2 : True := trivial)
      | (have _t := tok2; clear tok2; refine storeL 32 (by rfl) 32 _ _ (by rfl) V1.heap.size (#[.float .f32 (gSt t s (i + 1)).h, .float .f32 (gSt t s (i + 1)).v]) (#[.float .f32 0, .float .f32 0]) (by rfl) (by rfl) (World.alloc_heap_new V1 _) (info_air) (by simp) (two_one _ _) (fun V2 e2 => ?_); have K2 := hid (e2 ▸ (K1.out.push (#[.float .f32 0, .float .f32 0]) 32).set K1.out.1.size (neC (Nat.ne_of_lt (K1.out.lt in0)) ne0) (#[.float .f32 (gSt t s (i + 1)).h, .float .f32 (gSt t s (i + 1)).v])); clear e2))
    have h1 := K1.out.1.size
    have h2 := hZ.out
    exact HB.out _ V2 (Keeps.of K2.out.1) (HI.out.stay K2.out.1) ⟨V.heap.size, V1.heap.size, rfl, hZ.out, by omega, K2.out.at (x := (V.heap.size, fls (gSt t s (i + 1)).c, 30)) in1, K2.out.at (x := (V1.heap.size, #[.float .f32 (gSt t s (i + 1)).h, .float .f32 (gSt t s (i + 1)).v], 32)) in0⟩
  case hAx =>
    rintro i b V V' ⟨h1, h2, rfl, l1, l2, r1, r2⟩ k
    exact ⟨h1, h2, rfl, l1, l2, k.row r1 (by omega), k.row r2 (by omega)⟩
  case body =>
    rintro i b V hi hI ⟨h1, h2, rfl, l1, l2, r1, r2⟩
    have h5 := HR0.out
    have h6 := HRQ.out
    have h7 := HQ5.out
    have n1 : h1 ≠ (w.heap.size + 1 + 1) := by omega
    have n2 : h2 ≠ (w.heap.size + 1 + 1) := by omega
    have kA : Kept w [(w.heap.size + 1 + 1 + 1, #[.float .f32 (gSt t s i).h, .float .f32 (gSt t s i).v], 32), (w.heap.size + 1 + 1, fls (gSt t s i).c, 30), (w.heap.size + 1 + 1 + 1 + 1, #[.int .i64 0], 2), (w.heap.size + 1, #[.float .f32 s.h, .float .f32 s.v], 32), (w.heap.size, fls s.c, 30)] V.drew := hI.drew.sub (rot5 _ _ _ _ _)
    have kB := kA.swap.set (by omega) (neC (by omega) (neC (by omega) (neC (by omega) (neC (by omega) ne0)))) (fls (gSt t s (i + 1)).c)
    have kC := kB.swap.set (by omega) (neC (by omega) (neC (by omega) (neC (by omega) (neC (by omega) ne0)))) (#[.float .f32 (gSt t s (i + 1)).h, .float .f32 (gSt t s (i + 1)).v])
    have o8 := hid (kA.at (x := ((w.heap.size + 1 + 1), fls (gSt t s i).c, 30)) in1)
    have o9 := hid (kB.at (x := ((w.heap.size + 1 + 1 + 1), #[.float .f32 (gSt t s i).h, .float .f32 (gSt t s i).v], 32)) in1)
    have q2 := hid (show (V.drew.setRow (w.heap.size + 1 + 1) (fls (gSt t s (i + 1)).c)).heap[h2]? = some (.cells (#[.float .f32 (gSt t s (i + 1)).h, .float .f32 (gSt t s (i + 1)).v]) 32 (0, 0)) from (setRow_other _ _ _ _ n2).trans r2)
    have kD := hid (kC.sub (unrot5 _ _ _ _ _))
    have kX : Hid (Keeps (Duo w.heap.size) V ((V.drew.setRow (w.heap.size + 1 + 1) (fls (gSt t s (i + 1)).c)).setRow (w.heap.size + 1 + 1 + 1) (#[.float .f32 (gSt t s (i + 1)).h, .float .f32 (gSt t s (i + 1)).v]))) := hid ((Keeps.drew0.trans ((keeps_row _ _ _).mono fun _ _ h => Or.inl h)).trans ((keeps_row _ _ _).mono fun _ _ h => Or.inr h))
    have r1 := hid (show V.drew.heap[h1]? = some (.cells (fls (gSt t s (i + 1)).c) 30 (0, 0)) from r1)
    have r2 := hid (show V.drew.heap[h2]? = some (.cells (#[.float .f32 (gSt t s (i + 1)).h, .float .f32 (gSt t s (i + 1)).v]) 32 (0, 0)) from r2)
    clear kA kB kC hI l1 l2 n1 n2
    gi_wp2
    refine regionIn_round (w5.heap.size + 1) 4 #[false, false, false, false] (by kernel_rfl) rfl (by kernel_rfl) rfl rfl ?_
    refine wpAnyIn_ready (rs := [0, 1]) (by kernel_rfl) (by simp) ?_
    refine readIn 0 _ _ (.agg (fls (gSt t s (i + 1)).c)) rfl rfl (by rfl) (run_load_rows 30 _ rfl h1 (fls (gSt t s (i + 1)).c) 30 _ rfl r1.out Tryz.underlying30 (by rfl) (by rw [fls_size]; exact info_arr)) rfl rfl rfl ?_ ?_
    · simp only [Act.put, List.setIfInBounds_toArray, List.set_cons_zero, List.set_cons_succ]
      refine wpAnyIn_ready (rs := [1, 2]) (by kernel_rfl) (by simp) ?_
      refine readIn 1 _ _ (.agg (#[.float .f32 (gSt t s (i + 1)).h, .float .f32 (gSt t s (i + 1)).v])) rfl rfl (by rfl) (run_load_rows 32 _ rfl h2 (#[.float .f32 (gSt t s (i + 1)).h, .float .f32 (gSt t s (i + 1)).v]) 32 _ rfl r2.out Tryz.underlying32 (by rfl) (info_air)) rfl rfl rfl ?_ ?_
      · simp only [Act.put, List.setIfInBounds_toArray, List.set_cons_zero, List.set_cons_succ]
        refine wpAnyIn_ready (rs := [2]) (by kernel_rfl) (by simp) ?_
        refine storeIn 2 _ (V.drew.setRow (w.heap.size + 1 + 1) (fls (gSt t s (i + 1)).c)) rfl rfl (by rfl) (run_store_rows 30 _ _ rfl (w.heap.size + 1 + 1) (fls (gSt t s (i + 1)).c) (fls (gSt t s i).c) 30 rfl rfl o8.out (by rw [fls_size]; exact info_arr) (by simp) (vls_one (n := 20) (f := flw (gSt t s (i + 1)).c) (fun _ => rfl))) (fun _ h => by cases h) rfl ?_ AllReadyIn.nil
        refine wpAnyIn_ready (rs := [3]) (by kernel_rfl) (by simp) ?_
        refine storeIn 3 _ ((V.drew.setRow (w.heap.size + 1 + 1) (fls (gSt t s (i + 1)).c)).setRow (w.heap.size + 1 + 1 + 1) (#[.float .f32 (gSt t s (i + 1)).h, .float .f32 (gSt t s (i + 1)).v])) rfl rfl (by rfl) (run_store_rows 32 _ _ rfl (w.heap.size + 1 + 1 + 1) (#[.float .f32 (gSt t s (i + 1)).h, .float .f32 (gSt t s (i + 1)).v]) (#[.float .f32 (gSt t s i).h, .float .f32 (gSt t s i).v]) 32 rfl rfl o9.out (info_air) (by simp) (two_one _ _)) (fun _ h => by cases h) rfl ?_ AllReadyIn.nil
        refine wpAnyIn_done (by kernel_rfl) (NoPanic.normal ?_) _
        exact ⟨kX.out, kD.out⟩
      refine storeIn 2 _ (V.drew.setRow (w.heap.size + 1 + 1) (fls (gSt t s (i + 1)).c)) rfl rfl (by rfl) (run_store_rows 30 _ _ rfl (w.heap.size + 1 + 1) (fls (gSt t s (i + 1)).c) (fls (gSt t s i).c) 30 rfl rfl o8.out (by rw [fls_size]; exact info_arr) (by simp) (vls_one (n := 20) (f := flw (gSt t s (i + 1)).c) (fun _ => rfl))) (fun _ h => by cases h) rfl ?_ AllReadyIn.nil
      refine wpAnyIn_ready (rs := [1]) (by kernel_rfl) (by simp) ?_
      refine readIn 1 _ _ (.agg (#[.float .f32 (gSt t s (i + 1)).h, .float .f32 (gSt t s (i + 1)).v])) rfl rfl (by rfl) (run_load_rows 32 _ rfl h2 (#[.float .f32 (gSt t s (i + 1)).h, .float .f32 (gSt t s (i + 1)).v]) 32 _ rfl q2.out Tryz.underlying32 (by rfl) (info_air)) rfl rfl rfl ?_ AllReadyIn.nil
      simp only [Act.put, List.setIfInBounds_toArray, List.set_cons_zero, List.set_cons_succ]
      refine wpAnyIn_ready (rs := [3]) (by kernel_rfl) (by simp) ?_
      refine storeIn 3 _ ((V.drew.setRow (w.heap.size + 1 + 1) (fls (gSt t s (i + 1)).c)).setRow (w.heap.size + 1 + 1 + 1) (#[.float .f32 (gSt t s (i + 1)).h, .float .f32 (gSt t s (i + 1)).v])) rfl rfl (by rfl) (run_store_rows 32 _ _ rfl (w.heap.size + 1 + 1 + 1) (#[.float .f32 (gSt t s (i + 1)).h, .float .f32 (gSt t s (i + 1)).v]) (#[.float .f32 (gSt t s i).h, .float .f32 (gSt t s i).v]) 32 rfl rfl o9.out (info_air) (by simp) (two_one _ _)) (fun _ h => by cases h) rfl ?_ AllReadyIn.nil
      refine wpAnyIn_done (by kernel_rfl) (NoPanic.normal ?_) _
      exact ⟨kX.out, kD.out⟩
    refine readIn 1 _ _ (.agg (#[.float .f32 (gSt t s (i + 1)).h, .float .f32 (gSt t s (i + 1)).v])) rfl rfl (by rfl) (run_load_rows 32 _ rfl h2 (#[.float .f32 (gSt t s (i + 1)).h, .float .f32 (gSt t s (i + 1)).v]) 32 _ rfl r2.out Tryz.underlying32 (by rfl) (info_air)) rfl rfl rfl ?_ AllReadyIn.nil
    simp only [Act.put, List.setIfInBounds_toArray, List.set_cons_zero, List.set_cons_succ]
    refine wpAnyIn_ready (rs := [0]) (by kernel_rfl) (by simp) ?_
    refine readIn 0 _ _ (.agg (fls (gSt t s (i + 1)).c)) rfl rfl (by rfl) (run_load_rows 30 _ rfl h1 (fls (gSt t s (i + 1)).c) 30 _ rfl r1.out Tryz.underlying30 (by rfl) (by rw [fls_size]; exact info_arr)) rfl rfl rfl ?_ AllReadyIn.nil
    simp only [Act.put, List.setIfInBounds_toArray, List.set_cons_zero, List.set_cons_succ]
    refine wpAnyIn_ready (rs := [2]) (by kernel_rfl) (by simp) ?_
    refine storeIn 2 _ (V.drew.setRow (w.heap.size + 1 + 1) (fls (gSt t s (i + 1)).c)) rfl rfl (by rfl) (run_store_rows 30 _ _ rfl (w.heap.size + 1 + 1) (fls (gSt t s (i + 1)).c) (fls (gSt t s i).c) 30 rfl rfl o8.out (by rw [fls_size]; exact info_arr) (by simp) (vls_one (n := 20) (f := flw (gSt t s (i + 1)).c) (fun _ => rfl))) (fun _ h => by cases h) rfl ?_ AllReadyIn.nil
    refine wpAnyIn_ready (rs := [3]) (by kernel_rfl) (by simp) ?_
    refine storeIn 3 _ ((V.drew.setRow (w.heap.size + 1 + 1) (fls (gSt t s (i + 1)).c)).setRow (w.heap.size + 1 + 1 + 1) (#[.float .f32 (gSt t s (i + 1)).h, .float .f32 (gSt t s (i + 1)).v])) rfl rfl (by rfl) (run_store_rows 32 _ _ rfl (w.heap.size + 1 + 1 + 1) (#[.float .f32 (gSt t s (i + 1)).h, .float .f32 (gSt t s (i + 1)).v]) (#[.float .f32 (gSt t s i).h, .float .f32 (gSt t s i).v]) 32 rfl rfl o9.out (info_air) (by simp) (two_one _ _)) (fun _ h => by cases h) rfl ?_ AllReadyIn.nil
    refine wpAnyIn_done (by kernel_rfl) (NoPanic.normal ?_) _
    exact ⟨kX.out, kD.out⟩
  case out => unfold GEnd; split <;> simp
  case done =>
    intro v V hE hI hdf
    have eK : K = N := by
      by_cases e : K = N
      · exact e
      · unfold GEnd at hE
        rw [if_neg e] at hE
        cases hE
    clear hE
    subst eK
    have HO := hid (show gOut t s K K = gSt t s K from if_pos rfl)
    have HE := hid (show gCode K K = 0 from if_pos rfl)
    have kI := hid hI
    have hD := hid hdf
    have HQ : Hid (w.heap.size + 1 + 1 + 1 + 1 < w5.heap.size) := hid (by have := HR0.out; have := HRQ.out; have := HQ5.out; omega)
    clear hI hdf hmf
    go_wp2_with fail
    refine region_act (w0 := w) (lk := [(w.heap.size + 1 + 1 + 1 + 1, #[.int .i64 0], 2), (w.heap.size + 1 + 1 + 1, #[.float .f32 (gSt t s K).h, .float .f32 (gSt t s K).v], 32), (w.heap.size + 1 + 1, fls (gSt t s K).c, 30), (w.heap.size + 1, #[.float .f32 s.h, .float .f32 s.v], 32), (w.heap.size, fls s.c, 30)]) (fun a0 a1 wq => a1 = ((a0.put (some 36) (.agg (fls (gSt t s K).c))).put (some 37) (.agg #[.float .f32 (gSt t s K).h, .float .f32 (gSt t s K).v])) ∧ Kept w [(w.heap.size + 1 + 1 + 1 + 1, #[.int .i64 0], 2), (w.heap.size + 1 + 1 + 1, #[.float .f32 (gSt t s K).h, .float .f32 (gSt t s K).v], 32), (w.heap.size + 1 + 1, fls (gSt t s K).c, 30), (w.heap.size + 1, #[.float .f32 s.h, .float .f32 s.v], 32), (w.heap.size, fls s.c, 30)] wq ∧ wq.heap[w5.heap.size]? = some (.deferred (some []))) 5 #[false, false, false, false, false] (by kernel_rfl) rfl rfl ?_ ?_
    · have kd := kI.out.drew
      have dd : V.drew.heap[w5.heap.size]? = some (.deferred (some [])) := hD.out
      generalize World.drew _ = wd at kd dd ⊢
      have hq := HQ.out
      refine take_load 0 _ _ rfl (by rfl) (by kernel_rfl) (by kernel_rfl) (by kernel_rfl) 30 _ rfl ((w.heap.size + 1 + 1)) (fls (gSt t s K).c) 30 rfl (by simp) _ Tryz.underlying30 rfl (by rw [fls_size]; exact info_arr) rfl rfl kd ?_
      simp only [Act.put, List.setIfInBounds_toArray, List.set_cons_zero, List.set_cons_succ]
      refine take_load 1 _ _ rfl (by rfl) (by kernel_rfl) (by kernel_rfl) (by kernel_rfl) 32 _ rfl ((w.heap.size + 1 + 1 + 1)) (#[.float .f32 (gSt t s K).h, .float .f32 (gSt t s K).v]) 32 rfl (by simp) _ Tryz.underlying32 rfl (info_air) rfl rfl kd ?_
      simp only [Act.put, List.setIfInBounds_toArray, List.set_cons_zero, List.set_cons_succ]
      refine wpAnyH_ready (rs := [2]) (by kernel_rfl) (by simp) ?_
      refine storeS 2 _ rfl (by rfl) 30 _ _ rfl (fls (gSt t s K).c) rfl rfl (kd.at (x := ((w.heap.size + 1 + 1), fls (gSt t s K).c, 30)) in2) (by rw [fls_size]; exact info_arr) (by simp) (vls_one (n := 20) (f := flw (gSt t s K).c) (fun _ => rfl)) rfl (fun w6 e6 => ?_) AllReadyH.nil
      have k6 := e6 ▸ (((kd.sub (fr8 _ _ _ _ _)).set (by omega) (neC (by omega) (neC (by omega) (neC (by omega) (neC (by omega) ne0)))) (fls (gSt t s K).c)).sub (bk8 _ _ _ _ _))
      have d6 := e6 ▸ (keeps_row ((w.heap.size + 1 + 1)) (fls (gSt t s K).c) wd).row dd (by omega)
      clear e6 dd kd
      refine ⟨k6, ?_⟩
      refine wpAnyH_ready (rs := [3]) (by kernel_rfl) (by simp) ?_
      refine storeS 3 _ rfl (by rfl) 32 _ _ rfl (#[.float .f32 (gSt t s K).h, .float .f32 (gSt t s K).v]) rfl rfl (k6.at (x := ((w.heap.size + 1 + 1 + 1), #[.float .f32 (gSt t s K).h, .float .f32 (gSt t s K).v], 32)) in1) (info_air) (by simp) (two_one _ _) rfl (fun w7 e7 => ?_) AllReadyH.nil
      have k7 := e7 ▸ ((k6.swap.set (by omega) (neC (by omega) (neC (by omega) (neC (by omega) (neC (by omega) ne0)))) (#[.float .f32 (gSt t s K).h, .float .f32 (gSt t s K).v])).swap)
      have d7 := e7 ▸ (keeps_row ((w.heap.size + 1 + 1 + 1)) (#[.float .f32 (gSt t s K).h, .float .f32 (gSt t s K).v]) w6).row d6 (by omega)
      clear e7 d6 k6
      refine ⟨k7, ?_⟩
      refine wpAnyH_ready (rs := [4]) (by kernel_rfl) (by simp) ?_
      refine storeS1 4 _ rfl (by rfl) 2 _ _ rfl (.int .i64 0) rfl rfl (k7.at (x := (w.heap.size + 1 + 1 + 1 + 1, #[.int .i64 0], 2)) in0) (by kernel_rfl) rfl rfl rfl (fun w8 e8 => ?_) AllReadyH.nil
      have k8 : Kept w [(w.heap.size + 1 + 1 + 1 + 1, #[.int .i64 0], 2), (w.heap.size + 1 + 1 + 1, #[.float .f32 (gSt t s K).h, .float .f32 (gSt t s K).v], 32), (w.heap.size + 1 + 1, fls (gSt t s K).c, 30), (w.heap.size + 1, #[.float .f32 s.h, .float .f32 s.v], 32), (w.heap.size, fls s.c, 30)] w8 := e8 ▸ k7.lcell (by omega) (neC (by omega) (neC (by omega) (neC (by omega) (neC (by omega) ne0)))) 0 (.int .i64 0)
      have d8 := e8 ▸ (Keeps.setCell (X := fun k => k = w.heap.size + 1 + 1 + 1 + 1) (w := w7) ⟨w.heap.size + 1 + 1 + 1 + 1, 0, none⟩ (.int .i64 0) rfl).row d7 (by omega)
      clear e8 d7 k7
      refine ⟨k8, ?_⟩
      refine wpAnyH_done (by kernel_rfl) ?_ _
      exact ⟨rfl, by simp only [Act.put], k8, d8⟩
    rintro a1 w6 ⟨rfl, k6, d6⟩
    have k6 := hid k6
    have d6 := hid d6
    clear kI hD
    simp only [Act.put, List.setIfInBounds_toArray, List.set_cons_zero, List.set_cons_succ]
    go_wp2
    rw [HO.out, HE.out]
    refine ⟨by simp, .inl ⟨_, _, rfl, run_takeDeferred d6.out, ?_⟩⟩
    have k7 := hid (kept_step HR0.out HQ.out k6.out ((Keeps.putObj (X := fun k => k = w5.heap.size) (w := w6) w5.heap.size (.deferred none) rfl).mono fun k _ h => Or.inr (Nat.le_of_eq h.symm)))
    clear k6 d6
    generalize World.putObj w6 _ _ = w7 at k7 ⊢
    refine ⟨by simp, .inr ⟨(fun h => by cases h), _, _, 113, #[.pointer (some ⟨w.heap.size + 1 + 1, 0, none⟩), .pointer (some ⟨w.heap.size + 1 + 1 + 1, 0, none⟩), .pointer (some ⟨w.heap.size + 1 + 1 + 1 + 1, 0, none⟩)], rfl, by simp [go_sem], (fun _ _ => trivial), (iCatchG_idle (9 - 1) ((w.heap.size + 1 + 1)) ((w.heap.size + 1 + 1 + 1)) (w.heap.size + 1 + 1 + 1 + 1) w7).mono ?_⟩⟩
    rintro e u' w'' ⟨rfl, rfl, rfl⟩
    have e1 : (loadVar 30 ⟨(w.heap.size + 1 + 1), 0, none⟩).run Tryz.prog w'' = .ok (.agg (fls (gSt t s K).c)) w'' := run_loadVar_row _ ((w.heap.size + 1 + 1)) 30 30 (fls (gSt t s K).c) (0, 0) _ (k7.out.at (x := ((w.heap.size + 1 + 1), fls (gSt t s K).c, 30)) in2) Tryz.underlying30 rfl (by rw [fls_size]; exact info_arr)
    have e2 : (loadVar 32 ⟨(w.heap.size + 1 + 1 + 1), 0, none⟩).run Tryz.prog w'' = .ok (.agg #[.float .f32 (gSt t s K).h, .float .f32 (gSt t s K).v]) w'' := run_loadVar_row _ ((w.heap.size + 1 + 1 + 1)) 32 32 (#[.float .f32 (gSt t s K).h, .float .f32 (gSt t s K).v]) (0, 0) _ (k7.out.at (x := ((w.heap.size + 1 + 1 + 1), #[.float .f32 (gSt t s K).h, .float .f32 (gSt t s K).v], 32)) in1) Tryz.underlying32 rfl (info_air)
    have e3 : (loadVar 2 ⟨w.heap.size + 1 + 1 + 1 + 1, 0, none⟩).run Tryz.prog w'' = .ok (.int .i64 0) w'' := by
      have c7 : World.cell? w'' ⟨w.heap.size + 1 + 1 + 1 + 1, 0, none⟩ = some (.int .i64 0) := (cell_of_row _ (w.heap.size + 1 + 1 + 1 + 1) 0 _ _ _ (k7.out.at (x := (w.heap.size + 1 + 1 + 1 + 1, #[.int .i64 0], 2)) in0)).trans rfl
      clear e1 e2 k7
      simp [go_sem, c7]
    refine ⟨.tuple #[.agg (fls (gSt t s K).c), .agg #[.float .f32 (gSt t s K).h, .float .f32 (gSt t s K).v], .int .i64 0], ?_, rfl, k7.out.1⟩
    simp [results, Tryz.results84, asAddr, e1, e2, e3, Sem.run_bind, Result.andThen_ok]

  case panic =>
    intro chain V hE hI hdf
    have eK : K ≠ N := by
      intro e
      unfold GEnd at hE
      rw [if_pos e] at hE
      obtain ⟨v, hv⟩ := hE
      cases hv
    unfold GEnd at hE
    rw [if_neg eK] at hE
    cases hE
    have HO := hid (show gOut t s N K = ⟨fun _ => 0, 0, 0⟩ from if_neg eK)
    have HE := hid (show gCode N K = 4 from if_neg eK)
    have kI := hid hI
    have hD := hid hdf
    have HQ : Hid (w.heap.size + 1 + 1 + 1 + 1 < w5.heap.size) := hid (by have := HR0.out; have := HRQ.out; have := HQ5.out; omega)
    clear hI hdf hmf eK
    go_wp2
    rw [HO.out, HE.out]
    refine ⟨by simp, .inl ⟨_, _, rfl, run_takeDeferred hD.out, ?_⟩⟩
    have k6 := hid (kept_step HR0.out HQ.out kI.out ((Keeps.putObj (X := fun k => k = w5.heap.size) (w := V) w5.heap.size (.deferred none) rfl).mono fun k _ h => Or.inr (Nat.le_of_eq h.symm)))
    clear kI hD
    generalize World.putObj V _ _ = w6 at k6 ⊢
    have HH : HK (fun _ => True) w6 [(w.heap.size + 1 + 1 + 1 + 1, #[.int .i64 0], 2), ((w.heap.size + 1 + 1 + 1), #[.float .f32 (gSt t s K).h, .float .f32 (gSt t s K).v], 32), ((w.heap.size + 1 + 1), fls (gSt t s K).c, 30)] w6 := ⟨Keeps.refl _ _, fun x hx => k6.out.2 x (by
      simp only [List.mem_cons, List.not_mem_nil, or_false] at hx ⊢
      rcases hx with h | h | h
      · exact .inl h
      · exact .inr (.inl h)
      · exact .inr (.inr (.inl h)))⟩
    refine ⟨by simp, .inr ⟨(fun h => by cases h), _, _, 113, #[.pointer (some ⟨w.heap.size + 1 + 1, 0, none⟩), .pointer (some ⟨w.heap.size + 1 + 1 + 1, 0, none⟩), .pointer (some ⟨w.heap.size + 1 + 1 + 1 + 1, 0, none⟩)], rfl, by simp [go_sem], (fun _ _ => trivial), (iCatchG_panic (9 - 1) 4 ((w.heap.size + 1 + 1)) ((w.heap.size + 1 + 1 + 1)) (w.heap.size + 1 + 1 + 1 + 1) (by omega) (by omega) (by omega) 0 (gSt t s K).h (gSt t s K).v (gSt t s K).c w6 HH).mono ?_⟩⟩
    rintro e u' w'' ⟨rfl, rfl, h7, q7⟩
    have k7 := hid (kept_trio k6.out h7 q7)
    clear HH h7 q7 k6
    have e1 : (loadVar 30 ⟨(w.heap.size + 1 + 1), 0, none⟩).run Tryz.prog w'' = .ok (.agg (fls fun _ => 0)) w'' := run_loadVar_row _ ((w.heap.size + 1 + 1)) 30 30 (fls fun _ => 0) (0, 0) _ (k7.out.at (x := ((w.heap.size + 1 + 1), fls fun _ => 0, 30)) in2) Tryz.underlying30 rfl (by rw [fls_size]; exact info_arr)
    have e2 : (loadVar 32 ⟨(w.heap.size + 1 + 1 + 1), 0, none⟩).run Tryz.prog w'' = .ok (.agg #[.float .f32 0, .float .f32 0]) w'' := run_loadVar_row _ ((w.heap.size + 1 + 1 + 1)) 32 32 (#[.float .f32 0, .float .f32 0]) (0, 0) _ (k7.out.at (x := ((w.heap.size + 1 + 1 + 1), #[.float .f32 0, .float .f32 0], 32)) in1) Tryz.underlying32 rfl (info_air)
    have e3 : (loadVar 2 ⟨w.heap.size + 1 + 1 + 1 + 1, 0, none⟩).run Tryz.prog w'' = .ok (.int .i64 4) w'' := by
      have c7 : World.cell? w'' ⟨w.heap.size + 1 + 1 + 1 + 1, 0, none⟩ = some (.int .i64 4) := (cell_of_row _ (w.heap.size + 1 + 1 + 1 + 1) 0 _ _ _ (k7.out.at (x := (w.heap.size + 1 + 1 + 1 + 1, #[.int .i64 4], 2)) in0)).trans rfl
      clear e1 e2 k7
      simp [go_sem, c7]
    refine ⟨.tuple #[.agg (fls fun _ => 0), .agg #[.float .f32 0, .float .f32 0], .int .i64 4], ?_, rfl, k7.out.1⟩
    simp [results, Tryz.results84, asAddr, e1, e2, e3, Sem.run_bind, Result.andThen_ok]

set_option maxRecDepth 100000 in
theorem sSpendG_lo (h v G x : Nat) (hr : S.sub v G = some x) (h0 : (FloatKind.f32.format.order x 0 == some .lt) = true) (w : World) :
    Calls Tryz.prog 110 #[.agg #[.float .f32 h, .float .f32 v], .float .f32 G] w fun e w' => e = .returned (.agg #[.float .f32 h, .float .f32 0]) ∧ Below w.heap.size w w' := by
  have hb := fun w => run_float_arith (P := Tryz.prog) w .sub 22 .f32 _ _ _ hr
  have c0 : (FloatKind.f32.format.order 0 1148846080 == some .gt) = false := by decide +kernel
  clear hr
  have kE : Hid (Kept w [(w.heap.size, #[.float .f32 h, .float .f32 0], 32), (w.heap.size + 1, #[.float .f32 h, .float .f32 0], 32)] ((w.alloc (.cells #[.float .f32 h, .float .f32 0] 32)).alloc (.cells #[.float .f32 h, .float .f32 0] 32))) := hid ((((Kept.nil w).push #[.float .f32 h, .float .f32 0] 32).push #[.float .f32 h, .float .f32 0] 32).sub (by simp))
  go_enter Tryz.func110, Tryz.ntmps110
  go_wp2
  exact bodyPost_ret (results_cell_row rfl _ _ (w.heap.size + 1) 32 #[.float .f32 h, .float .f32 0] (0, 0) _ rfl (kE.out.at (x := (w.heap.size + 1, #[.float .f32 h, .float .f32 0], 32)) in1) Tryz.underlying32 rfl info_air) rfl ⟨rfl, kE.out.1⟩

set_option maxRecDepth 100000 in
theorem sSpendG_hi (h v G x : Nat) (hr : S.sub v G = some x) (h0 : (FloatKind.f32.format.order x 0 == some .lt) = false) (h1 : (FloatKind.f32.format.order x 1148846080 == some .gt) = true) (w : World) :
    Calls Tryz.prog 110 #[.agg #[.float .f32 h, .float .f32 v], .float .f32 G] w fun e w' => e = .returned (.agg #[.float .f32 h, .float .f32 1148846080]) ∧ Below w.heap.size w w' := by
  have hb := fun w => run_float_arith (P := Tryz.prog) w .sub 22 .f32 _ _ _ hr
  have _ := trivial
  clear hr
  have kE : Hid (Kept w [(w.heap.size, #[.float .f32 h, .float .f32 1148846080], 32), (w.heap.size + 1, #[.float .f32 h, .float .f32 1148846080], 32)] ((w.alloc (.cells #[.float .f32 h, .float .f32 1148846080] 32)).alloc (.cells #[.float .f32 h, .float .f32 1148846080] 32))) := hid ((((Kept.nil w).push #[.float .f32 h, .float .f32 1148846080] 32).push #[.float .f32 h, .float .f32 1148846080] 32).sub (by simp))
  go_enter Tryz.func110, Tryz.ntmps110
  go_wp2
  exact bodyPost_ret (results_cell_row rfl _ _ (w.heap.size + 1) 32 #[.float .f32 h, .float .f32 1148846080] (0, 0) _ rfl (kE.out.at (x := (w.heap.size + 1, #[.float .f32 h, .float .f32 1148846080], 32)) in1) Tryz.underlying32 rfl info_air) rfl ⟨rfl, kE.out.1⟩

set_option maxRecDepth 100000 in
theorem sSpendG_mid (h v G x : Nat) (hr : S.sub v G = some x) (h0 : (FloatKind.f32.format.order x 0 == some .lt) = false) (h1 : (FloatKind.f32.format.order x 1148846080 == some .gt) = false) (w : World) :
    Calls Tryz.prog 110 #[.agg #[.float .f32 h, .float .f32 v], .float .f32 G] w fun e w' => e = .returned (.agg #[.float .f32 h, .float .f32 x]) ∧ Below w.heap.size w w' := by
  have hb := fun w => run_float_arith (P := Tryz.prog) w .sub 22 .f32 _ _ _ hr
  have _ := trivial
  clear hr
  have kE : Hid (Kept w [(w.heap.size, #[.float .f32 h, .float .f32 x], 32), (w.heap.size + 1, #[.float .f32 h, .float .f32 x], 32)] ((w.alloc (.cells #[.float .f32 h, .float .f32 x] 32)).alloc (.cells #[.float .f32 h, .float .f32 x] 32))) := hid ((((Kept.nil w).push #[.float .f32 h, .float .f32 x] 32).push #[.float .f32 h, .float .f32 x] 32).sub (by simp))
  go_enter Tryz.func110, Tryz.ntmps110
  go_wp2
  exact bodyPost_ret (results_cell_row rfl _ _ (w.heap.size + 1) 32 #[.float .f32 h, .float .f32 x] (0, 0) _ rfl (kE.out.at (x := (w.heap.size + 1, #[.float .f32 h, .float .f32 x], 32)) in1) Tryz.underlying32 rfl info_air) rfl ⟨rfl, kE.out.1⟩

set_option maxRecDepth 100000 in
theorem sWarmG_lo (h v G x : Nat) (hr : S.add h G = some x) (h0 : (FloatKind.f32.format.order x 3262119936 == some .lt) = true) (h1 : (FloatKind.f32.format.order x 1114636288 == some .gt) = false) (w : World) :
    Calls Tryz.prog 109 #[.agg #[.float .f32 h, .float .f32 v], .float .f32 G] w fun e w' => e = .returned (.agg #[.float .f32 3262119936, .float .f32 v]) ∧ Below w.heap.size w w' := by
  have hb := fun w => run_float_arith (P := Tryz.prog) w .add 22 .f32 _ _ _ hr
  have _ := trivial
  clear hr
  have kE : Hid (Kept w [(w.heap.size, #[.float .f32 3262119936, .float .f32 v], 32), (w.heap.size + 1, #[.float .f32 3262119936, .float .f32 v], 32)] ((w.alloc (.cells #[.float .f32 3262119936, .float .f32 v] 32)).alloc (.cells #[.float .f32 3262119936, .float .f32 v] 32))) := hid ((((Kept.nil w).push #[.float .f32 3262119936, .float .f32 v] 32).push #[.float .f32 3262119936, .float .f32 v] 32).sub (by simp))
  go_enter Tryz.func109, Tryz.ntmps109
  go_wp2
  exact bodyPost_ret (results_cell_row rfl _ _ (w.heap.size + 1) 32 #[.float .f32 3262119936, .float .f32 v] (0, 0) _ rfl (kE.out.at (x := (w.heap.size + 1, #[.float .f32 3262119936, .float .f32 v], 32)) in1) Tryz.underlying32 rfl info_air) rfl ⟨rfl, kE.out.1⟩

set_option maxRecDepth 100000 in
theorem sWarmG_hi (h v G x : Nat) (hr : S.add h G = some x) (h1 : (FloatKind.f32.format.order x 1114636288 == some .gt) = true) (w : World) :
    Calls Tryz.prog 109 #[.agg #[.float .f32 h, .float .f32 v], .float .f32 G] w fun e w' => e = .returned (.agg #[.float .f32 1114636288, .float .f32 v]) ∧ Below w.heap.size w w' := by
  have hb := fun w => run_float_arith (P := Tryz.prog) w .add 22 .f32 _ _ _ hr
  have c1 : (FloatKind.f32.format.order 1114636288 3262119936 == some .lt) = false := by decide +kernel
  clear hr
  have kE : Hid (Kept w [(w.heap.size, #[.float .f32 1114636288, .float .f32 v], 32), (w.heap.size + 1, #[.float .f32 1114636288, .float .f32 v], 32)] ((w.alloc (.cells #[.float .f32 1114636288, .float .f32 v] 32)).alloc (.cells #[.float .f32 1114636288, .float .f32 v] 32))) := hid ((((Kept.nil w).push #[.float .f32 1114636288, .float .f32 v] 32).push #[.float .f32 1114636288, .float .f32 v] 32).sub (by simp))
  go_enter Tryz.func109, Tryz.ntmps109
  go_wp2
  exact bodyPost_ret (results_cell_row rfl _ _ (w.heap.size + 1) 32 #[.float .f32 1114636288, .float .f32 v] (0, 0) _ rfl (kE.out.at (x := (w.heap.size + 1, #[.float .f32 1114636288, .float .f32 v], 32)) in1) Tryz.underlying32 rfl info_air) rfl ⟨rfl, kE.out.1⟩

set_option maxRecDepth 100000 in
theorem sWarmG_mid (h v G x : Nat) (hr : S.add h G = some x) (h0 : (FloatKind.f32.format.order x 3262119936 == some .lt) = false) (h1 : (FloatKind.f32.format.order x 1114636288 == some .gt) = false) (w : World) :
    Calls Tryz.prog 109 #[.agg #[.float .f32 h, .float .f32 v], .float .f32 G] w fun e w' => e = .returned (.agg #[.float .f32 x, .float .f32 v]) ∧ Below w.heap.size w w' := by
  have hb := fun w => run_float_arith (P := Tryz.prog) w .add 22 .f32 _ _ _ hr
  have _ := trivial
  clear hr
  have kE : Hid (Kept w [(w.heap.size, #[.float .f32 x, .float .f32 v], 32), (w.heap.size + 1, #[.float .f32 x, .float .f32 v], 32)] ((w.alloc (.cells #[.float .f32 x, .float .f32 v] 32)).alloc (.cells #[.float .f32 x, .float .f32 v] 32))) := hid ((((Kept.nil w).push #[.float .f32 x, .float .f32 v] 32).push #[.float .f32 x, .float .f32 v] 32).sub (by simp))
  go_enter Tryz.func109, Tryz.ntmps109
  go_wp2
  exact bodyPost_ret (results_cell_row rfl _ _ (w.heap.size + 1) 32 #[.float .f32 x, .float .f32 v] (0, 0) _ rfl (kE.out.at (x := (w.heap.size + 1, #[.float .f32 x, .float .f32 v], 32)) in1) Tryz.underlying32 rfl info_air) rfl ⟨rfl, kE.out.1⟩

/-- What is spent of the vapour, and what warms. -/
theorem sSpendG (h v G : Nat) (A : StepA h v G) (w : World) : Calls Tryz.prog 110 #[.agg #[.float .f32 h, .float .f32 v], .float .f32 G] w fun e w' => e = .returned (.agg #[.float .f32 h, .float .f32 (nvW v G)]) ∧ Below w.heap.size w w' := by
  have o1 := lt_nw A.cv.nw A.cv.fl
  have o2 := gt_nw A.cv.nw A.cv.fh
  have hlt := A.cv.lt
  unfold nvW cl
  by_cases h1 : sv (fsb v G) < sv 0
  · rw [if_pos h1]
    rw [decide_eq_true h1] at o1
    exact sSpendG_lo h v G _ A.s o1 w
  · rw [if_neg h1]
    rw [decide_eq_false h1] at o1
    by_cases h2 : sv 1148846080 < sv (fsb v G)
    · rw [if_pos h2]
      rw [decide_eq_true h2] at o2
      exact sSpendG_hi h v G _ A.s o1 o2 w
    · rw [if_neg h2]
      rw [decide_eq_false h2] at o2
      exact sSpendG_mid h v G _ A.s o1 o2 w

theorem sWarmG (h v v2 G : Nat) (A : StepA h v G) (w : World) : Calls Tryz.prog 109 #[.agg #[.float .f32 h, .float .f32 v2], .float .f32 (fmul 1073741824 G)] w fun e w' => e = .returned (.agg #[.float .f32 (nhW h G), .float .f32 v2]) ∧ Below w.heap.size w w' := by
  have o1 := lt_nw A.ch.nw A.ch.fl
  have o2 := gt_nw A.ch.nw A.ch.fh
  have hlt := A.ch.lt
  unfold nhW cl
  by_cases h1 : sv (fadd h (fmul 1073741824 G)) < sv 3262119936
  · rw [if_pos h1]
    rw [decide_eq_true h1] at o1
    rw [decide_eq_false (by omega)] at o2
    exact sWarmG_lo h v2 _ _ A.a o1 o2 w
  · rw [if_neg h1]
    rw [decide_eq_false h1] at o1
    by_cases h2 : sv 1114636288 < sv (fadd h (fmul 1073741824 G))
    · rw [if_pos h2]
      rw [decide_eq_true h2] at o2
      exact sWarmG_hi h v2 _ _ A.a o2 w
    · rw [if_neg h2]
      rw [decide_eq_false h2] at o2
      exact sWarmG_mid h v2 _ _ A.a o1 o2 w

set_option maxHeartbeats 2000000 in
set_option maxRecDepth 100000 in
theorem sGains (x t : Nat) (hx : x < 4294967296) (hf : finB x = true) (ht : amtB t = true) (w : World) :
    Calls Tryz.prog 107 #[.float .f32 x, .float .f32 t] w fun e w' => ∃ M : Nat → Nat, (∀ k, k < 20 → GFits x t k (M k)) ∧ e = .returned (.agg (vls 20 (flw M))) ∧ Below w.heap.size w w' := by
  have A1 : Hid (vAt (w.alloc (.cells (fls fun _ => 0) 23)) w.heap.size 20 (flw fun _ => 0) 23) := hid (vAt.new w 20 (flw fun _ => 0) 23)
  have b0 := boxed w (.cells (fls fun _ => 0) 23)
  have HX := hid hx
  have HF := hid hf
  have HT := hid ht
  clear hx hf ht
  go_enter Tryz.func107, Tryz.ntmps107
  have N0 : Hid (vAt ((w.alloc (.cells (fls fun _ => 0) 23)).alloc (.cells (fls fun _ => 0) 23)) (w.heap.size + 1) 20 (flw fun _ => 0) 23) := hid (vAt.new1 w (.cells (fls fun _ => 0) 23) 20 (flw fun _ => 0) 23)
  have HL := hid (Nat.le_refl (w.heap.size + 1))
  have M0 := hid (N0.out.setRow (flw fun _ => 0))
  have M1 := hid ((A1.out.alloc (.cells (fls fun _ => 0) 23)).setRowOther (k := (w.heap.size + 1)) (by omega) (vls 20 (flw fun _ => 0)))
  have mb := below_row (b0.alloc b0.size (.cells (fls fun _ => 0) 23)) (Nat.le_succ _) (g := (w.heap.size + 1)) (vls 20 (flw fun _ => 0))
  have tok1 : True := trivial
  go_wp2_with (have _t := tok1; refine wpList_store_row rfl 23 _ _ rfl ((w.heap.size + 1)) (vls 20 (flw fun _ => 0)) rfl rfl 23 _ N0.out (by rw [vls_size]; exact info_a20) (by simp) (vls_one (flw_one _)) ?_; generalize (((w.alloc (.cells (fls fun _ => 0) 23)).alloc (.cells (fls fun _ => 0) 23)).setRow (w.heap.size + 1) (vls 20 (flw fun _ => 0))) = w2 at M0 M1 mb ⊢; clear N0 A1 b0 tok1)
  go_loopw [6] (fun i wr => ∃ k : Nat, k ≤ 20 ∧ i = .int .i64 k ∧ (∃ M : Nat → Nat, Hid (∀ i, i < k → GFits x t i (M i)) ∧ Hid (vAt wr (w.heap.size + 1) 20 (flw M) 23)) ∧ Hid (vAt wr w.heap.size 20 (flw fun _ => 0) 23) ∧ Hid (Below w.heap.size w wr)) (fun i _ => 20 - (intOf i).toNat)
  case atStart => exact ⟨0, by omega, rfl, ⟨fun _ => 0, hid fun i hi => by omega, M0⟩, M1, hid mb⟩
  case round =>
    obtain ⟨k, hk, rfl, ⟨M, hM, h0⟩, h1, hb⟩ := hrel
    by_cases hlt : k < 20
    · have HK := hid hlt
      have hk3 : (k : Int) < 20 := by omega
      clear M0 M1 mb
      have H := hid (gain_ok HX.out HF.out HT.out HK.out)
      have r1 := fun w => run_float_arith (P := Tryz.prog) w .mul 22 .f32 _ _ _ H.out.r1
      have r3 := fun w => run_neg_mass (P := Tryz.prog) HK.out w
      go_wp2_with fail
      refine (sMass k HK.out _).mono ?_
      rintro e wa ⟨rfl, rfl⟩
      go_wp2_with fail
      refine (sRad k HK.out _).mono ?_
      rintro e wa ⟨rfl, rfl⟩
      rcases hn : gNan x t k with _ | _
      · have hr2 := H.out.r2 hn
        have r2 := fun w => run_float_arith (P := Tryz.prog) w .mul 22 .f32 _ _ _ hr2.1
        have hcs := hold_cases x hr2.2 H.out.m1 H.out.m0
        rw [show sgnW x (min (gqW x t k) (mass k)) = gainW x t k from rfl] at hcs
        have g0 := h0
        have g1 := h1
        have gb := hb
        clear h0 h1 hb hr2
        have HG' := hid (show GFits x t k (gainW x t k) from ⟨fun _ => rfl, fun h => absurd (hn.symm.trans h) Bool.noConfusion⟩)
        clear hn
        rcases hcs with ⟨c1, c2, c3⟩ | ⟨c1, c2, c3⟩ | ⟨c1, c2, c3⟩
        · have HG := hid (c3 ▸ HG'.out)
          clear HG' c3
          have q0 := g0.out.cell HK.out
          have f0 := g0.out.frozen k
          have n0 := hid (g0.out.fset k (mass k))
          have n1 := hid (g1.out.setOther (a := ⟨(w.heap.size + 1), k, none⟩) (by first | (simp; done) | (simp; omega)) (.float .f32 (mass k)))
          have nb := gb.out.setCell (p := ⟨(w.heap.size + 1), k, none⟩) (by first | (simp; done) | (simp; omega)) (.float .f32 (mass k))
          have HM : Hid (∀ i, i < k + 1 → GFits x t i (upd M k (mass k) i)) := hid fun i hi => by
            by_cases e : i = k
            · rw [e, show upd M k (mass k) k = (mass k) from if_pos rfl]; exact HG.out
            · rw [show upd M k (mass k) i = M i from if_neg e]; exact hM.out i (by omega)
          clear gb g0 g1 hM
          go_wp2
          go_roundw
          case rel => exact ⟨k + 1, by omega, by go_num, ⟨_, HM, n0⟩, n1, hid nb⟩
          case measure => simp [intOf]; omega
        · have HG := hid (c3 ▸ HG'.out)
          clear HG' c3
          have q0 := g0.out.cell HK.out
          have f0 := g0.out.frozen k
          have n0 := hid (g0.out.fset k (sgnW x (gqW x t k)))
          have n1 := hid (g1.out.setOther (a := ⟨(w.heap.size + 1), k, none⟩) (by first | (simp; done) | (simp; omega)) (.float .f32 (sgnW x (gqW x t k))))
          have nb := gb.out.setCell (p := ⟨(w.heap.size + 1), k, none⟩) (by first | (simp; done) | (simp; omega)) (.float .f32 (sgnW x (gqW x t k)))
          have HM : Hid (∀ i, i < k + 1 → GFits x t i (upd M k (sgnW x (gqW x t k)) i)) := hid fun i hi => by
            by_cases e : i = k
            · rw [e, show upd M k (sgnW x (gqW x t k)) k = (sgnW x (gqW x t k)) from if_pos rfl]; exact HG.out
            · rw [show upd M k (sgnW x (gqW x t k)) i = M i from if_neg e]; exact hM.out i (by omega)
          clear gb g0 g1 hM
          go_wp2
          go_roundw
          case rel => exact ⟨k + 1, by omega, by go_num, ⟨_, HM, n0⟩, n1, hid nb⟩
          case measure => simp [intOf]; omega
        · have HG := hid (c3 ▸ HG'.out)
          clear HG' c3
          have q0 := g0.out.cell HK.out
          have f0 := g0.out.frozen k
          have n0 := hid (g0.out.fset k (2147483648 + mass k))
          have n1 := hid (g1.out.setOther (a := ⟨(w.heap.size + 1), k, none⟩) (by first | (simp; done) | (simp; omega)) (.float .f32 (2147483648 + mass k)))
          have nb := gb.out.setCell (p := ⟨(w.heap.size + 1), k, none⟩) (by first | (simp; done) | (simp; omega)) (.float .f32 (2147483648 + mass k))
          have HM : Hid (∀ i, i < k + 1 → GFits x t i (upd M k (2147483648 + mass k) i)) := hid fun i hi => by
            by_cases e : i = k
            · rw [e, show upd M k (2147483648 + mass k) k = (2147483648 + mass k) from if_pos rfl]; exact HG.out
            · rw [show upd M k (2147483648 + mass k) i = M i from if_neg e]; exact hM.out i (by omega)
          clear gb g0 g1 hM
          go_wp2
          go_roundw
          case rel => exact ⟨k + 1, by omega, by go_num, ⟨_, HM, n0⟩, n1, hid nb⟩
          case measure => simp [intOf]; omega
      · obtain ⟨z, w4, r2, hz, hz2, hw4⟩ : ∃ z w4, (binOp .mul 22 (.float .f32 (sgnW x (fmul (rad k) (mg x)))) (.float .f32 t)).run Tryz.prog wr = .ok (.float .f32 z) w4 ∧ INF < mg z ∧ z < 4294967296 ∧ w4 = wr.drew := by
          obtain ⟨z, a, b, c⟩ := run_arith_nan (P := Tryz.prog) (w := wr) .mul (.inr (.inr (.inl rfl))) 22 _ _ (H.out.r3 hn)
          exact ⟨z, _, a, b, c, rfl⟩
        have c1 : (FloatKind.f32.format.order z (mass k) == some .gt) = false := by
          rw [show FloatKind.f32.format.order z (mass k) = none from order_nan32 hz]; rfl
        have c2 : (FloatKind.f32.format.order z (2147483648 + mass k) == some .lt) = false := by
          rw [show FloatKind.f32.format.order z (2147483648 + mass k) = none from order_nan32 hz]; rfl
        have HG := hid (show GFits x t k z from ⟨fun h => absurd (hn.symm.trans h) Bool.noConfusion, fun _ => ⟨hz2, finB_iff'.2 (by omega)⟩⟩)
        have g0 : Hid (vAt w4 (w.heap.size + 1) 20 (flw M) 23) := by rw [hw4]; exact hid h0.out.drew
        have g1 : Hid (vAt w4 w.heap.size 20 (flw fun _ => 0) 23) := by rw [hw4]; exact hid h1.out.drew
        have gb : Hid (Below w.heap.size w w4) := by rw [hw4]; exact hid hb.out.drew
        clear hz hz2 hw4 hn h0 h1 hb
        have q0 := g0.out.cell HK.out
        have f0 := g0.out.frozen k
        have n0 := hid (g0.out.fset k z)
        have n1 := hid (g1.out.setOther (a := ⟨(w.heap.size + 1), k, none⟩) (by first | (simp; done) | (simp; omega)) (.float .f32 z))
        have nb := gb.out.setCell (p := ⟨(w.heap.size + 1), k, none⟩) (by first | (simp; done) | (simp; omega)) (.float .f32 z)
        have HM : Hid (∀ i, i < k + 1 → GFits x t i (upd M k z i)) := hid fun i hi => by
          by_cases e : i = k
          · rw [e, show upd M k z k = z from if_pos rfl]; exact HG.out
          · rw [show upd M k z i = M i from if_neg e]; exact hM.out i (by omega)
        clear gb g0 g1 hM
        go_wp2
        go_roundw
        case rel => exact ⟨k + 1, by omega, by go_num, ⟨_, HM, n0⟩, n1, hid nb⟩
        case measure => simp [intOf]; omega
    · obtain rfl : k = 20 := by omega
      have hl := HL.out
      go_wp2_with (first | (refine wpList_load_row rfl 23 _ rfl ((w.heap.size + 1)) rfl 23 (vls 20 (flw M)) (0, 0) _ h0.out Tryz.underlying23 rfl (by rw [vls_size]; exact info_a20) ?_) | (refine wpList_store_row rfl 23 _ _ rfl (w.heap.size) (vls 20 (flw M)) rfl rfl 23 _ h1.out (by rw [vls_size]; exact info_a20) (by simp) (vls_one (flw_one _)) ?_))
      exact bodyPost_ret (results_cell_row rfl _ _ (w.heap.size) 23 (vls 20 (flw M)) (0, 0) _ rfl (h1.out.setRow (flw M)) Tryz.underlying23 rfl (by rw [vls_size]; exact info_a20)) rfl ⟨M, hM.out, rfl, below_row hb.out (by omega) _⟩

theorem sGainsX (x t : Nat) (h : ExF x t) (w : World) : Calls Tryz.prog 107 #[.float .f32 x, .float .f32 t] w fun e w' => e = .returned (.agg (fls (g1W x t))) ∧ Below w.heap.size w w' := by
  refine (sGains x t h.lt h.fin h.t w).mono fun e w' hh => ?_
  obtain ⟨M, hM, he, hb⟩ := hh
  have h2 : fls M = fls (g1W x t) := fls_ext fun i hi => (hM i hi).1 (h.nan i hi)
  exact ⟨he.trans (congrArg (fun z => Ending.returned (Value.agg z)) h2), hb⟩

theorem vap_lt {h v : Nat} (hq : airB h v = true) : v < 4294967296 := by
  have := amtB_iff.1 (airB_iff.1 hq).2.1
  have hI := INF_val
  omega

theorem pk3 {α : Type} (a b c d : α) : ∀ x ∈ [c, d, a, b], x ∈ [a, b, c, d] := fun x hx => by
  simp only [List.mem_cons, List.not_mem_nil, or_false] at hx ⊢
  rcases hx with h | h | h | h
  · exact .inr (.inr (.inl h))
  · exact .inr (.inr (.inr h))
  · exact .inl h
  · exact .inr (.inl h)

set_option maxRecDepth 100000 in
set_option maxHeartbeats 1000000 in
theorem iGrow1 (c : Nat → Nat) (h v t : Nat) (R : Nat → Nat) (H V : Nat) (n : Int) (hC : ∀ w, Calls Tryz.prog 84 #[.agg (fls c), .agg #[.float .f32 h, .float .f32 v], .float .f32 t, .int .i64 1] w fun e w' => e = .returned (.tuple #[.agg (fls R), .agg #[.float .f32 H, .float .f32 V], .int .i64 n]) ∧ Below w.heap.size w w') (w : World) :
    Calls Tryz.prog 55 #[.agg (fls c), .agg #[.float .f32 h, .float .f32 v], .float .f32 t] w fun e w' => e = .returned (.tuple #[.agg (fls R), .agg #[.float .f32 H, .float .f32 V], .int .i64 n]) ∧ Below w.heap.size w w' := by
  have k0 : Hid (Kept w [(w.heap.size, fls c, 30), (w.heap.size + 1, #[.float .f32 h, .float .f32 v], 32), (w.heap.size + 1 + 1, fls fun _ => 0, 30), (w.heap.size + 1 + 1 + 1, #[.float .f32 0, .float .f32 0], 32)] ((((w.alloc (.cells (fls c) 30)).alloc (.cells #[.float .f32 h, .float .f32 v] 32)).alloc (.cells (fls fun _ => 0) 30)).alloc (.cells #[.float .f32 0, .float .f32 0] 32))) := by
    have := (((((Kept.nil w).push (fls c) 30).push #[.float .f32 h, .float .f32 v] 32).push (fls fun _ => 0) 30).push #[.float .f32 0, .float .f32 0] 32).sub (pickC _ _ _ _)
    simp only [World.size_alloc] at this
    exact hid this
  have HC := hid hC
  clear hC
  go_enter Tryz.func55, Tryz.ntmps55
  have tok1 : True := trivial
  go_wp2_with (first
    | (have _t := tok1; clear tok1; refine wpList_load_row (by rfl) 30 _ (by rfl) (w.heap.size) (by rfl) 30 (fls c) (0, 0) _ (k0.out.at (x := (w.heap.size, fls c, 30)) in0) Tryz.underlying30 (by rfl) (by rw [fls_size]; exact info_arr) ?_; have tok2 : True := trivial)
    | (have _t := tok2; clear tok2; refine wpList_load_row (by rfl) 32 _ (by rfl) (w.heap.size + 1) (by rfl) 32 (#[.float .f32 h, .float .f32 v]) (0, 0) _ (k0.out.at (x := (w.heap.size + 1, #[.float .f32 h, .float .f32 v], 32)) in1) Tryz.underlying32 (by rfl) (info_air) ?_))
  refine (HC.out _).mono ?_
  rintro e w1 ⟨rfl, hb1⟩
  have k0 := hid (k0.out.stay hb1)
  clear hb1
  have tok1 : True := trivial
  go_wp2_with (first
    | (have _t := tok1; clear tok1; refine store_rowE (by rfl) 30 _ _ (by rfl) (w.heap.size + 1 + 1) (fls R) (fls fun _ => 0) (by rfl) (by rfl) (k0.out.at (x := (w.heap.size + 1 + 1, fls fun _ => 0, 30)) in2) (by rw [fls_size]; exact info_arr) (by simp) (vls_one (n := 20) (f := flw (R)) (fun _ => rfl)) (fun w5 e5 => ?_); have kS := hid (e5 ▸ (k0.out.sub (pk3 _ _ _ _)).set (by omega) (neC (by omega) (neC (by omega) (neC (by omega) ne0))) (fls R)); clear e5 k0; have tok2 : True := trivial)
    | (have _t := tok2; clear tok2; refine store_rowE (by rfl) 32 _ _ (by rfl) (w.heap.size + 1 + 1 + 1) (#[.float .f32 H, .float .f32 V]) (#[.float .f32 0, .float .f32 0]) (by rfl) (by rfl) (kS.out.at (x := (w.heap.size + 1 + 1 + 1, #[.float .f32 0, .float .f32 0], 32)) in1) (info_air) (by simp) (two_one _ _) (fun w6 e6 => ?_); have kT := hid (e6 ▸ kS.out.swap.set (by omega) (neC (by omega) (neC (by omega) (neC (by omega) ne0))) (#[.float .f32 H, .float .f32 V])); clear e6 kS))
  have e1 : (loadVar 30 ⟨w.heap.size + 1 + 1, 0, none⟩).run Tryz.prog w6 = .ok (.agg (fls R)) w6 := run_loadVar_row _ (w.heap.size + 1 + 1) 30 30 (fls R) (0, 0) _ (kT.out.at (x := (w.heap.size + 1 + 1, fls R, 30)) in1) Tryz.underlying30 rfl (by rw [fls_size]; exact info_arr)
  have e2 : (loadVar 32 ⟨w.heap.size + 1 + 1 + 1, 0, none⟩).run Tryz.prog w6 = .ok (.agg #[.float .f32 H, .float .f32 V]) w6 := run_loadVar_row _ (w.heap.size + 1 + 1 + 1) 32 32 (#[.float .f32 H, .float .f32 V]) (0, 0) _ (kT.out.at (x := (w.heap.size + 1 + 1 + 1, #[.float .f32 H, .float .f32 V], 32)) in0) Tryz.underlying32 rfl (info_air)
  refine ⟨rfl, .tuple #[.agg (fls R), .agg #[.float .f32 H, .float .f32 V], .int .i64 n], ?_, rfl, kT.out.1⟩
  simp [results, Tryz.results55, asAddr, e1, e2, Sem.run_bind, Result.andThen_ok]

set_option maxRecDepth 100000 in
theorem sAirAt_f (h v : Nat) (hv : v < 4294967296) (hq : airB h v = false) (w : World) (g o : Nat) (c0 : w.cell? ⟨g, o, none⟩ = some (.float .f32 h)) (c1 : w.cell? ⟨g, o + 1, none⟩ = some (.float .f32 v)) :
    Calls Tryz.prog 48 #[.pointer (some ⟨g, o, none⟩)] w fun e w' => e = .returned (.bool false) ∧ Below w.heap.size w w' := by
  have Hv := hid hv
  have e1 : airB h v = (heatB h && amtB v && vapB v) := rfl
  rw [e1] at hq
  clear hv e1
  rcases a : heatB h with _ | _
  · have Ha := hid a
    clear a hq
    go_enter Tryz.func48, Tryz.ntmps48
    go_wp2_with fail
    refine (sHeat h false Ha.out _).mono ?_
    rintro e w1 ⟨rfl, rfl⟩
    go_wp2
    go_ret
    exact ⟨rfl, Below.refl _ _⟩
  · have Ha := hid a
    rw [a] at hq
    clear a
    rcases b : amtB v with _ | _
    · have Hb := hid b
      clear b hq
      go_enter Tryz.func48, Tryz.ntmps48
      go_wp2_with fail
      refine (sHeat h true Ha.out _).mono ?_
      rintro e w1 ⟨rfl, rfl⟩
      go_wp2_with fail
      refine (sAmount_f v Hv.out Hb.out _).mono ?_
      rintro e w1 ⟨rfl, hb1⟩
      go_wp2
      go_ret
      exact ⟨rfl, hb1⟩
    · have Hb := hid b
      rw [b] at hq
      simp only [Bool.true_and] at hq
      have hc : (FloatKind.f32.format.order v 1148846080 == some .lt || FloatKind.f32.format.order v 1148846080 == some .eq) = false := hq
      clear b hq
      go_enter Tryz.func48, Tryz.ntmps48
      go_wp2_with fail
      refine (sHeat h true Ha.out _).mono ?_
      rintro e w1 ⟨rfl, rfl⟩
      go_wp2_with fail
      refine (sAmount_t v Hb.out _).mono ?_
      rintro e w1 ⟨rfl, rfl⟩
      go_wp2
      go_ret
      exact ⟨rfl, Below.refl _ _⟩

set_option maxRecDepth 100000 in
theorem sAirAt_t (h v : Nat) (hq : airB h v = true) (w : World) (g o : Nat) (c0 : w.cell? ⟨g, o, none⟩ = some (.float .f32 h)) (c1 : w.cell? ⟨g, o + 1, none⟩ = some (.float .f32 v)) :
    Calls Tryz.prog 48 #[.pointer (some ⟨g, o, none⟩)] w fun e w' => e = .returned (.bool true) ∧ w = w' := by
  obtain ⟨a, b, c⟩ := airB_iff.1 hq
  have hc : (FloatKind.f32.format.order v 1148846080 == some .lt || FloatKind.f32.format.order v 1148846080 == some .eq) = true := c
  have Ha := hid a
  have Hb := hid b
  clear a b c hq
  go_enter Tryz.func48, Tryz.ntmps48
  go_wp2_with fail
  refine (sHeat h true Ha.out _).mono ?_
  rintro e w1 ⟨rfl, rfl⟩
  go_wp2_with fail
  refine (sAmount_t v Hb.out _).mono ?_
  rintro e w1 ⟨rfl, rfl⟩
  go_wp2
  go_ret
  exact ⟨rfl, rfl⟩

theorem sAirAt (h v : Nat) (hv : v < 4294967296) (q : Bool) (hq : airB h v = q) (w : World) (g o : Nat) (c0 : w.cell? ⟨g, o, none⟩ = some (.float .f32 h)) (c1 : w.cell? ⟨g, o + 1, none⟩ = some (.float .f32 v)) :
    Calls Tryz.prog 48 #[.pointer (some ⟨g, o, none⟩)] w fun e w' => e = .returned (.bool q) ∧ Below w.heap.size w w' := by
  cases q
  · exact sAirAt_f h v hv hq w g o c0 c1
  · exact loose (sAirAt_t h v hq w g o c0 c1)

set_option maxRecDepth 100000 in
theorem sOkAt_t (c : Nat → Nat) (h : Amts c) (w : World) (g o : Nat) (hg : ∀ k, k < 20 → w.cell? ⟨g, o + k, none⟩ = some (.float .f32 (c k))) :
    Calls Tryz.prog 47 #[.pointer (some ⟨g, o, none⟩)] w fun e w' => e = .returned (.bool true) ∧ w = w' := by
  have H := hid h
  have HG := hid hg
  clear h hg
  go_enter Tryz.func47, Tryz.ntmps47
  go_wp2
  go_loop [3] (fun i => ∃ k : Nat, k ≤ 20 ∧ i = .int .i64 k) (fun i => 20 - (intOf i).toNat)
  case atStart => exact ⟨0, by omega, rfl⟩
  case round =>
    obtain ⟨k, hk, rfl⟩ := hrel
    by_cases hlt : k < 20
    · have hcell := HG.out k hlt
      go_wp2_with (go_at_call 49; refine (sAmount_t (c k) (H.out k hlt) _).mono ?_; rintro e w' ⟨rfl, rfl⟩)
      go_round
      case rel => exact ⟨k + 1, by omega, by go_num⟩
      case measure => simp [intOf]; omega
    · go_wp2
      go_ret
      exact ⟨rfl, rfl⟩

set_option maxRecDepth 100000 in
theorem sOkAt_f (c : Nat → Nat) (hb : ∀ i, i < 20 → c i < 4294967296) (h : ¬ Amts c) (w : World) (g o : Nat) (hg : ∀ k, k < 20 → w.cell? ⟨g, o + k, none⟩ = some (.float .f32 (c k))) :
    Calls Tryz.prog 47 #[.pointer (some ⟨g, o, none⟩)] w fun e w' => e = .returned (.bool false) ∧ Below w.heap.size w w' := by
  have H := hid h
  have HB := hid hb
  have HG := hid hg
  clear h hb hg
  go_enter Tryz.func47, Tryz.ntmps47
  go_wp2
  go_loop [3] (fun i => ∃ k : Nat, k ≤ 20 ∧ Hid (∀ i, i < k → amtB (c i) = true) ∧ i = .int .i64 k) (fun i => 20 - (intOf i).toNat)
  case atStart => exact ⟨0, by omega, hid (fun i hi => by omega), rfl⟩
  case round =>
    obtain ⟨k, hk, HK, rfl⟩ := hrel
    by_cases hlt : k < 20
    · have hcell := HG.out k hlt
      rcases hac : amtB (c k) with _ | _
      · have HA := hid hac
        clear hac
        go_wp2_with (go_at_call 49; refine (sAmount_f (c k) (HB.out k hlt) HA.out _).mono ?_; rintro e w' ⟨rfl, hb⟩)
        go_ret
        exact ⟨rfl, hb⟩
      · have HA := hid hac
        clear hac
        go_wp2_with (go_at_call 49; refine (sAmount_t (c k) HA.out _).mono ?_; rintro e w' ⟨rfl, rfl⟩)
        go_round
        case rel =>
          refine ⟨k + 1, by omega, hid (fun i hi => ?_), by go_num⟩
          by_cases e : i = k
          · subst e; exact HA.out
          · exact HK.out i (by omega)
        case measure => simp [intOf]; omega
    · have hk20 : k = 20 := by omega
      exact (H.out (fun i hi => HK.out i (by omega))).elim

set_option maxHeartbeats 1000000 in
set_option maxRecDepth 100000 in
theorem sColOk (c : Nat → Nat) (t : Int) (hb : ∀ i, i < 177 → c i < 4294967296) (q : Bool) (hq : q = true ↔ ColOk c t) (w : World) (g : Nat) (T : TypeId) (hg : vAt w g 178 (clw c t) T) :
    Calls Tryz.prog 21 #[.pointer (some ⟨g, 0, none⟩)] w fun e w' => e = .returned (.bool q) ∧ Below w.heap.size w w' := by
  have HB := hid hb
  have HQ := hid hq
  have HG := hid hg
  clear hb hq hg
  go_enter Tryz.func21, Tryz.ntmps21
  go_wp2_with fail
  go_loopw [3] (fun i wr => ∃ k : Nat, k ≤ 8 ∧ i = .int .i64 k ∧ Hid (UpOk c k) ∧ Hid (vAt wr g 178 (clw c t) T) ∧ Hid (Below w.heap.size w wr)) (fun i _ => 8 - (intOf i).toNat)
  case atStart => exact ⟨0, by omega, rfl, hid (.zero c), HG, hid (Below.refl _ _)⟩
  case round =>
    obtain ⟨k, hk, rfl, HK, h0, hb⟩ := hrel
    by_cases hlt : k < 8
    · have HL := hid hlt
      have hk3 : (k : Int) < 8 := by omega
      by_cases hv : Amts (rowK c k)
      · have HV := hid hv
        clear hv
        go_wp2_with fail
        refine (sOkAt_t (rowK c k) HV.out _ g (k * 20) (h0.out.cd HL.out)).mono ?_
        rintro e w1 ⟨rfl, rfl⟩
        rcases ha : airB (heC c k) (vaC c k) with _ | _
        · have hn := no_air hlt ha HQ.out
          subst hn
          have HA := hid ha
          clear ha
          go_wp2_with fail
          refine (sAirAt (heC c k) (vaC c k) (HB.out _ (by have := HL.out; omega)) false HA.out _ g (160 + k * 2) (h0.out.ch HL.out) (h0.out.cv HL.out)).mono ?_
          rintro e w1 ⟨rfl, hb1⟩
          go_wp2
          go_ret
          exact ⟨rfl, stp hb.out (Nat.le_refl _) hb1⟩
        · have HA := hid ha
          clear ha
          go_wp2_with fail
          refine (sAirAt_t (heC c k) (vaC c k) HA.out _ g (160 + k * 2) (h0.out.ch HL.out) (h0.out.cv HL.out)).mono ?_
          rintro e w1 ⟨rfl, rfl⟩
          go_wp2
          go_roundw
          case rel => exact ⟨k + 1, by omega, by go_num, hid (HK.out.step HV.out HA.out), h0, hb⟩
          case measure => simp [intOf]; omega
      · have hn := no_sz hlt hv HQ.out
        subst hn
        have HV := hid hv
        clear hv
        go_wp2_with fail
        refine (sOkAt_f (rowK c k) (fun i hi => HB.out _ (by have := HL.out; omega)) HV.out _ g (k * 20) (h0.out.cd HL.out)).mono ?_
        rintro e w1 ⟨rfl, hb1⟩
        go_wp2
        go_ret
        exact ⟨rfl, stp hb.out (Nat.le_refl _) hb1⟩
    · obtain rfl : k = 8 := by omega
      have q0 := h0.out.cf (i := 176) (by omega)
      have q1 := h0.out.ct
      rcases ha : amtB (c 176) with _ | _
      · have hn := no_gauge ha HQ.out
        subst hn
        have HA := hid ha
        clear ha
        go_wp2_with fail
        refine (sAmount_f (c 176) (HB.out _ (by omega)) HA.out _).mono ?_
        rintro e w1 ⟨rfl, hb1⟩
        go_wp2
        go_ret
        exact ⟨rfl, stp hb.out (Nat.le_refl _) hb1⟩
      · have hi := is_col HK.out ha HQ.out
        have HI := hid hi
        have HA := hid ha
        clear ha hi
        go_wp2_with fail
        refine (sAmount_t (c 176) HA.out _).mono ?_
        rintro e w1 ⟨rfl, rfl⟩
        go_wp2_with fail
        cases q
        · refine (l00In_f t 0 1000000000 (fun x => by cases HI.out.1 x) _).mono ?_
          rintro e w1 ⟨rfl, rfl⟩
          go_wp2
          go_ret
          exact ⟨rfl, hb.out⟩
        · refine (l00In_t t 0 1000000000 (HI.out.2 rfl).1 (HI.out.2 rfl).2 _).mono ?_
          rintro e w1 ⟨rfl, rfl⟩
          go_wp2
          go_ret
          exact ⟨rfl, hb.out⟩

theorem info_col : (Tryz.prog.info? 35).map (·.size) = some 178 := by kernel_rfl

set_option maxHeartbeats 1000000 in
set_option maxRecDepth 100000 in
theorem iValidColumn (c : Nat → Nat) (t : Int) (hb : ∀ i, i < 177 → c i < 4294967296) (q : Bool) (hq : q = true ↔ ColOk c t) (w : World) :
    Calls Tryz.prog 33 #[.agg (vls 178 (clw c t))] w fun e w' => e = .returned (.bool q) ∧ Below w.heap.size w w' := by
  have HB := hid hb
  have HQ := hid hq
  have A0 := hid (vAt.new w 178 (clw c t) 35)
  have b0 := boxed w (.cells (vls 178 (clw c t)) 35)
  clear hb hq
  go_enter Tryz.func33, Tryz.ntmps33
  go_wp2_with fail
  go_loopw [4] (fun i wr => ∃ k : Nat, k ≤ 8 ∧ i = .int .i64 k ∧ Hid (UpOk c k) ∧ Hid (vAt wr w.heap.size 178 (clw c t) 35) ∧ Hid (Below w.heap.size w wr)) (fun i _ => 8 - (intOf i).toNat)
  case atStart => exact ⟨0, by omega, rfl, hid (.zero c), A0, hid b0⟩
  case round =>
    clear A0 b0
    obtain ⟨k, hk, rfl, HK, h0, hb⟩ := hrel
    by_cases hlt : k < 8
    · have HL := hid hlt
      have hk3 : (k : Int) < 8 := by omega
      by_cases hv : Amts (rowK c k)
      · have HV := hid hv
        clear hv
        go_wp2_with (refine wpList_load_as (by rfl) 30 _ (by rfl) (w.heap.size) (k * 20) (by rfl) 178 (clw c t) 35 h0.out 20 (by omega) (fls (rowK c k)) (dr_is c t k HL.out) _ Tryz.underlying30 (by rfl) info_arr ?_)
        refine (validSizes_t (rowK c k) HV.out _).mono ?_
        rintro e w1 ⟨rfl, hb1⟩
        have h0 := hid (h0.out.stay hb1)
        have hb := hid (stp hb.out (Nat.le_refl _) hb1)
        rcases ha : airB (heC c k) (vaC c k) with _ | _
        · have hn := no_air hlt ha HQ.out
          subst hn
          have HA := hid ha
          clear ha
          go_wp2_with (refine wpList_load_as (by rfl) 32 _ (by rfl) (w.heap.size) (160 + k * 2) (by rfl) 178 (clw c t) 35 h0.out 2 (by omega) #[.float .f32 (heC c k), .float .f32 (vaC c k)] (part_air c t HL.out) _ Tryz.underlying32 (by rfl) info_air ?_)
          refine (iValidAir (heC c k) (vaC c k) (HB.out _ (by have := HL.out; omega)) false HA.out _).mono ?_
          rintro e w2 ⟨rfl, hb2⟩
          go_wp2
          go_ret
          exact ⟨rfl, stp hb.out (Nat.le_refl _) hb2⟩
        · have HA := hid ha
          clear ha
          go_wp2_with (refine wpList_load_as (by rfl) 32 _ (by rfl) (w.heap.size) (160 + k * 2) (by rfl) 178 (clw c t) 35 h0.out 2 (by omega) #[.float .f32 (heC c k), .float .f32 (vaC c k)] (part_air c t HL.out) _ Tryz.underlying32 (by rfl) info_air ?_)
          refine (iValidAir (heC c k) (vaC c k) (HB.out _ (by have := HL.out; omega)) true HA.out _).mono ?_
          rintro e w2 ⟨rfl, hb2⟩
          have h0 := hid (h0.out.stay hb2)
          have hb := hid (stp hb.out (Nat.le_refl _) hb2)
          go_wp2
          go_roundw
          case rel => exact ⟨k + 1, by omega, by go_num, hid (HK.out.step HV.out HA.out), h0, hb⟩
          case measure => simp [intOf]; omega
      · have hn := no_sz hlt hv HQ.out
        subst hn
        have HV := hid hv
        clear hv
        go_wp2_with (refine wpList_load_as (by rfl) 30 _ (by rfl) (w.heap.size) (k * 20) (by rfl) 178 (clw c t) 35 h0.out 20 (by omega) (fls (rowK c k)) (dr_is c t k HL.out) _ Tryz.underlying30 (by rfl) info_arr ?_)
        refine (validSizes_f (rowK c k) (fun i hi => HB.out _ (by have := HL.out; omega)) HV.out _).mono ?_
        rintro e w1 ⟨rfl, hb1⟩
        go_wp2
        go_ret
        exact ⟨rfl, stp hb.out (Nat.le_refl _) hb1⟩
    · obtain rfl : k = 8 := by omega
      have q0 := h0.out.cf (i := 176) (by omega)
      have q1 := h0.out.ct
      rcases ha : amtB (c 176) with _ | _
      · have hn := no_gauge ha HQ.out
        subst hn
        have HA := hid ha
        clear ha
        go_wp2_with fail
        refine (isAmount_f (c 176) (HB.out _ (by omega)) HA.out _).mono ?_
        rintro e w1 ⟨rfl, hb1⟩
        go_wp2
        go_ret
        exact ⟨rfl, stp hb.out (Nat.le_refl _) hb1⟩
      · have hi := is_col HK.out ha HQ.out
        have HI := hid hi
        have HA := hid ha
        clear ha hi
        go_wp2_with fail
        refine (isAmount_t (c 176) HA.out _).mono ?_
        rintro e w1 ⟨rfl, rfl⟩
        by_cases h1 : 0 ≤ t
        · by_cases h2 : t ≤ 1000000000
          · have hqt : q = true := HI.out.1 ⟨h1, h2⟩
            subst hqt
            go_wp2_with fail
            go_ret
            exact ⟨by simp, hb.out⟩
          · have hqt : q = false := by rw [← Bool.not_eq_true]; exact fun x => h2 (HI.out.2 x).2
            subst hqt
            go_wp2_with fail
            go_ret
            exact ⟨by simp [h2], hb.out⟩
        · have hqt : q = false := by rw [← Bool.not_eq_true]; exact fun x => h1 (HI.out.2 x).1
          subst hqt
          go_wp2_with fail
          go_ret
          exact ⟨by simp, hb.out⟩

theorem info_ld : (Tryz.prog.info? 24).map (·.size) = some 160 := by kernel_rfl

theorem info_la : (Tryz.prog.info? 27).map (·.size) = some 16 := by kernel_rfl

theorem info_sz8 : (Tryz.prog.info? 31).map (·.size) = some 160 := by kernel_rfl

theorem info_air8 : (Tryz.prog.info? 33).map (·.size) = some 16 := by kernel_rfl

theorem info_lcol : (Tryz.prog.info? 29).map (·.size) = some 178 := by kernel_rfl

@[go_sem] theorem zero_sz8 : Tryz.zeroCells31 = vls 160 (flw fun _ => 0) := by kernel_rfl

@[go_sem] theorem zeros16 : (#[.float .f32 0, .float .f32 0, .float .f32 0, .float .f32 0, .float .f32 0, .float .f32 0, .float .f32 0, .float .f32 0, .float .f32 0, .float .f32 0, .float .f32 0, .float .f32 0, .float .f32 0, .float .f32 0, .float .f32 0, .float .f32 0] : Array Value) = vls 16 (flw fun _ => 0) := rfl

@[go_sem] theorem zero_col : Tryz.zeroCells35 = vls 178 (clw (fun _ => 0) 0) := by kernel_rfl

set_option maxRecDepth 100000 in
theorem toSizesA8 (c : Nat → Nat) (w : World) :
    Calls Tryz.prog 23 #[.agg (vls 160 (flw c))] w fun e w' => e = .returned (.agg (vls 160 (flw c))) ∧ Below w.heap.size w w' := by
  have A0 := hid (((vAt.new w 160 (flw c) 24).alloc (.cells (vls 160 (flw fun _ => 0)) 31)).alloc (.cells (vls 160 (flw fun _ => 0)) 31))
  have A1 := hid ((vAt.new1 w (.cells (vls 160 (flw c)) 24) 160 (flw fun _ => 0) 31).alloc (.cells (vls 160 (flw fun _ => 0)) 31))
  have A2 := hid (vAt.new2 w (.cells (vls 160 (flw c)) 24) (.cells (vls 160 (flw fun _ => 0)) 31) 160 (flw fun _ => 0) 31)
  have b0 := boxed3 w (.cells (vls 160 (flw c)) 24) (.cells (vls 160 (flw fun _ => 0)) 31) (.cells (vls 160 (flw fun _ => 0)) 31)
  go_enter Tryz.func23, Tryz.ntmps23
  go_wp2_with fail
  go_loopw [4] (fun i wr => ∃ k : Nat, k ≤ 8 ∧ i = .int .i64 k ∧ Hid (vAt wr w.heap.size 160 (flw c) 24) ∧ Hid (vAt wr (w.heap.size + 1) 160 (flw fun _ => 0) 31) ∧ Hid (vAt wr (w.heap.size + 1 + 1) 160 (flw (rowsP c (fun _ => 0) k)) 31) ∧ Hid (Below w.heap.size w wr)) (fun i _ => 8 - (intOf i).toNat)
  case atStart => exact ⟨0, by omega, rfl, A0, A1, hid (A2.out.ext fun i _ => by unfold flw; rw [rowsP_zero]), hid b0⟩
  case round =>
    obtain ⟨k, hk, rfl, h0, h1, h2, hb⟩ := hrel
    by_cases hlt : k < 8
    · go_wp2_with (refine wpList_load_as (by rfl) 23 _ (by rfl) w.heap.size (k * 20) (by rfl) 160 (flw c) 24 h0.out 20 (by omega) (fls (rowK c k)) (row_isN c k) _ Tryz.underlying23 (by rfl) info_a20 ?_)
      refine (toSizes (rowK c k) _).mono ?_
      rintro e w1 ⟨rfl, hb1⟩
      have g0 := hid (h0.out.stay hb1)
      have g1 := hid (h1.out.stay hb1)
      have g2 := hid (h2.out.stay hb1)
      have c1 := stp hb.out (Nat.le_refl _) hb1
      have n0 := hid (g0.out.setPartOther (k := w.heap.size + 1 + 1) (by omega) (k * 20) (fls (rowK c k)).toList)
      have n1 := hid (g1.out.setPartOther (k := w.heap.size + 1 + 1) (by omega) (k * 20) (fls (rowK c k)).toList)
      have n2 := hid g2.out.setRowN
      have nb := below_cells (g := w.heap.size + 1 + 1) (by omega) (fls (rowK c k)).toList (k * 20) c1
      clear h0 h1 h2 hb
      go_wp2_with (refine wpList_store_as (by rfl) 30 _ _ (by rfl) (w.heap.size + 1 + 1) (k * 20) (fls (rowK c k)) (by rfl) (by rfl) 160 (flw (rowsP c (fun _ => 0) k)) 31 g2.out 20 (fls_size _) (by omega) info_arr (fls_one _) ?_; intro w9 hw9; rw [← hw9] at n0 n1 n2 nb; clear hw9 g0 g1 g2)
      go_roundw
      case rel => exact ⟨k + 1, by omega, by go_num, n0, n1, n2, hid nb⟩
      case measure => simp [intOf]; omega
    · obtain rfl : k = 8 := by omega
      have h2' := hid (h2.out.ext (d := flw c) fun i hi => by unfold flw; rw [rowsP_all8 _ _ i hi])
      clear h2
      go_wp2_with (first | (refine wpList_load_row rfl 31 _ rfl (w.heap.size + 1 + 1) rfl 31 (vls 160 (flw c)) (0, 0) _ h2'.out Tryz.underlying31 rfl (by rw [vls_size]; exact info_sz8) ?_) | (refine wpList_store_row rfl 31 _ _ rfl (w.heap.size + 1) (vls 160 (flw c)) rfl rfl 31 _ h1.out (by rw [vls_size]; exact info_sz8) (by simp) (vls_one (flw_one c)) ?_))
      exact bodyPost_ret (results_cell_row rfl _ _ (w.heap.size + 1) 31 (vls 160 (flw c)) (0, 0) _ rfl (h1.out.setRow (flw c)) Tryz.underlying31 rfl (by rw [vls_size]; exact info_sz8)) rfl ⟨rfl, below_row hb.out (by omega) _⟩

set_option maxRecDepth 100000 in
theorem toAirA8 (c : Nat → Nat) (w : World) :
    Calls Tryz.prog 24 #[.agg (vls 16 (flw c))] w fun e w' => e = .returned (.agg (vls 16 (flw c))) ∧ Below w.heap.size w w' := by
  have A0 := hid (((vAt.new w 16 (flw c) 27).alloc (.cells (vls 16 (flw fun _ => 0)) 33)).alloc (.cells (vls 16 (flw fun _ => 0)) 33))
  have A1 := hid ((vAt.new1 w (.cells (vls 16 (flw c)) 27) 16 (flw fun _ => 0) 33).alloc (.cells (vls 16 (flw fun _ => 0)) 33))
  have A2 := hid (vAt.new2 w (.cells (vls 16 (flw c)) 27) (.cells (vls 16 (flw fun _ => 0)) 33) 16 (flw fun _ => 0) 33)
  have b0 := boxed3 w (.cells (vls 16 (flw c)) 27) (.cells (vls 16 (flw fun _ => 0)) 33) (.cells (vls 16 (flw fun _ => 0)) 33)
  go_enter Tryz.func24, Tryz.ntmps24
  go_wp2_with fail
  go_loopw [4] (fun i wr => ∃ k : Nat, k ≤ 8 ∧ i = .int .i64 k ∧ Hid (vAt wr w.heap.size 16 (flw c) 27) ∧ Hid (vAt wr (w.heap.size + 1) 16 (flw fun _ => 0) 33) ∧ Hid (vAt wr (w.heap.size + 1 + 1) 16 (flw (twosP c (fun _ => 0) k)) 33) ∧ Hid (Below w.heap.size w wr)) (fun i _ => 8 - (intOf i).toNat)
  case atStart => exact ⟨0, by omega, rfl, A0, A1, hid (A2.out.ext fun i _ => by unfold flw; rw [twosP_zero]), hid b0⟩
  case round =>
    obtain ⟨k, hk, rfl, h0, h1, h2, hb⟩ := hrel
    by_cases hlt : k < 8
    · go_wp2_with (refine wpList_load_as (by rfl) 26 _ (by rfl) w.heap.size (k * 2) (by rfl) 16 (flw c) 27 h0.out 2 (by omega) #[.float .f32 (c (k * 2)), .float .f32 (c (k * 2 + 1))] (two_is c k) _ Tryz.underlying26 (by rfl) info_lair ?_)
      refine (toAir (c (k * 2)) (c (k * 2 + 1)) _).mono ?_
      rintro e w1 ⟨rfl, hb1⟩
      have g0 := hid (h0.out.stay hb1)
      have g1 := hid (h1.out.stay hb1)
      have g2 := hid (h2.out.stay hb1)
      have c1 := stp hb.out (Nat.le_refl _) hb1
      have n0 := hid (g0.out.setPartOther (k := w.heap.size + 1 + 1) (by omega) (k * 2) (#[.float .f32 (c (k * 2)), .float .f32 (c (k * 2 + 1))] : Array Value).toList)
      have n1 := hid (g1.out.setPartOther (k := w.heap.size + 1 + 1) (by omega) (k * 2) (#[.float .f32 (c (k * 2)), .float .f32 (c (k * 2 + 1))] : Array Value).toList)
      have n2 := hid (show vAt (w1.setCells (w.heap.size + 1 + 1) (k * 2) (#[.float .f32 (c (k * 2)), .float .f32 (c (k * 2 + 1))] : Array Value).toList) (w.heap.size + 1 + 1) 16 (flw (twosP c (fun _ => 0) (k + 1))) 33 from g2.out.setTwo)
      have nb := below_cells (g := w.heap.size + 1 + 1) (by omega) (#[.float .f32 (c (k * 2)), .float .f32 (c (k * 2 + 1))] : Array Value).toList (k * 2) c1
      clear h0 h1 h2 hb
      go_wp2_with (refine wpList_store_as (by rfl) 32 _ _ (by rfl) (w.heap.size + 1 + 1) (k * 2) #[.float .f32 (c (k * 2)), .float .f32 (c (k * 2 + 1))] (by rfl) (by rfl) 16 (flw (twosP c (fun _ => 0) k)) 33 g2.out 2 rfl (by omega) info_air (two_one _ _) ?_; intro w9 hw9; rw [← hw9] at n0 n1 n2 nb; clear hw9 g0 g1 g2)
      go_roundw
      case rel => exact ⟨k + 1, by omega, by go_num, n0, n1, n2, hid nb⟩
      case measure => simp [intOf]; omega
    · obtain rfl : k = 8 := by omega
      have h2' := hid (h2.out.ext (d := flw c) fun i hi => by unfold flw; rw [twosP_all8 _ _ i hi])
      clear h2
      go_wp2_with (first | (refine wpList_load_row rfl 33 _ rfl (w.heap.size + 1 + 1) rfl 33 (vls 16 (flw c)) (0, 0) _ h2'.out Tryz.underlying33 rfl (by rw [vls_size]; exact info_air8) ?_) | (refine wpList_store_row rfl 33 _ _ rfl (w.heap.size + 1) (vls 16 (flw c)) rfl rfl 33 _ h1.out (by rw [vls_size]; exact info_air8) (by simp) (vls_one (flw_one c)) ?_))
      exact bodyPost_ret (results_cell_row rfl _ _ (w.heap.size + 1) 33 (vls 16 (flw c)) (0, 0) _ rfl (h1.out.setRow (flw c)) Tryz.underlying33 rfl (by rw [vls_size]; exact info_air8)) rfl ⟨rfl, below_row hb.out (by omega) _⟩

set_option maxRecDepth 100000 in
theorem eqSizesA8 (c : Nat → Nat) (hb : ∀ i, i < 160 → c i < 4294967296) (h : ∀ i, i < 160 → finB (c i) = true) (w : World) :
    Calls Tryz.prog 28 #[.agg (vls 160 (flw c)), .agg (vls 160 (flw c))] w fun e w' => e = .returned (.bool true) ∧ Below w.heap.size w w' := by
  have A0 := hid ((vAt.new w 160 (flw c) 31).alloc (.cells (vls 160 (flw c)) 31))
  have A1 := hid (vAt.new1 w (.cells (vls 160 (flw c)) 31) 160 (flw c) 31)
  have b0 := boxed2 w (.cells (vls 160 (flw c)) 31) (.cells (vls 160 (flw c)) 31)
  have H := hid h
  have HB := hid hb
  clear h hb
  go_enter Tryz.func28, Tryz.ntmps28
  go_wp2_with fail
  go_loopw [5] (fun i wr => ∃ k : Nat, k ≤ 8 ∧ i = .int .i64 k ∧ Hid (vAt wr w.heap.size 160 (flw c) 31) ∧ Hid (vAt wr (w.heap.size + 1) 160 (flw c) 31) ∧ Hid (Below w.heap.size w wr)) (fun i _ => 8 - (intOf i).toNat)
  case atStart => exact ⟨0, by omega, rfl, A0, A1, hid b0⟩
  case round =>
    obtain ⟨k, hk, rfl, h0, h1, hb⟩ := hrel
    by_cases hlt : k < 8
    · have hk3 : (k : Int) < 8 := by omega
      go_wp2_with fail
      have h0 := hid h0.out.drew
      have h1 := hid h1.out.drew
      have hb := hid hb.out.drew
      refine wp_region_still_tail 6 (by kernel_rfl) (by kernel_rfl) ?_
      change wpStill _ _ wr.drew (fun a' => wpList _ _ _ _ a' wr.drew) _ _
      simp only [List.take_succ_cons, List.take_zero, List.drop_succ_cons, List.drop_zero]
      generalize wr.drew = w2 at h0 h1 hb ⊢
      still_step
      still_step
      refine still_load rfl 30 _ rfl _ rfl _ (h0.out.partAt (k * 20) 20 (by omega) (fls (rowK c k)) (row_isN c k) Tryz.underlying30 (by rfl) info_arr) ?_
      simp only [Act.put, List.setIfInBounds_toArray, List.set_cons_zero, List.set_cons_succ]
      still_step
      still_step
      refine still_load rfl 30 _ rfl _ rfl _ (h1.out.partAt (k * 20) 20 (by omega) (fls (rowK c k)) (row_isN c k) Tryz.underlying30 (by rfl) info_arr) ?_
      refine wpStill_nil ?_
      go_wp2_with fail
      refine (eqSizes (rowK c k) (fun i hi => HB.out _ (by omega)) (fun i hi => H.out _ (by omega)) _).mono ?_
      rintro e w3 ⟨rfl, hb3⟩
      have h0 := hid (h0.out.stay hb3)
      have h1 := hid (h1.out.stay hb3)
      have hb := stp hb.out (Nat.le_refl _) hb3
      go_wp2
      go_roundw
      case rel => exact ⟨k + 1, by omega, by go_num, h0, h1, hid hb⟩
      case measure => simp [intOf]; omega
    · go_wp2
      go_ret
      exact ⟨rfl, hb.out⟩

set_option maxRecDepth 100000 in
theorem eqAirA8 (c : Nat → Nat) (hb : ∀ i, i < 16 → c i < 4294967296) (h : ∀ i, i < 16 → finB (c i) = true) (w : World) :
    Calls Tryz.prog 29 #[.agg (vls 16 (flw c)), .agg (vls 16 (flw c))] w fun e w' => e = .returned (.bool true) ∧ Below w.heap.size w w' := by
  have A0 := hid ((vAt.new w 16 (flw c) 33).alloc (.cells (vls 16 (flw c)) 33))
  have A1 := hid (vAt.new1 w (.cells (vls 16 (flw c)) 33) 16 (flw c) 33)
  have b0 := boxed2 w (.cells (vls 16 (flw c)) 33) (.cells (vls 16 (flw c)) 33)
  have H := hid h
  have HB := hid hb
  clear h hb
  go_enter Tryz.func29, Tryz.ntmps29
  go_wp2_with fail
  go_loopw [5] (fun i wr => ∃ k : Nat, k ≤ 8 ∧ i = .int .i64 k ∧ Hid (vAt wr w.heap.size 16 (flw c) 33) ∧ Hid (vAt wr (w.heap.size + 1) 16 (flw c) 33) ∧ Hid (Below w.heap.size w wr)) (fun i _ => 8 - (intOf i).toNat)
  case atStart => exact ⟨0, by omega, rfl, A0, A1, hid b0⟩
  case round =>
    obtain ⟨k, hk, rfl, h0, h1, hb⟩ := hrel
    by_cases hlt : k < 8
    · have hk3 : (k : Int) < 8 := by omega
      go_wp2_with fail
      have h0 := hid h0.out.drew
      have h1 := hid h1.out.drew
      have hb := hid hb.out.drew
      refine wp_region_still_tail 6 (by kernel_rfl) (by kernel_rfl) ?_
      change wpStill _ _ wr.drew (fun a' => wpList _ _ _ _ a' wr.drew) _ _
      simp only [List.take_succ_cons, List.take_zero, List.drop_succ_cons, List.drop_zero]
      generalize wr.drew = w2 at h0 h1 hb ⊢
      still_step
      still_step
      refine still_load rfl 32 _ rfl _ rfl _ (h0.out.partAt (k * 2) 2 (by omega) #[.float .f32 (c (k * 2)), .float .f32 (c (k * 2 + 1))] (two_is c k) Tryz.underlying32 (by rfl) info_air) ?_
      simp only [Act.put, List.setIfInBounds_toArray, List.set_cons_zero, List.set_cons_succ]
      still_step
      still_step
      refine still_load rfl 32 _ rfl _ rfl _ (h1.out.partAt (k * 2) 2 (by omega) #[.float .f32 (c (k * 2)), .float .f32 (c (k * 2 + 1))] (two_is c k) Tryz.underlying32 (by rfl) info_air) ?_
      refine wpStill_nil ?_
      go_wp2_with fail
      refine (eqAir (c (k * 2)) (c (k * 2 + 1)) (HB.out _ (by omega)) (HB.out _ (by omega)) (H.out _ (by omega)) (H.out _ (by omega)) _).mono ?_
      rintro e w3 ⟨rfl, hb3⟩
      have h0 := hid (h0.out.stay hb3)
      have h1 := hid (h1.out.stay hb3)
      have hb := stp hb.out (Nat.le_refl _) hb3
      go_wp2
      go_roundw
      case rel => exact ⟨k + 1, by omega, by go_num, h0, h1, hid hb⟩
      case measure => simp [intOf]; omega
    · go_wp2
      go_ret
      exact ⟨rfl, hb.out⟩

theorem info_f32c : (Tryz.prog.info? 22).map (·.size) = some 1 := by kernel_rfl

theorem info_i64c : (Tryz.prog.info? 2).map (·.size) = some 1 := by kernel_rfl

/-- A column with the droplets of one, the airs of one. -/
theorem col_parts (c : Nat → Nat) (t : Int) (i : Nat) (hi : i < 178) : updV (updV (updR (updR (clw (fun _ => 0) 0) 0 160 (flw c)) 160 16 (flw (airsC c))) 176 (.float .f32 (c 176))) 177 (.int .i64 t) i = clw c t i := by
  unfold updV updR clw flw airsC
  by_cases h1 : i = 177
  · simp [h1]
  · by_cases h2 : i = 176
    · simp [h2]
    · by_cases h3 : 160 ≤ i
      · rw [if_neg h1, if_neg h2, if_pos (by omega), if_neg h1, show 160 + (i - 160) = i by omega]
      · rw [if_neg h1, if_neg h2, if_neg (by omega), if_pos (by omega), if_neg h1]; rfl

set_option maxHeartbeats 1000000 in
set_option maxRecDepth 100000 in
theorem toColumn (c : Nat → Nat) (t : Int) (w : World) :
    Calls Tryz.prog 8 #[.agg (vls 178 (clw c t))] w fun e w' => e = .returned (.agg (vls 178 (clw c t))) ∧ Below w.heap.size w w' := by
  have k0 : Hid (Kept w [(w.heap.size + 1 + 1, vls 178 (clw (fun _ => 0) 0), 35), (w.heap.size + 1, vls 178 (clw (fun _ => 0) 0), 35), (w.heap.size, vls 178 (clw c t), 29)] (((w.alloc (.cells (vls 178 (clw c t)) 29)).alloc (.cells (vls 178 (clw (fun _ => 0) 0)) 35)).alloc (.cells (vls 178 (clw (fun _ => 0) 0)) 35))) := hid (((((Kept.nil w).push _ _).push _ _).push _ _).sub (by simp))
  go_enter Tryz.func8, Tryz.ntmps8
  go_wp2_with (refine load_cut (by rfl) 24 _ (by rfl) (w.heap.size) 0 160 (by rfl) (k0.out.v in2) (by omega) (vls 160 (flw c)) (drops_is c t) _ Tryz.underlying24 (by rfl) info_ld ?_)
  refine (toSizesA8 c _).mono ?_
  rintro e w1 ⟨rfl, hb1⟩
  have k1 := hid (k0.out.stay hb1)
  clear k0 hb1
  have tok1 : True := trivial
  go_wp2_with (first | (have _t := tok1; refine store_cut (by rfl) 31 _ _ (by rfl) (w.heap.size + 1 + 1) 0 160 (flw c) (vls 160 (flw c)) (by rfl) (by rfl) rfl info_sz8 (flw_one c) k1.out (by omega) (by omega) (neC (by omega) (neC (by omega) ne0)) ?_; intro w2 k2; replace k2 := hid k2; clear k1 tok1) | (refine load_cut (by rfl) 27 _ (by rfl) (w.heap.size) 160 16 (by rfl) (k2.out.v in2) (by omega) (vls 16 (flw (airsC c))) (airs_is c t) _ Tryz.underlying27 (by rfl) info_la ?_))
  refine (toAirA8 (airsC c) _).mono ?_
  rintro e w3 ⟨rfl, hb3⟩
  have k3 := hid (k2.out.stay hb3)
  clear k2 hb3
  have tok1 : True := trivial
  go_wp2_with (first
    | (have _t := k6; refine wpList_load_row rfl 35 _ rfl (w.heap.size + 1 + 1) rfl 35 (vls 178 (clw c t)) (0, 0) _ (k6.out.v in0) Tryz.underlying35 rfl (by rw [vls_size]; exact info_col) ?_)
    | (have _t := k6; refine wpList_store_row rfl 35 _ _ rfl (w.heap.size + 1) (vls 178 (clw c t)) rfl rfl 35 _ (k6.out.v in1) (by rw [vls_size]; exact info_col) (by simp) (vls_one (clw_one c t)) ?_)
    | (have _t := k5; refine load_one (by rfl) 2 _ (by rfl) (w.heap.size) 177 (by rfl) (k5.out.v in2) (by omega) (.int .i64 t) clw_t _ Tryz.underlying2 (by rfl) ?_)
    | (have _t := k5; refine store_one (by rfl) 2 _ _ (by rfl) info_i64c (w.heap.size + 1 + 1) 177 (.int .i64 t) (by rfl) (by rfl) rfl rfl k5.out (by omega) (by omega) (neC (by omega) (neC (by omega) ne0)) ?_; intro w6 k6; replace k6 := hid (k6.ext (col_parts c t)); clear k5)
    | (have _t := k4; refine load_one (by rfl) 22 _ (by rfl) (w.heap.size) 176 (by rfl) (k4.out.v in2) (by omega) (.float .f32 (c 176)) (clw_f (by omega)) _ Tryz.underlying22 (by rfl) ?_)
    | (have _t := k4; refine store_one (by rfl) 22 _ _ (by rfl) info_f32c (w.heap.size + 1 + 1) 176 (.float .f32 (c 176)) (by rfl) (by rfl) rfl rfl k4.out (by omega) (by omega) (neC (by omega) (neC (by omega) ne0)) ?_; intro w5 k5; replace k5 := hid k5; clear k4)
    | (have _t := tok1; refine store_cut (by rfl) 33 _ _ (by rfl) (w.heap.size + 1 + 1) 160 16 (flw (airsC c)) (vls 16 (flw (airsC c))) (by rfl) (by rfl) rfl info_air8 (flw_one _) k3.out (by omega) (by omega) (neC (by omega) (neC (by omega) ne0)) ?_; intro w4 k4; replace k4 := hid k4; clear k3 tok1))
  have k7 := Kept.v (B := w.heap.size + 1) (f := clw (fun _ => 0) 0) (T := 35) k6.out in1
  exact bodyPost_ret (results_cell_row rfl _ _ (w.heap.size + 1) 35 (vls 178 (clw c t)) (0, 0) _ rfl (k7.setRow (clw c t)) Tryz.underlying35 rfl (by rw [vls_size]; exact info_col)) rfl ⟨rfl, below_row k6.out.1 (by omega) _⟩

set_option maxHeartbeats 1000000 in
set_option maxRecDepth 100000 in
theorem eqColumn (c : Nat → Nat) (t : Int) (hb : ∀ i, i < 177 → c i < 4294967296) (h : ∀ i, i < 177 → finB (c i) = true) (w : World) :
    Calls Tryz.prog 10 #[.agg (vls 178 (clw c t)), .agg (vls 178 (clw c t))] w fun e w' => e = .returned (.bool true) ∧ Below w.heap.size w w' := by
  have k0 : Hid (Kept w [(w.heap.size + 1, vls 178 (clw c t), 35), (w.heap.size, vls 178 (clw c t), 35)] ((w.alloc (.cells (vls 178 (clw c t)) 35)).alloc (.cells (vls 178 (clw c t)) 35))) := hid ((((Kept.nil w).push _ _).push _ _).sub (by simp))
  have hc := fun w => run_conv_wid (P := Tryz.prog) w 22 65 (c 176) (hb 176 (by omega)) Tryz.underlying22 Tryz.underlying65 (finB_iff.1 (h 176 (by omega)))
  have H := hid h
  have HB := hid hb
  clear h hb
  go_enter Tryz.func10, Tryz.ntmps10
  go_wp2_with (first
    | (refine load_cut (by rfl) 31 _ (by rfl) (w.heap.size) 0 160 (by rfl) (k0.out.v in1) (by omega) (vls 160 (flw c)) (drops_is c t) _ Tryz.underlying31 (by rfl) info_sz8 ?_)
    | (refine load_cut (by rfl) 31 _ (by rfl) (w.heap.size + 1) 0 160 (by rfl) (k0.out.v in0) (by omega) (vls 160 (flw c)) (drops_is c t) _ Tryz.underlying31 (by rfl) info_sz8 ?_))
  refine (eqSizesA8 c (fun i hi => HB.out i (by omega)) (fun i hi => H.out i (by omega)) _).mono ?_
  rintro e w1 ⟨rfl, hb1⟩
  have k1 := hid (k0.out.stay hb1)
  clear k0 hb1
  go_wp2_with (first
    | (refine load_cut (by rfl) 33 _ (by rfl) (w.heap.size) 160 16 (by rfl) (k1.out.v in1) (by omega) (vls 16 (flw (airsC c))) (airs_is c t) _ Tryz.underlying33 (by rfl) info_air8 ?_)
    | (refine load_cut (by rfl) 33 _ (by rfl) (w.heap.size + 1) 160 16 (by rfl) (k1.out.v in0) (by omega) (vls 16 (flw (airsC c))) (airs_is c t) _ Tryz.underlying33 (by rfl) info_air8 ?_))
  refine (eqAirA8 (airsC c) (fun i hi => HB.out _ (by omega)) (fun i hi => H.out _ (by omega)) _).mono ?_
  rintro e w2 ⟨rfl, hb2⟩
  have k2 := hid (k1.out.stay hb2)
  clear k1 hb2
  go_wp2_with (first
    | (refine load_one (by rfl) 22 _ (by rfl) (w.heap.size) 176 (by rfl) (k2.out.v in1) (by omega) (.float .f32 (c 176)) (clw_f (by omega)) _ Tryz.underlying22 (by rfl) ?_)
    | (refine load_one (by rfl) 22 _ (by rfl) (w.heap.size + 1) 176 (by rfl) (k2.out.v in0) (by omega) (.float .f32 (c 176)) (clw_f (by omega)) _ Tryz.underlying22 (by rfl) ?_))
  refine (sameFloat (c 176) (HB.out _ (by omega)) (H.out _ (by omega)) _).mono ?_
  rintro e w3 ⟨rfl, rfl⟩
  go_wp2_with (first
    | (refine load_one (by rfl) 2 _ (by rfl) (w.heap.size) 177 (by rfl) (k2.out.v in1) (by omega) (.int .i64 t) clw_t _ Tryz.underlying2 (by rfl) ?_)
    | (refine load_one (by rfl) 2 _ (by rfl) (w.heap.size + 1) 177 (by rfl) (k2.out.v in0) (by omega) (.int .i64 t) clw_t _ Tryz.underlying2 (by rfl) ?_))
  go_ret
  exact ⟨rfl, k2.out.1⟩

theorem col_ok {c : Nat → Nat} {t : Int} (h : ColOk c t) : true = true ↔ ColOk c t := ⟨fun _ => h, fun _ => rfl⟩

theorem col_no {c : Nat → Nat} {t : Int} (h : ¬ ColOk c t) : false = true ↔ ColOk c t := ⟨fun x => (by cases x), fun x => absurd x h⟩

theorem new1c (w : World) (o : Obj) (c : Nat → Nat) (T : TypeId) : arrAt ((w.alloc o).alloc (.cells (fls c) T)) (w.heap.size + 1) c T := by
  have := arrAt.new (w.alloc o) c T
  have e : (w.alloc o).heap.size = w.heap.size + 1 := by simp
  rwa [e] at this

set_option maxRecDepth 100000 in
theorem iFallShares (w : World) :
    Calls Tryz.prog 56 #[] w fun e w' => e = .returned (.agg (fls shr)) ∧ Below w.heap.size w w' := by
  have b0 := boxed2 w (.cells (fls fun _ => 0) 23) (.cells (fls fun _ => 0) 23)
  have A0 := hid ((arrAt.new w (fun _ => 0) 23).alloc (.cells (fls fun _ => 0) 23))
  have A1 := hid (new1c w (.cells (fls fun _ => 0) 23) (fun _ => 0) 23)
  go_enter Tryz.func56, Tryz.ntmps56
  go_wp2_with fail
  go_loopw [5] (fun i wr => ∃ k : Nat, k ≤ 20 ∧ i = .int .i64 k ∧ Hid (arrAt wr w.heap.size (fun _ => 0) 23) ∧ Hid (arrAt wr (w.heap.size + 1) (cut shr k) 23) ∧ Hid (Below w.heap.size w wr)) (fun i _ => 20 - (intOf i).toNat)
  case atStart => exact ⟨0, by omega, rfl, A0, hid (A1.out.ext (fun i _ => (cut_zero' shr i).symm)), hid b0⟩
  case round =>
    clear A0 A1 b0
    obtain ⟨k, hk, rfl, h0, h1, hb⟩ := hrel
    by_cases hlt : k < 20
    · have HL := hid hlt
      have hk3 : (k : Int) < 20 := by omega
      obtain ⟨sa, sl, sg⟩ := sh_facts hlt
      obtain ⟨_, mr, _⟩ := tr_one hlt
      have r1 := fun w => run_mul (P := Tryz.prog) 22 (x := 1015021568) (y := rad k) (by decide) mr w
      have r2 := fun w ts t => run_min (P := Tryz.prog) (x := fmul 1015021568 (rad k)) (y := 1065353216) ts t sa (by decide) w
      have q1 := h1.out.cell hlt
      have f1 := h1.out.frozen k
      clear sa sl sg mr
      go_wp2_with fail
      refine (iRadius k HL.out _).mono ?_
      rintro e w1 ⟨rfl, rfl⟩
      have hsw : min (fmul 1015021568 (rad k)) 1065353216 = shr k := shr_is k
      go_wp2_with fail
      go_roundw
      case rel => exact ⟨k + 1, by omega, by go_num, hid (h0.out.setOther (by simp) _), hid ((h1.out.set k (shr k)).ext (fun i hi => cut_succ shr k i)), hid (hb.out.setCell (by simp) _)⟩
      case measure => simp [intOf]; omega
    · obtain rfl : k = 20 := by omega
      have h2' := hid (h1.out.ext (cut_all shr))
      clear h1
      go_wp2_with (first | (refine wpList_load_row rfl 23 _ rfl (w.heap.size + 1) rfl 23 (fls shr) (0, 0) _ h2'.out Tryz.underlying23 rfl (by rw [fls_size]; exact info_a20) ?_) | (refine wpList_store_row rfl 23 _ _ rfl (w.heap.size) (fls shr) rfl rfl 23 _ h0.out (by rw [fls_size]; exact info_a20) (by simp) (fls_one shr) ?_))
      exact bodyPost_ret (results_cell_row rfl _ _ (w.heap.size) 23 (fls shr) (0, 0) _ rfl (h0.out.setRow shr) Tryz.underlying23 rfl (by rw [fls_size]; exact info_a20)) rfl ⟨rfl, below_row hb.out (by omega) _⟩

set_option maxRecDepth 100000 in
theorem sShares (w : World) :
    Calls Tryz.prog 82 #[] w fun e w' => e = .returned (.agg (fls shr)) ∧ Below w.heap.size w w' := by
  have k0 : Hid (Kept w [(w.heap.size + 1, fls fun _ => 0, 23), (w.heap.size, fls fun _ => 0, 23)] ((w.alloc (.cells (fls fun _ => 0) 23)).alloc (.cells (fls fun _ => 0) 23))) := hid ((((Kept.nil w).push _ _).push _ _).sub (by simp))
  have tok1 : True := trivial
  go_enter Tryz.func82, Tryz.ntmps82
  go_wp2_with (have _t := tok1; refine store_row (by rfl) 23 _ _ (by rfl) (w.heap.size + 1) (fls fun _ => 0) (fls fun _ => 0) (by rfl) (by rfl) k0.out (by rw [fls_size]; exact info_a20) rfl (fls_one _) (by omega) (neC (by omega) ne0) ?_; intro w2 k2; replace k2 := hid k2; clear k0 tok1)
  have b0 := k2.out.1
  have A0 : Hid (arrAt w2 w.heap.size (fun _ => 0) 23) := hid (k2.out.at in1)
  have A1 : Hid (arrAt w2 (w.heap.size + 1) (fun _ => 0) 23) := hid (k2.out.at in0)
  clear k2
  go_loopw [2] (fun i wr => ∃ k : Nat, k ≤ 20 ∧ i = .int .i64 k ∧ Hid (arrAt wr w.heap.size (fun _ => 0) 23) ∧ Hid (arrAt wr (w.heap.size + 1) (cut shr k) 23) ∧ Hid (Below w.heap.size w wr)) (fun i _ => 20 - (intOf i).toNat)
  case atStart => exact ⟨0, by omega, rfl, A0, hid (A1.out.ext (fun i _ => (cut_zero' shr i).symm)), hid b0⟩
  case round =>
    clear A0 A1 b0
    obtain ⟨k, hk, rfl, h0, h1, hb⟩ := hrel
    by_cases hlt : k < 20
    · have HL := hid hlt
      have hk3 : (k : Int) < 20 := by omega
      obtain ⟨sa, sl, sg⟩ := sh_facts hlt
      obtain ⟨_, mr, _⟩ := tr_one hlt
      have r1 := fun w => run_mul (P := Tryz.prog) 22 (x := rad k) (y := 1015021568) mr (by decide) w
      have q1 := h1.out.cell hlt
      have f1 := h1.out.frozen k
      have e1 : fmul (rad k) 1015021568 = share0 k := fmul_comm (amtB_iff.1 mr) (by decide)
      rw [e1] at r1
      by_cases hg : 1065353216 < share0 k
      · have hr : shr k = 1065353216 := by rw [← shr_is]; exact Nat.min_eq_right (Nat.le_of_lt hg)
        have hG : (FloatKind.f32.format.order (share0 k) 1065353216 == some .gt) = true := by rw [show (FloatKind.f32.format.order (share0 k) 1065353216 == some .gt) = decide (1065353216 < share0 k) from sg]; exact decide_eq_true hg
        have HR := hid hr
        clear sa sl sg mr hg hr
        go_wp2_with fail
        refine (sRad k HL.out _).mono ?_
        rintro e w1 ⟨rfl, rfl⟩
        go_wp2_with fail
        go_roundw
        case rel => exact ⟨k + 1, by omega, by go_num, hid (h0.out.setOther (by simp) _), hid ((h1.out.set k 1065353216).ext (fun i hi => by rw [← HR.out]; exact cut_succ shr k i)), hid (hb.out.setCell (by simp) _)⟩
        case measure => simp [intOf]; omega
      · have hr : share0 k = shr k := by rw [← shr_is]; exact (Nat.min_eq_left (by omega)).symm
        have hG : (FloatKind.f32.format.order (share0 k) 1065353216 == some .gt) = false := by rw [show (FloatKind.f32.format.order (share0 k) 1065353216 == some .gt) = decide (1065353216 < share0 k) from sg]; exact decide_eq_false hg
        have HR := hid hr
        clear sa sl sg mr hg hr
        go_wp2_with fail
        refine (sRad k HL.out _).mono ?_
        rintro e w1 ⟨rfl, rfl⟩
        go_wp2_with fail
        go_roundw
        case rel => exact ⟨k + 1, by omega, by go_num, hid (h0.out.setOther (by simp) _), hid ((h1.out.set k (share0 k)).ext (fun i hi => by rw [HR.out]; exact cut_succ shr k i)), hid (hb.out.setCell (by simp) _)⟩
        case measure => simp [intOf]; omega
    · obtain rfl : k = 20 := by omega
      have h2' := hid (h1.out.ext (cut_all shr))
      clear h1
      go_wp2_with (first | (refine wpList_load_row rfl 23 _ rfl (w.heap.size + 1) rfl 23 (fls shr) (0, 0) _ h2'.out Tryz.underlying23 rfl (by rw [fls_size]; exact info_a20) ?_) | (refine wpList_store_row rfl 23 _ _ rfl (w.heap.size) (fls shr) rfl rfl 23 _ h0.out (by rw [fls_size]; exact info_a20) (by simp) (fls_one shr) ?_))
      exact bodyPost_ret (results_cell_row rfl _ _ (w.heap.size) 23 (fls shr) (0, 0) _ rfl (h0.out.setRow shr) Tryz.underlying23 rfl (by rw [fls_size]; exact info_a20)) rfl ⟨rfl, below_row hb.out (by omega) _⟩

set_option maxRecDepth 100000 in
theorem iFitC_t (c : Nat → Nat) (t : Int) (hb : ∀ i, i < 177 → c i < 4294967296) (h : ColOk c t) (n : Int) (w : World) :
    Calls Tryz.prog 27 #[.agg (vls 178 (clw c t)), .int .i64 n] w fun e w' => e = .returned (.tuple #[.agg (vls 178 (clw c t)), .int .i64 0]) ∧ Below w.heap.size w w' := by
  have k0 : Hid (Kept w [(w.heap.size + 1, vls 178 (clw (fun _ => 0) 0), 35), (w.heap.size, vls 178 (clw c t), 35)] ((w.alloc (.cells (vls 178 (clw c t)) 35)).alloc (.cells (vls 178 (clw (fun _ => 0) 0)) 35))) := hid ((((Kept.nil w).push _ _).push _ _).sub (by simp))
  have HB := hid hb
  have HQ := hid h
  clear hb h
  have tok1 : True := trivial
  go_enter Tryz.func27, Tryz.ntmps27
  go_wp2_with (refine wpList_load_row rfl 35 _ rfl (w.heap.size) rfl 35 (vls 178 (clw c t)) (0, 0) _ (k0.out.v in1) Tryz.underlying35 rfl (by rw [vls_size]; exact info_col) ?_)
  refine (iValidColumn c t HB.out true (col_ok HQ.out) _).mono ?_
  rintro e w1 ⟨rfl, hb1⟩
  have k1 := hid (k0.out.stay hb1)
  clear k0 hb1
  go_wp2_with (first | (have _t := tok1; refine store_row (by rfl) 35 _ _ (by rfl) (w.heap.size + 1) (vls 178 (clw c t)) (vls 178 (clw (fun _ => 0) 0)) (by rfl) (by rfl) k1.out (by rw [vls_size]; exact info_col) (by simp) (vls_one (clw_one _ _)) (by omega) (neC (by omega) ne0) ?_; intro xk2 k2; replace k2 := hid k2; clear k1 tok1) | (refine wpList_load_row rfl 35 _ rfl (w.heap.size) rfl 35 (vls 178 (clw c t)) (0, 0) _ (k1.out.v in1) Tryz.underlying35 rfl (by rw [vls_size]; exact info_col) ?_))
  exact bodyPost_ret (results_row_tmp rfl _ _ (w.heap.size + 1) 35 (vls 178 (clw c t)) (0, 0) _ rfl (k2.out.at (x := (w.heap.size + 1, vls 178 (clw c t), 35)) in0) Tryz.underlying35 rfl (by rw [vls_size]; exact info_col)) rfl ⟨rfl, k2.out.1⟩

set_option maxRecDepth 100000 in
theorem iFitC_f (c : Nat → Nat) (t : Int) (hb : ∀ i, i < 177 → c i < 4294967296) (h : ¬ ColOk c t) (n : Int) (w : World) :
    Calls Tryz.prog 27 #[.agg (vls 178 (clw c t)), .int .i64 n] w fun e w' => e = .returned (.tuple #[.agg (vls 178 (clw (fun _ => 0) 0)), .int .i64 n]) ∧ Below w.heap.size w w' := by
  have k0 : Hid (Kept w [(w.heap.size + 1, vls 178 (clw (fun _ => 0) 0), 35), (w.heap.size, vls 178 (clw c t), 35)] ((w.alloc (.cells (vls 178 (clw c t)) 35)).alloc (.cells (vls 178 (clw (fun _ => 0) 0)) 35))) := hid ((((Kept.nil w).push _ _).push _ _).sub (by simp))
  have HB := hid hb
  have HQ := hid h
  clear hb h
  have tok1 : True := trivial
  go_enter Tryz.func27, Tryz.ntmps27
  go_wp2_with (refine wpList_load_row rfl 35 _ rfl (w.heap.size) rfl 35 (vls 178 (clw c t)) (0, 0) _ (k0.out.v in1) Tryz.underlying35 rfl (by rw [vls_size]; exact info_col) ?_)
  refine (iValidColumn c t HB.out false (col_no HQ.out) _).mono ?_
  rintro e w1 ⟨rfl, hb1⟩
  have k1 := hid (k0.out.stay hb1)
  clear k0 hb1
  go_wp2_with (have _t := tok1; refine store_row (by rfl) 35 _ _ (by rfl) (w.heap.size + 1) (vls 178 (clw (fun _ => 0) 0)) (vls 178 (clw (fun _ => 0) 0)) (by rfl) (by rfl) k1.out (by rw [vls_size]; exact info_col) (by simp) (vls_one (clw_one _ _)) (by omega) (neC (by omega) ne0) ?_; intro xk2 k2; replace k2 := hid k2; clear k1 tok1)
  exact bodyPost_ret (results_row_tmp rfl _ _ (w.heap.size + 1) 35 (vls 178 (clw (fun _ => 0) 0)) (0, 0) _ rfl (k2.out.at (x := (w.heap.size + 1, vls 178 (clw (fun _ => 0) 0), 35)) in0) Tryz.underlying35 rfl (by rw [vls_size]; exact info_col)) rfl ⟨rfl, k2.out.1⟩

set_option maxRecDepth 100000 in
theorem sMadeC_t (c : Nat → Nat) (t : Int) (hb : ∀ i, i < 177 → c i < 4294967296) (h : ColOk c t) (w : World) (g : Nat) (T : TypeId) (hg : vAt w g 178 (clw c t) T) :
    Calls Tryz.prog 52 #[.pointer (some ⟨g, 0, none⟩)] w fun e w' => e = .returned (.tuple #[.agg (vls 178 (clw c t)), .int .i64 0]) ∧ Below w.heap.size w w' := by
  have k0 := hid ((Kept.nil w).push (vls 178 (clw (fun _ => 0) 0)) 35)
  have G0 := hid (hg.alloc (.cells (vls 178 (clw (fun _ => 0) 0)) 35))
  have HB := hid hb
  have HQ := hid h
  clear hb h hg
  have tok1 : True := trivial
  go_enter Tryz.func52, Tryz.ntmps52
  go_wp2_with fail
  refine (sColOk c t HB.out true (col_ok HQ.out) _ g T G0.out).mono ?_
  rintro e w1 ⟨rfl, hb1⟩
  have k1 := hid (k0.out.stay hb1)
  have G1 := hid (G0.out.stay hb1)
  clear k0 hb1 G0
  go_wp2_with (first | (have _t := tok1; refine load_cut (by rfl) 35 _ (by rfl) g 0 178 (by rfl) G1.out (by omega) (vls 178 (clw c t)) (vls_ext fun i _ => by rw [Nat.zero_add]) _ Tryz.underlying35 (by rfl) info_col ?_) | (have _t := tok1; refine store_row (by rfl) 35 _ _ (by rfl) (w.heap.size) (vls 178 (clw c t)) (vls 178 (clw (fun _ => 0) 0)) (by rfl) (by rfl) k1.out (by rw [vls_size]; exact info_col) (by simp) (vls_one (clw_one _ _)) (by omega) ne0 ?_; intro xk2 k2; replace k2 := hid k2; clear k1 tok1))
  exact bodyPost_ret (results_row_tmp rfl _ _ (w.heap.size) 35 (vls 178 (clw c t)) (0, 0) _ rfl (k2.out.at (x := (w.heap.size, vls 178 (clw c t), 35)) in0) Tryz.underlying35 rfl (by rw [vls_size]; exact info_col)) rfl ⟨rfl, k2.out.1⟩

set_option maxRecDepth 100000 in
theorem sMadeC_f (c : Nat → Nat) (t : Int) (hb : ∀ i, i < 177 → c i < 4294967296) (h : ¬ ColOk c t) (w : World) (g : Nat) (T : TypeId) (hg : vAt w g 178 (clw c t) T) :
    Calls Tryz.prog 52 #[.pointer (some ⟨g, 0, none⟩)] w fun e w' => e = .returned (.tuple #[.agg (vls 178 (clw (fun _ => 0) 0)), .int .i64 4]) ∧ Below w.heap.size w w' := by
  have k0 := hid ((Kept.nil w).push (vls 178 (clw (fun _ => 0) 0)) 35)
  have G0 := hid (hg.alloc (.cells (vls 178 (clw (fun _ => 0) 0)) 35))
  have HB := hid hb
  have HQ := hid h
  clear hb h hg
  have tok1 : True := trivial
  go_enter Tryz.func52, Tryz.ntmps52
  go_wp2_with fail
  refine (sColOk c t HB.out false (col_no HQ.out) _ g T G0.out).mono ?_
  rintro e w1 ⟨rfl, hb1⟩
  have k1 := hid (k0.out.stay hb1)
  clear k0 hb1 G0
  go_wp2_with (have _t := tok1; refine store_row (by rfl) 35 _ _ (by rfl) (w.heap.size) (vls 178 (clw (fun _ => 0) 0)) (vls 178 (clw (fun _ => 0) 0)) (by rfl) (by rfl) k1.out (by rw [vls_size]; exact info_col) (by simp) (vls_one (clw_one _ _)) (by omega) ne0 ?_; intro xk2 k2; replace k2 := hid k2; clear k1 tok1)
  exact bodyPost_ret (results_row_tmp rfl _ _ (w.heap.size) 35 (vls 178 (clw (fun _ => 0) 0)) (0, 0) _ rfl (k2.out.at (x := (w.heap.size, vls 178 (clw (fun _ => 0) 0), 35)) in0) Tryz.underlying35 rfl (by rw [vls_size]; exact info_col)) rfl ⟨rfl, k2.out.1⟩

theorem colok_amt {c : Nat → Nat} {t : Int} (k : ColOk c t) (i : Nat) (hi : i < 160) : amtB (c i) = true := by
  have := k.sz (i / 20) (by omega) (i % 20) (by omega)
  unfold rowK at this
  rwa [show i / 20 * 20 + i % 20 = i by omega] at this

theorem colok_fin {c : Nat → Nat} {t : Int} (k : ColOk c t) (hl : ∀ i, i < 177 → c i < 4294967296) (i : Nat) (hi : i < 177) : finB (c i) = true := by
  by_cases h1 : i < 160
  · exact amt_fin (colok_amt k i h1)
  · by_cases h2 : i = 176
    · subst h2; exact amt_fin k.gauge
    · have hq := k.air ((i - 160) / 2) (by omega)
      obtain ⟨a, b, _⟩ := airB_iff.1 hq
      by_cases h3 : i % 2 = 0
      · have e : heC c ((i - 160) / 2) = c i := by unfold heC; rw [show 160 + (i - 160) / 2 * 2 = i by omega]
        rw [e] at a
        exact heat_fin (hl i hi) a
      · have e : vaC c ((i - 160) / 2) = c i := by unfold vaC; rw [show 160 + (i - 160) / 2 * 2 + 1 = i by omega]
        rw [e] at b
        exact amt_fin b

theorem iOnce_t (t : Nat) (s : GSt) (hs : GVal t s) (hv : s.v < 4294967296) (hok : GOk t s) (w : World) :
    Calls Tryz.prog 55 #[.agg (fls s.c), .agg #[.float .f32 s.h, .float .f32 s.v], .float .f32 t] w fun e w' => e = .returned (.tuple #[.agg (fls (gNext t s).c), .agg #[.float .f32 (gNext t s).h, .float .f32 (gNext t s).v], .int .i64 0]) ∧ Below w.heap.size w w' :=
  iGrow1 s.c s.h s.v t (gNext t s).c (gNext t s).h (gNext t s).v 0 (fun w => by
    have := iGrow t s hs hv 1 1 (by decide) (Nat.le_refl 1) (fun j hj => by obtain rfl : j = 0 := by omega
                                                                            exact hok) (fun h => absurd h (Nat.lt_irrefl 1)) w
    rw [show gOut t s 1 1 = gSt t s 1 from if_pos rfl, show gCode 1 1 = 0 from if_pos rfl] at this
    exact this) w

theorem iOnce_f (t : Nat) (s : GSt) (hs : GVal t s) (hv : s.v < 4294967296) (hno : ¬ GOk t s) (w : World) :
    Calls Tryz.prog 55 #[.agg (fls s.c), .agg #[.float .f32 s.h, .float .f32 s.v], .float .f32 t] w fun e w' => e = .returned (.tuple #[.agg (fls fun _ => 0), .agg #[.float .f32 0, .float .f32 0], .int .i64 4]) ∧ Below w.heap.size w w' :=
  iGrow1 s.c s.h s.v t (fun _ => 0) 0 0 4 (fun w => by
    have := iGrow t s hs hv 1 0 (by decide) (Nat.zero_le 1) (fun j hj => absurd hj (Nat.not_lt_zero j)) (fun _ => hno) w
    rw [show gOut t s 1 0 = ⟨fun _ => 0, 0, 0⟩ from if_neg (by decide), show gCode 1 0 = 4 from if_neg (by decide)] at this
    exact this) w

/-- A cell of a column, and what it is behind a step of the time of a tick. -/
def tickT : Nat := 1031798784

def gCel (c : Nat → Nat) (i : Nat) : GSt := ⟨rowK c i, heC c i, vaC c i⟩

def nCel (c : Nat → Nat) (i : Nat) : GSt := gNext tickT (gCel c i)

def okCel (c : Nat → Nat) (i : Nat) : Prop := GOk tickT (gCel c i)

/-- The words of a column whose first k rows and first m airs have grown. -/
def gcG (c : Nat → Nat) (k m : Nat) : Nat → Nat := fun j =>
  if j < k * 20 then (nCel c (j / 20)).c (j % 20) else if 160 ≤ j ∧ j < 160 + m * 2 then (if j % 2 = 0 then (nCel c ((j - 160) / 2)).h else (nCel c ((j - 160) / 2)).v) else c j

theorem gcG_zero (c : Nat → Nat) (j : Nat) : gcG c 0 0 j = c j := by
  unfold gcG
  rw [if_neg (by omega), if_neg (by omega)]

theorem clw_at {c d : Nat → Nat} {t : Int} {i : Nat} (h : c i = d i) : clw c t i = clw d t i := by
  unfold clw
  rw [h]

theorem gcG_row {c : Nat → Nat} {k : Nat} (hk : k < 8) (t : Int) (i : Nat) : updR (clw (gcG c k k) t) (k * 20) 20 (flw (nCel c k).c) i = clw (gcG c (k + 1) k) t i := by
  unfold updR
  by_cases h1 : k * 20 ≤ i ∧ i < k * 20 + 20
  · rw [if_pos h1, clw_f (by omega)]
    unfold flw gcG
    rw [if_pos (by omega), show i / 20 = k by omega, show i % 20 = i - k * 20 by omega]
  · rw [if_neg h1]
    refine clw_at ?_
    unfold gcG
    by_cases h2 : i < k * 20
    · rw [if_pos h2, if_pos (by omega)]
    · rw [if_neg h2, if_neg (show ¬ i < (k + 1) * 20 by omega)]

def twoW (h v : Nat) : Nat → Value := fun i => if i = 0 then .float .f32 h else .float .f32 v

theorem twoW_one (h v i : Nat) : (twoW h v i).oneCell' = true := by
  unfold twoW
  by_cases e : i = 0
  · rw [if_pos e]; rfl
  · rw [if_neg e]; rfl

theorem gcG_air {c : Nat → Nat} {k : Nat} (hk : k < 8) (t : Int) (i : Nat) : updR (clw (gcG c (k + 1) k) t) (160 + k * 2) 2 (twoW (nCel c k).h (nCel c k).v) i = clw (gcG c (k + 1) (k + 1)) t i := by
  unfold updR
  by_cases h1 : 160 + k * 2 ≤ i ∧ i < 160 + k * 2 + 2
  · rw [if_pos h1, clw_f (by omega)]
    unfold twoW gcG
    rw [if_neg (show ¬ i < (k + 1) * 20 by omega), if_pos (show 160 ≤ i ∧ i < 160 + (k + 1) * 2 by omega), show (i - 160) / 2 = k by omega]
    by_cases e : i - (160 + k * 2) = 0
    · rw [if_pos e, if_pos (show i % 2 = 0 by omega)]
    · rw [if_neg e, if_neg (show ¬ i % 2 = 0 by omega)]
  · rw [if_neg h1]
    refine clw_at ?_
    unfold gcG
    by_cases h2 : i < (k + 1) * 20
    · rw [if_pos h2, if_pos h2]
    · rw [if_neg h2, if_neg h2]
      by_cases h3 : 160 ≤ i ∧ i < 160 + k * 2
      · rw [if_pos h3, if_pos (show 160 ≤ i ∧ i < 160 + (k + 1) * 2 by omega)]
      · rw [if_neg h3, if_neg (show ¬ (160 ≤ i ∧ i < 160 + (k + 1) * 2) by omega)]

theorem gcG_rowK {c : Nat → Nat} {i : Nat} (hi : i < 8) {j : Nat} (hj : j < 20) : rowK (gcG c 8 8) i j = (nCel c i).c j := by
  unfold rowK gcG
  rw [if_pos (by omega), show (i * 20 + j) / 20 = i by omega, show (i * 20 + j) % 20 = j by omega]

theorem gcG_heC {c : Nat → Nat} {i : Nat} (hi : i < 8) : heC (gcG c 8 8) i = (nCel c i).h := by
  unfold heC gcG
  rw [if_neg (by omega), if_pos (by omega), if_pos (by omega), show (160 + i * 2 - 160) / 2 = i by omega]

theorem gcG_vaC {c : Nat → Nat} {i : Nat} (hi : i < 8) : vaC (gcG c 8 8) i = (nCel c i).v := by
  unfold vaC gcG
  rw [if_neg (by omega), if_pos (by omega), if_neg (by omega), show (160 + i * 2 + 1 - 160) / 2 = i by omega]

theorem gcG_gauge (c : Nat → Nat) : gcG c 8 8 176 = c 176 := by
  unfold gcG
  rw [if_neg (by omega), if_neg (by omega)]

theorem gcel_val {c : Nat → Nat} {t : Int} (h : ColOk c t) (hb : ∀ i, i < 177 → c i < 4294967296) {k : Nat} (hk : k < 8) : GVal tickT (gCel c k) :=
  ⟨h.sz k hk, ⟨hb _ (by omega), (airB_iff.1 (h.air k hk)).1⟩, h.air k hk, by decide⟩

theorem gcG_ok {c : Nat → Nat} {t : Int} (h : ColOk c t) (hb : ∀ i, i < 177 → c i < 4294967296) (hM : ∀ j, j < 8 → okCel c j) : ColOk (gcG c 8 8) t := by
  have V : ∀ j, j < 8 → GVal tickT (nCel c j) := fun j hj => (gcel_val h hb hj).next (hM j hj)
  refine ⟨fun i hi j hj => ?_, fun i hi => ?_, ?_, h.t0, h.t1⟩
  · rw [gcG_rowK hi hj]; exact (V i hi).c j hj
  · rw [gcG_heC hi, gcG_vaC hi]; exact (V i hi).q
  · rw [gcG_gauge]; exact h.gauge

theorem gcG_lt {c : Nat → Nat} {t : Int} (h : ColOk c t) (hb : ∀ i, i < 177 → c i < 4294967296) (hM : ∀ j, j < 8 → okCel c j) (i : Nat) (hi : i < 177) : gcG c 8 8 i < 4294967296 := by
  have V : ∀ j, j < 8 → GVal tickT (nCel c j) := fun j hj => (gcel_val h hb hj).next (hM j hj)
  unfold gcG
  by_cases h1 : i < 8 * 20
  · rw [if_pos h1]; exact amt_lt ((V _ (by omega)).c _ (by omega))
  · rw [if_neg h1]
    by_cases h2 : 160 ≤ i ∧ i < 160 + 8 * 2
    · rw [if_pos h2]
      have := V ((i - 160) / 2) (by omega)
      by_cases h3 : i % 2 = 0
      · rw [if_pos h3]; exact this.h.1
      · rw [if_neg h3]; exact amt_lt (airB_iff.1 this.q).2.1
    · rw [if_neg h2]; exact hb i hi

theorem far8 (p : Nat → Prop) : ∀ N : Nat, ∃ K, K ≤ N ∧ (∀ j, j < K → p j) ∧ (K < N → ¬ p K)
  | 0 => ⟨0, Nat.le_refl _, fun j hj => absurd hj (Nat.not_lt_zero j), fun h => absurd h (Nat.lt_irrefl 0)⟩
  | N + 1 => by
    obtain ⟨K, h1, h2, h3⟩ := far8 p N
    by_cases e : K < N
    · exact ⟨K, by omega, h2, fun _ => h3 e⟩
    · obtain rfl : K = N := by omega
      by_cases hg : p K
      · refine ⟨K + 1, Nat.le_refl _, fun j hj => ?_, fun h => absurd h (Nat.lt_irrefl _)⟩
        by_cases ej : j = K
        · subst ej; exact hg
        · exact h2 j (by omega)
      · exact ⟨K, by omega, h2, fun _ => hg⟩

theorem pick3 {α : Type} (a b c d e : α) : ∀ x ∈ [a, d, e], x ∈ [a, b, c, d, e] := fun x hx => by
  simp only [List.mem_cons, List.not_mem_nil, or_false] at hx ⊢
  rcases hx with h | h | h
  · exact .inl h
  · exact .inr (.inr (.inr (.inl h)))
  · exact .inr (.inr (.inr (.inr h)))

set_option maxRecDepth 100000 in
set_option maxHeartbeats 800000 in
theorem iGrowC_ok (c : Nat → Nat) (t : Int) (hb : ∀ i, i < 177 → c i < 4294967296) (h : ColOk c t) (K : Nat) (hK : K ≤ 8) (hM : ∀ j, j < K → okCel c j) (hN : K < 8 → ¬ okCel c K) (r : Nat → Nat) (s n : Int) (hr1 : K = 8 → r = gcG c 8 8 ∧ s = t ∧ n = 0) (hr0 : K ≠ 8 → r = (fun _ => 0) ∧ s = 0 ∧ n = 4) (w : World) :
    Calls Tryz.prog 25 #[.agg (vls 178 (clw c t))] w fun e w' => e = .returned (.tuple #[.agg (vls 178 (clw r s)), .int .i64 n]) ∧ Below w.heap.size w w' := by
  have k0 : Hid (Kept w [(w.heap.size + 1, vls 178 (clw (fun _ => 0) 0), 35), (w.heap.size, vls 178 (clw c t), 35)] ((w.alloc (.cells (vls 178 (clw c t)) 35)).alloc (.cells (vls 178 (clw (fun _ => 0) 0)) 35))) := hid ((((Kept.nil w).push _ _).push _ _).sub (by simp))
  have HB := hid hb
  have HQ := hid h
  have HM := hid hM
  have HN := hid hN
  have HR1 := hid hr1
  have HR0 := hid hr0
  clear hb h hM hN hr1 hr0
  go_enter Tryz.func25, Tryz.ntmps25
  go_wp2_with (refine wpList_load_row rfl 35 _ rfl (w.heap.size) rfl 35 (vls 178 (clw c t)) (0, 0) _ (k0.out.v in1) Tryz.underlying35 rfl (by rw [vls_size]; exact info_col) ?_)
  refine (iValidColumn c t HB.out true (col_ok HQ.out) _).mono ?_
  rintro e wv ⟨rfl, hb1⟩
  have k1 := hid (k0.out.stay hb1)
  have hg : w.heap.size + 1 < wv.heap.size := k1.out.lt in0
  have fr := k1.out.fresh
  have kN := hid (k1.out.push (vls 178 (clw (fun _ => 0) 0)) 35)
  have tok1 : True := trivial
  clear k0 hb1
  go_wp2_with (first
    | (have _t := tok1; clear tok1; refine wpList_load_row rfl 35 _ rfl (w.heap.size) rfl 35 (vls 178 (clw c t)) (0, 0) _ (k1.out.v in1) Tryz.underlying35 rfl (by rw [vls_size]; exact info_col) ?_; have tok2 : True := trivial)
    | (have _t := tok2; clear tok2; refine store_row (by rfl) 35 _ _ (by rfl) (wv.heap.size) (vls 178 (clw c t)) (vls 178 (clw (fun _ => 0) 0)) (by rfl) (by rfl) kN.out (by rw [vls_size]; exact info_col) (by simp) (vls_one (clw_one _ _)) (by omega) fr ?_; intro w2 k2; replace k2 := hid k2; clear kN))
  have k5 : Hid (Kept w [(wv.heap.size, vls 178 (clw (gcG c 0 0) t), 35), (w.heap.size + 1, vls 178 (clw (fun _ => 0) 0), 35), (w.heap.size, vls 178 (clw c t), 35)] w2) := hid (k2.out.ext (fun i _ => (clw_same (fun i => gcG_zero c i) t i).symm))
  clear k1 k2 fr
  go_loopw [14] (fun i wr => ∃ k : Nat, k ≤ K ∧ i = .int .i64 k ∧ Hid (Kept w [(wv.heap.size, vls 178 (clw (gcG c k k) t), 35), (w.heap.size + 1, vls 178 (clw (fun _ => 0) 0), 35), (w.heap.size, vls 178 (clw c t), 35)] wr)) (fun i _ => 8 - (intOf i).toNat)
  case atStart => exact ⟨0, by omega, rfl, k5⟩
  case round =>
    clear k5
    obtain ⟨k, hk, rfl, h0⟩ := hrel
    by_cases h8 : k < 8
    · have HL := hid h8
      have hk3 : (k : Int) < 8 := by omega
      have HV := hid (gcel_val HQ.out HB.out h8)
      have HVL : Hid ((gCel c k).v < 4294967296) := hid (HB.out _ (by omega))
      by_cases hlt : k < K
      · have HK2 := hid hlt
        have HC := hid (fun w => iOnce_t tickT (gCel c k) HV.out HVL.out (HM.out k hlt) w)
        clear hlt hk
        go_wp2_with fail
        refine region_act (w0 := w) (lk := [(wv.heap.size, vls 178 (clw (gcG c k k) t), 35), (w.heap.size + 1, vls 178 (clw (fun _ => 0) 0), 35), (w.heap.size, vls 178 (clw c t), 35)]) (fun a0 a1 wq => ∃ g6 g7 : Nat, a1 = ((((((((((((((((a0.put (some 18) (.int .i64 (k : Int))).put (some 19) (.pointer (some ⟨w.heap.size, 0, none⟩))).put (some 20) (.pointer (some ⟨w.heap.size, k * 20, none⟩))).put (some 21) (.agg (fls (rowK c k)))).put (some 22) (.int .i64 (k : Int))).put (some 23) (.pointer (some ⟨w.heap.size, 160, none⟩))).put (some 24) (.pointer (some ⟨w.heap.size, 160 + k * 2, none⟩))).put (some 25) (.agg #[.float .f32 (heC c k), .float .f32 (vaC c k)])).put (some 26) (.tuple #[.agg (fls (nCel c k).c), .agg #[.float .f32 (nCel c k).h, .float .f32 (nCel c k).v], .int .i64 0])).put (some 17) (.tuple #[.agg (fls (nCel c k).c), .agg #[.float .f32 (nCel c k).h, .float .f32 (nCel c k).v], .int .i64 0])).put (some 27) (.agg (fls (nCel c k).c))).put (some 28) (.agg #[.float .f32 (nCel c k).h, .float .f32 (nCel c k).v])).put (some 29) (.int .i64 0)).put (some 6) (.pointer (some ⟨g6, 0, none⟩))).put (some 7) (.pointer (some ⟨g7, 0, none⟩))).put (some 8) (.int .i64 0)) ∧ (g7 ≠ wv.heap.size ∧ g6 ≠ wv.heap.size) ∧ Kept w [(g7, #[.float .f32 (nCel c k).h, .float .f32 (nCel c k).v], 32), (g6, fls (nCel c k).c, 30), (wv.heap.size, vls 178 (clw (gcG c k k) t), 35), (w.heap.size + 1, vls 178 (clw (fun _ => 0) 0), 35), (w.heap.size, vls 178 (clw c t), 35)] wq) 18 #[false, false, false, false, false, false, false, false, false, false, false, false, false, false, false, false, false, false] (by kernel_rfl) rfl rfl ?_ ?_
        · have kd := h0.out.drew
          generalize World.drew _ = wd at kd ⊢
          refine take_val 0 _ _ (.int .i64 (k : Int)) rfl (by rfl) (by kernel_rfl) (by kernel_rfl) (by kernel_rfl) (fun w => by rfl) rfl rfl kd ?_
          simp only [Act.put, List.setIfInBounds_toArray, List.set_cons_zero, List.set_cons_succ]
          refine take_val 1 _ _ (.pointer (some ⟨w.heap.size, 0, none⟩)) rfl (by rfl) (by kernel_rfl) (by kernel_rfl) (by kernel_rfl) (fun w => by unfold execOp; go_simp) rfl rfl kd ?_
          simp only [Act.put, List.setIfInBounds_toArray, List.set_cons_zero, List.set_cons_succ]
          refine take_val 2 _ _ (.pointer (some ⟨w.heap.size, k * 20, none⟩)) rfl (by rfl) (by kernel_rfl) (by kernel_rfl) (by kernel_rfl) (fun w => by unfold execOp; go_simp) rfl rfl kd ?_
          simp only [Act.put, List.setIfInBounds_toArray, List.set_cons_zero, List.set_cons_succ]
          refine take_cell 3 _ _ (.agg (fls (rowK c k))) rfl (by rfl) (by kernel_rfl) (by kernel_rfl) (by kernel_rfl) (fun wq hS => run_load_as 30 _ (w.heap.size) (k * 20) 20 rfl (hS.v in2) (by have := HL.out; omega) (fls (rowK c k)) (part_dr _ t (by have := HL.out; omega)) _ Tryz.underlying30 (by rfl) info_arr) rfl rfl kd ?_
          simp only [Act.put, List.setIfInBounds_toArray, List.set_cons_zero, List.set_cons_succ]
          refine take_val 4 _ _ (.int .i64 (k : Int)) rfl (by rfl) (by kernel_rfl) (by kernel_rfl) (by kernel_rfl) (fun w => by rfl) rfl rfl kd ?_
          simp only [Act.put, List.setIfInBounds_toArray, List.set_cons_zero, List.set_cons_succ]
          refine take_val 5 _ _ (.pointer (some ⟨w.heap.size, 160, none⟩)) rfl (by rfl) (by kernel_rfl) (by kernel_rfl) (by kernel_rfl) (fun w => by unfold execOp; go_simp) rfl rfl kd ?_
          simp only [Act.put, List.setIfInBounds_toArray, List.set_cons_zero, List.set_cons_succ]
          refine take_val 6 _ _ (.pointer (some ⟨w.heap.size, 160 + k * 2, none⟩)) rfl (by rfl) (by kernel_rfl) (by kernel_rfl) (by kernel_rfl) (fun w => by unfold execOp; go_simp) rfl rfl kd ?_
          simp only [Act.put, List.setIfInBounds_toArray, List.set_cons_zero, List.set_cons_succ]
          refine take_cell 7 _ _ (.agg #[.float .f32 (heC c k), .float .f32 (vaC c k)]) rfl (by rfl) (by kernel_rfl) (by kernel_rfl) (by kernel_rfl) (fun wq hS => run_load_as 32 _ (w.heap.size) (160 + k * 2) 2 rfl (hS.v in2) (by have := HL.out; omega) #[.float .f32 (heC c k), .float .f32 (vaC c k)] (part_air _ t (by have := HL.out; omega)) _ Tryz.underlying32 (by rfl) info_air) rfl rfl kd ?_
          simp only [Act.put, List.setIfInBounds_toArray, List.set_cons_zero, List.set_cons_succ]
          refine wpAnyH_ready (rs := [8, 13, 14]) (by kernel_rfl) (by simp) ?_
          refine callK 8 _ _ (.tuple #[.agg (fls (nCel c k).c), .agg #[.float .f32 (nCel c k).h, .float .f32 (nCel c k).v], .int .i64 0]) kd rfl (by rfl) 55 #[.agg (fls (rowK c k)), .agg #[.float .f32 (heC c k), .float .f32 (vaC c k)], .float .f32 1031798784] (fun w => by unfold execOp; go_simp) rfl rfl ?hc1 (fun w1 k1 => ?_) ?_
          case hc1 => exact HC.out _
          · refine ⟨k1, ?_⟩
            simp only [Act.put, List.setIfInBounds_toArray, List.set_cons_zero, List.set_cons_succ]
            refine take_val 9 _ _ (.tuple #[.agg (fls (nCel c k).c), .agg #[.float .f32 (nCel c k).h, .float .f32 (nCel c k).v], .int .i64 0]) rfl (by rfl) (by kernel_rfl) (by kernel_rfl) (by kernel_rfl) (fun w => by rfl) rfl rfl k1 ?_
            simp only [Act.put, List.setIfInBounds_toArray, List.set_cons_zero, List.set_cons_succ]
            refine take_val 10 _ _ (.agg (fls (nCel c k).c)) rfl (by rfl) (by kernel_rfl) (by kernel_rfl) (by kernel_rfl) (fun w => by unfold execOp; go_simp) rfl rfl k1 ?_
            simp only [Act.put, List.setIfInBounds_toArray, List.set_cons_zero, List.set_cons_succ]
            refine take_val 11 _ _ (.agg #[.float .f32 (nCel c k).h, .float .f32 (nCel c k).v]) rfl (by rfl) (by kernel_rfl) (by kernel_rfl) (by kernel_rfl) (fun w => by unfold execOp; go_simp) rfl rfl k1 ?_
            simp only [Act.put, List.setIfInBounds_toArray, List.set_cons_zero, List.set_cons_succ]
            refine take_val 12 _ _ (.int .i64 0) rfl (by rfl) (by kernel_rfl) (by kernel_rfl) (by kernel_rfl) (fun w => by unfold execOp; go_simp) rfl rfl k1 ?_
            simp only [Act.put, List.setIfInBounds_toArray, List.set_cons_zero, List.set_cons_succ]
            refine wpAnyH_ready (rs := [13, 14]) (by kernel_rfl) (by simp) ?_
            refine allocK 13 (fun g => _) _ k1 rfl (by rfl) (fls fun _ => 0) 30 (by unfold execOp; go_simp) (fun g => rfl) rfl (fun w2 g2 k2 hB2 hn2 => ?_) ?_
            · refine ⟨k2.tail, ?_⟩
              simp only [Act.put, List.setIfInBounds_toArray, List.set_cons_zero, List.set_cons_succ]
              refine wpAnyH_ready (rs := [14]) (by kernel_rfl) (by simp) ?_
              refine allocK 14 (fun g => _) _ k2 rfl (by rfl) (#[.float .f32 0, .float .f32 0]) 32 (by unfold execOp; go_simp) (fun g => rfl) rfl (fun w3 g3 k3 hB3 hn3 => ?_) AllReadyH.nil
              refine ⟨k3.tail.tail, ?_⟩
              simp only [Act.put, List.setIfInBounds_toArray, List.set_cons_zero, List.set_cons_succ]
              refine wpAnyH_ready (rs := [15]) (by kernel_rfl) (by simp) ?_
              refine storeK 15 _ _ (k3).swap hB2 (neC (hn3 _ in0).symm hn2) rfl (by rfl) 30 _ _ rfl (fls (nCel c k).c) rfl rfl (by rw [fls_size]; exact info_arr) (by simp) (fls_one _) rfl rfl (fun w4 k4 => ?_) AllReadyH.nil
              refine ⟨k4.tail.tail, ?_⟩
              refine wpAnyH_ready (rs := [16]) (by kernel_rfl) (by simp) ?_
              refine storeK 16 _ _ (k4).swap hB3 (neC (hn3 _ in0) (fun x hx => hn3 x (List.mem_cons_of_mem _ hx))) rfl (by rfl) 32 _ _ rfl (#[.float .f32 (nCel c k).h, .float .f32 (nCel c k).v]) rfl rfl (info_air) (by simp) (two_one _ _) rfl rfl (fun w5 k5 => ?_) AllReadyH.nil
              refine ⟨k5.tail.tail, ?_⟩
              refine take_val 17 _ _ (.int .i64 0) rfl (by rfl) (by kernel_rfl) (by kernel_rfl) (by kernel_rfl) (fun w => by rfl) rfl rfl k5.tail.tail ?_
              simp only [Act.put, List.setIfInBounds_toArray, List.set_cons_zero, List.set_cons_succ]
              refine wpAnyH_done (by kernel_rfl) ?_ _
              exact ⟨rfl, g2, g3, rfl, ⟨((fun x hx => hn3 x (List.mem_cons_of_mem _ hx)) (wv.heap.size, vls 178 (clw (gcG c k k) t), 35) in0).symm, (hn2 (wv.heap.size, vls 178 (clw (gcG c k k) t), 35) in0).symm⟩, k5⟩
            refine allocK 14 (fun g => _) _ k1 rfl (by rfl) (#[.float .f32 0, .float .f32 0]) 32 (by unfold execOp; go_simp) (fun g => rfl) rfl (fun w6 g6 k6 hB6 hn6 => ?_) AllReadyH.nil
            refine ⟨k6.tail, ?_⟩
            simp only [Act.put, List.setIfInBounds_toArray, List.set_cons_zero, List.set_cons_succ]
            refine wpAnyH_ready (rs := [13]) (by kernel_rfl) (by simp) ?_
            refine allocK 13 (fun g => _) _ k6 rfl (by rfl) (fls fun _ => 0) 30 (by unfold execOp; go_simp) (fun g => rfl) rfl (fun w7 g7 k7 hB7 hn7 => ?_) AllReadyH.nil
            refine ⟨k7.tail.tail, ?_⟩
            simp only [Act.put, List.setIfInBounds_toArray, List.set_cons_zero, List.set_cons_succ]
            refine wpAnyH_ready (rs := [15]) (by kernel_rfl) (by simp) ?_
            refine storeK 15 _ _ k7 hB7 (neC (hn7 _ in0) (fun x hx => hn7 x (List.mem_cons_of_mem _ hx))) rfl (by rfl) 30 _ _ rfl (fls (nCel c k).c) rfl rfl (by rw [fls_size]; exact info_arr) (by simp) (fls_one _) rfl rfl (fun w8 k8 => ?_) AllReadyH.nil
            refine ⟨k8.tail.tail, ?_⟩
            refine wpAnyH_ready (rs := [16]) (by kernel_rfl) (by simp) ?_
            refine storeK 16 _ _ (k8).swap hB6 (neC (hn7 _ in0).symm hn6) rfl (by rfl) 32 _ _ rfl (#[.float .f32 (nCel c k).h, .float .f32 (nCel c k).v]) rfl rfl (info_air) (by simp) (two_one _ _) rfl rfl (fun w9 k9 => ?_) AllReadyH.nil
            refine ⟨k9.tail.tail, ?_⟩
            refine take_val 17 _ _ (.int .i64 0) rfl (by rfl) (by kernel_rfl) (by kernel_rfl) (by kernel_rfl) (fun w => by rfl) rfl rfl k9.tail.tail ?_
            simp only [Act.put, List.setIfInBounds_toArray, List.set_cons_zero, List.set_cons_succ]
            refine wpAnyH_done (by kernel_rfl) ?_ _
            exact ⟨rfl, g7, g6, rfl, ⟨(hn6 (wv.heap.size, vls 178 (clw (gcG c k k) t), 35) in0).symm, ((fun x hx => hn7 x (List.mem_cons_of_mem _ hx)) (wv.heap.size, vls 178 (clw (gcG c k k) t), 35) in0).symm⟩, k9⟩
          refine allocK 13 (fun g => _) _ kd rfl (by rfl) (fls fun _ => 0) 30 (by unfold execOp; go_simp) (fun g => rfl) rfl (fun w10 g10 k10 hB10 hn10 => ?_) ?_
          · refine ⟨k10.tail, ?_⟩
            simp only [Act.put, List.setIfInBounds_toArray, List.set_cons_zero, List.set_cons_succ]
            refine wpAnyH_ready (rs := [8, 14]) (by kernel_rfl) (by simp) ?_
            refine callK 8 _ _ (.tuple #[.agg (fls (nCel c k).c), .agg #[.float .f32 (nCel c k).h, .float .f32 (nCel c k).v], .int .i64 0]) k10 rfl (by rfl) 55 #[.agg (fls (rowK c k)), .agg #[.float .f32 (heC c k), .float .f32 (vaC c k)], .float .f32 1031798784] (fun w => by unfold execOp; go_simp) rfl rfl ?hc11 (fun w11 k11 => ?_) ?_
            case hc11 => exact HC.out _
            · refine ⟨k11.tail, ?_⟩
              simp only [Act.put, List.setIfInBounds_toArray, List.set_cons_zero, List.set_cons_succ]
              refine take_val 9 _ _ (.tuple #[.agg (fls (nCel c k).c), .agg #[.float .f32 (nCel c k).h, .float .f32 (nCel c k).v], .int .i64 0]) rfl (by rfl) (by kernel_rfl) (by kernel_rfl) (by kernel_rfl) (fun w => by rfl) rfl rfl k11.tail ?_
              simp only [Act.put, List.setIfInBounds_toArray, List.set_cons_zero, List.set_cons_succ]
              refine take_val 10 _ _ (.agg (fls (nCel c k).c)) rfl (by rfl) (by kernel_rfl) (by kernel_rfl) (by kernel_rfl) (fun w => by unfold execOp; go_simp) rfl rfl k11.tail ?_
              simp only [Act.put, List.setIfInBounds_toArray, List.set_cons_zero, List.set_cons_succ]
              refine take_val 11 _ _ (.agg #[.float .f32 (nCel c k).h, .float .f32 (nCel c k).v]) rfl (by rfl) (by kernel_rfl) (by kernel_rfl) (by kernel_rfl) (fun w => by unfold execOp; go_simp) rfl rfl k11.tail ?_
              simp only [Act.put, List.setIfInBounds_toArray, List.set_cons_zero, List.set_cons_succ]
              refine take_val 12 _ _ (.int .i64 0) rfl (by rfl) (by kernel_rfl) (by kernel_rfl) (by kernel_rfl) (fun w => by unfold execOp; go_simp) rfl rfl k11.tail ?_
              simp only [Act.put, List.setIfInBounds_toArray, List.set_cons_zero, List.set_cons_succ]
              refine wpAnyH_ready (rs := [14]) (by kernel_rfl) (by simp) ?_
              refine allocK 14 (fun g => _) _ k11 rfl (by rfl) (#[.float .f32 0, .float .f32 0]) 32 (by unfold execOp; go_simp) (fun g => rfl) rfl (fun w12 g12 k12 hB12 hn12 => ?_) AllReadyH.nil
              refine ⟨k12.tail.tail, ?_⟩
              simp only [Act.put, List.setIfInBounds_toArray, List.set_cons_zero, List.set_cons_succ]
              refine wpAnyH_ready (rs := [15]) (by kernel_rfl) (by simp) ?_
              refine storeK 15 _ _ (k12).swap hB10 (neC (hn12 _ in0).symm hn10) rfl (by rfl) 30 _ _ rfl (fls (nCel c k).c) rfl rfl (by rw [fls_size]; exact info_arr) (by simp) (fls_one _) rfl rfl (fun w13 k13 => ?_) AllReadyH.nil
              refine ⟨k13.tail.tail, ?_⟩
              refine wpAnyH_ready (rs := [16]) (by kernel_rfl) (by simp) ?_
              refine storeK 16 _ _ (k13).swap hB12 (neC (hn12 _ in0) (fun x hx => hn12 x (List.mem_cons_of_mem _ hx))) rfl (by rfl) 32 _ _ rfl (#[.float .f32 (nCel c k).h, .float .f32 (nCel c k).v]) rfl rfl (info_air) (by simp) (two_one _ _) rfl rfl (fun w14 k14 => ?_) AllReadyH.nil
              refine ⟨k14.tail.tail, ?_⟩
              refine take_val 17 _ _ (.int .i64 0) rfl (by rfl) (by kernel_rfl) (by kernel_rfl) (by kernel_rfl) (fun w => by rfl) rfl rfl k14.tail.tail ?_
              simp only [Act.put, List.setIfInBounds_toArray, List.set_cons_zero, List.set_cons_succ]
              refine wpAnyH_done (by kernel_rfl) ?_ _
              exact ⟨rfl, g10, g12, rfl, ⟨((fun x hx => hn12 x (List.mem_cons_of_mem _ hx)) (wv.heap.size, vls 178 (clw (gcG c k k) t), 35) in0).symm, (hn10 (wv.heap.size, vls 178 (clw (gcG c k k) t), 35) in0).symm⟩, k14⟩
            refine allocK 14 (fun g => _) _ k10 rfl (by rfl) (#[.float .f32 0, .float .f32 0]) 32 (by unfold execOp; go_simp) (fun g => rfl) rfl (fun w15 g15 k15 hB15 hn15 => ?_) AllReadyH.nil
            refine ⟨k15.tail.tail, ?_⟩
            simp only [Act.put, List.setIfInBounds_toArray, List.set_cons_zero, List.set_cons_succ]
            refine wpAnyH_ready (rs := [8]) (by kernel_rfl) (by simp) ?_
            refine callK 8 _ _ (.tuple #[.agg (fls (nCel c k).c), .agg #[.float .f32 (nCel c k).h, .float .f32 (nCel c k).v], .int .i64 0]) k15 rfl (by rfl) 55 #[.agg (fls (rowK c k)), .agg #[.float .f32 (heC c k), .float .f32 (vaC c k)], .float .f32 1031798784] (fun w => by unfold execOp; go_simp) rfl rfl ?hc16 (fun w16 k16 => ?_) AllReadyH.nil
            case hc16 => exact HC.out _
            refine ⟨k16.tail.tail, ?_⟩
            simp only [Act.put, List.setIfInBounds_toArray, List.set_cons_zero, List.set_cons_succ]
            refine take_val 9 _ _ (.tuple #[.agg (fls (nCel c k).c), .agg #[.float .f32 (nCel c k).h, .float .f32 (nCel c k).v], .int .i64 0]) rfl (by rfl) (by kernel_rfl) (by kernel_rfl) (by kernel_rfl) (fun w => by rfl) rfl rfl k16.tail.tail ?_
            simp only [Act.put, List.setIfInBounds_toArray, List.set_cons_zero, List.set_cons_succ]
            refine take_val 10 _ _ (.agg (fls (nCel c k).c)) rfl (by rfl) (by kernel_rfl) (by kernel_rfl) (by kernel_rfl) (fun w => by unfold execOp; go_simp) rfl rfl k16.tail.tail ?_
            simp only [Act.put, List.setIfInBounds_toArray, List.set_cons_zero, List.set_cons_succ]
            refine take_val 11 _ _ (.agg #[.float .f32 (nCel c k).h, .float .f32 (nCel c k).v]) rfl (by rfl) (by kernel_rfl) (by kernel_rfl) (by kernel_rfl) (fun w => by unfold execOp; go_simp) rfl rfl k16.tail.tail ?_
            simp only [Act.put, List.setIfInBounds_toArray, List.set_cons_zero, List.set_cons_succ]
            refine take_val 12 _ _ (.int .i64 0) rfl (by rfl) (by kernel_rfl) (by kernel_rfl) (by kernel_rfl) (fun w => by unfold execOp; go_simp) rfl rfl k16.tail.tail ?_
            simp only [Act.put, List.setIfInBounds_toArray, List.set_cons_zero, List.set_cons_succ]
            refine wpAnyH_ready (rs := [15]) (by kernel_rfl) (by simp) ?_
            refine storeK 15 _ _ (k16).swap hB10 (neC (hn15 _ in0).symm hn10) rfl (by rfl) 30 _ _ rfl (fls (nCel c k).c) rfl rfl (by rw [fls_size]; exact info_arr) (by simp) (fls_one _) rfl rfl (fun w17 k17 => ?_) AllReadyH.nil
            refine ⟨k17.tail.tail, ?_⟩
            refine wpAnyH_ready (rs := [16]) (by kernel_rfl) (by simp) ?_
            refine storeK 16 _ _ (k17).swap hB15 (neC (hn15 _ in0) (fun x hx => hn15 x (List.mem_cons_of_mem _ hx))) rfl (by rfl) 32 _ _ rfl (#[.float .f32 (nCel c k).h, .float .f32 (nCel c k).v]) rfl rfl (info_air) (by simp) (two_one _ _) rfl rfl (fun w18 k18 => ?_) AllReadyH.nil
            refine ⟨k18.tail.tail, ?_⟩
            refine take_val 17 _ _ (.int .i64 0) rfl (by rfl) (by kernel_rfl) (by kernel_rfl) (by kernel_rfl) (fun w => by rfl) rfl rfl k18.tail.tail ?_
            simp only [Act.put, List.setIfInBounds_toArray, List.set_cons_zero, List.set_cons_succ]
            refine wpAnyH_done (by kernel_rfl) ?_ _
            exact ⟨rfl, g10, g15, rfl, ⟨((fun x hx => hn15 x (List.mem_cons_of_mem _ hx)) (wv.heap.size, vls 178 (clw (gcG c k k) t), 35) in0).symm, (hn10 (wv.heap.size, vls 178 (clw (gcG c k k) t), 35) in0).symm⟩, k18⟩
          refine allocK 14 (fun g => _) _ kd rfl (by rfl) (#[.float .f32 0, .float .f32 0]) 32 (by unfold execOp; go_simp) (fun g => rfl) rfl (fun w19 g19 k19 hB19 hn19 => ?_) AllReadyH.nil
          refine ⟨k19.tail, ?_⟩
          simp only [Act.put, List.setIfInBounds_toArray, List.set_cons_zero, List.set_cons_succ]
          refine wpAnyH_ready (rs := [8, 13]) (by kernel_rfl) (by simp) ?_
          refine callK 8 _ _ (.tuple #[.agg (fls (nCel c k).c), .agg #[.float .f32 (nCel c k).h, .float .f32 (nCel c k).v], .int .i64 0]) k19 rfl (by rfl) 55 #[.agg (fls (rowK c k)), .agg #[.float .f32 (heC c k), .float .f32 (vaC c k)], .float .f32 1031798784] (fun w => by unfold execOp; go_simp) rfl rfl ?hc20 (fun w20 k20 => ?_) ?_
          case hc20 => exact HC.out _
          · refine ⟨k20.tail, ?_⟩
            simp only [Act.put, List.setIfInBounds_toArray, List.set_cons_zero, List.set_cons_succ]
            refine take_val 9 _ _ (.tuple #[.agg (fls (nCel c k).c), .agg #[.float .f32 (nCel c k).h, .float .f32 (nCel c k).v], .int .i64 0]) rfl (by rfl) (by kernel_rfl) (by kernel_rfl) (by kernel_rfl) (fun w => by rfl) rfl rfl k20.tail ?_
            simp only [Act.put, List.setIfInBounds_toArray, List.set_cons_zero, List.set_cons_succ]
            refine take_val 10 _ _ (.agg (fls (nCel c k).c)) rfl (by rfl) (by kernel_rfl) (by kernel_rfl) (by kernel_rfl) (fun w => by unfold execOp; go_simp) rfl rfl k20.tail ?_
            simp only [Act.put, List.setIfInBounds_toArray, List.set_cons_zero, List.set_cons_succ]
            refine take_val 11 _ _ (.agg #[.float .f32 (nCel c k).h, .float .f32 (nCel c k).v]) rfl (by rfl) (by kernel_rfl) (by kernel_rfl) (by kernel_rfl) (fun w => by unfold execOp; go_simp) rfl rfl k20.tail ?_
            simp only [Act.put, List.setIfInBounds_toArray, List.set_cons_zero, List.set_cons_succ]
            refine take_val 12 _ _ (.int .i64 0) rfl (by rfl) (by kernel_rfl) (by kernel_rfl) (by kernel_rfl) (fun w => by unfold execOp; go_simp) rfl rfl k20.tail ?_
            simp only [Act.put, List.setIfInBounds_toArray, List.set_cons_zero, List.set_cons_succ]
            refine wpAnyH_ready (rs := [13]) (by kernel_rfl) (by simp) ?_
            refine allocK 13 (fun g => _) _ k20 rfl (by rfl) (fls fun _ => 0) 30 (by unfold execOp; go_simp) (fun g => rfl) rfl (fun w21 g21 k21 hB21 hn21 => ?_) AllReadyH.nil
            refine ⟨k21.tail.tail, ?_⟩
            simp only [Act.put, List.setIfInBounds_toArray, List.set_cons_zero, List.set_cons_succ]
            refine wpAnyH_ready (rs := [15]) (by kernel_rfl) (by simp) ?_
            refine storeK 15 _ _ k21 hB21 (neC (hn21 _ in0) (fun x hx => hn21 x (List.mem_cons_of_mem _ hx))) rfl (by rfl) 30 _ _ rfl (fls (nCel c k).c) rfl rfl (by rw [fls_size]; exact info_arr) (by simp) (fls_one _) rfl rfl (fun w22 k22 => ?_) AllReadyH.nil
            refine ⟨k22.tail.tail, ?_⟩
            refine wpAnyH_ready (rs := [16]) (by kernel_rfl) (by simp) ?_
            refine storeK 16 _ _ (k22).swap hB19 (neC (hn21 _ in0).symm hn19) rfl (by rfl) 32 _ _ rfl (#[.float .f32 (nCel c k).h, .float .f32 (nCel c k).v]) rfl rfl (info_air) (by simp) (two_one _ _) rfl rfl (fun w23 k23 => ?_) AllReadyH.nil
            refine ⟨k23.tail.tail, ?_⟩
            refine take_val 17 _ _ (.int .i64 0) rfl (by rfl) (by kernel_rfl) (by kernel_rfl) (by kernel_rfl) (fun w => by rfl) rfl rfl k23.tail.tail ?_
            simp only [Act.put, List.setIfInBounds_toArray, List.set_cons_zero, List.set_cons_succ]
            refine wpAnyH_done (by kernel_rfl) ?_ _
            exact ⟨rfl, g21, g19, rfl, ⟨(hn19 (wv.heap.size, vls 178 (clw (gcG c k k) t), 35) in0).symm, ((fun x hx => hn21 x (List.mem_cons_of_mem _ hx)) (wv.heap.size, vls 178 (clw (gcG c k k) t), 35) in0).symm⟩, k23⟩
          refine allocK 13 (fun g => _) _ k19 rfl (by rfl) (fls fun _ => 0) 30 (by unfold execOp; go_simp) (fun g => rfl) rfl (fun w24 g24 k24 hB24 hn24 => ?_) AllReadyH.nil
          refine ⟨k24.tail.tail, ?_⟩
          simp only [Act.put, List.setIfInBounds_toArray, List.set_cons_zero, List.set_cons_succ]
          refine wpAnyH_ready (rs := [8]) (by kernel_rfl) (by simp) ?_
          refine callK 8 _ _ (.tuple #[.agg (fls (nCel c k).c), .agg #[.float .f32 (nCel c k).h, .float .f32 (nCel c k).v], .int .i64 0]) k24 rfl (by rfl) 55 #[.agg (fls (rowK c k)), .agg #[.float .f32 (heC c k), .float .f32 (vaC c k)], .float .f32 1031798784] (fun w => by unfold execOp; go_simp) rfl rfl ?hc25 (fun w25 k25 => ?_) AllReadyH.nil
          case hc25 => exact HC.out _
          refine ⟨k25.tail.tail, ?_⟩
          simp only [Act.put, List.setIfInBounds_toArray, List.set_cons_zero, List.set_cons_succ]
          refine take_val 9 _ _ (.tuple #[.agg (fls (nCel c k).c), .agg #[.float .f32 (nCel c k).h, .float .f32 (nCel c k).v], .int .i64 0]) rfl (by rfl) (by kernel_rfl) (by kernel_rfl) (by kernel_rfl) (fun w => by rfl) rfl rfl k25.tail.tail ?_
          simp only [Act.put, List.setIfInBounds_toArray, List.set_cons_zero, List.set_cons_succ]
          refine take_val 10 _ _ (.agg (fls (nCel c k).c)) rfl (by rfl) (by kernel_rfl) (by kernel_rfl) (by kernel_rfl) (fun w => by unfold execOp; go_simp) rfl rfl k25.tail.tail ?_
          simp only [Act.put, List.setIfInBounds_toArray, List.set_cons_zero, List.set_cons_succ]
          refine take_val 11 _ _ (.agg #[.float .f32 (nCel c k).h, .float .f32 (nCel c k).v]) rfl (by rfl) (by kernel_rfl) (by kernel_rfl) (by kernel_rfl) (fun w => by unfold execOp; go_simp) rfl rfl k25.tail.tail ?_
          simp only [Act.put, List.setIfInBounds_toArray, List.set_cons_zero, List.set_cons_succ]
          refine take_val 12 _ _ (.int .i64 0) rfl (by rfl) (by kernel_rfl) (by kernel_rfl) (by kernel_rfl) (fun w => by unfold execOp; go_simp) rfl rfl k25.tail.tail ?_
          simp only [Act.put, List.setIfInBounds_toArray, List.set_cons_zero, List.set_cons_succ]
          refine wpAnyH_ready (rs := [15]) (by kernel_rfl) (by simp) ?_
          refine storeK 15 _ _ k25 hB24 (neC (hn24 _ in0) (fun x hx => hn24 x (List.mem_cons_of_mem _ hx))) rfl (by rfl) 30 _ _ rfl (fls (nCel c k).c) rfl rfl (by rw [fls_size]; exact info_arr) (by simp) (fls_one _) rfl rfl (fun w26 k26 => ?_) AllReadyH.nil
          refine ⟨k26.tail.tail, ?_⟩
          refine wpAnyH_ready (rs := [16]) (by kernel_rfl) (by simp) ?_
          refine storeK 16 _ _ (k26).swap hB19 (neC (hn24 _ in0).symm hn19) rfl (by rfl) 32 _ _ rfl (#[.float .f32 (nCel c k).h, .float .f32 (nCel c k).v]) rfl rfl (info_air) (by simp) (two_one _ _) rfl rfl (fun w27 k27 => ?_) AllReadyH.nil
          refine ⟨k27.tail.tail, ?_⟩
          refine take_val 17 _ _ (.int .i64 0) rfl (by rfl) (by kernel_rfl) (by kernel_rfl) (by kernel_rfl) (fun w => by rfl) rfl rfl k27.tail.tail ?_
          simp only [Act.put, List.setIfInBounds_toArray, List.set_cons_zero, List.set_cons_succ]
          refine wpAnyH_done (by kernel_rfl) ?_ _
          exact ⟨rfl, g24, g19, rfl, ⟨(hn19 (wv.heap.size, vls 178 (clw (gcG c k k) t), 35) in0).symm, ((fun x hx => hn24 x (List.mem_cons_of_mem _ hx)) (wv.heap.size, vls 178 (clw (gcG c k k) t), 35) in0).symm⟩, k27⟩
        rintro a1 wx ⟨g6, g7, rfl, hg67, k3⟩
        have HG := hid (show g6 ≠ wv.heap.size ∧ g7 ≠ wv.heap.size ∧ w.heap.size + 1 < wv.heap.size from ⟨hg67.2, hg67.1, hg⟩)
        clear hg67
        have k3 := hid k3
        clear h0
        simp only [Act.put, List.setIfInBounds_toArray, List.set_cons_zero, List.set_cons_succ]
        go_wp2_with fail
        refine region_act (w0 := w) (lk := [(g7, #[.float .f32 (nCel c k).h, .float .f32 (nCel c k).v], 32), (g6, fls (nCel c k).c, 30), (w.heap.size + 1, vls 178 (clw (fun _ => 0) 0), 35), (w.heap.size, vls 178 (clw c t), 35)]) (fun a0 a1 wq => a1 = ((((((((a0.put (some 34) (.int .i64 (k : Int))).put (some 35) (.int .i64 (k : Int))).put (some 36) (.agg (fls (nCel c k).c))).put (some 37) (.agg #[.float .f32 (nCel c k).h, .float .f32 (nCel c k).v])).put (some 38) (.pointer (some ⟨wv.heap.size, 0, none⟩))).put (some 40) (.pointer (some ⟨wv.heap.size, 160, none⟩))).put (some 39) (.pointer (some ⟨wv.heap.size, k * 20, none⟩))).put (some 41) (.pointer (some ⟨wv.heap.size, 160 + k * 2, none⟩))) ∧ Kept w [(wv.heap.size, vls 178 (clw (gcG c (k + 1) (k + 1)) t), 35), (w.heap.size + 1, vls 178 (clw (fun _ => 0) 0), 35), (w.heap.size, vls 178 (clw c t), 35)] wq) 10 #[false, false, false, false, false, false, false, false, false, false] (by kernel_rfl) rfl rfl ?_ ?_
        · have kd := k3.out.up2.drew
          have m1 := kd.lt in0
          have n1 := HG.out
          generalize World.drew _ = wd at kd m1 ⊢
          refine take_val 0 _ _ (.int .i64 (k : Int)) rfl (by rfl) (by kernel_rfl) (by kernel_rfl) (by kernel_rfl) (fun w => by rfl) rfl rfl kd.tail ?_
          simp only [Act.put, List.setIfInBounds_toArray, List.set_cons_zero, List.set_cons_succ]
          refine take_val 1 _ _ (.int .i64 (k : Int)) rfl (by rfl) (by kernel_rfl) (by kernel_rfl) (by kernel_rfl) (fun w => by rfl) rfl rfl kd.tail ?_
          simp only [Act.put, List.setIfInBounds_toArray, List.set_cons_zero, List.set_cons_succ]
          refine take_load 2 _ _ rfl (by rfl) (by kernel_rfl) (by kernel_rfl) (by kernel_rfl) 30 _ rfl (g6) (fls (nCel c k).c) 30 rfl in1 _ Tryz.underlying30 rfl (by rw [fls_size]; exact info_arr) rfl rfl kd.tail ?_
          simp only [Act.put, List.setIfInBounds_toArray, List.set_cons_zero, List.set_cons_succ]
          refine take_load 3 _ _ rfl (by rfl) (by kernel_rfl) (by kernel_rfl) (by kernel_rfl) 32 _ rfl (g7) (#[.float .f32 (nCel c k).h, .float .f32 (nCel c k).v]) 32 rfl in0 _ Tryz.underlying32 rfl (info_air) rfl rfl kd.tail ?_
          simp only [Act.put, List.setIfInBounds_toArray, List.set_cons_zero, List.set_cons_succ]
          refine take_val 4 _ _ (.pointer (some ⟨wv.heap.size, 0, none⟩)) rfl (by rfl) (by kernel_rfl) (by kernel_rfl) (by kernel_rfl) (fun w => by unfold execOp; go_simp) rfl rfl kd.tail ?_
          simp only [Act.put, List.setIfInBounds_toArray, List.set_cons_zero, List.set_cons_succ]
          refine take_val 7 _ _ (.pointer (some ⟨wv.heap.size, 160, none⟩)) rfl (by rfl) (by kernel_rfl) (by kernel_rfl) (by kernel_rfl) (fun w => by unfold execOp; go_simp) rfl rfl kd.tail ?_
          simp only [Act.put, List.setIfInBounds_toArray, List.set_cons_zero, List.set_cons_succ]
          refine take_val 5 _ _ (.pointer (some ⟨wv.heap.size, k * 20, none⟩)) rfl (by rfl) (by kernel_rfl) (by kernel_rfl) (by kernel_rfl) (fun w => by unfold execOp; go_simp) rfl rfl kd.tail ?_
          simp only [Act.put, List.setIfInBounds_toArray, List.set_cons_zero, List.set_cons_succ]
          refine wpAnyH_ready (rs := [6]) (by kernel_rfl) (by simp) ?_
          refine storeCutK 6 _ kd (by omega) (neC HG.out.2.1 (neC HG.out.1 (neC (by have := HG.out.2.2; omega) (neC (by have := HG.out.2.2; omega) ne0)))) rfl (by rfl) 30 _ _ rfl (k * 20) 20 (flw (nCel c k).c) (fls (nCel c k).c) rfl (by have := HL.out; omega) rfl rfl (fun _ => rfl) info_arr rfl (fun w6 k6 => ?_) AllReadyH.nil
          replace k6 := k6.ext (fun i _ => gcG_row HL.out t i)
          refine ⟨k6.tail, ?_⟩
          refine take_val 8 _ _ (.pointer (some ⟨wv.heap.size, 160 + k * 2, none⟩)) rfl (by rfl) (by kernel_rfl) (by kernel_rfl) (by kernel_rfl) (fun w => by unfold execOp; go_simp) rfl rfl k6.tail ?_
          simp only [Act.put, List.setIfInBounds_toArray, List.set_cons_zero, List.set_cons_succ]
          refine wpAnyH_ready (rs := [9]) (by kernel_rfl) (by simp) ?_
          refine storeCutK 9 _ k6 (by omega) (neC HG.out.2.1 (neC HG.out.1 (neC (by have := HG.out.2.2; omega) (neC (by have := HG.out.2.2; omega) ne0)))) rfl (by rfl) 32 _ _ rfl (160 + k * 2) 2 (twoW (nCel c k).h (nCel c k).v) #[.float .f32 (nCel c k).h, .float .f32 (nCel c k).v] rfl (by have := HL.out; omega) rfl rfl (twoW_one _ _) info_air rfl (fun w7 k7 => ?_) AllReadyH.nil
          replace k7 := k7.ext (fun i _ => gcG_air HL.out t i)
          refine ⟨k7.tail, ?_⟩
          refine wpAnyH_done (by kernel_rfl) ?_ _
          exact ⟨rfl, rfl, k7.sub (pick3 _ _ _ _ _)⟩
        rintro a1 wy ⟨rfl, k4⟩
        have k4 := hid k4
        clear k3 HC
        simp only [Act.put, List.setIfInBounds_toArray, List.set_cons_zero, List.set_cons_succ]
        go_wp2_with fail
        go_roundw
        case rel => exact ⟨k + 1, HK2.out, by go_num, k4⟩
        case measure => simp [intOf]; omega
      · obtain rfl : k = K := by omega
        have HC := hid (fun w => iOnce_f tickT (gCel c k) HV.out HVL.out (HN.out h8) w)
        obtain ⟨rfl, rfl, rfl⟩ := HR0.out (by omega)
        clear hlt hk HR1 HR0
        go_wp2_with fail
        refine region_act (w0 := w) (lk := [(wv.heap.size, vls 178 (clw (gcG c k k) t), 35), (w.heap.size + 1, vls 178 (clw (fun _ => 0) 0), 35), (w.heap.size, vls 178 (clw c t), 35)]) (fun a0 a1 wq => ∃ g6 g7 : Nat, a1 = ((((((((((((((((a0.put (some 18) (.int .i64 (k : Int))).put (some 19) (.pointer (some ⟨w.heap.size, 0, none⟩))).put (some 20) (.pointer (some ⟨w.heap.size, k * 20, none⟩))).put (some 21) (.agg (fls (rowK c k)))).put (some 22) (.int .i64 (k : Int))).put (some 23) (.pointer (some ⟨w.heap.size, 160, none⟩))).put (some 24) (.pointer (some ⟨w.heap.size, 160 + k * 2, none⟩))).put (some 25) (.agg #[.float .f32 (heC c k), .float .f32 (vaC c k)])).put (some 26) (.tuple #[.agg (fls (fun _ => 0)), .agg #[.float .f32 0, .float .f32 0], .int .i64 4])).put (some 17) (.tuple #[.agg (fls (fun _ => 0)), .agg #[.float .f32 0, .float .f32 0], .int .i64 4])).put (some 27) (.agg (fls (fun _ => 0)))).put (some 28) (.agg #[.float .f32 0, .float .f32 0])).put (some 29) (.int .i64 4)).put (some 6) (.pointer (some ⟨g6, 0, none⟩))).put (some 7) (.pointer (some ⟨g7, 0, none⟩))).put (some 8) (.int .i64 4)) ∧ (g7 ≠ wv.heap.size ∧ g6 ≠ wv.heap.size) ∧ Kept w [(g7, #[.float .f32 0, .float .f32 0], 32), (g6, fls (fun _ => 0), 30), (wv.heap.size, vls 178 (clw (gcG c k k) t), 35), (w.heap.size + 1, vls 178 (clw (fun _ => 0) 0), 35), (w.heap.size, vls 178 (clw c t), 35)] wq) 18 #[false, false, false, false, false, false, false, false, false, false, false, false, false, false, false, false, false, false] (by kernel_rfl) rfl rfl ?_ ?_
        · have kd := h0.out.drew
          generalize World.drew _ = wd at kd ⊢
          refine take_val 0 _ _ (.int .i64 (k : Int)) rfl (by rfl) (by kernel_rfl) (by kernel_rfl) (by kernel_rfl) (fun w => by rfl) rfl rfl kd ?_
          simp only [Act.put, List.setIfInBounds_toArray, List.set_cons_zero, List.set_cons_succ]
          refine take_val 1 _ _ (.pointer (some ⟨w.heap.size, 0, none⟩)) rfl (by rfl) (by kernel_rfl) (by kernel_rfl) (by kernel_rfl) (fun w => by unfold execOp; go_simp) rfl rfl kd ?_
          simp only [Act.put, List.setIfInBounds_toArray, List.set_cons_zero, List.set_cons_succ]
          refine take_val 2 _ _ (.pointer (some ⟨w.heap.size, k * 20, none⟩)) rfl (by rfl) (by kernel_rfl) (by kernel_rfl) (by kernel_rfl) (fun w => by unfold execOp; go_simp) rfl rfl kd ?_
          simp only [Act.put, List.setIfInBounds_toArray, List.set_cons_zero, List.set_cons_succ]
          refine take_cell 3 _ _ (.agg (fls (rowK c k))) rfl (by rfl) (by kernel_rfl) (by kernel_rfl) (by kernel_rfl) (fun wq hS => run_load_as 30 _ (w.heap.size) (k * 20) 20 rfl (hS.v in2) (by have := HL.out; omega) (fls (rowK c k)) (part_dr _ t (by have := HL.out; omega)) _ Tryz.underlying30 (by rfl) info_arr) rfl rfl kd ?_
          simp only [Act.put, List.setIfInBounds_toArray, List.set_cons_zero, List.set_cons_succ]
          refine take_val 4 _ _ (.int .i64 (k : Int)) rfl (by rfl) (by kernel_rfl) (by kernel_rfl) (by kernel_rfl) (fun w => by rfl) rfl rfl kd ?_
          simp only [Act.put, List.setIfInBounds_toArray, List.set_cons_zero, List.set_cons_succ]
          refine take_val 5 _ _ (.pointer (some ⟨w.heap.size, 160, none⟩)) rfl (by rfl) (by kernel_rfl) (by kernel_rfl) (by kernel_rfl) (fun w => by unfold execOp; go_simp) rfl rfl kd ?_
          simp only [Act.put, List.setIfInBounds_toArray, List.set_cons_zero, List.set_cons_succ]
          refine take_val 6 _ _ (.pointer (some ⟨w.heap.size, 160 + k * 2, none⟩)) rfl (by rfl) (by kernel_rfl) (by kernel_rfl) (by kernel_rfl) (fun w => by unfold execOp; go_simp) rfl rfl kd ?_
          simp only [Act.put, List.setIfInBounds_toArray, List.set_cons_zero, List.set_cons_succ]
          refine take_cell 7 _ _ (.agg #[.float .f32 (heC c k), .float .f32 (vaC c k)]) rfl (by rfl) (by kernel_rfl) (by kernel_rfl) (by kernel_rfl) (fun wq hS => run_load_as 32 _ (w.heap.size) (160 + k * 2) 2 rfl (hS.v in2) (by have := HL.out; omega) #[.float .f32 (heC c k), .float .f32 (vaC c k)] (part_air _ t (by have := HL.out; omega)) _ Tryz.underlying32 (by rfl) info_air) rfl rfl kd ?_
          simp only [Act.put, List.setIfInBounds_toArray, List.set_cons_zero, List.set_cons_succ]
          refine wpAnyH_ready (rs := [8, 13, 14]) (by kernel_rfl) (by simp) ?_
          refine callK 8 _ _ (.tuple #[.agg (fls (fun _ => 0)), .agg #[.float .f32 0, .float .f32 0], .int .i64 4]) kd rfl (by rfl) 55 #[.agg (fls (rowK c k)), .agg #[.float .f32 (heC c k), .float .f32 (vaC c k)], .float .f32 1031798784] (fun w => by unfold execOp; go_simp) rfl rfl ?hc1 (fun w1 k1 => ?_) ?_
          case hc1 => exact HC.out _
          · refine ⟨k1, ?_⟩
            simp only [Act.put, List.setIfInBounds_toArray, List.set_cons_zero, List.set_cons_succ]
            refine take_val 9 _ _ (.tuple #[.agg (fls (fun _ => 0)), .agg #[.float .f32 0, .float .f32 0], .int .i64 4]) rfl (by rfl) (by kernel_rfl) (by kernel_rfl) (by kernel_rfl) (fun w => by rfl) rfl rfl k1 ?_
            simp only [Act.put, List.setIfInBounds_toArray, List.set_cons_zero, List.set_cons_succ]
            refine take_val 10 _ _ (.agg (fls (fun _ => 0))) rfl (by rfl) (by kernel_rfl) (by kernel_rfl) (by kernel_rfl) (fun w => by unfold execOp; go_simp) rfl rfl k1 ?_
            simp only [Act.put, List.setIfInBounds_toArray, List.set_cons_zero, List.set_cons_succ]
            refine take_val 11 _ _ (.agg #[.float .f32 0, .float .f32 0]) rfl (by rfl) (by kernel_rfl) (by kernel_rfl) (by kernel_rfl) (fun w => by unfold execOp; go_simp) rfl rfl k1 ?_
            simp only [Act.put, List.setIfInBounds_toArray, List.set_cons_zero, List.set_cons_succ]
            refine take_val 12 _ _ (.int .i64 4) rfl (by rfl) (by kernel_rfl) (by kernel_rfl) (by kernel_rfl) (fun w => by unfold execOp; go_simp) rfl rfl k1 ?_
            simp only [Act.put, List.setIfInBounds_toArray, List.set_cons_zero, List.set_cons_succ]
            refine wpAnyH_ready (rs := [13, 14]) (by kernel_rfl) (by simp) ?_
            refine allocK 13 (fun g => _) _ k1 rfl (by rfl) (fls fun _ => 0) 30 (by unfold execOp; go_simp) (fun g => rfl) rfl (fun w2 g2 k2 hB2 hn2 => ?_) ?_
            · refine ⟨k2.tail, ?_⟩
              simp only [Act.put, List.setIfInBounds_toArray, List.set_cons_zero, List.set_cons_succ]
              refine wpAnyH_ready (rs := [14]) (by kernel_rfl) (by simp) ?_
              refine allocK 14 (fun g => _) _ k2 rfl (by rfl) (#[.float .f32 0, .float .f32 0]) 32 (by unfold execOp; go_simp) (fun g => rfl) rfl (fun w3 g3 k3 hB3 hn3 => ?_) AllReadyH.nil
              refine ⟨k3.tail.tail, ?_⟩
              simp only [Act.put, List.setIfInBounds_toArray, List.set_cons_zero, List.set_cons_succ]
              refine wpAnyH_ready (rs := [15]) (by kernel_rfl) (by simp) ?_
              refine storeK 15 _ _ (k3).swap hB2 (neC (hn3 _ in0).symm hn2) rfl (by rfl) 30 _ _ rfl (fls (fun _ => 0)) rfl rfl (by rw [fls_size]; exact info_arr) (by simp) (fls_one _) rfl rfl (fun w4 k4 => ?_) AllReadyH.nil
              refine ⟨k4.tail.tail, ?_⟩
              refine wpAnyH_ready (rs := [16]) (by kernel_rfl) (by simp) ?_
              refine storeK 16 _ _ (k4).swap hB3 (neC (hn3 _ in0) (fun x hx => hn3 x (List.mem_cons_of_mem _ hx))) rfl (by rfl) 32 _ _ rfl (#[.float .f32 0, .float .f32 0]) rfl rfl (info_air) (by simp) (two_one _ _) rfl rfl (fun w5 k5 => ?_) AllReadyH.nil
              refine ⟨k5.tail.tail, ?_⟩
              refine take_val 17 _ _ (.int .i64 4) rfl (by rfl) (by kernel_rfl) (by kernel_rfl) (by kernel_rfl) (fun w => by rfl) rfl rfl k5.tail.tail ?_
              simp only [Act.put, List.setIfInBounds_toArray, List.set_cons_zero, List.set_cons_succ]
              refine wpAnyH_done (by kernel_rfl) ?_ _
              exact ⟨rfl, g2, g3, rfl, ⟨((fun x hx => hn3 x (List.mem_cons_of_mem _ hx)) (wv.heap.size, vls 178 (clw (gcG c k k) t), 35) in0).symm, (hn2 (wv.heap.size, vls 178 (clw (gcG c k k) t), 35) in0).symm⟩, k5⟩
            refine allocK 14 (fun g => _) _ k1 rfl (by rfl) (#[.float .f32 0, .float .f32 0]) 32 (by unfold execOp; go_simp) (fun g => rfl) rfl (fun w6 g6 k6 hB6 hn6 => ?_) AllReadyH.nil
            refine ⟨k6.tail, ?_⟩
            simp only [Act.put, List.setIfInBounds_toArray, List.set_cons_zero, List.set_cons_succ]
            refine wpAnyH_ready (rs := [13]) (by kernel_rfl) (by simp) ?_
            refine allocK 13 (fun g => _) _ k6 rfl (by rfl) (fls fun _ => 0) 30 (by unfold execOp; go_simp) (fun g => rfl) rfl (fun w7 g7 k7 hB7 hn7 => ?_) AllReadyH.nil
            refine ⟨k7.tail.tail, ?_⟩
            simp only [Act.put, List.setIfInBounds_toArray, List.set_cons_zero, List.set_cons_succ]
            refine wpAnyH_ready (rs := [15]) (by kernel_rfl) (by simp) ?_
            refine storeK 15 _ _ k7 hB7 (neC (hn7 _ in0) (fun x hx => hn7 x (List.mem_cons_of_mem _ hx))) rfl (by rfl) 30 _ _ rfl (fls (fun _ => 0)) rfl rfl (by rw [fls_size]; exact info_arr) (by simp) (fls_one _) rfl rfl (fun w8 k8 => ?_) AllReadyH.nil
            refine ⟨k8.tail.tail, ?_⟩
            refine wpAnyH_ready (rs := [16]) (by kernel_rfl) (by simp) ?_
            refine storeK 16 _ _ (k8).swap hB6 (neC (hn7 _ in0).symm hn6) rfl (by rfl) 32 _ _ rfl (#[.float .f32 0, .float .f32 0]) rfl rfl (info_air) (by simp) (two_one _ _) rfl rfl (fun w9 k9 => ?_) AllReadyH.nil
            refine ⟨k9.tail.tail, ?_⟩
            refine take_val 17 _ _ (.int .i64 4) rfl (by rfl) (by kernel_rfl) (by kernel_rfl) (by kernel_rfl) (fun w => by rfl) rfl rfl k9.tail.tail ?_
            simp only [Act.put, List.setIfInBounds_toArray, List.set_cons_zero, List.set_cons_succ]
            refine wpAnyH_done (by kernel_rfl) ?_ _
            exact ⟨rfl, g7, g6, rfl, ⟨(hn6 (wv.heap.size, vls 178 (clw (gcG c k k) t), 35) in0).symm, ((fun x hx => hn7 x (List.mem_cons_of_mem _ hx)) (wv.heap.size, vls 178 (clw (gcG c k k) t), 35) in0).symm⟩, k9⟩
          refine allocK 13 (fun g => _) _ kd rfl (by rfl) (fls fun _ => 0) 30 (by unfold execOp; go_simp) (fun g => rfl) rfl (fun w10 g10 k10 hB10 hn10 => ?_) ?_
          · refine ⟨k10.tail, ?_⟩
            simp only [Act.put, List.setIfInBounds_toArray, List.set_cons_zero, List.set_cons_succ]
            refine wpAnyH_ready (rs := [8, 14]) (by kernel_rfl) (by simp) ?_
            refine callK 8 _ _ (.tuple #[.agg (fls (fun _ => 0)), .agg #[.float .f32 0, .float .f32 0], .int .i64 4]) k10 rfl (by rfl) 55 #[.agg (fls (rowK c k)), .agg #[.float .f32 (heC c k), .float .f32 (vaC c k)], .float .f32 1031798784] (fun w => by unfold execOp; go_simp) rfl rfl ?hc11 (fun w11 k11 => ?_) ?_
            case hc11 => exact HC.out _
            · refine ⟨k11.tail, ?_⟩
              simp only [Act.put, List.setIfInBounds_toArray, List.set_cons_zero, List.set_cons_succ]
              refine take_val 9 _ _ (.tuple #[.agg (fls (fun _ => 0)), .agg #[.float .f32 0, .float .f32 0], .int .i64 4]) rfl (by rfl) (by kernel_rfl) (by kernel_rfl) (by kernel_rfl) (fun w => by rfl) rfl rfl k11.tail ?_
              simp only [Act.put, List.setIfInBounds_toArray, List.set_cons_zero, List.set_cons_succ]
              refine take_val 10 _ _ (.agg (fls (fun _ => 0))) rfl (by rfl) (by kernel_rfl) (by kernel_rfl) (by kernel_rfl) (fun w => by unfold execOp; go_simp) rfl rfl k11.tail ?_
              simp only [Act.put, List.setIfInBounds_toArray, List.set_cons_zero, List.set_cons_succ]
              refine take_val 11 _ _ (.agg #[.float .f32 0, .float .f32 0]) rfl (by rfl) (by kernel_rfl) (by kernel_rfl) (by kernel_rfl) (fun w => by unfold execOp; go_simp) rfl rfl k11.tail ?_
              simp only [Act.put, List.setIfInBounds_toArray, List.set_cons_zero, List.set_cons_succ]
              refine take_val 12 _ _ (.int .i64 4) rfl (by rfl) (by kernel_rfl) (by kernel_rfl) (by kernel_rfl) (fun w => by unfold execOp; go_simp) rfl rfl k11.tail ?_
              simp only [Act.put, List.setIfInBounds_toArray, List.set_cons_zero, List.set_cons_succ]
              refine wpAnyH_ready (rs := [14]) (by kernel_rfl) (by simp) ?_
              refine allocK 14 (fun g => _) _ k11 rfl (by rfl) (#[.float .f32 0, .float .f32 0]) 32 (by unfold execOp; go_simp) (fun g => rfl) rfl (fun w12 g12 k12 hB12 hn12 => ?_) AllReadyH.nil
              refine ⟨k12.tail.tail, ?_⟩
              simp only [Act.put, List.setIfInBounds_toArray, List.set_cons_zero, List.set_cons_succ]
              refine wpAnyH_ready (rs := [15]) (by kernel_rfl) (by simp) ?_
              refine storeK 15 _ _ (k12).swap hB10 (neC (hn12 _ in0).symm hn10) rfl (by rfl) 30 _ _ rfl (fls (fun _ => 0)) rfl rfl (by rw [fls_size]; exact info_arr) (by simp) (fls_one _) rfl rfl (fun w13 k13 => ?_) AllReadyH.nil
              refine ⟨k13.tail.tail, ?_⟩
              refine wpAnyH_ready (rs := [16]) (by kernel_rfl) (by simp) ?_
              refine storeK 16 _ _ (k13).swap hB12 (neC (hn12 _ in0) (fun x hx => hn12 x (List.mem_cons_of_mem _ hx))) rfl (by rfl) 32 _ _ rfl (#[.float .f32 0, .float .f32 0]) rfl rfl (info_air) (by simp) (two_one _ _) rfl rfl (fun w14 k14 => ?_) AllReadyH.nil
              refine ⟨k14.tail.tail, ?_⟩
              refine take_val 17 _ _ (.int .i64 4) rfl (by rfl) (by kernel_rfl) (by kernel_rfl) (by kernel_rfl) (fun w => by rfl) rfl rfl k14.tail.tail ?_
              simp only [Act.put, List.setIfInBounds_toArray, List.set_cons_zero, List.set_cons_succ]
              refine wpAnyH_done (by kernel_rfl) ?_ _
              exact ⟨rfl, g10, g12, rfl, ⟨((fun x hx => hn12 x (List.mem_cons_of_mem _ hx)) (wv.heap.size, vls 178 (clw (gcG c k k) t), 35) in0).symm, (hn10 (wv.heap.size, vls 178 (clw (gcG c k k) t), 35) in0).symm⟩, k14⟩
            refine allocK 14 (fun g => _) _ k10 rfl (by rfl) (#[.float .f32 0, .float .f32 0]) 32 (by unfold execOp; go_simp) (fun g => rfl) rfl (fun w15 g15 k15 hB15 hn15 => ?_) AllReadyH.nil
            refine ⟨k15.tail.tail, ?_⟩
            simp only [Act.put, List.setIfInBounds_toArray, List.set_cons_zero, List.set_cons_succ]
            refine wpAnyH_ready (rs := [8]) (by kernel_rfl) (by simp) ?_
            refine callK 8 _ _ (.tuple #[.agg (fls (fun _ => 0)), .agg #[.float .f32 0, .float .f32 0], .int .i64 4]) k15 rfl (by rfl) 55 #[.agg (fls (rowK c k)), .agg #[.float .f32 (heC c k), .float .f32 (vaC c k)], .float .f32 1031798784] (fun w => by unfold execOp; go_simp) rfl rfl ?hc16 (fun w16 k16 => ?_) AllReadyH.nil
            case hc16 => exact HC.out _
            refine ⟨k16.tail.tail, ?_⟩
            simp only [Act.put, List.setIfInBounds_toArray, List.set_cons_zero, List.set_cons_succ]
            refine take_val 9 _ _ (.tuple #[.agg (fls (fun _ => 0)), .agg #[.float .f32 0, .float .f32 0], .int .i64 4]) rfl (by rfl) (by kernel_rfl) (by kernel_rfl) (by kernel_rfl) (fun w => by rfl) rfl rfl k16.tail.tail ?_
            simp only [Act.put, List.setIfInBounds_toArray, List.set_cons_zero, List.set_cons_succ]
            refine take_val 10 _ _ (.agg (fls (fun _ => 0))) rfl (by rfl) (by kernel_rfl) (by kernel_rfl) (by kernel_rfl) (fun w => by unfold execOp; go_simp) rfl rfl k16.tail.tail ?_
            simp only [Act.put, List.setIfInBounds_toArray, List.set_cons_zero, List.set_cons_succ]
            refine take_val 11 _ _ (.agg #[.float .f32 0, .float .f32 0]) rfl (by rfl) (by kernel_rfl) (by kernel_rfl) (by kernel_rfl) (fun w => by unfold execOp; go_simp) rfl rfl k16.tail.tail ?_
            simp only [Act.put, List.setIfInBounds_toArray, List.set_cons_zero, List.set_cons_succ]
            refine take_val 12 _ _ (.int .i64 4) rfl (by rfl) (by kernel_rfl) (by kernel_rfl) (by kernel_rfl) (fun w => by unfold execOp; go_simp) rfl rfl k16.tail.tail ?_
            simp only [Act.put, List.setIfInBounds_toArray, List.set_cons_zero, List.set_cons_succ]
            refine wpAnyH_ready (rs := [15]) (by kernel_rfl) (by simp) ?_
            refine storeK 15 _ _ (k16).swap hB10 (neC (hn15 _ in0).symm hn10) rfl (by rfl) 30 _ _ rfl (fls (fun _ => 0)) rfl rfl (by rw [fls_size]; exact info_arr) (by simp) (fls_one _) rfl rfl (fun w17 k17 => ?_) AllReadyH.nil
            refine ⟨k17.tail.tail, ?_⟩
            refine wpAnyH_ready (rs := [16]) (by kernel_rfl) (by simp) ?_
            refine storeK 16 _ _ (k17).swap hB15 (neC (hn15 _ in0) (fun x hx => hn15 x (List.mem_cons_of_mem _ hx))) rfl (by rfl) 32 _ _ rfl (#[.float .f32 0, .float .f32 0]) rfl rfl (info_air) (by simp) (two_one _ _) rfl rfl (fun w18 k18 => ?_) AllReadyH.nil
            refine ⟨k18.tail.tail, ?_⟩
            refine take_val 17 _ _ (.int .i64 4) rfl (by rfl) (by kernel_rfl) (by kernel_rfl) (by kernel_rfl) (fun w => by rfl) rfl rfl k18.tail.tail ?_
            simp only [Act.put, List.setIfInBounds_toArray, List.set_cons_zero, List.set_cons_succ]
            refine wpAnyH_done (by kernel_rfl) ?_ _
            exact ⟨rfl, g10, g15, rfl, ⟨((fun x hx => hn15 x (List.mem_cons_of_mem _ hx)) (wv.heap.size, vls 178 (clw (gcG c k k) t), 35) in0).symm, (hn10 (wv.heap.size, vls 178 (clw (gcG c k k) t), 35) in0).symm⟩, k18⟩
          refine allocK 14 (fun g => _) _ kd rfl (by rfl) (#[.float .f32 0, .float .f32 0]) 32 (by unfold execOp; go_simp) (fun g => rfl) rfl (fun w19 g19 k19 hB19 hn19 => ?_) AllReadyH.nil
          refine ⟨k19.tail, ?_⟩
          simp only [Act.put, List.setIfInBounds_toArray, List.set_cons_zero, List.set_cons_succ]
          refine wpAnyH_ready (rs := [8, 13]) (by kernel_rfl) (by simp) ?_
          refine callK 8 _ _ (.tuple #[.agg (fls (fun _ => 0)), .agg #[.float .f32 0, .float .f32 0], .int .i64 4]) k19 rfl (by rfl) 55 #[.agg (fls (rowK c k)), .agg #[.float .f32 (heC c k), .float .f32 (vaC c k)], .float .f32 1031798784] (fun w => by unfold execOp; go_simp) rfl rfl ?hc20 (fun w20 k20 => ?_) ?_
          case hc20 => exact HC.out _
          · refine ⟨k20.tail, ?_⟩
            simp only [Act.put, List.setIfInBounds_toArray, List.set_cons_zero, List.set_cons_succ]
            refine take_val 9 _ _ (.tuple #[.agg (fls (fun _ => 0)), .agg #[.float .f32 0, .float .f32 0], .int .i64 4]) rfl (by rfl) (by kernel_rfl) (by kernel_rfl) (by kernel_rfl) (fun w => by rfl) rfl rfl k20.tail ?_
            simp only [Act.put, List.setIfInBounds_toArray, List.set_cons_zero, List.set_cons_succ]
            refine take_val 10 _ _ (.agg (fls (fun _ => 0))) rfl (by rfl) (by kernel_rfl) (by kernel_rfl) (by kernel_rfl) (fun w => by unfold execOp; go_simp) rfl rfl k20.tail ?_
            simp only [Act.put, List.setIfInBounds_toArray, List.set_cons_zero, List.set_cons_succ]
            refine take_val 11 _ _ (.agg #[.float .f32 0, .float .f32 0]) rfl (by rfl) (by kernel_rfl) (by kernel_rfl) (by kernel_rfl) (fun w => by unfold execOp; go_simp) rfl rfl k20.tail ?_
            simp only [Act.put, List.setIfInBounds_toArray, List.set_cons_zero, List.set_cons_succ]
            refine take_val 12 _ _ (.int .i64 4) rfl (by rfl) (by kernel_rfl) (by kernel_rfl) (by kernel_rfl) (fun w => by unfold execOp; go_simp) rfl rfl k20.tail ?_
            simp only [Act.put, List.setIfInBounds_toArray, List.set_cons_zero, List.set_cons_succ]
            refine wpAnyH_ready (rs := [13]) (by kernel_rfl) (by simp) ?_
            refine allocK 13 (fun g => _) _ k20 rfl (by rfl) (fls fun _ => 0) 30 (by unfold execOp; go_simp) (fun g => rfl) rfl (fun w21 g21 k21 hB21 hn21 => ?_) AllReadyH.nil
            refine ⟨k21.tail.tail, ?_⟩
            simp only [Act.put, List.setIfInBounds_toArray, List.set_cons_zero, List.set_cons_succ]
            refine wpAnyH_ready (rs := [15]) (by kernel_rfl) (by simp) ?_
            refine storeK 15 _ _ k21 hB21 (neC (hn21 _ in0) (fun x hx => hn21 x (List.mem_cons_of_mem _ hx))) rfl (by rfl) 30 _ _ rfl (fls (fun _ => 0)) rfl rfl (by rw [fls_size]; exact info_arr) (by simp) (fls_one _) rfl rfl (fun w22 k22 => ?_) AllReadyH.nil
            refine ⟨k22.tail.tail, ?_⟩
            refine wpAnyH_ready (rs := [16]) (by kernel_rfl) (by simp) ?_
            refine storeK 16 _ _ (k22).swap hB19 (neC (hn21 _ in0).symm hn19) rfl (by rfl) 32 _ _ rfl (#[.float .f32 0, .float .f32 0]) rfl rfl (info_air) (by simp) (two_one _ _) rfl rfl (fun w23 k23 => ?_) AllReadyH.nil
            refine ⟨k23.tail.tail, ?_⟩
            refine take_val 17 _ _ (.int .i64 4) rfl (by rfl) (by kernel_rfl) (by kernel_rfl) (by kernel_rfl) (fun w => by rfl) rfl rfl k23.tail.tail ?_
            simp only [Act.put, List.setIfInBounds_toArray, List.set_cons_zero, List.set_cons_succ]
            refine wpAnyH_done (by kernel_rfl) ?_ _
            exact ⟨rfl, g21, g19, rfl, ⟨(hn19 (wv.heap.size, vls 178 (clw (gcG c k k) t), 35) in0).symm, ((fun x hx => hn21 x (List.mem_cons_of_mem _ hx)) (wv.heap.size, vls 178 (clw (gcG c k k) t), 35) in0).symm⟩, k23⟩
          refine allocK 13 (fun g => _) _ k19 rfl (by rfl) (fls fun _ => 0) 30 (by unfold execOp; go_simp) (fun g => rfl) rfl (fun w24 g24 k24 hB24 hn24 => ?_) AllReadyH.nil
          refine ⟨k24.tail.tail, ?_⟩
          simp only [Act.put, List.setIfInBounds_toArray, List.set_cons_zero, List.set_cons_succ]
          refine wpAnyH_ready (rs := [8]) (by kernel_rfl) (by simp) ?_
          refine callK 8 _ _ (.tuple #[.agg (fls (fun _ => 0)), .agg #[.float .f32 0, .float .f32 0], .int .i64 4]) k24 rfl (by rfl) 55 #[.agg (fls (rowK c k)), .agg #[.float .f32 (heC c k), .float .f32 (vaC c k)], .float .f32 1031798784] (fun w => by unfold execOp; go_simp) rfl rfl ?hc25 (fun w25 k25 => ?_) AllReadyH.nil
          case hc25 => exact HC.out _
          refine ⟨k25.tail.tail, ?_⟩
          simp only [Act.put, List.setIfInBounds_toArray, List.set_cons_zero, List.set_cons_succ]
          refine take_val 9 _ _ (.tuple #[.agg (fls (fun _ => 0)), .agg #[.float .f32 0, .float .f32 0], .int .i64 4]) rfl (by rfl) (by kernel_rfl) (by kernel_rfl) (by kernel_rfl) (fun w => by rfl) rfl rfl k25.tail.tail ?_
          simp only [Act.put, List.setIfInBounds_toArray, List.set_cons_zero, List.set_cons_succ]
          refine take_val 10 _ _ (.agg (fls (fun _ => 0))) rfl (by rfl) (by kernel_rfl) (by kernel_rfl) (by kernel_rfl) (fun w => by unfold execOp; go_simp) rfl rfl k25.tail.tail ?_
          simp only [Act.put, List.setIfInBounds_toArray, List.set_cons_zero, List.set_cons_succ]
          refine take_val 11 _ _ (.agg #[.float .f32 0, .float .f32 0]) rfl (by rfl) (by kernel_rfl) (by kernel_rfl) (by kernel_rfl) (fun w => by unfold execOp; go_simp) rfl rfl k25.tail.tail ?_
          simp only [Act.put, List.setIfInBounds_toArray, List.set_cons_zero, List.set_cons_succ]
          refine take_val 12 _ _ (.int .i64 4) rfl (by rfl) (by kernel_rfl) (by kernel_rfl) (by kernel_rfl) (fun w => by unfold execOp; go_simp) rfl rfl k25.tail.tail ?_
          simp only [Act.put, List.setIfInBounds_toArray, List.set_cons_zero, List.set_cons_succ]
          refine wpAnyH_ready (rs := [15]) (by kernel_rfl) (by simp) ?_
          refine storeK 15 _ _ k25 hB24 (neC (hn24 _ in0) (fun x hx => hn24 x (List.mem_cons_of_mem _ hx))) rfl (by rfl) 30 _ _ rfl (fls (fun _ => 0)) rfl rfl (by rw [fls_size]; exact info_arr) (by simp) (fls_one _) rfl rfl (fun w26 k26 => ?_) AllReadyH.nil
          refine ⟨k26.tail.tail, ?_⟩
          refine wpAnyH_ready (rs := [16]) (by kernel_rfl) (by simp) ?_
          refine storeK 16 _ _ (k26).swap hB19 (neC (hn24 _ in0).symm hn19) rfl (by rfl) 32 _ _ rfl (#[.float .f32 0, .float .f32 0]) rfl rfl (info_air) (by simp) (two_one _ _) rfl rfl (fun w27 k27 => ?_) AllReadyH.nil
          refine ⟨k27.tail.tail, ?_⟩
          refine take_val 17 _ _ (.int .i64 4) rfl (by rfl) (by kernel_rfl) (by kernel_rfl) (by kernel_rfl) (fun w => by rfl) rfl rfl k27.tail.tail ?_
          simp only [Act.put, List.setIfInBounds_toArray, List.set_cons_zero, List.set_cons_succ]
          refine wpAnyH_done (by kernel_rfl) ?_ _
          exact ⟨rfl, g24, g19, rfl, ⟨(hn19 (wv.heap.size, vls 178 (clw (gcG c k k) t), 35) in0).symm, ((fun x hx => hn24 x (List.mem_cons_of_mem _ hx)) (wv.heap.size, vls 178 (clw (gcG c k k) t), 35) in0).symm⟩, k27⟩
        rintro a1 wx ⟨g6, g7, rfl, hg67, k3⟩
        have k3 := hid k3.tail.tail.swap
        clear h0 hg67 HC
        simp only [Act.put, List.setIfInBounds_toArray, List.set_cons_zero, List.set_cons_succ]
        have tok1 : True := trivial
        go_wp2_with (have _t := tok1; refine store_row (by rfl) 35 _ _ (by rfl) (w.heap.size + 1) (vls 178 (clw (fun _ => 0) 0)) (vls 178 (clw (fun _ => 0) 0)) (by rfl) (by rfl) k3.out (by rw [vls_size]; exact info_col) (by simp) (vls_one (clw_one _ _)) (by omega) (neC (by omega) (neC (by omega) ne0)) ?_; intro wz k4; replace k4 := hid k4; clear k3 tok1)
        exact bodyPost_ret (results_row_tmp rfl _ _ (w.heap.size + 1) 35 (vls 178 (clw (fun _ => 0) 0)) (0, 0) _ rfl (k4.out.at (x := (w.heap.size + 1, vls 178 (clw (fun _ => 0) 0), 35)) in0) Tryz.underlying35 rfl (by rw [vls_size]; exact info_col)) rfl ⟨rfl, k4.out.1⟩
    · obtain rfl : k = 8 := by omega
      obtain rfl : K = 8 := by omega
      obtain ⟨rfl, rfl, rfl⟩ := HR1.out rfl
      have tok1 : True := trivial
      have k3 := hid h0.out.swap
      clear h0 HR1 HR0
      go_wp2_with (first
        | (have _t := tok1; clear tok1; refine wpList_load_row rfl 35 _ rfl (wv.heap.size) rfl 35 (vls 178 (clw (gcG c 8 8) s)) (0, 0) _ (k3.out.v in1) Tryz.underlying35 rfl (by rw [vls_size]; exact info_col) ?_; have tok2 : True := trivial)
        | (have _t := tok2; clear tok2; refine store_row (by rfl) 35 _ _ (by rfl) (w.heap.size + 1) (vls 178 (clw (gcG c 8 8) s)) (vls 178 (clw (fun _ => 0) 0)) (by rfl) (by rfl) k3.out (by rw [vls_size]; exact info_col) (by simp) (vls_one (clw_one _ _)) (by omega) (neC (by omega) (neC (by omega) ne0)) ?_; intro wz k4; replace k4 := hid k4; clear k3))
      exact bodyPost_ret (results_row_tmp rfl _ _ (w.heap.size + 1) 35 (vls 178 (clw (gcG c 8 8) s)) (0, 0) _ rfl (k4.out.at (x := (w.heap.size + 1, vls 178 (clw (gcG c 8 8) s), 35)) in0) Tryz.underlying35 rfl (by rw [vls_size]; exact info_col)) rfl ⟨rfl, k4.out.1⟩

set_option maxRecDepth 100000 in
theorem sWaterAt (c : Nat → Nat) (h : Amts c) (w : World) (g o : Nat) (hC : ∀ w', Below w.heap.size w w' → ∀ k, k < 20 → w'.cell? ⟨g, o + k, none⟩ = some (.float .f32 (c k))) :
    Calls Tryz.prog 135 #[.pointer (some ⟨g, o, none⟩), .int .i64 0] w fun e w' => e = .returned (.float .f32 (sumF (wat c) 19)) ∧ Below w.heap.size w w' := by
  have H := hid h
  have HC := hid hC
  have q0 : w.cell? ⟨g, o, none⟩ = some (.float .f32 (c 0)) := hC w (Below.refl _ _) 0 (by omega)
  have hmul := fun w => run_mul (P := Tryz.prog) 22 (h 0 (by omega)) (mass_amt (k := 0) (by omega)) w
  clear h hC
  go_enter Tryz.func135, Tryz.ntmps135
  go_wp2_with fail
  go_quiet ((go_at_call 83; exact Calls.quiet_of_same (back (sMass 0 (by omega) _))))
  go_wp2_with fail
  go_loopw [5, 6] (fun s i wr => ∃ q : Nat, 1 ≤ q ∧ q ≤ 20 ∧ i = .int .i64 q ∧ s = .float .f32 (sumF (wat c) (q - 1)) ∧ Hid (Below w.heap.size w wr)) (fun _ i _ => 20 - (intOf i).toNat)
  case atStart => exact ⟨1, by omega, by omega, by go_num, rfl, hid (below_drewN (Below.refl _ _) _)⟩
  case round =>
    obtain ⟨q, hq1, hq2, rfl, rfl, h2⟩ := hrel
    by_cases hlt : q < 20
    · have q1 := HC.out _ h2.out q hlt
      have hm2 := fun w => run_mul (P := Tryz.prog) 22 (H.out q hlt) (mass_amt hlt) w
      have hadd := fun w => run_add (P := Tryz.prog) 22 (sumF_nn (c := wat c) (q - 1) (fun i hi => wat_nn (by omega) (H.out i (by omega)))) (wat_nn hlt (H.out q hlt)) w
      have hw : fmul (c q) (mass q) = wat c q := rfl
      go_wp2_with fail
      go_quiet ((go_at_call 83; exact Calls.quiet_of_same (back (sMass q hlt _))))
      go_wp2_with fail
      go_roundw
      case rel =>
        refine ⟨q + 1, by omega, by omega, by go_num, ?_, hid (below_drewN h2.out _)⟩
        rw [show q + 1 - 1 = (q - 1) + 1 by omega]
        show _ = Value.float .f32 (fadd (sumF (wat c) (q - 1)) (wat c (q - 1 + 1)))
        rw [show q - 1 + 1 = q by omega]
      case measure => simp [intOf]; omega
    · obtain rfl : q = 20 := by omega
      go_wp2
      go_ret
      exact ⟨rfl, h2.out⟩

theorem ix8 (c : Nat → Nat) (k : Nat) (hk : k < 8) (w : World) : (Instr.index 31 (.agg (vls 160 (flw c))) (.int .i64 (k : Int))).run Tryz.prog w = .ok (.agg (fls (rowK c k))) w :=
  run_index_row Tryz.underlying31 Tryz.underlying30 rfl info_arr 160 (flw c) k hk (by omega) w

set_option maxHeartbeats 1000000 in
set_option maxRecDepth 100000 in
theorem sShiftO (c g : Nat → Nat) (hc : Amts c) (hg : ∀ i, i < 20 → FW (g i)) (R : Nat → Nat) (z : Nat) (n : Int) (g1 : ShOk c g → R = shN c g 20 ∧ z = fsb (sumF (wat (shN c g 20)) 19) (sumF (wat c) 19) ∧ n = 0) (g2 : ¬ ShOk c g → R = (fun _ => 0) ∧ z = 0 ∧ n = 4) (w : World) (p q : Nat) (T1 T2 : TypeId) (m o : Nat) (f : Nat → Value) (hom : o + 20 ≤ m) (hf : ∀ j, j < 20 → f (o + j) = .float .f32 (c j)) (hp : vAt w p m f T1) (hq : arrAt w q g T2) :
    Calls Tryz.prog 108 #[.pointer (some ⟨p, o, none⟩), .pointer (some ⟨q, 0, none⟩)] w fun e w' => e = .returned (.tuple #[.agg (fls R), .float .f32 z, .int .i64 n]) ∧ Below w.heap.size w w' := by
  have A0 := hid ((arrAt.new w (fun _ => 0) 30).alloc (.cells (fls fun _ => 0) 30))
  have A1 := hid (new1 w (.cells (fls fun _ => 0) 30) (fun _ => 0) 30)
  have b0 := boxed2 w (.cells (fls fun _ => 0) 30) (.cells (fls fun _ => 0) 30)
  have P0 := hid ((hp.alloc (.cells (fls fun _ => 0) 30)).alloc (.cells (fls fun _ => 0) 30))
  have Q0 := hid ((hq.alloc (.cells (fls fun _ => 0) 30)).alloc (.cells (fls fun _ => 0) 30))
  have Lp := hid hp.lt
  have Lq := hid hq.lt
  have Hc := hid hc
  have HF := hid hf
  have Hg := hid hg
  have G1 := hid g1
  have G2 := hid g2
  have Hnn := hid (shN_nn hc hg)
  clear hp hq hc hg g1 g2 hf
  go_enter Tryz.func108, Tryz.ntmps108
  have M0 := hid (A0.out.setRowOther (k := w.heap.size + 1) (by omega) (fls fun _ => 0))
  have M1 := hid (A1.out.setRow (fun _ => 0))
  have MP := hid (P0.out.setRowOther (k := w.heap.size + 1) (by have := Lp.out; omega) (fls fun _ => 0))
  have MQ := hid (Q0.out.setRowOther (k := w.heap.size + 1) (by have := Lq.out; omega) (fls fun _ => 0))
  have mb := hid (below_row b0 (Nat.le_succ _) (g := w.heap.size + 1) (fls fun _ => 0))
  have tok1 : True := trivial
  go_wp2_with (have _t := tok1; refine wpList_store_row rfl 30 _ _ rfl (w.heap.size + 1) (fls fun _ => 0) rfl rfl 30 _ A1.out (by rw [fls_size]; exact info_arr) (by simp) (fls_one _) ?_; generalize (((w.alloc (.cells (fls fun _ => 0) 30)).alloc (.cells (fls fun _ => 0) 30)).setRow (w.heap.size + 1) (fls fun _ => 0)) = w2 at M0 M1 MP MQ mb ⊢; clear A0 A1 b0 P0 Q0 tok1)
  go_loopw [8] (fun i wr => ∃ k : Nat, k ≤ 20 ∧ i = .int .i64 k ∧ Hid (vAt wr p m f T1) ∧ Hid (arrAt wr q g T2) ∧ Hid (arrAt wr w.heap.size (fun _ => 0) 30) ∧ Hid (arrAt wr (w.heap.size + 1) (shN c g k) 30) ∧ Hid (Below w.heap.size w wr)) (fun i _ => 20 - (intOf i).toNat)
  case atStart => exact ⟨0, by omega, rfl, MP, MQ, M0, M1, mb⟩
  case round =>
    obtain ⟨k, hk, rfl, hp, hq, h0, h1, hb⟩ := hrel
    clear M0 M1 MP MQ mb
    by_cases hlt : k < 20
    · have HK := hid hlt
      have hk3 : (k : Int) < 20 := by omega
      have q1 := (hp.out.cell (k := o + k) (by omega)).trans (congrArg some (HF.out k hlt))
      have q2 := hq.out.cell hlt
      have hgm := hid (gm_eq hlt (Hg.out k hlt))
      have r1 := fun w => run_float_arith (P := Tryz.prog) w .add 22 .f32 _ _ _ hgm.out.1
      by_cases hz : c k = 0
      · have hoff := hid (shN_off (c := c) (g := g) (n := k) fun h => h.1 hz)
        rw [hz] at q1
        have e0 := eq0_t
        go_wp2_with fail
        go_roundw
        case rel => exact ⟨k + 1, by omega, by go_num, hp, hq, h0, hid (hoff.out ▸ h1.out), hb⟩
        case measure => simp [intOf]; omega
      · have e0 := eq0_f (Hc.out k hlt) hz
        by_cases hs : 0 < sv (gm k (g k))
        · have e1 := gt0_t hgm.out.2 hs
          have hon := hid (shN_on (c := c) (g := g) hz hs)
          have hpos := hid (gm_pos hgm.out.2 hs)
          clear hs hz
          go_wp2_with fail
          go_quiet ((go_at_call 83; exact Calls.quiet_of_same (back (sMass k HK.out _))))
          go_wp2_with fail
          refine (sPut_any (shN c g k) (Hnn.out k (by have := HK.out; omega)) _ _ hpos.out.1 (Hc.out k HK.out) _ (w.heap.size + 1) 30 (show arrAt (World.drewN _ _) _ _ _ from h1.out)).mono ?_
          rintro e wn ⟨rfl, hw⟩
          have NQ : q ≠ w.heap.size + 1 := by have := Lq.out; omega
          have hp2 := hid (show vAt wn p m f T1 from ((hw.2.2 (w.heap.size + 1) _ (Nat.le_refl _) (Below.refl _ _)).block p (by have := Lp.out; omega)).trans (show vAt (World.drewN _ _) _ _ _ _ from hp.out))
          have hq2 := hid (hw.2.1 q g T2 NQ (show arrAt (World.drewN _ _) _ _ _ from hq.out))
          have h02 := hid (hw.2.1 w.heap.size _ _ (by omega) (show arrAt (World.drewN _ _) _ _ _ from h0.out))
          have h12 := hid (hon.out ▸ hw.1)
          have hb2 := hid (hw.2.2 w.heap.size w (by omega) (below_drewN hb.out _))
          clear hw hp hq h0 h1 hb NQ q1 q2
          go_wp2_with fail
          go_roundw
          case rel => exact ⟨k + 1, by have := HK.out; omega, by go_num, hp2, hq2, h02, h12, hb2⟩
          case measure => have := HK.out; simp [intOf]; omega
        · have e1 := gt0_f hgm.out.2 hs
          have hoff := hid (shN_off (c := c) (g := g) (n := k) fun h => hs h.2)
          clear hs hz
          go_wp2_with fail
          go_quiet ((go_at_call 83; exact Calls.quiet_of_same (back (sMass k HK.out _))))
          go_wp2_with fail
          go_roundw
          case rel => exact ⟨k + 1, by omega, by go_num, hid hp.out, hid hq.out, hid h0.out, hid (hoff.out ▸ h1.out), hid (below_drewN hb.out _)⟩
          case measure => simp [intOf]; omega
    · obtain rfl : k = 20 := by omega
      have HN := hid (Hnn.out 20 (by omega))
      unfold ShOk at G1 G2
      generalize shN c g 20 = d at h1 HN G1 G2
      clear Hnn hlt hk
      have ha := hid (show nnB (sumF (wat (d)) 19) = true from sumF_nn 19 fun i hi => (mul_mass (HN.out i (by omega)) (by omega)).2)
      have hbn := hid (show nnB (sumF (wat c) 19) = true from sumF_nn 19 fun i hi => (mul_mass (Hc.out.nn i (by omega)) (by omega)).2)
      have hW2 := fun w (hy : vAt w p m f T1) => sWaterAt c Hc.out w p o (fun w' hb k hk => ((hy.stay hb).cell (k := o + k) (by omega)).trans (congrArg some (HF.out k hk)))
      have HW1 := hid (show ∀ (w : World) (y : Nat) (T : TypeId), arrAt w y (d) T → Calls Tryz.prog 135 #[.pointer (some ⟨y, 0, none⟩), .int .i64 (0 : Int)] w fun e w' => e = .returned (.float .f32 (sumF (wat (d)) 19)) ∧ Below w.heap.size w w' from fun w y T hy => by
        have := sWater2 (d) HN.out 0 (by omega) w y T hy
        rw [show 19 - 0 = 19 from rfl, sumA_zero] at this
        exact this)
      have HW2 := hid hW2
      clear hW2
      generalize sumF (wat d) 19 = sa at G1 G2 ha HW1
      generalize sumF (wat c) 19 = sb at G1 G2 hbn HW2
      go_wp2_with fail
      refine (HW1.out _ _ _ h1.out).mono ?_
      rintro e wa ⟨rfl, ha1⟩
      have p1 := hid (hp.out.stay ha1)
      have o1 := hid (h1.out.stay ha1)
      have r1 := hid (h0.out.stay ha1)
      have b1 := hid (stp hb.out (Nat.le_refl _) ha1)
      clear hp hq h0 h1 hb ha1
      go_wp2_with fail
      refine (HW2.out _ p1.out).mono ?_
      rintro e wb ⟨rfl, hb1⟩
      have o2 := hid (o1.out.stay hb1)
      have r2 := hid (r1.out.stay hb1)
      have b2 := hid (stp b1.out (Nat.le_refl _) hb1)
      clear p1 o1 r1 b1 hb1
      obtain ⟨zz, u, hr, hzz, hu, hsome, hnone⟩ := run_any3 (P := Tryz.prog) .sub (.inr (.inl rfl)) 22 sa sb wb
      have o3 : Hid (arrAt u (w.heap.size + 1) (d) 30) := by rcases hu with rfl | rfl; exact o2; exact hid o2.out.drew
      have r3 : Hid (arrAt u w.heap.size (fun _ => 0) 30) := by rcases hu with rfl | rfl; exact r2; exact hid r2.out.drew
      have b3 : Hid (Below w.heap.size w u) := by rcases hu with rfl | rfl; exact b2; exact hid b2.out.drew
      have Hzz := hid hzz
      clear o2 r2 b2 hu hzz
      have HB := hid (fun i (hi : i < 20) => nn_lt (HN.out i hi))
      by_cases hF : Fins (d)
      · have HF := hid hF
        by_cases hab : finB sa = true ∧ finB sb = true
        · obtain ⟨hR, hz', hn'⟩ := G1.out ⟨hF, hab.1, hab.2⟩
          have hR := hR.symm
          subst hR
          subst hn'
          have hfz := sub_fin2 ha.out hbn.out hab.1 hab.2
          have hzz2 : zz = z := (hsome _ hfz.1).trans hz'.symm
          have HZ := hid (show finB zz = true by rw [hsome _ hfz.1]; exact hfz.2)
          clear hz' hfz
          subst hzz2
          clear hab hF hsome hnone G1 G2
          go_wp2_with (first | (refine wpList_load_row rfl 30 _ rfl (w.heap.size + 1) rfl 30 (fls (d)) (0, 0) _ o3.out Tryz.underlying30 rfl (by rw [fls_size]; exact info_arr) ?_))
          refine (sMade_t d HB.out HF.out _).mono ?_
          rintro e wm ⟨rfl, hm1⟩
          have r4 := hid (r3.out.stay hm1)
          have b4 := hid (stp b3.out (Nat.le_refl _) hm1)
          clear o3 r3 b3 hm1
          have r5 := hid (r4.out.alloc (.cells (fls fun _ => 0) 30))
          have N5 : Hid (arrAt (wm.alloc (.cells (fls fun _ => 0) 30)) wm.heap.size (fun _ => 0) 30) := hid (arrAt.new wm (fun _ => 0) 30)
          have b5 := hid (b4.out.alloc b4.out.size (.cells (fls fun _ => 0) 30))
          have L5 := hid r4.out.lt
          have r6 := hid (r5.out.setRowOther (k := wm.heap.size) (by have := L5.out; omega) (fls (d)))
          have N6 := hid (N5.out.setRow (d))
          have b6 := hid (below_row b5.out b4.out.size (g := wm.heap.size) (fls (d)))
          have tok2 : True := trivial
          go_wp2_with (have _t := tok2; refine wpList_store_row rfl 30 _ _ rfl (wm.heap.size) (fls (d)) rfl rfl 30 _ N5.out (by rw [fls_size]; exact info_arr) (by simp) (fls_one _) ?_; generalize ((wm.alloc (.cells (fls fun _ => 0) 30)).setRow (wm.heap.size) (fls (d))) = wz at r6 N6 b6 ⊢; clear r4 b4 r5 N5 b5 tok2)
          refine (sFinite_t _ Hzz.out HZ.out _).mono ?_
          rintro e wf ⟨rfl, rfl⟩
          go_wp2_with (first | (refine wpList_load_row rfl 30 _ rfl (wm.heap.size) rfl 30 (fls (d)) (0, 0) _ N6.out Tryz.underlying30 rfl (by rw [fls_size]; exact info_arr) ?_) | (refine wpList_store_row rfl 30 _ _ rfl (w.heap.size) (fls (d)) rfl rfl 30 _ r6.out (by rw [fls_size]; exact info_arr) (by simp) (fls_one _) ?_))
          exact bodyPost_ret (results_row_tmp2 rfl _ _ (w.heap.size) 30 (fls (d)) (0, 0) _ rfl (r6.out.setRow (d)) Tryz.underlying30 rfl (by rw [fls_size]; exact info_arr)) rfl ⟨rfl, below_row b6.out (Nat.le_refl _) _⟩
        · obtain ⟨rfl, rfl, rfl⟩ := G2.out fun h => hab h.2
          have HZ := hid (show finB zz = false from any_bad hsome hnone fun r h => sub_bad (nn_lt ha.out) (nn_lt hbn.out) (by
            rcases h1 : finB sa with _ | _
            · exact .inl rfl
            · rcases h2 : finB sb with _ | _
              · exact .inr rfl
              · exact absurd ⟨h1, h2⟩ hab) h)
          clear hab hF hsome hnone G1 G2
          go_wp2_with (first | (refine wpList_load_row rfl 30 _ rfl (w.heap.size + 1) rfl 30 (fls (d)) (0, 0) _ o3.out Tryz.underlying30 rfl (by rw [fls_size]; exact info_arr) ?_))
          refine (sMade_t d HB.out HF.out _).mono ?_
          rintro e wm ⟨rfl, hm1⟩
          have r4 := hid (r3.out.stay hm1)
          have b4 := hid (stp b3.out (Nat.le_refl _) hm1)
          clear o3 r3 b3 hm1
          have r5 := hid (r4.out.alloc (.cells (fls fun _ => 0) 30))
          have N5 : Hid (arrAt (wm.alloc (.cells (fls fun _ => 0) 30)) wm.heap.size (fun _ => 0) 30) := hid (arrAt.new wm (fun _ => 0) 30)
          have b5 := hid (b4.out.alloc b4.out.size (.cells (fls fun _ => 0) 30))
          have L5 := hid r4.out.lt
          have r6 := hid (r5.out.setRowOther (k := wm.heap.size) (by have := L5.out; omega) (fls (d)))
          have N6 := hid (N5.out.setRow (d))
          have b6 := hid (below_row b5.out b4.out.size (g := wm.heap.size) (fls (d)))
          have tok2 : True := trivial
          go_wp2_with (have _t := tok2; refine wpList_store_row rfl 30 _ _ rfl (wm.heap.size) (fls (d)) rfl rfl 30 _ N5.out (by rw [fls_size]; exact info_arr) (by simp) (fls_one _) ?_; generalize ((wm.alloc (.cells (fls fun _ => 0) 30)).setRow (wm.heap.size) (fls (d))) = wz at r6 N6 b6 ⊢; clear r4 b4 r5 N5 b5 tok2)
          refine (sFinite_f _ Hzz.out HZ.out _).mono ?_
          rintro e wf ⟨rfl, hff⟩
          have r7 := hid (r6.out.stay hff)
          have b7 := hid (stp b6.out (Nat.le_refl _) hff)
          go_wp2_with (first | (refine wpList_store_row rfl 30 _ _ rfl (w.heap.size) (fls fun _ => 0) rfl rfl 30 _ r7.out (by rw [fls_size]; exact info_arr) (by simp) (fls_one _) ?_))
          exact bodyPost_ret (results_row_tmp2 rfl _ _ (w.heap.size) 30 (fls fun _ => 0) (0, 0) _ rfl ((r7.out).setRow (fun _ => 0)) Tryz.underlying30 rfl (by rw [fls_size]; exact info_arr)) rfl ⟨rfl, below_row b7.out (Nat.le_refl _) _⟩
      · obtain ⟨rfl, rfl, rfl⟩ := G2.out fun h => hF h.1
        have HF := hid hF
        clear hF hsome hnone G1 G2
        go_wp2_with (first | (refine wpList_load_row rfl 30 _ rfl (w.heap.size + 1) rfl 30 (fls (d)) (0, 0) _ o3.out Tryz.underlying30 rfl (by rw [fls_size]; exact info_arr) ?_))
        refine (sMade_f (d) HB.out HF.out _).mono ?_
        rintro e wm ⟨rfl, hm1⟩
        have r4 := hid (r3.out.stay hm1)
        have b4 := hid (stp b3.out (Nat.le_refl _) hm1)
        clear o3 r3 b3 hm1
        have r5 := hid (r4.out.alloc (.cells (fls fun _ => 0) 30))
        have N5 : Hid (arrAt (wm.alloc (.cells (fls fun _ => 0) 30)) wm.heap.size (fun _ => 0) 30) := hid (arrAt.new wm (fun _ => 0) 30)
        have b5 := hid (b4.out.alloc b4.out.size (.cells (fls fun _ => 0) 30))
        have L5 := hid r4.out.lt
        have r6 := hid (r5.out.setRowOther (k := wm.heap.size) (by have := L5.out; omega) (fls (fun _ => 0)))
        have N6 := hid (N5.out.setRow (fun _ => 0))
        have b6 := hid (below_row b5.out b4.out.size (g := wm.heap.size) (fls (fun _ => 0)))
        have tok2 : True := trivial
        go_wp2_with (first | (have _t := tok2; refine wpList_store_row rfl 30 _ _ rfl (wm.heap.size) (fls (fun _ => 0)) rfl rfl 30 _ N5.out (by rw [fls_size]; exact info_arr) (by simp) (fls_one _) ?_; generalize ((wm.alloc (.cells (fls fun _ => 0) 30)).setRow (wm.heap.size) (fls (fun _ => 0))) = wz at r6 N6 b6 ⊢; clear r4 b4 r5 N5 b5 tok2) | (refine wpList_store_row rfl 30 _ _ rfl (w.heap.size) (fls fun _ => 0) rfl rfl 30 _ r6.out (by rw [fls_size]; exact info_arr) (by simp) (fls_one _) ?_))
        exact bodyPost_ret (results_row_tmp2 rfl _ _ (w.heap.size) 30 (fls fun _ => 0) (0, 0) _ rfl ((r6.out).setRow (fun _ => 0)) Tryz.underlying30 rfl (by rw [fls_size]; exact info_arr)) rfl ⟨rfl, below_row b6.out (Nat.le_refl _) _⟩

theorem two_at {f : Nat → Value} {o h v : Nat} (h0 : f o = .float .f32 h) (h1 : f (o + 1) = .float .f32 v) : (vls 2 fun j => f (o + j)) = #[.float .f32 h, .float .f32 v] := by
  rw [vls_two, Nat.add_zero, h0, h1]

set_option maxRecDepth 100000 in
theorem sExcOff (h v : Nat) (hx : h < 4294967296) (hq : airB h v = true) (w : World) (g o : Nat) (c0 : w.cell? ⟨g, o, none⟩ = some (.float .f32 h)) (c1 : w.cell? ⟨g, o + 1, none⟩ = some (.float .f32 v)) :
    Calls Tryz.prog 106 #[.pointer (some ⟨g, o, none⟩)] w fun e w' => e = .returned (.float .f32 (excF h v)) ∧ Below w.heap.size w w' := by
  obtain ⟨hh, hav, hvp⟩ := airB_iff.1 hq
  have F := sat_facts hx hh
  obtain ⟨e1, e2, e3⟩ := exc_facts F hav
  have HF := hid F
  have hs := fun w => run_float_arith (P := Tryz.prog) w .sub 22 .f32 _ _ _ e1
  clear F hh hav hvp e1 e2 e3 hx hq
  go_enter Tryz.func106, Tryz.ntmps106
  go_wp2
  go_quiet ((go_at_call 133; exact Calls.quiet_of_same (back (sSat h HF.out _))))
  go_wp2
  go_ret
  exact ⟨rfl, below_drewN (Below.refl _ _) _⟩

set_option maxRecDepth 100000 in
set_option maxHeartbeats 400000 in
theorem sOnceO_bad1 (c : Nat → Nat) (h v t : Nat) (hc : Amts c) (hh : IsHeat h) (hq : airB h v = true) (ht : amtB t = true) (hn : ¬ ShOk c (g1W (excF h v) t)) (w : World) (p k : Nat) (T1 T2 : TypeId) (m o : Nat) (f : Nat → Value) (hom : o + 20 ≤ m) (hf : ∀ j, j < 20 → f (o + j) = .float .f32 (c j)) (m2 o2 : Nat) (f2 : Nat → Value) (hom2 : o2 + 2 ≤ m2) (hf0 : f2 o2 = .float .f32 h) (hf1 : f2 (o2 + 1) = .float .f32 v) (hp : vAt w p m f T1) (hk : vAt w k m2 f2 T2) :
    Calls Tryz.prog 81 #[.pointer (some ⟨p, o, none⟩), .pointer (some ⟨k, o2, none⟩), .float .f32 t] w fun e w' => e = .returned (.tuple #[.agg (fls fun _ => 0), .agg #[.float .f32 0, .float .f32 0], .int .i64 4]) ∧ Below w.heap.size w w' := by
  have kk : Kept w [(p, vls m f, T1), (k, vls m2 f2, T2)] w := ⟨Below.refl _ _, fun x hx => by
    simp only [List.mem_cons, List.not_mem_nil, or_false] at hx
    rcases hx with rfl | rfl
    · exact hp
    · exact hk⟩
  have lp : p < w.heap.size := kk.lt (x := (p, vls m f, T1)) in0
  have lk : k < w.heap.size := kk.lt (x := (k, vls m2 f2, T2)) in1
  have k0 : Hid (Kept w [(w.heap.size + 1, #[.float .f32 0, .float .f32 0], 32), (w.heap.size, fls fun _ => 0, 30), (p, vls m f, T1), (k, vls m2 f2, T2)] ((w.alloc (.cells (fls fun _ => 0) 30)).alloc (.cells #[.float .f32 0, .float .f32 0] 32))) := by
    have := (kk.push (fls fun _ => 0) 30).push #[.float .f32 0, .float .f32 0] 32
    simp only [World.size_alloc] at this
    exact hid this
  have hX := exf_of hh hq ht
  have HE := hid (fun w (hr : vAt w k m2 f2 T2) => sExcOff h v hh.1 hq w k o2 ((hr.cell (k := o2) (by omega)).trans (congrArg some hf0)) ((hr.cell (k := o2 + 1) (by omega)).trans (congrArg some hf1)))
  have HG := hid (fun w => sGainsX (excF h v) t hX w)
  have HS := hid (fun w q T2 (hp : vAt w p m f T1) hq => sShiftO c (g1W (excF h v) t) hc hX.g1 (fun _ => 0) 0 4 (fun h => absurd h hn) (fun _ => ⟨rfl, rfl, rfl⟩) w p q T1 T2 m o f hom hf hp hq)
  have HF0 := hid hf0
  have HF1 := hid hf1
  clear kk hp hk hf hf0 hf1 hX hc hh hq ht hn
  go_enter Tryz.func81, Tryz.ntmps81
  go_wp2_with fail
  refine (HE.out _ (k0.out.at (x := (k, vls m2 f2, T2)) in3)).mono ?_
  rintro e w0 ⟨rfl, hb0⟩
  have k1 := hid (k0.out.stay hb0)
  clear hb0 k0
  go_wp2_with fail
  refine (HG.out _).mono ?_
  rintro e w1 ⟨rfl, hb1⟩
  have k2 := hid (k1.out.stay hb1)
  clear hb1 k1
  have k2z := hid (k2.out.push (fls fun _ => 0) 23)
  have tok1 : True := trivial
  go_wp2_with (first | (have _t := tok1; clear tok1; refine store_row (by rfl) 23 _ _ (by rfl) (w1.heap.size) (fls (g1W (excF h v) t)) (fls fun _ => 0) (by rfl) (by rfl) k2z.out (by rw [fls_size]; exact info_a20) (by simp) (vls_one (n := 20) (f := flw (g1W (excF h v) t)) (fun _ => rfl)) (k2.out.size) (k2.out.fresh) (fun w2 k3 => ?_); replace k3 := hid k3; clear k2z))
  clear k2
  refine (HS.out w2 w1.heap.size 23 (k3.out.at (x := (p, vls m f, T1)) in3) (k3.out.at (x := (w1.heap.size, fls (g1W (excF h v) t), 23)) in0)).mono ?_
  rintro e w3 ⟨rfl, hb3⟩
  have k4 := hid (k3.out.stay hb3)
  clear hb3 k3
  have k4z := hid (k4.out.push (fls fun _ => 0) 30)
  have tok1 : True := trivial
  go_wp2_with (first
    | (have _t := tok1; clear tok1; refine store_rowE (by rfl) 30 _ _ (by rfl) (w3.heap.size) (fls fun _ => 0) (fls fun _ => 0) (by rfl) (by rfl) (k4z.out.at (x := (w3.heap.size, fls fun _ => 0, 30)) in0) (by rw [fls_size]; exact info_arr) (by simp) (vls_one (n := 20) (f := flw fun _ => 0) (fun _ => rfl)) (fun w5 e5 => ?_); have k5 := hid (e5 ▸ k4z.out.same in0 k4.out.size); clear e5 k4z; have tok2 : True := trivial)
    | (have _t := tok2; clear tok2; refine store_rowE (by rfl) 30 _ _ (by rfl) (w.heap.size) (fls fun _ => 0) (fls fun _ => 0) (by rfl) (by rfl) (k5.out.at (x := (w.heap.size, fls fun _ => 0, 30)) in3) (by rw [fls_size]; exact info_arr) (by simp) (vls_one (n := 20) (f := flw fun _ => 0) (fun _ => rfl)) (fun w6 e6 => ?_); have k6 := hid (e6 ▸ k5.out.same in3 (Nat.le_refl _)); clear e6 k5; have tok3 : True := trivial)
    | (have _t := tok3; clear tok3; refine store_rowE (by rfl) 32 _ _ (by rfl) (w.heap.size + 1) (#[.float .f32 0, .float .f32 0]) (#[.float .f32 0, .float .f32 0]) (by rfl) (by rfl) (k6.out.at (x := (w.heap.size + 1, #[.float .f32 0, .float .f32 0], 32)) in2) (info_air) (by simp) (two_one _ _) (fun w7 e7 => ?_); have k7 := hid (e7 ▸ k6.out.same (g := w.heap.size + 1) in2 (by omega)); clear e7 k6))
  have e1 : (loadVar 30 ⟨w.heap.size, 0, none⟩).run Tryz.prog w7 = .ok (.agg (fls fun _ => 0)) w7 := run_loadVar_row _ (w.heap.size) 30 30 (fls fun _ => 0) (0, 0) _ (k7.out.at (x := (w.heap.size, fls fun _ => 0, 30)) in3) Tryz.underlying30 rfl (by rw [fls_size]; exact info_arr)
  have e2 : (loadVar 32 ⟨w.heap.size + 1, 0, none⟩).run Tryz.prog w7 = .ok (.agg #[.float .f32 0, .float .f32 0]) w7 := run_loadVar_row _ (w.heap.size + 1) 32 32 (#[.float .f32 0, .float .f32 0]) (0, 0) _ (k7.out.at (x := (w.heap.size + 1, #[.float .f32 0, .float .f32 0], 32)) in2) Tryz.underlying32 rfl (info_air)
  refine ⟨rfl, .tuple #[.agg (fls fun _ => 0), .agg #[.float .f32 0, .float .f32 0], .int .i64 4], ?_, rfl, k7.out.1⟩
  simp [results, Tryz.results81, asAddr, e1, e2, Sem.run_bind, Result.andThen_ok]

set_option maxRecDepth 100000 in
set_option maxHeartbeats 400000 in
theorem sOnceO_small1 (c : Nat → Nat) (h v t : Nat) (hc : Amts c) (hh : IsHeat h) (hq : airB h v = true) (ht : amtB t = true) (x : Nat) (hxe : excF h v = x) (ho : ShOk c (g1W x t)) (R : Nat → Nat) (hR : shN c (g1W x t) 20 = R) (z : Nat) (hz : watG c (g1W x t) = z) (G : Nat) (hG : S.div z 1199570944 = some G) (A : StepA h v G) (H V : Nat) (hH : nhW h G = H) (hV : nvW v G = V) (hVl : V < 4294967296) (hHV : airB H V = true) (h0 : (FloatKind.f32.format.order x 0 == some .gt) = true) (h1 : (FloatKind.f32.format.order G x == some .gt) = false) (w : World) (p k : Nat) (T1 T2 : TypeId) (m o : Nat) (f : Nat → Value) (hom : o + 20 ≤ m) (hf : ∀ j, j < 20 → f (o + j) = .float .f32 (c j)) (m2 o2 : Nat) (f2 : Nat → Value) (hom2 : o2 + 2 ≤ m2) (hf0 : f2 o2 = .float .f32 h) (hf1 : f2 (o2 + 1) = .float .f32 v) (hp : vAt w p m f T1) (hk : vAt w k m2 f2 T2) :
    Calls Tryz.prog 81 #[.pointer (some ⟨p, o, none⟩), .pointer (some ⟨k, o2, none⟩), .float .f32 t] w fun e w' => e = .returned (.tuple #[.agg (fls R), .agg #[.float .f32 H, .float .f32 V], .int .i64 0]) ∧ Below w.heap.size w w' := by
  have kk : Kept w [(p, vls m f, T1), (k, vls m2 f2, T2)] w := ⟨Below.refl _ _, fun x hx => by
    simp only [List.mem_cons, List.not_mem_nil, or_false] at hx
    rcases hx with rfl | rfl
    · exact hp
    · exact hk⟩
  have lp : p < w.heap.size := kk.lt (x := (p, vls m f, T1)) in0
  have lk : k < w.heap.size := kk.lt (x := (k, vls m2 f2, T2)) in1
  have k0 : Hid (Kept w [(w.heap.size + 1, #[.float .f32 0, .float .f32 0], 32), (w.heap.size, fls fun _ => 0, 30), (p, vls m f, T1), (k, vls m2 f2, T2)] ((w.alloc (.cells (fls fun _ => 0) 30)).alloc (.cells #[.float .f32 0, .float .f32 0] 32))) := by
    have := (kk.push (fls fun _ => 0) 30).push #[.float .f32 0, .float .f32 0] 32
    simp only [World.size_alloc] at this
    exact hid this
  have hX := exf_of hh hq ht
  have HE := fun w (hr : vAt w k m2 f2 T2) => sExcOff h v hh.1 hq w k o2 ((hr.cell (k := o2) (by omega)).trans (congrArg some hf0)) ((hr.cell (k := o2 + 1) (by omega)).trans (congrArg some hf1))
  rw [hxe] at HE
  rw [hxe] at hX
  have HE := hid HE
  have HG := hid (fun w => sGainsX x t hX w)
  have HS := hid (fun w q T2 (hp : vAt w p m f T1) hq => sShiftO c (g1W x t) hc hX.g1 R z 0 (fun _ => ⟨hR.symm, hz.symm, rfl⟩) (fun h => absurd ho h) w p q T1 T2 m o f hom hf hp hq)
  have HP := hid (fun w => sSpendG h v G A w)
  have HW := hid (fun w => sWarmG h v V G A w)
  rw [hV] at HP
  rw [hH] at HW
  have HO := hid (fun w g T hg => sAirOk H V hVl true hHV w g T hg)
  have rq := fun w => run_float_arith (P := Tryz.prog) w .quo 22 .f32 _ _ _ hG
  have rm := fun w => run_float_arith (P := Tryz.prog) w .mul 22 .f32 _ _ _ A.m
  have HF0 := hid hf0
  have HF1 := hid hf1
  clear kk hp hk hf hf0 hf1 hX hc hh hq ht hxe ho hR hz hG A hH hV hVl hHV
  go_enter Tryz.func81, Tryz.ntmps81
  go_wp2_with fail
  refine (HE.out _ (k0.out.at (x := (k, vls m2 f2, T2)) in3)).mono ?_
  rintro e w0 ⟨rfl, hb0⟩
  have k1 := hid (k0.out.stay hb0)
  clear hb0 k0
  go_wp2_with fail
  refine (HG.out _).mono ?_
  rintro e w1 ⟨rfl, hb1⟩
  have k2 := hid (k1.out.stay hb1)
  clear hb1 k1
  have k2z := hid (k2.out.push (fls fun _ => 0) 23)
  have tok1 : True := trivial
  go_wp2_with (first | (have _t := tok1; clear tok1; refine store_row (by rfl) 23 _ _ (by rfl) (w1.heap.size) (fls (g1W x t)) (fls fun _ => 0) (by rfl) (by rfl) k2z.out (by rw [fls_size]; exact info_a20) (by simp) (vls_one (n := 20) (f := flw (g1W x t)) (fun _ => rfl)) (k2.out.size) (k2.out.fresh) (fun w2 k3 => ?_); replace k3 := hid k3; clear k2z))
  clear k2
  refine (HS.out w2 w1.heap.size 23 (k3.out.at (x := (p, vls m f, T1)) in3) (k3.out.at (x := (w1.heap.size, fls (g1W x t), 23)) in0)).mono ?_
  rintro e w3 ⟨rfl, hb3⟩
  have k4 := hid (k3.out.stay hb3)
  clear hb3 k3
  have k4z := hid (k4.out.push (fls fun _ => 0) 30)
  have tok1 : True := trivial
  go_wp2_with (first
    | (have _t := tok1; clear tok1; refine store_rowE (by rfl) 30 _ _ (by rfl) (w3.heap.size) (fls R) (fls fun _ => 0) (by rfl) (by rfl) (k4z.out.at (x := (w3.heap.size, fls fun _ => 0, 30)) in0) (by rw [fls_size]; exact info_arr) (by simp) (vls_one (n := 20) (f := flw R) (fun _ => rfl)) (fun w5 e5 => ?_); have k5 := hid (e5 ▸ k4z.out.set k4.out.size k4.out.fresh (fls R)); clear e5 k4z; have tok2 : True := trivial)
    | (have _t := tok2; clear tok2; refine load_cut (by rfl) 32 _ (by rfl) k o2 2 (by rfl) (k5.out.at (x := (k, vls m2 f2, T2)) (List.mem_cons_of_mem _ in4)) hom2 (#[.float .f32 h, .float .f32 v]) (two_at HF0.out HF1.out) _ Tryz.underlying32 (by rfl) info_air ?_))
  refine (HP.out _).mono ?_
  rintro e w6 ⟨rfl, hb6⟩
  have k6 := hid (k5.out.stay hb6)
  clear hb6 k5
  go_wp2_with fail
  refine (HW.out _).mono ?_
  rintro e w7 ⟨rfl, hb7⟩
  have k7 := hid (k6.out.stay hb7)
  clear hb7 k6
  have k7z := hid (k7.out.push #[.float .f32 0, .float .f32 0] 32)
  have tok1 : True := trivial
  go_wp2_with (first | (have _t := tok1; clear tok1; refine store_rowE (by rfl) 32 _ _ (by rfl) (w7.heap.size) (#[.float .f32 H, .float .f32 V]) (#[.float .f32 0, .float .f32 0]) (by rfl) (by rfl) (k7z.out.at (x := (w7.heap.size, #[.float .f32 0, .float .f32 0], 32)) in0) (info_air) (by simp) (two_one _ _) (fun w8 e8 => ?_); have k8 := hid (e8 ▸ k7z.out.set k7.out.size k7.out.fresh (#[.float .f32 H, .float .f32 V])); clear e8 k7z))
  refine (HO.out w8 (w7.heap.size) 32 (k8.out.at (x := (w7.heap.size, #[.float .f32 H, .float .f32 V], 32)) in0)).mono ?_
  rintro e w9 ⟨rfl, hb9⟩
  have k9 := hid (k8.out.stay hb9)
  have z3 := k4.out.lt (x := (w.heap.size + 1, #[.float .f32 0, .float .f32 0], 32)) in1
  have z7 := k7.out.lt (x := (w.heap.size + 1, #[.float .f32 0, .float .f32 0], 32)) in2
  clear hb9 k8 k7
  go_wp2_with fail
  refine region_act (w0 := w) (lk := [(w7.heap.size, #[.float .f32 H, .float .f32 V], 32), (w3.heap.size, fls R, 30)]) (fun a0 a1 wq => a1 = (((a0.put (some 86) (.agg (fls R))).put (some 87) (.agg #[.float .f32 H, .float .f32 V])).put (some 8) (.int .i64 0)) ∧ Kept w [(w.heap.size + 1, #[.float .f32 H, .float .f32 V], 32), (w.heap.size, fls R, 30)] wq) 5 #[false, false, false, false, false] (by kernel_rfl) rfl rfl ?_ ?_
  · have kd : Kept w [(w.heap.size + 1, #[.float .f32 0, .float .f32 0], 32), (w.heap.size, fls fun _ => 0, 30), (w7.heap.size, #[.float .f32 H, .float .f32 V], 32), (w3.heap.size, fls R, 30)] w9.drew := k9.out.drew.sub (pick4 _ _ _ _ _ _)
    generalize World.drew _ = wd at kd ⊢
    refine take_load 0 _ _ rfl (by rfl) (by kernel_rfl) (by kernel_rfl) (by kernel_rfl) 30 _ rfl (w3.heap.size) (fls R) 30 rfl (by simp) _ Tryz.underlying30 rfl (by rw [fls_size]; exact info_arr) rfl rfl kd.tail.tail ?_
    simp only [Act.put, List.setIfInBounds_toArray, List.set_cons_zero, List.set_cons_succ]
    refine take_load 1 _ _ rfl (by rfl) (by kernel_rfl) (by kernel_rfl) (by kernel_rfl) 32 _ rfl (w7.heap.size) (#[.float .f32 H, .float .f32 V]) 32 rfl (by simp) _ Tryz.underlying32 rfl (info_air) rfl rfl kd.tail.tail ?_
    simp only [Act.put, List.setIfInBounds_toArray, List.set_cons_zero, List.set_cons_succ]
    refine wpAnyH_ready (rs := [2]) (by kernel_rfl) (by simp) ?_
    refine storeK 2 _ _ (kd).swap (Nat.le_refl _) (neC (by omega) (neC (by omega) (neC (by omega) ne0))) rfl (by rfl) 30 _ _ rfl (fls R) rfl rfl (by rw [fls_size]; exact info_arr) (by simp) (vls_one (n := 20) (f := flw R) (fun _ => rfl)) rfl rfl (fun w1 k1 => ?_) AllReadyH.nil
    refine ⟨k1.tail.tail, ?_⟩
    refine wpAnyH_ready (rs := [3]) (by kernel_rfl) (by simp) ?_
    refine storeK 3 _ _ (k1).swap (by omega) (neC (by omega) (neC (by omega) (neC (by omega) ne0))) rfl (by rfl) 32 _ _ rfl (#[.float .f32 H, .float .f32 V]) rfl rfl (info_air) (by simp) (two_one _ _) rfl rfl (fun w2 k2 => ?_) AllReadyH.nil
    refine ⟨k2.tail.tail, ?_⟩
    refine take_val 4 _ _ (.int .i64 0) rfl (by rfl) (by kernel_rfl) (by kernel_rfl) (by kernel_rfl) (fun w => by rfl) rfl rfl k2.tail.tail ?_
    simp only [Act.put, List.setIfInBounds_toArray, List.set_cons_zero, List.set_cons_succ]
    refine wpAnyH_done (by kernel_rfl) ?_ _
    exact ⟨rfl, by simp only [Act.put], k2.sub (pick2 _ _ _)⟩
  rintro a1 wX ⟨rfl, kX⟩
  have kX := hid kX
  clear k9
  simp only [Act.put, List.setIfInBounds_toArray, List.set_cons_zero, List.set_cons_succ]
  go_wp2_with fail
  have e1 : (loadVar 30 ⟨w.heap.size, 0, none⟩).run Tryz.prog wX = .ok (.agg (fls R)) wX := run_loadVar_row _ (w.heap.size) 30 30 (fls R) (0, 0) _ (kX.out.at (x := (w.heap.size, fls R, 30)) in1) Tryz.underlying30 rfl (by rw [fls_size]; exact info_arr)
  have e2 : (loadVar 32 ⟨w.heap.size + 1, 0, none⟩).run Tryz.prog wX = .ok (.agg #[.float .f32 H, .float .f32 V]) wX := run_loadVar_row _ (w.heap.size + 1) 32 32 (#[.float .f32 H, .float .f32 V]) (0, 0) _ (kX.out.at (x := (w.heap.size + 1, #[.float .f32 H, .float .f32 V], 32)) in0) Tryz.underlying32 rfl (info_air)
  refine ⟨rfl, .tuple #[.agg (fls R), .agg #[.float .f32 H, .float .f32 V], .int .i64 0], ?_, rfl, kX.out.1⟩
  simp [results, Tryz.results81, asAddr, e1, e2, Sem.run_bind, Result.andThen_ok]

set_option maxRecDepth 100000 in
set_option maxHeartbeats 400000 in
theorem sOnceO_small0 (c : Nat → Nat) (h v t : Nat) (hc : Amts c) (hh : IsHeat h) (hq : airB h v = true) (ht : amtB t = true) (x : Nat) (hxe : excF h v = x) (ho : ShOk c (g1W x t)) (R : Nat → Nat) (hR : shN c (g1W x t) 20 = R) (z : Nat) (hz : watG c (g1W x t) = z) (G : Nat) (hG : S.div z 1199570944 = some G) (A : StepA h v G) (H V : Nat) (hH : nhW h G = H) (hV : nvW v G = V) (hVl : V < 4294967296) (hHV : airB H V = true) (h0 : (FloatKind.f32.format.order x 0 == some .gt) = false) (w : World) (p k : Nat) (T1 T2 : TypeId) (m o : Nat) (f : Nat → Value) (hom : o + 20 ≤ m) (hf : ∀ j, j < 20 → f (o + j) = .float .f32 (c j)) (m2 o2 : Nat) (f2 : Nat → Value) (hom2 : o2 + 2 ≤ m2) (hf0 : f2 o2 = .float .f32 h) (hf1 : f2 (o2 + 1) = .float .f32 v) (hp : vAt w p m f T1) (hk : vAt w k m2 f2 T2) :
    Calls Tryz.prog 81 #[.pointer (some ⟨p, o, none⟩), .pointer (some ⟨k, o2, none⟩), .float .f32 t] w fun e w' => e = .returned (.tuple #[.agg (fls R), .agg #[.float .f32 H, .float .f32 V], .int .i64 0]) ∧ Below w.heap.size w w' := by
  have kk : Kept w [(p, vls m f, T1), (k, vls m2 f2, T2)] w := ⟨Below.refl _ _, fun x hx => by
    simp only [List.mem_cons, List.not_mem_nil, or_false] at hx
    rcases hx with rfl | rfl
    · exact hp
    · exact hk⟩
  have lp : p < w.heap.size := kk.lt (x := (p, vls m f, T1)) in0
  have lk : k < w.heap.size := kk.lt (x := (k, vls m2 f2, T2)) in1
  have k0 : Hid (Kept w [(w.heap.size + 1, #[.float .f32 0, .float .f32 0], 32), (w.heap.size, fls fun _ => 0, 30), (p, vls m f, T1), (k, vls m2 f2, T2)] ((w.alloc (.cells (fls fun _ => 0) 30)).alloc (.cells #[.float .f32 0, .float .f32 0] 32))) := by
    have := (kk.push (fls fun _ => 0) 30).push #[.float .f32 0, .float .f32 0] 32
    simp only [World.size_alloc] at this
    exact hid this
  have hX := exf_of hh hq ht
  have HE := fun w (hr : vAt w k m2 f2 T2) => sExcOff h v hh.1 hq w k o2 ((hr.cell (k := o2) (by omega)).trans (congrArg some hf0)) ((hr.cell (k := o2 + 1) (by omega)).trans (congrArg some hf1))
  rw [hxe] at HE
  rw [hxe] at hX
  have HE := hid HE
  have HG := hid (fun w => sGainsX x t hX w)
  have HS := hid (fun w q T2 (hp : vAt w p m f T1) hq => sShiftO c (g1W x t) hc hX.g1 R z 0 (fun _ => ⟨hR.symm, hz.symm, rfl⟩) (fun h => absurd ho h) w p q T1 T2 m o f hom hf hp hq)
  have HP := hid (fun w => sSpendG h v G A w)
  have HW := hid (fun w => sWarmG h v V G A w)
  rw [hV] at HP
  rw [hH] at HW
  have HO := hid (fun w g T hg => sAirOk H V hVl true hHV w g T hg)
  have rq := fun w => run_float_arith (P := Tryz.prog) w .quo 22 .f32 _ _ _ hG
  have rm := fun w => run_float_arith (P := Tryz.prog) w .mul 22 .f32 _ _ _ A.m
  have HF0 := hid hf0
  have HF1 := hid hf1
  clear kk hp hk hf hf0 hf1 hX hc hh hq ht hxe ho hR hz hG A hH hV hVl hHV
  go_enter Tryz.func81, Tryz.ntmps81
  go_wp2_with fail
  refine (HE.out _ (k0.out.at (x := (k, vls m2 f2, T2)) in3)).mono ?_
  rintro e w0 ⟨rfl, hb0⟩
  have k1 := hid (k0.out.stay hb0)
  clear hb0 k0
  go_wp2_with fail
  refine (HG.out _).mono ?_
  rintro e w1 ⟨rfl, hb1⟩
  have k2 := hid (k1.out.stay hb1)
  clear hb1 k1
  have k2z := hid (k2.out.push (fls fun _ => 0) 23)
  have tok1 : True := trivial
  go_wp2_with (first | (have _t := tok1; clear tok1; refine store_row (by rfl) 23 _ _ (by rfl) (w1.heap.size) (fls (g1W x t)) (fls fun _ => 0) (by rfl) (by rfl) k2z.out (by rw [fls_size]; exact info_a20) (by simp) (vls_one (n := 20) (f := flw (g1W x t)) (fun _ => rfl)) (k2.out.size) (k2.out.fresh) (fun w2 k3 => ?_); replace k3 := hid k3; clear k2z))
  clear k2
  refine (HS.out w2 w1.heap.size 23 (k3.out.at (x := (p, vls m f, T1)) in3) (k3.out.at (x := (w1.heap.size, fls (g1W x t), 23)) in0)).mono ?_
  rintro e w3 ⟨rfl, hb3⟩
  have k4 := hid (k3.out.stay hb3)
  clear hb3 k3
  have k4z := hid (k4.out.push (fls fun _ => 0) 30)
  have tok1 : True := trivial
  go_wp2_with (first
    | (have _t := tok1; clear tok1; refine store_rowE (by rfl) 30 _ _ (by rfl) (w3.heap.size) (fls R) (fls fun _ => 0) (by rfl) (by rfl) (k4z.out.at (x := (w3.heap.size, fls fun _ => 0, 30)) in0) (by rw [fls_size]; exact info_arr) (by simp) (vls_one (n := 20) (f := flw R) (fun _ => rfl)) (fun w5 e5 => ?_); have k5 := hid (e5 ▸ k4z.out.set k4.out.size k4.out.fresh (fls R)); clear e5 k4z; have tok2 : True := trivial)
    | (have _t := tok2; clear tok2; refine load_cut (by rfl) 32 _ (by rfl) k o2 2 (by rfl) (k5.out.at (x := (k, vls m2 f2, T2)) (List.mem_cons_of_mem _ in4)) hom2 (#[.float .f32 h, .float .f32 v]) (two_at HF0.out HF1.out) _ Tryz.underlying32 (by rfl) info_air ?_))
  refine (HP.out _).mono ?_
  rintro e w6 ⟨rfl, hb6⟩
  have k6 := hid (k5.out.stay hb6)
  clear hb6 k5
  go_wp2_with fail
  refine (HW.out _).mono ?_
  rintro e w7 ⟨rfl, hb7⟩
  have k7 := hid (k6.out.stay hb7)
  clear hb7 k6
  have k7z := hid (k7.out.push #[.float .f32 0, .float .f32 0] 32)
  have tok1 : True := trivial
  go_wp2_with (first | (have _t := tok1; clear tok1; refine store_rowE (by rfl) 32 _ _ (by rfl) (w7.heap.size) (#[.float .f32 H, .float .f32 V]) (#[.float .f32 0, .float .f32 0]) (by rfl) (by rfl) (k7z.out.at (x := (w7.heap.size, #[.float .f32 0, .float .f32 0], 32)) in0) (info_air) (by simp) (two_one _ _) (fun w8 e8 => ?_); have k8 := hid (e8 ▸ k7z.out.set k7.out.size k7.out.fresh (#[.float .f32 H, .float .f32 V])); clear e8 k7z))
  refine (HO.out w8 (w7.heap.size) 32 (k8.out.at (x := (w7.heap.size, #[.float .f32 H, .float .f32 V], 32)) in0)).mono ?_
  rintro e w9 ⟨rfl, hb9⟩
  have k9 := hid (k8.out.stay hb9)
  have z3 := k4.out.lt (x := (w.heap.size + 1, #[.float .f32 0, .float .f32 0], 32)) in1
  have z7 := k7.out.lt (x := (w.heap.size + 1, #[.float .f32 0, .float .f32 0], 32)) in2
  clear hb9 k8 k7
  go_wp2_with fail
  refine region_act (w0 := w) (lk := [(w7.heap.size, #[.float .f32 H, .float .f32 V], 32), (w3.heap.size, fls R, 30)]) (fun a0 a1 wq => a1 = (((a0.put (some 86) (.agg (fls R))).put (some 87) (.agg #[.float .f32 H, .float .f32 V])).put (some 8) (.int .i64 0)) ∧ Kept w [(w.heap.size + 1, #[.float .f32 H, .float .f32 V], 32), (w.heap.size, fls R, 30)] wq) 5 #[false, false, false, false, false] (by kernel_rfl) rfl rfl ?_ ?_
  · have kd : Kept w [(w.heap.size + 1, #[.float .f32 0, .float .f32 0], 32), (w.heap.size, fls fun _ => 0, 30), (w7.heap.size, #[.float .f32 H, .float .f32 V], 32), (w3.heap.size, fls R, 30)] w9.drew := k9.out.drew.sub (pick4 _ _ _ _ _ _)
    generalize World.drew _ = wd at kd ⊢
    refine take_load 0 _ _ rfl (by rfl) (by kernel_rfl) (by kernel_rfl) (by kernel_rfl) 30 _ rfl (w3.heap.size) (fls R) 30 rfl (by simp) _ Tryz.underlying30 rfl (by rw [fls_size]; exact info_arr) rfl rfl kd.tail.tail ?_
    simp only [Act.put, List.setIfInBounds_toArray, List.set_cons_zero, List.set_cons_succ]
    refine take_load 1 _ _ rfl (by rfl) (by kernel_rfl) (by kernel_rfl) (by kernel_rfl) 32 _ rfl (w7.heap.size) (#[.float .f32 H, .float .f32 V]) 32 rfl (by simp) _ Tryz.underlying32 rfl (info_air) rfl rfl kd.tail.tail ?_
    simp only [Act.put, List.setIfInBounds_toArray, List.set_cons_zero, List.set_cons_succ]
    refine wpAnyH_ready (rs := [2]) (by kernel_rfl) (by simp) ?_
    refine storeK 2 _ _ (kd).swap (Nat.le_refl _) (neC (by omega) (neC (by omega) (neC (by omega) ne0))) rfl (by rfl) 30 _ _ rfl (fls R) rfl rfl (by rw [fls_size]; exact info_arr) (by simp) (vls_one (n := 20) (f := flw R) (fun _ => rfl)) rfl rfl (fun w1 k1 => ?_) AllReadyH.nil
    refine ⟨k1.tail.tail, ?_⟩
    refine wpAnyH_ready (rs := [3]) (by kernel_rfl) (by simp) ?_
    refine storeK 3 _ _ (k1).swap (by omega) (neC (by omega) (neC (by omega) (neC (by omega) ne0))) rfl (by rfl) 32 _ _ rfl (#[.float .f32 H, .float .f32 V]) rfl rfl (info_air) (by simp) (two_one _ _) rfl rfl (fun w2 k2 => ?_) AllReadyH.nil
    refine ⟨k2.tail.tail, ?_⟩
    refine take_val 4 _ _ (.int .i64 0) rfl (by rfl) (by kernel_rfl) (by kernel_rfl) (by kernel_rfl) (fun w => by rfl) rfl rfl k2.tail.tail ?_
    simp only [Act.put, List.setIfInBounds_toArray, List.set_cons_zero, List.set_cons_succ]
    refine wpAnyH_done (by kernel_rfl) ?_ _
    exact ⟨rfl, by simp only [Act.put], k2.sub (pick2 _ _ _)⟩
  rintro a1 wX ⟨rfl, kX⟩
  have kX := hid kX
  clear k9
  simp only [Act.put, List.setIfInBounds_toArray, List.set_cons_zero, List.set_cons_succ]
  go_wp2_with fail
  have e1 : (loadVar 30 ⟨w.heap.size, 0, none⟩).run Tryz.prog wX = .ok (.agg (fls R)) wX := run_loadVar_row _ (w.heap.size) 30 30 (fls R) (0, 0) _ (kX.out.at (x := (w.heap.size, fls R, 30)) in1) Tryz.underlying30 rfl (by rw [fls_size]; exact info_arr)
  have e2 : (loadVar 32 ⟨w.heap.size + 1, 0, none⟩).run Tryz.prog wX = .ok (.agg #[.float .f32 H, .float .f32 V]) wX := run_loadVar_row _ (w.heap.size + 1) 32 32 (#[.float .f32 H, .float .f32 V]) (0, 0) _ (kX.out.at (x := (w.heap.size + 1, #[.float .f32 H, .float .f32 V], 32)) in0) Tryz.underlying32 rfl (info_air)
  refine ⟨rfl, .tuple #[.agg (fls R), .agg #[.float .f32 H, .float .f32 V], .int .i64 0], ?_, rfl, kX.out.1⟩
  simp [results, Tryz.results81, asAddr, e1, e2, Sem.run_bind, Result.andThen_ok]

set_option maxRecDepth 100000 in
set_option maxHeartbeats 400000 in
theorem sOnceO_big_bad (c : Nat → Nat) (h v t : Nat) (hc : Amts c) (hh : IsHeat h) (hq : airB h v = true) (ht : amtB t = true) (x : Nat) (hxe : excF h v = x) (ho : ShOk c (g1W x t)) (R1 : Nat → Nat) (hR1 : shN c (g1W x t) 20 = R1) (z1 : Nat) (hz1 : watG c (g1W x t) = z1) (G1 : Nat) (hG1 : S.div z1 1199570944 = some G1) (h0 : (FloatKind.f32.format.order x 0 == some .gt) = true) (h1 : (FloatKind.f32.format.order G1 x == some .gt) = true) (D : Nat) (hD : S.div x G1 = some D) (hM : ∀ i, i < 20 → S.mul (g1W x t i) D = some (g2W c x t i) ∧ FW (g2W c x t i)) (hn : ¬ ShOk c (g2W c x t)) (w : World) (p k : Nat) (T1 T2 : TypeId) (m o : Nat) (f : Nat → Value) (hom : o + 20 ≤ m) (hf : ∀ j, j < 20 → f (o + j) = .float .f32 (c j)) (m2 o2 : Nat) (f2 : Nat → Value) (hom2 : o2 + 2 ≤ m2) (hf0 : f2 o2 = .float .f32 h) (hf1 : f2 (o2 + 1) = .float .f32 v) (hp : vAt w p m f T1) (hk : vAt w k m2 f2 T2) :
    Calls Tryz.prog 81 #[.pointer (some ⟨p, o, none⟩), .pointer (some ⟨k, o2, none⟩), .float .f32 t] w fun e w' => e = .returned (.tuple #[.agg (fls fun _ => 0), .agg #[.float .f32 0, .float .f32 0], .int .i64 4]) ∧ Below w.heap.size w w' := by
  have kk : Kept w [(p, vls m f, T1), (k, vls m2 f2, T2)] w := ⟨Below.refl _ _, fun x hx => by
    simp only [List.mem_cons, List.not_mem_nil, or_false] at hx
    rcases hx with rfl | rfl
    · exact hp
    · exact hk⟩
  have lp : p < w.heap.size := kk.lt (x := (p, vls m f, T1)) in0
  have lk : k < w.heap.size := kk.lt (x := (k, vls m2 f2, T2)) in1
  have k0 : Hid (Kept w [(w.heap.size + 1, #[.float .f32 0, .float .f32 0], 32), (w.heap.size, fls fun _ => 0, 30), (p, vls m f, T1), (k, vls m2 f2, T2)] ((w.alloc (.cells (fls fun _ => 0) 30)).alloc (.cells #[.float .f32 0, .float .f32 0] 32))) := by
    have := (kk.push (fls fun _ => 0) 30).push #[.float .f32 0, .float .f32 0] 32
    simp only [World.size_alloc] at this
    exact hid this
  have hX := exf_of hh hq ht
  have HE := fun w (hr : vAt w k m2 f2 T2) => sExcOff h v hh.1 hq w k o2 ((hr.cell (k := o2) (by omega)).trans (congrArg some hf0)) ((hr.cell (k := o2 + 1) (by omega)).trans (congrArg some hf1))
  rw [hxe] at HE
  rw [hxe] at hX
  have HE := hid HE
  have HG := hid (fun w => sGainsX x t hX w)
  have HS := hid (fun w q T2 (hp : vAt w p m f T1) hq => sShiftO c (g1W x t) hc hX.g1 R1 z1 0 (fun _ => ⟨hR1.symm, hz1.symm, rfl⟩) (fun h => absurd ho h) w p q T1 T2 m o f hom hf hp hq)
  have HM := hid hM
  have rq := fun w => run_float_arith (P := Tryz.prog) w .quo 22 .f32 _ _ _ hG1
  have rd := fun w => run_float_arith (P := Tryz.prog) w .quo 22 .f32 _ _ _ hD
  have HS2 := hid (fun w q T2 (hp : vAt w p m f T1) hq => sShiftO c (g2W c x t) hc (fun i hi => (hM i hi).2) (fun _ => 0) 0 4 (fun h => absurd h hn) (fun _ => ⟨rfl, rfl, rfl⟩) w p q T1 T2 m o f hom hf hp hq)
  have HF0 := hid hf0
  have HF1 := hid hf1
  clear kk hp hk hf hf0 hf1 hX hc hh hq ht hxe ho hR1 hz1 hG1 hD hM hn
  go_enter Tryz.func81, Tryz.ntmps81
  go_wp2_with fail
  refine (HE.out _ (k0.out.at (x := (k, vls m2 f2, T2)) in3)).mono ?_
  rintro e w0 ⟨rfl, hb0⟩
  have k1 := hid (k0.out.stay hb0)
  clear hb0 k0
  go_wp2_with fail
  refine (HG.out _).mono ?_
  rintro e w1 ⟨rfl, hb1⟩
  have k2 := hid (k1.out.stay hb1)
  clear hb1 k1
  have k2z := hid (k2.out.push (fls fun _ => 0) 23)
  have tok1 : True := trivial
  go_wp2_with (first | (have _t := tok1; clear tok1; refine store_row (by rfl) 23 _ _ (by rfl) (w1.heap.size) (fls (g1W x t)) (fls fun _ => 0) (by rfl) (by rfl) k2z.out (by rw [fls_size]; exact info_a20) (by simp) (vls_one (n := 20) (f := flw (g1W x t)) (fun _ => rfl)) (k2.out.size) (k2.out.fresh) (fun w2 k3 => ?_); replace k3 := hid k3; clear k2z))
  have m1 := k2.out.lt (x := (w.heap.size + 1, #[.float .f32 0, .float .f32 0], 32)) in0
  clear k2
  refine (HS.out w2 w1.heap.size 23 (k3.out.at (x := (p, vls m f, T1)) in3) (k3.out.at (x := (w1.heap.size, fls (g1W x t), 23)) in0)).mono ?_
  rintro e w3 ⟨rfl, hb3⟩
  have k4 := hid (k3.out.stay hb3)
  clear hb3 k3
  have m3 := k4.out.lt (x := (w1.heap.size, fls (g1W x t), 23)) in0
  have k4z := hid (k4.out.push (fls fun _ => 0) 30)
  have tok1 : True := trivial
  go_wp2_with (first
    | (have _t := tok1; clear tok1; refine store_rowE (by rfl) 30 _ _ (by rfl) (w3.heap.size) (fls R1) (fls fun _ => 0) (by rfl) (by rfl) (k4z.out.at (x := (w3.heap.size, fls fun _ => 0, 30)) in0) (by rw [fls_size]; exact info_arr) (by simp) (vls_one (n := 20) (f := flw R1) (fun _ => rfl)) (fun w5 e5 => ?_); have k5 := hid (e5 ▸ k4z.out.set k4.out.size k4.out.fresh (fls R1)); clear e5 k4z))
  have kE : Hid (Kept w [(w1.heap.size, vls 20 (flw (g1W x t)), 23), (w3.heap.size, fls R1, 30), (w.heap.size + 1, #[.float .f32 0, .float .f32 0], 32), (w.heap.size, fls fun _ => 0, 30), (p, vls m f, T1), (k, vls m2 f2, T2)] w5) := hid k5.out.swap
  have M1 := hid m1
  have M3 := hid m3
  clear k5 k4 m1 m3
  go_loopw [15] (fun i wr => ∃ kk : Nat, kk ≤ 20 ∧ i = .int .i64 kk ∧ Hid (Kept w [(w1.heap.size, vls 20 (flw (prt (g2W c x t) (g1W x t) kk)), 23), (w3.heap.size, fls R1, 30), (w.heap.size + 1, #[.float .f32 0, .float .f32 0], 32), (w.heap.size, fls fun _ => 0, 30), (p, vls m f, T1), (k, vls m2 f2, T2)] wr)) (fun i _ => 20 - (intOf i).toNat)
  case atStart => exact ⟨0, by omega, rfl, hid (Kept.ext (f := flw (g1W x t)) (d := flw (prt (g2W c x t) (g1W x t) 0)) kE.out (fun i _ => by unfold flw prt; rw [if_neg (by omega)]))⟩
  case round =>
    clear kE rq rd h0 h1
    obtain ⟨kk, hk, rfl, h0⟩ := hrel
    by_cases hlt : kk < 20
    · have HL := hid hlt
      have hk3 : (kk : Int) < 20 := by omega
      have hcell : wr.cell? ⟨w1.heap.size, kk, none⟩ = some (.float .f32 (g1W x t kk)) := by
        rw [(h0.out.v in0).cell hlt]
        unfold flw prt
        rw [if_neg (by omega)]
      have rm := fun w => run_float_arith (P := Tryz.prog) w .mul 22 .f32 _ _ _ (HM.out kk hlt).1
      clear hk hlt
      go_wp2_with (refine store_one (by rfl) 22 _ _ (by rfl) (by kernel_rfl) (w1.heap.size) kk (.float .f32 (g2W c x t kk)) (by rfl) (by rfl) rfl rfl h0.out HL.out (by have := M1.out; omega) (neC (Nat.ne_of_gt M3.out) (neC (Nat.ne_of_lt M1.out) (neC (by have := M1.out; omega) (neC (by have := M1.out; omega) (neC (by have := M1.out; omega) ne0))))) ?_; intro xk1 k1; replace k1 := hid k1)
      have k2 := hid (k1.out.ext (fun i _ => prt_upd _ _ _ _))
      clear k1 hcell rm h0
      go_roundw
      case rel => exact ⟨kk + 1, HL.out, by go_num, k2⟩
      case measure => have := HL.out; simp [intOf]; omega
    · obtain rfl : kk = 20 := by omega
      have kF : Hid (Kept w [(w1.heap.size, vls 20 (flw (g2W c x t)), 23), (w3.heap.size, fls R1, 30), (w.heap.size + 1, #[.float .f32 0, .float .f32 0], 32), (w.heap.size, fls fun _ => 0, 30), (p, vls m f, T1), (k, vls m2 f2, T2)] wr) := hid (Kept.ext (d := flw (g2W c x t)) h0.out (fun i hi => by unfold flw prt; rw [if_pos hi]))
      clear h0 hlt hk
      go_wp2_with fail
      refine (HS2.out wr w1.heap.size 23 (kF.out.at (x := (p, vls m f, T1)) in4) (kF.out.at (x := (w1.heap.size, vls 20 (flw (g2W c x t)), 23)) in0)).mono ?_
      rintro e wS ⟨rfl, hbS⟩
      have k4 := hid (kF.out.stay hbS)
      clear hbS kF
      have k4z := hid (k4.out.push (fls fun _ => 0) 30)
      have tok1 : True := trivial
      go_wp2_with (first
        | (have _t := tok1; clear tok1; refine store_rowE (by rfl) 30 _ _ (by rfl) (wS.heap.size) (fls fun _ => 0) (fls fun _ => 0) (by rfl) (by rfl) (k4z.out.at (x := (wS.heap.size, fls fun _ => 0, 30)) in0) (by rw [fls_size]; exact info_arr) (by simp) (vls_one (n := 20) (f := flw fun _ => 0) (fun _ => rfl)) (fun w5 e5 => ?_); have k5 := hid (e5 ▸ k4z.out.same in0 k4.out.size); clear e5 k4z; have tok2 : True := trivial)
        | (have _t := tok2; clear tok2; refine store_rowE (by rfl) 30 _ _ (by rfl) (w.heap.size) (fls fun _ => 0) (fls fun _ => 0) (by rfl) (by rfl) (k5.out.at (x := (w.heap.size, fls fun _ => 0, 30)) in4) (by rw [fls_size]; exact info_arr) (by simp) (vls_one (n := 20) (f := flw fun _ => 0) (fun _ => rfl)) (fun w6 e6 => ?_); have k6 := hid (e6 ▸ k5.out.same in4 (Nat.le_refl _)); clear e6 k5; have tok3 : True := trivial)
        | (have _t := tok3; clear tok3; refine store_rowE (by rfl) 32 _ _ (by rfl) (w.heap.size + 1) (#[.float .f32 0, .float .f32 0]) (#[.float .f32 0, .float .f32 0]) (by rfl) (by rfl) (k6.out.at (x := (w.heap.size + 1, #[.float .f32 0, .float .f32 0], 32)) in3) (info_air) (by simp) (two_one _ _) (fun w7 e7 => ?_); have k7 := hid (e7 ▸ k6.out.same (g := w.heap.size + 1) in3 (by omega)); clear e7 k6))
      have e1 : (loadVar 30 ⟨w.heap.size, 0, none⟩).run Tryz.prog w7 = .ok (.agg (fls fun _ => 0)) w7 := run_loadVar_row _ (w.heap.size) 30 30 (fls fun _ => 0) (0, 0) _ (k7.out.at (x := (w.heap.size, fls fun _ => 0, 30)) in4) Tryz.underlying30 rfl (by rw [fls_size]; exact info_arr)
      have e2 : (loadVar 32 ⟨w.heap.size + 1, 0, none⟩).run Tryz.prog w7 = .ok (.agg #[.float .f32 0, .float .f32 0]) w7 := run_loadVar_row _ (w.heap.size + 1) 32 32 (#[.float .f32 0, .float .f32 0]) (0, 0) _ (k7.out.at (x := (w.heap.size + 1, #[.float .f32 0, .float .f32 0], 32)) in3) Tryz.underlying32 rfl (info_air)
      refine ⟨rfl, .tuple #[.agg (fls fun _ => 0), .agg #[.float .f32 0, .float .f32 0], .int .i64 4], ?_, rfl, k7.out.1⟩
      simp [results, Tryz.results81, asAddr, e1, e2, Sem.run_bind, Result.andThen_ok]

set_option maxRecDepth 100000 in
set_option maxHeartbeats 400000 in
theorem sOnceO_big_ok (c : Nat → Nat) (h v t : Nat) (hc : Amts c) (hh : IsHeat h) (hq : airB h v = true) (ht : amtB t = true) (x : Nat) (hxe : excF h v = x) (ho : ShOk c (g1W x t)) (R1 : Nat → Nat) (hR1 : shN c (g1W x t) 20 = R1) (z1 : Nat) (hz1 : watG c (g1W x t) = z1) (G1 : Nat) (hG1 : S.div z1 1199570944 = some G1) (h0 : (FloatKind.f32.format.order x 0 == some .gt) = true) (h1 : (FloatKind.f32.format.order G1 x == some .gt) = true) (D : Nat) (hD : S.div x G1 = some D) (hM : ∀ i, i < 20 → S.mul (g1W x t i) D = some (g2W c x t i) ∧ FW (g2W c x t i)) (ho2 : ShOk c (g2W c x t)) (R : Nat → Nat) (hR : shN c (g2W c x t) 20 = R) (z : Nat) (hz : watG c (g2W c x t) = z) (G : Nat) (hG : S.div z 1199570944 = some G) (A : StepA h v G) (H V : Nat) (hH : nhW h G = H) (hV : nvW v G = V) (hVl : V < 4294967296) (hHV : airB H V = true) (w : World) (p k : Nat) (T1 T2 : TypeId) (m o : Nat) (f : Nat → Value) (hom : o + 20 ≤ m) (hf : ∀ j, j < 20 → f (o + j) = .float .f32 (c j)) (m2 o2 : Nat) (f2 : Nat → Value) (hom2 : o2 + 2 ≤ m2) (hf0 : f2 o2 = .float .f32 h) (hf1 : f2 (o2 + 1) = .float .f32 v) (hp : vAt w p m f T1) (hk : vAt w k m2 f2 T2) :
    Calls Tryz.prog 81 #[.pointer (some ⟨p, o, none⟩), .pointer (some ⟨k, o2, none⟩), .float .f32 t] w fun e w' => e = .returned (.tuple #[.agg (fls R), .agg #[.float .f32 H, .float .f32 V], .int .i64 0]) ∧ Below w.heap.size w w' := by
  have kk : Kept w [(p, vls m f, T1), (k, vls m2 f2, T2)] w := ⟨Below.refl _ _, fun x hx => by
    simp only [List.mem_cons, List.not_mem_nil, or_false] at hx
    rcases hx with rfl | rfl
    · exact hp
    · exact hk⟩
  have lp : p < w.heap.size := kk.lt (x := (p, vls m f, T1)) in0
  have lk : k < w.heap.size := kk.lt (x := (k, vls m2 f2, T2)) in1
  have k0 : Hid (Kept w [(w.heap.size + 1, #[.float .f32 0, .float .f32 0], 32), (w.heap.size, fls fun _ => 0, 30), (p, vls m f, T1), (k, vls m2 f2, T2)] ((w.alloc (.cells (fls fun _ => 0) 30)).alloc (.cells #[.float .f32 0, .float .f32 0] 32))) := by
    have := (kk.push (fls fun _ => 0) 30).push #[.float .f32 0, .float .f32 0] 32
    simp only [World.size_alloc] at this
    exact hid this
  have hX := exf_of hh hq ht
  have HE := fun w (hr : vAt w k m2 f2 T2) => sExcOff h v hh.1 hq w k o2 ((hr.cell (k := o2) (by omega)).trans (congrArg some hf0)) ((hr.cell (k := o2 + 1) (by omega)).trans (congrArg some hf1))
  rw [hxe] at HE
  rw [hxe] at hX
  have HE := hid HE
  have HG := hid (fun w => sGainsX x t hX w)
  have HS := hid (fun w q T2 (hp : vAt w p m f T1) hq => sShiftO c (g1W x t) hc hX.g1 R1 z1 0 (fun _ => ⟨hR1.symm, hz1.symm, rfl⟩) (fun h => absurd ho h) w p q T1 T2 m o f hom hf hp hq)
  have HM := hid hM
  have rq := fun w => run_float_arith (P := Tryz.prog) w .quo 22 .f32 _ _ _ hG1
  have rd := fun w => run_float_arith (P := Tryz.prog) w .quo 22 .f32 _ _ _ hD
  have HS2 := hid (fun w q T2 (hp : vAt w p m f T1) hq => sShiftO c (g2W c x t) hc (fun i hi => (hM i hi).2) R z 0 (fun _ => ⟨hR.symm, hz.symm, rfl⟩) (fun h => absurd ho2 h) w p q T1 T2 m o f hom hf hp hq)
  have HP := hid (fun w => sSpendG h v G A w)
  have HW := hid (fun w => sWarmG h v V G A w)
  rw [hV] at HP
  rw [hH] at HW
  have HO := hid (fun w g T hg => sAirOk H V hVl true hHV w g T hg)
  have rq2 := fun w => run_float_arith (P := Tryz.prog) w .quo 22 .f32 _ _ _ hG
  have rm := fun w => run_float_arith (P := Tryz.prog) w .mul 22 .f32 _ _ _ A.m
  have HF0 := hid hf0
  have HF1 := hid hf1
  clear kk hp hk hf hf0 hf1 hX hc hh hq ht hxe ho hR1 hz1 hG1 hD hM ho2 hR hz hG A hH hV hVl hHV
  go_enter Tryz.func81, Tryz.ntmps81
  go_wp2_with fail
  refine (HE.out _ (k0.out.at (x := (k, vls m2 f2, T2)) in3)).mono ?_
  rintro e w0 ⟨rfl, hb0⟩
  have k1 := hid (k0.out.stay hb0)
  clear hb0 k0
  go_wp2_with fail
  refine (HG.out _).mono ?_
  rintro e w1 ⟨rfl, hb1⟩
  have k2 := hid (k1.out.stay hb1)
  clear hb1 k1
  have k2z := hid (k2.out.push (fls fun _ => 0) 23)
  have tok1 : True := trivial
  go_wp2_with (first | (have _t := tok1; clear tok1; refine store_row (by rfl) 23 _ _ (by rfl) (w1.heap.size) (fls (g1W x t)) (fls fun _ => 0) (by rfl) (by rfl) k2z.out (by rw [fls_size]; exact info_a20) (by simp) (vls_one (n := 20) (f := flw (g1W x t)) (fun _ => rfl)) (k2.out.size) (k2.out.fresh) (fun w2 k3 => ?_); replace k3 := hid k3; clear k2z))
  have m1 := k2.out.lt (x := (w.heap.size + 1, #[.float .f32 0, .float .f32 0], 32)) in0
  clear k2
  refine (HS.out w2 w1.heap.size 23 (k3.out.at (x := (p, vls m f, T1)) in3) (k3.out.at (x := (w1.heap.size, fls (g1W x t), 23)) in0)).mono ?_
  rintro e w3 ⟨rfl, hb3⟩
  have k4 := hid (k3.out.stay hb3)
  clear hb3 k3
  have m3 := k4.out.lt (x := (w1.heap.size, fls (g1W x t), 23)) in0
  have k4z := hid (k4.out.push (fls fun _ => 0) 30)
  have tok1 : True := trivial
  go_wp2_with (first
    | (have _t := tok1; clear tok1; refine store_rowE (by rfl) 30 _ _ (by rfl) (w3.heap.size) (fls R1) (fls fun _ => 0) (by rfl) (by rfl) (k4z.out.at (x := (w3.heap.size, fls fun _ => 0, 30)) in0) (by rw [fls_size]; exact info_arr) (by simp) (vls_one (n := 20) (f := flw R1) (fun _ => rfl)) (fun w5 e5 => ?_); have k5 := hid (e5 ▸ k4z.out.set k4.out.size k4.out.fresh (fls R1)); clear e5 k4z))
  have kE : Hid (Kept w [(w1.heap.size, vls 20 (flw (g1W x t)), 23), (w3.heap.size, fls R1, 30), (w.heap.size + 1, #[.float .f32 0, .float .f32 0], 32), (w.heap.size, fls fun _ => 0, 30), (p, vls m f, T1), (k, vls m2 f2, T2)] w5) := hid k5.out.swap
  have M1 := hid m1
  have M3 := hid m3
  clear k5 k4 m1 m3
  go_loopw [15] (fun i wr => ∃ kk : Nat, kk ≤ 20 ∧ i = .int .i64 kk ∧ Hid (Kept w [(w1.heap.size, vls 20 (flw (prt (g2W c x t) (g1W x t) kk)), 23), (w3.heap.size, fls R1, 30), (w.heap.size + 1, #[.float .f32 0, .float .f32 0], 32), (w.heap.size, fls fun _ => 0, 30), (p, vls m f, T1), (k, vls m2 f2, T2)] wr)) (fun i _ => 20 - (intOf i).toNat)
  case atStart => exact ⟨0, by omega, rfl, hid (Kept.ext (f := flw (g1W x t)) (d := flw (prt (g2W c x t) (g1W x t) 0)) kE.out (fun i _ => by unfold flw prt; rw [if_neg (by omega)]))⟩
  case round =>
    clear kE rq rd h0 h1
    obtain ⟨kk, hk, rfl, h0⟩ := hrel
    by_cases hlt : kk < 20
    · have HL := hid hlt
      have hk3 : (kk : Int) < 20 := by omega
      have hcell : wr.cell? ⟨w1.heap.size, kk, none⟩ = some (.float .f32 (g1W x t kk)) := by
        rw [(h0.out.v in0).cell hlt]
        unfold flw prt
        rw [if_neg (by omega)]
      have rm := fun w => run_float_arith (P := Tryz.prog) w .mul 22 .f32 _ _ _ (HM.out kk hlt).1
      clear hk hlt
      go_wp2_with (refine store_one (by rfl) 22 _ _ (by rfl) (by kernel_rfl) (w1.heap.size) kk (.float .f32 (g2W c x t kk)) (by rfl) (by rfl) rfl rfl h0.out HL.out (by have := M1.out; omega) (neC (Nat.ne_of_gt M3.out) (neC (Nat.ne_of_lt M1.out) (neC (by have := M1.out; omega) (neC (by have := M1.out; omega) (neC (by have := M1.out; omega) ne0))))) ?_; intro xk1 k1; replace k1 := hid k1)
      have k2 := hid (k1.out.ext (fun i _ => prt_upd _ _ _ _))
      clear k1 hcell rm h0
      go_roundw
      case rel => exact ⟨kk + 1, HL.out, by go_num, k2⟩
      case measure => have := HL.out; simp [intOf]; omega
    · obtain rfl : kk = 20 := by omega
      have kF : Hid (Kept w [(w1.heap.size, vls 20 (flw (g2W c x t)), 23), (w3.heap.size, fls R1, 30), (w.heap.size + 1, #[.float .f32 0, .float .f32 0], 32), (w.heap.size, fls fun _ => 0, 30), (p, vls m f, T1), (k, vls m2 f2, T2)] wr) := hid (Kept.ext (d := flw (g2W c x t)) h0.out (fun i hi => by unfold flw prt; rw [if_pos hi]))
      clear h0 hlt hk
      go_wp2_with fail
      refine (HS2.out wr w1.heap.size 23 (kF.out.at (x := (p, vls m f, T1)) in4) (kF.out.at (x := (w1.heap.size, vls 20 (flw (g2W c x t)), 23)) in0)).mono ?_
      rintro e wS ⟨rfl, hbS⟩
      have k4 := hid (kF.out.stay hbS)
      clear hbS kF
      have k4z := hid (k4.out.push (fls fun _ => 0) 30)
      have tok1 : True := trivial
      go_wp2_with (first
        | (have _t := tok1; clear tok1; refine store_rowE (by rfl) 30 _ _ (by rfl) (wS.heap.size) (fls R) (fls fun _ => 0) (by rfl) (by rfl) (k4z.out.at (x := (wS.heap.size, fls fun _ => 0, 30)) in0) (by rw [fls_size]; exact info_arr) (by simp) (vls_one (n := 20) (f := flw R) (fun _ => rfl)) (fun wT e5 => ?_); have k4y := hid (e5 ▸ k4z.out.set k4.out.size k4.out.fresh (fls R)); clear e5 k4z; have tok2 : True := trivial)
        | (have _t := tok2; clear tok2; refine wpList_load_row (by rfl) 30 _ (by rfl) (wS.heap.size) (by rfl) 30 (fls R) (0, 0) _ (k4y.out.at (x := (wS.heap.size, fls R, 30)) in0) Tryz.underlying30 (by rfl) (by rw [fls_size]; exact info_arr) ?_; have tok3 : True := trivial)
        | (have _t := tok3; clear tok3; refine store_rowE (by rfl) 30 _ _ (by rfl) (w3.heap.size) (fls R) (fls R1) (by rfl) (by rfl) (k4y.out.at (x := (w3.heap.size, fls R1, 30)) in2) (by rw [fls_size]; exact info_arr) (by simp) (vls_one (n := 20) (f := flw R) (fun _ => rfl)) (fun wU e6 => ?_); have k5 := hid (e6 ▸ k4y.out.tail.swap.set (by have := M1.out; have := M3.out; omega) (neC (Nat.ne_of_lt M3.out) (neC (by have := M1.out; have := M3.out; omega) (neC (by have := M1.out; have := M3.out; omega) (neC (by have := M1.out; have := M3.out; omega) (neC (by have := M1.out; have := M3.out; omega) ne0))))) (fls R)); clear e6 k4y; have tok4 : True := trivial)
        | (have _t := tok4; clear tok4; refine load_cut (by rfl) 32 _ (by rfl) k o2 2 (by rfl) (k5.out.at (x := (k, vls m2 f2, T2)) (List.mem_cons_of_mem _ in4)) hom2 (#[.float .f32 h, .float .f32 v]) (two_at HF0.out HF1.out) _ Tryz.underlying32 (by rfl) info_air ?_))
      refine (HP.out _).mono ?_
      rintro e w6 ⟨rfl, hb6⟩
      have k6 := hid (k5.out.stay hb6)
      clear hb6 k5
      go_wp2_with fail
      refine (HW.out _).mono ?_
      rintro e w7 ⟨rfl, hb7⟩
      have k7 := hid (k6.out.stay hb7)
      clear hb7 k6
      have k7z := hid (k7.out.push #[.float .f32 0, .float .f32 0] 32)
      have tok1 : True := trivial
      go_wp2_with (first | (have _t := tok1; clear tok1; refine store_rowE (by rfl) 32 _ _ (by rfl) (w7.heap.size) (#[.float .f32 H, .float .f32 V]) (#[.float .f32 0, .float .f32 0]) (by rfl) (by rfl) (k7z.out.at (x := (w7.heap.size, #[.float .f32 0, .float .f32 0], 32)) in0) (info_air) (by simp) (two_one _ _) (fun w8 e8 => ?_); have k8 := hid (e8 ▸ k7z.out.set k7.out.size k7.out.fresh (#[.float .f32 H, .float .f32 V])); clear e8 k7z))
      refine (HO.out w8 (w7.heap.size) 32 (k8.out.at (x := (w7.heap.size, #[.float .f32 H, .float .f32 V], 32)) in0)).mono ?_
      rintro e w9 ⟨rfl, hb9⟩
      have k9 := hid (k8.out.stay hb9)
      have z3 : w.heap.size + 1 < w3.heap.size := by have := M1.out; have := M3.out; omega
      have z7 := k7.out.lt (x := (w.heap.size + 1, #[.float .f32 0, .float .f32 0], 32)) in2
      clear hb9 k8 k7
      go_wp2_with fail
      refine region_act (w0 := w) (lk := [(w7.heap.size, #[.float .f32 H, .float .f32 V], 32), (w3.heap.size, fls R, 30)]) (fun a0 a1 wq => a1 = (((a0.put (some 86) (.agg (fls R))).put (some 87) (.agg #[.float .f32 H, .float .f32 V])).put (some 8) (.int .i64 0)) ∧ Kept w [(w.heap.size + 1, #[.float .f32 H, .float .f32 V], 32), (w.heap.size, fls R, 30)] wq) 5 #[false, false, false, false, false] (by kernel_rfl) rfl rfl ?_ ?_
      · have kd : Kept w [(w.heap.size + 1, #[.float .f32 0, .float .f32 0], 32), (w.heap.size, fls fun _ => 0, 30), (w7.heap.size, #[.float .f32 H, .float .f32 V], 32), (w3.heap.size, fls R, 30)] w9.drew := k9.out.drew.sub (pick4 _ _ _ _ _ _)
        generalize World.drew _ = wd at kd ⊢
        refine take_load 0 _ _ rfl (by rfl) (by kernel_rfl) (by kernel_rfl) (by kernel_rfl) 30 _ rfl (w3.heap.size) (fls R) 30 rfl (by simp) _ Tryz.underlying30 rfl (by rw [fls_size]; exact info_arr) rfl rfl kd.tail.tail ?_
        simp only [Act.put, List.setIfInBounds_toArray, List.set_cons_zero, List.set_cons_succ]
        refine take_load 1 _ _ rfl (by rfl) (by kernel_rfl) (by kernel_rfl) (by kernel_rfl) 32 _ rfl (w7.heap.size) (#[.float .f32 H, .float .f32 V]) 32 rfl (by simp) _ Tryz.underlying32 rfl (info_air) rfl rfl kd.tail.tail ?_
        simp only [Act.put, List.setIfInBounds_toArray, List.set_cons_zero, List.set_cons_succ]
        refine wpAnyH_ready (rs := [2]) (by kernel_rfl) (by simp) ?_
        refine storeK 2 _ _ (kd).swap (Nat.le_refl _) (neC (by omega) (neC (by omega) (neC (by omega) ne0))) rfl (by rfl) 30 _ _ rfl (fls R) rfl rfl (by rw [fls_size]; exact info_arr) (by simp) (vls_one (n := 20) (f := flw R) (fun _ => rfl)) rfl rfl (fun w1 k1 => ?_) AllReadyH.nil
        refine ⟨k1.tail.tail, ?_⟩
        refine wpAnyH_ready (rs := [3]) (by kernel_rfl) (by simp) ?_
        refine storeK 3 _ _ (k1).swap (by omega) (neC (by omega) (neC (by omega) (neC (by omega) ne0))) rfl (by rfl) 32 _ _ rfl (#[.float .f32 H, .float .f32 V]) rfl rfl (info_air) (by simp) (two_one _ _) rfl rfl (fun w2 k2 => ?_) AllReadyH.nil
        refine ⟨k2.tail.tail, ?_⟩
        refine take_val 4 _ _ (.int .i64 0) rfl (by rfl) (by kernel_rfl) (by kernel_rfl) (by kernel_rfl) (fun w => by rfl) rfl rfl k2.tail.tail ?_
        simp only [Act.put, List.setIfInBounds_toArray, List.set_cons_zero, List.set_cons_succ]
        refine wpAnyH_done (by kernel_rfl) ?_ _
        exact ⟨rfl, by simp only [Act.put], k2.sub (pick2 _ _ _)⟩
      rintro a1 wX ⟨rfl, kX⟩
      have kX := hid kX
      clear k9
      simp only [Act.put, List.setIfInBounds_toArray, List.set_cons_zero, List.set_cons_succ]
      go_wp2_with fail
      have e1 : (loadVar 30 ⟨w.heap.size, 0, none⟩).run Tryz.prog wX = .ok (.agg (fls R)) wX := run_loadVar_row _ (w.heap.size) 30 30 (fls R) (0, 0) _ (kX.out.at (x := (w.heap.size, fls R, 30)) in1) Tryz.underlying30 rfl (by rw [fls_size]; exact info_arr)
      have e2 : (loadVar 32 ⟨w.heap.size + 1, 0, none⟩).run Tryz.prog wX = .ok (.agg #[.float .f32 H, .float .f32 V]) wX := run_loadVar_row _ (w.heap.size + 1) 32 32 (#[.float .f32 H, .float .f32 V]) (0, 0) _ (kX.out.at (x := (w.heap.size + 1, #[.float .f32 H, .float .f32 V], 32)) in0) Tryz.underlying32 rfl (info_air)
      refine ⟨rfl, .tuple #[.agg (fls R), .agg #[.float .f32 H, .float .f32 V], .int .i64 0], ?_, rfl, kX.out.1⟩
      simp [results, Tryz.results81, asAddr, e1, e2, Sem.run_bind, Result.andThen_ok]

theorem sOnceO_t (t : Nat) (s : GSt) (hs : GVal t s) (hok : GOk t s) (w : World) (p k : Nat) (T1 T2 : TypeId) (m o : Nat) (f : Nat → Value) (hom : o + 20 ≤ m) (hf : ∀ j, j < 20 → f (o + j) = .float .f32 (s.c j)) (m2 o2 : Nat) (f2 : Nat → Value) (hom2 : o2 + 2 ≤ m2) (hf0 : f2 o2 = .float .f32 s.h) (hf1 : f2 (o2 + 1) = .float .f32 s.v) (hp : vAt w p m f T1) (hk : vAt w k m2 f2 T2) :
    Calls Tryz.prog 81 #[.pointer (some ⟨p, o, none⟩), .pointer (some ⟨k, o2, none⟩), .float .f32 t] w fun e w' =>
      e = .returned (.tuple #[.agg (fls (gNext t s).c), .agg #[.float .f32 (gNext t s).h, .float .f32 (gNext t s).v], .int .i64 0]) ∧ Below w.heap.size w w' := by
  have hX := exf_of hs.h hs.q hs.t
  have fw := gainS_fw hs.c hX hok
  have A := step_a hs.h.1 hs.q fw
  have B := step_air A (airB_iff.1 hs.q).2.1 fw
  have ho : ShOk s.c (g1W (excF s.h s.v) t) := hok.1
  have d1 := s1_fw hs.c hX ho
  by_cases hb : bigG (excF s.h s.v) (s1W s.c (excF s.h s.v) t) = true
  · have ho2 := hok.2 hb
    have hM := g2_fw hs.c hX ho hb
    have hD := (big_by hX d1.2 hb).1
    have eS : gainS s.c (excF s.h s.v) t = grW (watG s.c (g2W s.c (excF s.h s.v) t)) := if_pos hb
    have eR : gainR s.c (excF s.h s.v) t = shN s.c (g2W s.c (excF s.h s.v) t) 20 := if_pos hb
    have hG := (gr_fw (wat_fw hs.c (fun i hi => (hM i hi).2) ho2)).1
    unfold gNext
    rw [eS] at A B
    rw [eS, eR]
    have hb2 := hb
    unfold bigG at hb2
    rw [Bool.and_eq_true] at hb2
    exact sOnceO_big_ok s.c s.h s.v t hs.c hs.h hs.q hs.t _ rfl ho _ rfl _ rfl _ d1.1 hb2.1 hb2.2 _ hD hM ho2 _ rfl _ rfl _ hG A _ _ rfl rfl (vap_lt B.2) B.2 w p k T1 T2 m o f hom hf m2 o2 f2 hom2 hf0 hf1 hp hk
  · have eS : gainS s.c (excF s.h s.v) t = s1W s.c (excF s.h s.v) t := if_neg hb
    have eR : gainR s.c (excF s.h s.v) t = shN s.c (g1W (excF s.h s.v) t) 20 := if_neg hb
    unfold gNext
    rw [eS] at A B
    rw [eS, eR]
    unfold bigG at hb
    cases h0 : (FloatKind.f32.format.order (excF s.h s.v) 0 == some .gt) with
    | false => exact sOnceO_small0 s.c s.h s.v t hs.c hs.h hs.q hs.t _ rfl ho _ rfl _ rfl _ d1.1 A _ _ rfl rfl (vap_lt B.2) B.2 h0 w p k T1 T2 m o f hom hf m2 o2 f2 hom2 hf0 hf1 hp hk
    | true =>
      have h1 : (FloatKind.f32.format.order (s1W s.c (excF s.h s.v) t) (excF s.h s.v) == some .gt) = false := by
        cases h1 : (FloatKind.f32.format.order (s1W s.c (excF s.h s.v) t) (excF s.h s.v) == some .gt) with
        | false => rfl
        | true => exact absurd (by rw [h0, h1]; rfl) hb
      exact sOnceO_small1 s.c s.h s.v t hs.c hs.h hs.q hs.t _ rfl ho _ rfl _ rfl _ d1.1 A _ _ rfl rfl (vap_lt B.2) B.2 h0 h1 w p k T1 T2 m o f hom hf m2 o2 f2 hom2 hf0 hf1 hp hk

theorem sOnceO_f (t : Nat) (s : GSt) (hs : GVal t s) (hno : ¬ GOk t s) (w : World) (p k : Nat) (T1 T2 : TypeId) (m o : Nat) (f : Nat → Value) (hom : o + 20 ≤ m) (hf : ∀ j, j < 20 → f (o + j) = .float .f32 (s.c j)) (m2 o2 : Nat) (f2 : Nat → Value) (hom2 : o2 + 2 ≤ m2) (hf0 : f2 o2 = .float .f32 s.h) (hf1 : f2 (o2 + 1) = .float .f32 s.v) (hp : vAt w p m f T1) (hk : vAt w k m2 f2 T2) :
    Calls Tryz.prog 81 #[.pointer (some ⟨p, o, none⟩), .pointer (some ⟨k, o2, none⟩), .float .f32 t] w fun e w' =>
      e = .returned (.tuple #[.agg (fls fun _ => 0), .agg #[.float .f32 0, .float .f32 0], .int .i64 4]) ∧ Below w.heap.size w w' := by
  have hX := exf_of hs.h hs.q hs.t
  by_cases ho : ShOk s.c (g1W (excF s.h s.v) t)
  · have d1 := s1_fw hs.c hX ho
    by_cases hb : bigG (excF s.h s.v) (s1W s.c (excF s.h s.v) t) = true
    · have hM := g2_fw hs.c hX ho hb
      have hD := (big_by hX d1.2 hb).1
      have hn : ¬ ShOk s.c (g2W s.c (excF s.h s.v) t) := fun h => hno ⟨ho, fun _ => h⟩
      have hb2 := hb
      unfold bigG at hb2
      rw [Bool.and_eq_true] at hb2
      exact sOnceO_big_bad s.c s.h s.v t hs.c hs.h hs.q hs.t _ rfl ho _ rfl _ rfl _ d1.1 hb2.1 hb2.2 _ hD hM hn w p k T1 T2 m o f hom hf m2 o2 f2 hom2 hf0 hf1 hp hk
    · exact absurd ⟨ho, fun h => absurd h hb⟩ hno
  · exact sOnceO_bad1 s.c s.h s.v t hs.c hs.h hs.q hs.t ho w p k T1 T2 m o f hom hf m2 o2 f2 hom2 hf0 hf1 hp hk

set_option maxHeartbeats 4000000 in
set_option maxRecDepth 100000 in
theorem iSettleC_ok (c : Nat → Nat) (t : Int) (hb : ∀ i, i < 177 → c i < 4294967296) (h : ColOk c t) (r : Nat → Nat) (s n : Int) (h1 : ColOk (setW c) t → r = setW c ∧ s = t ∧ n = 0) (h0 : ¬ ColOk (setW c) t → r = (fun _ => 0) ∧ s = 0 ∧ n = 4) (w : World) :
    Calls Tryz.prog 26 #[.agg (vls 178 (clw c t))] w fun e w' => e = .returned (.tuple #[.agg (vls 178 (clw r s)), .int .i64 n]) ∧ Below w.heap.size w w' := by
  have k0 : Hid (Kept w [(w.heap.size + 1, vls 178 (clw (fun _ => 0) 0), 35), (w.heap.size, vls 178 (clw c t), 35)] ((w.alloc (.cells (vls 178 (clw c t)) 35)).alloc (.cells (vls 178 (clw (fun _ => 0) 0)) 35))) := hid ((((Kept.nil w).push _ _).push _ _).sub (by simp))
  have HB := hid hb
  have HQ := hid h
  have H1 := hid h1
  have H0 := hid h0
  clear hb h h1 h0
  go_enter Tryz.func26, Tryz.ntmps26
  go_wp2_with (refine wpList_load_row rfl 35 _ rfl (w.heap.size) rfl 35 (vls 178 (clw c t)) (0, 0) _ (k0.out.v in1) Tryz.underlying35 rfl (by rw [vls_size]; exact info_col) ?_)
  refine (iValidColumn c t HB.out true (col_ok HQ.out) _).mono ?_
  rintro e u ⟨rfl, hu⟩
  have k1 := hid (k0.out.stay hu)
  clear k0 hu
  go_wp2_with fail
  refine (iFallShares _).mono ?_
  rintro e v ⟨rfl, hv⟩
  have k2 := hid (k1.out.stay hv)
  have bv : w.heap.size + 2 ≤ v.heap.size := by have := k2.out.lt (x := (w.heap.size + 1, vls 178 (clw (fun _ => 0) 0), 35)) in0; simp only at this; omega
  have fv := k2.out.fresh
  have kA := hid (k2.out.push (fls fun _ => 0) 23)
  have tokA : True := trivial
  clear k1 hv k2
  go_wp2_with (first
    | (have _t := k4; refine load_cut (by rfl) 31 _ (by rfl) (w.heap.size) 0 160 (by rfl) (k4.out.v in3) (by omega) (vls 160 (flw c)) (drops_is c t) _ Tryz.underlying31 (by rfl) info_sz8 ?_)
    | (have _t := kB; refine store_row (by rfl) 35 _ _ (by rfl) (w3.heap.size) (vls 178 (clw c t)) (vls 178 (clw (fun _ => 0) 0)) (by rfl) (by rfl) kB.out (by rw [vls_size]; exact info_col) (by simp) (vls_one (clw_one _ _)) (by omega) f3 ?_; intro w4 k4; replace k4 := hid k4; clear kB)
    | (have _t := k3; refine wpList_load_row rfl 35 _ rfl (w.heap.size) rfl 35 (vls 178 (clw c t)) (0, 0) _ (k3.out.v in2) Tryz.underlying35 rfl (by rw [vls_size]; exact info_col) ?_)
    | (have _t := tokA; refine store_row (by rfl) 23 _ _ (by rfl) (v.heap.size) (fls shr) (fls fun _ => 0) (by rfl) (by rfl) kA.out (by rw [fls_size]; exact info_a20) (by simp) (fls_one _) (by omega) fv ?_; intro w3 k3; replace k3 := hid k3; have kB := hid (k3.out.push (vls 178 (clw (fun _ => 0) 0)) 35); have b3 : v.heap.size + 1 ≤ w3.heap.size := (by have := k3.out.lt (x := (v.heap.size, fls shr, 23)) in0; simp only at this; omega); have f3 := k3.out.fresh; clear kA tokA))
  have k5 : Hid (Kept w [(w3.heap.size, vls 178 (clw (stS c (0) (0)) t), 35), (v.heap.size, fls shr, 23), (w.heap.size + 1, vls 178 (clw (fun _ => 0) 0), 35)] w4) := hid (Kept.ext (k4.out.sub (fun x hx => by rcases List.mem_cons.1 hx with rfl | hx; exact in0; rcases List.mem_cons.1 hx with rfl | hx; exact in1; rw [List.mem_singleton.1 hx]; exact in2)) (fun i _ => (clw_same (fun i => stS_zero c i) t i).symm))
  clear k3 k4 f3 fv
  go_loopw [19] (fun i wr => ∃ k : Nat, k ≤ 8 ∧ i = .int .i64 k ∧ Hid (Kept w [(w3.heap.size, vls 178 (clw (stS c (k) (0)) t), 35), (v.heap.size, fls shr, 23), (w.heap.size + 1, vls 178 (clw (fun _ => 0) 0), 35)] wr)) (fun i _ => 8 - (intOf i).toNat)
  case atStart => exact ⟨0, by omega, rfl, k5⟩
  case round =>
    clear k5
    obtain ⟨k, hk, rfl, h0⟩ := hrel
    by_cases hlt : k < 8
    · have HL := hid hlt
      have hk3 : (k : Int) < 8 := by omega
      have hix := ix8 c k hlt
      have bs : w.heap.size ≤ wr.heap.size := h0.out.size
      have fr := h0.out.fresh
      have kN := hid (h0.out.push (fls fun _ => 0) 30)
      have tok1 : True := trivial
      clear h0
      go_wp2_with (first | (have _t := tok1; refine store_row (by rfl) 30 _ _ (by rfl) (wr.heap.size) (fls (rowK c k)) (fls fun _ => 0) (by rfl) (by rfl) kN.out (by rw [fls_size]; exact info_arr) (by simp) (fls_one _) (by omega) fr ?_; intro w5 k6; replace k6 := hid k6; clear kN tok1) | (refine wpList_load_row rfl 30 _ rfl (wr.heap.size) rfl 30 (fls (rowK c k)) (0, 0) _ (k6.out.at (x := (wr.heap.size, fls (rowK c k), 30)) in0) Tryz.underlying30 rfl (by rw [fls_size]; exact info_arr) ?_))
      have k7 := hid k6.out.tail
      clear hix k6 fr bs
      go_loopw [24] (fun i wq => ∃ j : Nat, j ≤ 20 ∧ i = .int .i64 j ∧ Hid (Kept w [(w3.heap.size, vls 178 (clw (stS c (k) (j)) t), 35), (v.heap.size, fls shr, 23), (w.heap.size + 1, vls 178 (clw (fun _ => 0) 0), 35)] wq)) (fun i _ => 20 - (intOf i).toNat)
      case atStart => exact ⟨0, by omega, rfl, k7⟩
      case round =>
        clear k7
        obtain ⟨j, hj, rfl, h0⟩ := hrel
        by_cases hlj : j < 20
        · have HJ := hid hlj
          have hj3 : (j : Int) < 20 := by omega
          have hix : ∀ w, (Instr.index 30 (.agg (fls (rowK c k))) (.int .i64 (j : Int))).run Tryz.prog w = .ok (.float .f32 (c (k * 20 + j))) w := ix 30 Tryz.underlying30 (rowK c k) j hlj
          have F := fall_f HQ.out hlt hlj
          have r1 := fun w => run_mul (P := Tryz.prog) 22 F.sh F.am w
          rw [faC_at c k hlj] at r1
          have r2 := fun w => run_sub (P := Tryz.prog) 22 (amtB_iff.1 F.am) F.le w
          rw [show fsub (c (k * 20 + j)) (faC c (k * 20 + j)) = leC c (k * 20 + j) from rfl] at r2
          have e0 := stS_own c hlt hlj
          have tok1 : True := trivial
          have LA := hid F.la
          have FA := hid F.fa
          clear F
          rcases Nat.eq_zero_or_pos k with hz | hz
          · have hk4 : ¬ (0 : Int) < (k : Int) := by omega
            have hk5 : ¬ 0 < k := by omega
            have HM := hid hz
            have R4 := hid (fun w => run_mul (P := Tryz.prog) 22 (x := faC c j) (by have := FA.out; rwa [hz, show 0 * 20 + j = j by omega] at this) (mass_amt hlj) w)
            obtain ⟨g1, g2, g3⟩ := grC_f HQ.out hlj
            have R5 := hid (fun w => run_float_arith (P := Tryz.prog) w .quo 22 .f32 _ _ _ g2)
            have R6 := hid (fun w => run_add (P := Tryz.prog) 22 (gaS_nn HQ.out j (by omega)) g3 w)
            have EF := hid (show faC c (k * 20 + j) = faC c j by rw [hz, show 0 * 20 + j = j by omega])
            clear g1 g2 g3 hz
            go_wp2_with (first
              | (have _t := tok1; refine load_one (by rfl) 22 _ (by rfl) (v.heap.size) j (by rfl) (show vAt wr v.heap.size 20 (flw shr) 23 from h0.out.at (x := (v.heap.size, fls shr, 23)) in1) (by omega) (.float .f32 (shr j)) rfl _ Tryz.underlying22 (by rfl) ?_)
              | (have _t := tok1; refine store_one (by rfl) 22 _ _ (by rfl) info_f32c (w3.heap.size) (k * 20 + j) (.float .f32 (leC c (k * 20 + j))) (by rfl) (by rfl) rfl rfl h0.out (by omega) (by omega) (neC (by omega) (neC (by omega) ne0)) ?_; intro wy h1; replace h1 := hid (h1.ext (stM_is c t HL.out HJ.out)); clear h0 tok1))
            clear r1 r2 hix e0
            rw [EF.out]
            have h1 := hid h1.out.drew
            refine wp_region_still_tail 9 (by kernel_rfl) (by kernel_rfl) ?_
            change wpStill _ _ wy.drew (fun a' => wpList _ _ _ _ a' wy.drew) _ _
            simp only [List.take_succ_cons, List.take_zero, List.drop_succ_cons, List.drop_zero]
            generalize wy.drew = wz at h1 ⊢
            still_step
            refine still_load rfl 22 _ rfl _ rfl _ ((h1.out.v in0).oneAt 176 (by omega) (.float .f32 (gaS c j)) (stM_gauge' c t HM.out HJ.out) Tryz.underlying22 (by rfl)) ?_
            simp only [Act.put, List.setIfInBounds_toArray, List.set_cons_zero, List.set_cons_succ]
            still_step
            still_step
            still_call (back (iMass j HJ.out _))
            refine still_val rfl (.float .f32 (fmul (faC c j) (mass j))) (run_binop_val _ _ _ _ (by rfl) (by rfl) (by simp [eqGuard]) (R4.out _)) ?_
            simp only [Act.put, List.setIfInBounds_toArray, List.set_cons_zero, List.set_cons_succ]
            refine still_val rfl (.float .f32 (grC c j)) (run_binop_val _ _ _ _ (by rfl) (by rfl) (by simp [eqGuard]) (R5.out _)) ?_
            simp only [Act.put, List.setIfInBounds_toArray, List.set_cons_zero, List.set_cons_succ]
            refine still_val rfl (.float .f32 (gaS c (j + 1))) (run_binop_val _ _ _ _ (by rfl) (by rfl) (by simp [eqGuard]) (R6.out _)) ?_
            simp only [Act.put, List.setIfInBounds_toArray, List.set_cons_zero, List.set_cons_succ]
            still_step
            refine wpStill_nil ?_
            have tok1 : True := trivial
            go_wp2_with (have _t := tok1; refine store_one (by rfl) 22 _ _ (by rfl) info_f32c (w3.heap.size) 176 (.float .f32 (gaS c (j + 1))) (by rfl) (by rfl) rfl rfl h1.out (by omega) (by omega) (neC (by omega) (neC (by omega) ne0)) ?_; intro wx h2; replace h2 := hid (h2.ext (stS_gauge' c t HM.out HJ.out)); clear h1 tok1)
            go_roundw
            case rel => exact ⟨j + 1, by omega, by go_num, h2⟩
            case measure => simp [intOf]; omega
          · obtain ⟨m, hm⟩ : ∃ m, k = m + 1 := ⟨k - 1, by omega⟩
            have hk4 : (0 : Int) < (k : Int) := by omega
            have HM := hid hm
            have hkm : (k : Int) - 1 = (m : Int) := by omega
            have hm3 : (m : Int) < 8 := by omega
            have hwm : IntKind.i64.wrap (m : Int) = (m : Int) := by rw [IntKind.wrap_i64]; omega
            have G := fall_f HQ.out (k := m) (by omega) hlj
            have R3 := hid (fun w => run_add (P := Tryz.prog) 22 (amt_nn G.la) (amt_nn (show amtB (faC c (m * 20 + j + 20)) = true by rw [show m * 20 + j + 20 = k * 20 + j by omega]; exact FA.out)) w)
            have EF := hid (show faC c (k * 20 + j) = faC c (m * 20 + j + 20) by rw [show m * 20 + j + 20 = k * 20 + j by omega])
            clear G hm
            go_wp2_with (first
              | (have _t := tok1; refine load_one (by rfl) 22 _ (by rfl) (v.heap.size) j (by rfl) (show vAt wr v.heap.size 20 (flw shr) 23 from h0.out.at (x := (v.heap.size, fls shr, 23)) in1) (by omega) (.float .f32 (shr j)) rfl _ Tryz.underlying22 (by rfl) ?_)
              | (have _t := tok1; refine store_one (by rfl) 22 _ _ (by rfl) info_f32c (w3.heap.size) (k * 20 + j) (.float .f32 (leC c (k * 20 + j))) (by rfl) (by rfl) rfl rfl h0.out (by omega) (by omega) (neC (by omega) (neC (by omega) ne0)) ?_; intro wy h1; replace h1 := hid (h1.ext (stM_is c t HL.out HJ.out)); clear h0 tok1))
            clear r1 r2 hix e0
            rw [EF.out]
            have h1 := hid h1.out.drew
            refine wp_region_still_tail 15 (by kernel_rfl) (by kernel_rfl) ?_
            change wpStill _ _ wy.drew (fun a' => wpList _ _ _ _ a' wy.drew) _ _
            simp only [List.take_succ_cons, List.take_zero, List.drop_succ_cons, List.drop_zero]
            generalize wy.drew = wz at h1 ⊢
            still_step
            still_step
            still_step
            still_step
            still_step
            still_step
            still_step
            still_step
            still_step
            refine still_load rfl 22 _ rfl _ rfl _ ((h1.out.v in0).oneAt (m * 20 + j) (by have := HL.out; have := HM.out; have := HJ.out; omega) (.float .f32 (leC c (m * 20 + j))) (stM_low' c t HL.out HM.out HJ.out) Tryz.underlying22 (by rfl)) ?_
            simp only [Act.put, List.setIfInBounds_toArray, List.set_cons_zero, List.set_cons_succ]
            still_step
            refine still_val rfl (.float .f32 (dwC c (m * 20 + j))) (run_binop_val _ _ _ _ (by rfl) (by rfl) (by simp [eqGuard]) (R3.out _)) ?_
            simp only [Act.put, List.setIfInBounds_toArray, List.set_cons_zero, List.set_cons_succ]
            still_step
            still_step
            still_step
            refine wpStill_nil ?_
            have tok1 : True := trivial
            go_wp2_with (have _t := tok1; refine store_one (by rfl) 22 _ _ (by rfl) info_f32c (w3.heap.size) (m * 20 + j) (.float .f32 (dwC c (m * 20 + j))) (by rfl) (by rfl) rfl rfl h1.out (by have := HM.out; omega) (by omega) (neC (by omega) (neC (by omega) ne0)) ?_; intro wx h2; replace h2 := hid (h2.ext (stS_low' c t HL.out HM.out HJ.out)); clear h1 tok1)
            go_roundw
            case rel => exact ⟨j + 1, by omega, by go_num, h2⟩
            case measure => simp [intOf]; omega
        · obtain rfl : j = 20 := by omega
          have h3 := hid (h0.out.ext (fun i _ => clw_same (fun i => stS_next c k i) t i))
          clear h0
          go_wp2
          go_roundw
          case rel => exact ⟨k + 1, by omega, by go_num, h3⟩
          case measure => simp [intOf]; omega
    · obtain rfl : k = 8 := by omega
      have h3 := hid (h0.out.ext (fun i _ => clw_same (fun i => stS_end c i) t i))
      have tok1 : True := trivial
      have hx := hid (setW_lt HQ.out HB.out)
      clear h0
      go_wp2_with (refine wpList_load_row rfl 35 _ rfl (w3.heap.size) rfl 35 (vls 178 (clw (setW c) t)) (0, 0) _ (h3.out.at (x := (w3.heap.size, vls 178 (clw (setW c) t), 35)) in0) Tryz.underlying35 rfl (by rw [vls_size]; exact info_col) ?_)
      rcases Classical.em (ColOk (setW c) t) with hok | hok
      · obtain ⟨rfl, rfl, rfl⟩ := H1.out hok
        refine (iFitC_t (setW c) s hx.out hok 4 _).mono ?_
        rintro e y ⟨rfl, hy⟩
        have k9 : Hid (Kept w [(w.heap.size + 1, vls 178 (clw (fun _ => 0) 0), 35)] y) := hid (Kept.sub (h3.out.stay hy) (fun x hx => by rw [List.mem_singleton.1 hx]; exact in2))
        clear h3 hy hok H1 H0
        go_wp2_with (have _t := tok1; refine store_row (by rfl) 35 _ _ (by rfl) (w.heap.size + 1) (vls 178 (clw (setW c) s)) (vls 178 (clw (fun _ => 0) 0)) (by rfl) (by rfl) k9.out (by rw [vls_size]; exact info_col) (by simp) (vls_one (clw_one _ _)) (by omega) ne0 ?_; intro xk k8; replace k8 := hid k8; clear k9 tok1)
        exact bodyPost_ret (results_row_tmp rfl _ _ (w.heap.size + 1) 35 (vls 178 (clw (setW c) s)) (0, 0) _ rfl (k8.out.at (x := (w.heap.size + 1, vls 178 (clw (setW c) s), 35)) in0) Tryz.underlying35 rfl (by rw [vls_size]; exact info_col)) rfl ⟨rfl, k8.out.1⟩
      · obtain ⟨rfl, rfl, rfl⟩ := H0.out hok
        refine (iFitC_f (setW c) t hx.out hok 4 _).mono ?_
        rintro e y ⟨rfl, hy⟩
        have k9 : Hid (Kept w [(w.heap.size + 1, vls 178 (clw (fun _ => 0) 0), 35)] y) := hid (Kept.sub (h3.out.stay hy) (fun x hx => by rw [List.mem_singleton.1 hx]; exact in2))
        clear h3 hy hok H1 H0
        go_wp2_with (have _t := tok1; refine store_row (by rfl) 35 _ _ (by rfl) (w.heap.size + 1) (vls 178 (clw (fun _ => 0) 0)) (vls 178 (clw (fun _ => 0) 0)) (by rfl) (by rfl) k9.out (by rw [vls_size]; exact info_col) (by simp) (vls_one (clw_one _ _)) (by omega) ne0 ?_; intro xk k8; replace k8 := hid k8; clear k9 tok1)
        exact bodyPost_ret (results_row_tmp rfl _ _ (w.heap.size + 1) 35 (vls 178 (clw (fun _ => 0) 0)) (0, 0) _ rfl (k8.out.at (x := (w.heap.size + 1, vls 178 (clw (fun _ => 0) 0), 35)) in0) Tryz.underlying35 rfl (by rw [vls_size]; exact info_col)) rfl ⟨rfl, k8.out.1⟩
end Go.Proofs.YthpimindkmmkjaaGreat
