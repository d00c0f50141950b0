import Derived.Test.YtgmcpbhjcfiikaaVVapourAbove
import Derived.Test.YtgmcpbhjcfiikaaCVapourAbove
import Derived.Test.YtgmcpbhjcfiikaaChecked
import Derived.Test.YtgmcpbhjcfiikaaRows
import Derived.Laws.FloatArith
import Derived.ProofKit
import Derived.WalkKit
import Derived.WalkLawsBesides
import Derived.WalkSpells
import Derived.Deep.QuietTactic
import Derived.BigQuiet
import Derived.Deep.RegionHeld3
import Derived.ChangeKeysEq
import Derived.Laws.BitsAllLaws
import Derived.Deep.MidRow
import Derived.Deep.WholeRow
import Derived.StillTailTactics
import Derived.Deep.Slices
import Derived.ChangeSame
import Derived.OrdersIn
import Derived.ControlIn
import Derived.RangeFuncSeq
import Derived.RangeFuncNested
import Derived.RangeFuncLeaves
import Derived.RangeFuncBox
import Derived.OwnWalkIn
import Derived.TacticsInMore
import Derived.LoopNIn
import Derived.LoopIn
import Derived.Shelf.Abstract
import Derived.ArgAppend
import Derived.Lib.SliceRun
import Derived.Below
import Derived.Laws.AppendOwn
import Derived.OpenShut
/- The law FnExactVapourAbove of chapter 1: at every argument the call returns true, and what was there before it is as it was. -/
namespace Go.Proofs.Ytgmcpbhjcfiikaa
open Go.RowKit Go.Fl

theorem iMixR (x : Nat → Nat) (h k : Nat) (hx : W32 x) (A : AtF x h k) (l0 : lvB x k = true) (l1 : lvB x (k + 1) = true) (w : World) :
    Calls Try.prog 157 #[.agg #[.float .f32 (x (k * 3 + 1)), .float .f32 (x (k * 3 + 2))], .agg #[.float .f32 (x ((k + 1) * 3 + 1)), .float .f32 (x ((k + 1) * 3 + 2))], .float .f32 (shW x h k)] w fun e w' => e = .returned (.tuple #[.agg #[.float .f32 (mixR x h k).1, .float .f32 (mixR x h k).2.1], .int .i64 (mixR x h k).2.2]) ∧ Below w.heap.size w w' := by
  have a0 := (parB_iff.1 l0).2
  have a1 := (parB_iff.1 l1).2
  unfold mixR
  rcases hr : airB (mixW (x (k * 3 + 1)) (x ((k + 1) * 3 + 1)) (shW x h k)) (mixW (x (k * 3 + 2)) (x ((k + 1) * 3 + 2)) (shW x h k)) with _ | _
  · exact iMixAir_state _ _ _ _ _ (hx _) a0 (hx _) a1 A.sh A.m1 A.m2 hr w
  · exact iMixAir_ok _ _ _ _ _ (hx _) a0 (hx _) a1 A.sh A.m1 A.m2 hr w

set_option maxRecDepth 100000 in
set_option maxHeartbeats 4000000 in
theorem iAirAt_bad (n : Nat) (x : Nat → Nat) (hx : W32 x) (hq : souB n x = false) (h : Nat) (w : World) (s : Value) (hs : Rd w s n x) (hn : n ≤ 1048576) :
    Calls Try.prog 79 #[s, .float .f32 h] w fun e w' => e = .returned (.tuple #[.agg #[.float .f32 0, .float .f32 0], .int .i64 1]) ∧ Below w.heap.size w w' := by
  obtain ⟨p, cap, rfl, hc⟩ := id hs
  have HV := hid (fun u (hu : Below w.heap.size w u) => iValidSounding _ n x hn hx u (hs.stay hu) false hq)
  have HC := hid hc
  have _ := trivial
  clear hc hx hq hs
  have kA : Hid (Kept w [(w.heap.size + 1 + 1, #[.int .i64 0], 2), (w.heap.size + 1, #[.float .f32 0, .float .f32 0], 44), (w.heap.size, #[.float .f32 h], 23)] (((w.alloc (.cells #[.float .f32 h] 23)).alloc (.cells #[.float .f32 0, .float .f32 0] 44)).alloc (.cells #[.int .i64 0] 2))) := hid (by have := (((Kept.nil w).push #[.float .f32 h] 23).push #[.float .f32 0, .float .f32 0] 44).push #[.int .i64 0] 2; simp only [World.size_alloc] at this; exact this)
  refine (callsIn_wide (n := 9)).1 ?_
  refine callsIn_of_wp_marks Try.func79 rfl trivial ?_ rfl
  simp only [Try.ntmps79, List.size_toArray, List.length_cons, List.length_nil, Nat.reduceAdd, Nat.reduceSub, Array.replicate_succ, Array.replicate_zero, List.push_toArray, List.append_toArray, List.nil_append, List.cons_append]
  gi_wp2_with (refine ⟨trivial, ?_⟩; gi_at_call 94; refine (callsIn_wide.2 (HV.out _ kA.out.1)).mono ?_; rintro e w1 ⟨rfl, hb1⟩; have k1 := hid (kA.out.stay hb1); have hA : w1.heap[w.heap.size + 1]? = some (.cells #[.float .f32 0, .float .f32 0] 44 (0, 0)) := k1.out.at (x := (w.heap.size + 1, #[.float .f32 0, .float .f32 0], 44)) (by simp); have hI : w1.heap[w.heap.size + 1 + 1]? = some (.cells #[.int .i64 0] 2 (0, 0)) := k1.out.at (x := (w.heap.size + 1 + 1, #[.int .i64 0], 2)) (by simp); have hH : w1.heap[w.heap.size]? = some (.cells #[.float .f32 h] 23 (0, 0)) := k1.out.at (x := (w.heap.size, #[.float .f32 h], 23)) (by simp); have eA0 : w1.cell? ⟨w.heap.size + 1, 0, none⟩ = some (.float .f32 0) := (cell_of_row _ _ 0 _ _ _ hA).trans rfl; have eA1 : w1.cell? ⟨w.heap.size + 1, 1, none⟩ = some (.float .f32 0) := (cell_of_row _ _ 1 _ _ _ hA).trans rfl; have eI : w1.cell? ⟨w.heap.size + 1 + 1, 0, none⟩ = some (.int .i64 0) := (cell_of_row _ _ 0 _ _ _ hI).trans rfl; have eH : w1.cell? ⟨w.heap.size, 0, none⟩ = some (.float .f32 h) := (cell_of_row _ _ 0 _ _ _ hH).trans rfl; have fA0 := frozen_of_row w1 (w.heap.size + 1) 0 _ _ hA; have fA1 := frozen_of_row w1 (w.heap.size + 1) 1 _ _ hA; have fI := frozen_of_row w1 (w.heap.size + 1 + 1) 0 _ _ hI)
  have kf := air_done k1.out (Nat.le_refl _) (.float .f32 0) (.float .f32 0) (.int .i64 1)
  have rA := kf.at (x := (w.heap.size + 1, #[.float .f32 0, .float .f32 0], 44)) (by simp)
  have rI := kf.at (x := (w.heap.size + 1 + 1, #[.int .i64 1], 2)) (by simp)
  exact ⟨_, results_cells rfl _ _ ⟨w.heap.size + 1, 0, none⟩ ⟨w.heap.size + 1 + 1, 0, none⟩ _ _ rfl rfl (run_loadVar_row _ (w.heap.size + 1) 44 44 _ (0, 0) _ rA Try.underlying44 rfl info_air) (run_loadVar_one Try.underlying2 rfl ((cell_of_row _ _ 0 _ _ _ rI).trans rfl)), rfl, kf.1⟩

set_option maxRecDepth 100000 in
set_option maxHeartbeats 8000000 in
theorem iAirAt (n : Nat) (x : Nat → Nat) (hx : W32 x) (hq : souB n x = true) (h : Nat) (rh rv : Nat) (c' : Int) (hr : atR n x h = (rh, rv, c'))
    (hM : ∀ k, k + 1 < n → gtH x h k = true → ltH x h (k + 1) = true → AtF x h k) (w : World) (s : Value) (hs : Rd w s n x) (hn : n ≤ 1048576) :
    Calls Try.prog 79 #[s, .float .f32 h] w fun e w' => e = .returned (.tuple #[.agg #[.float .f32 rh, .float .f32 rv], .int .i64 c']) ∧ Below w.heap.size w w' := by
  obtain ⟨p, cap, rfl, hc⟩ := id hs
  have HV := hid (fun u (hu : Below w.heap.size w u) => iValidSounding _ n x hn hx u (hs.stay hu) true hq)
  have HC := hid hc
  have HM := hid hM
  have HR := hid hr
  have HX := hid hx
  have HL := hid (fun k (hk : k < n) => (souB_iff.1 hq).lv k hk)
  clear hr hM
  clear hc hx hq hs
  have kA : Hid (Kept w [(w.heap.size + 1 + 1, #[.int .i64 0], 2), (w.heap.size + 1, #[.float .f32 0, .float .f32 0], 44), (w.heap.size, #[.float .f32 h], 23)] (((w.alloc (.cells #[.float .f32 h] 23)).alloc (.cells #[.float .f32 0, .float .f32 0] 44)).alloc (.cells #[.int .i64 0] 2))) := hid (by have := (((Kept.nil w).push #[.float .f32 h] 23).push #[.float .f32 0, .float .f32 0] 44).push #[.int .i64 0] 2; simp only [World.size_alloc] at this; exact this)
  refine (callsIn_wide (n := 9)).1 ?_
  refine callsIn_of_wp_marks Try.func79 rfl trivial ?_ rfl
  simp only [Try.ntmps79, List.size_toArray, List.length_cons, List.length_nil, Nat.reduceAdd, Nat.reduceSub, Array.replicate_succ, Array.replicate_zero, List.push_toArray, List.append_toArray, List.nil_append, List.cons_append]
  gi_wp2_with (first | (refine ⟨trivial, ?_⟩; gi_at_call 94; refine (callsIn_wide.2 (HV.out _ kA.out.1)).mono ?_; rintro e w1 ⟨rfl, hb1⟩; have k1 := hid (kA.out.stay hb1); have hA : w1.heap[w.heap.size + 1]? = some (.cells #[.float .f32 0, .float .f32 0] 44 (0, 0)) := k1.out.at (x := (w.heap.size + 1, #[.float .f32 0, .float .f32 0], 44)) (by simp); have hI : w1.heap[w.heap.size + 1 + 1]? = some (.cells #[.int .i64 0] 2 (0, 0)) := k1.out.at (x := (w.heap.size + 1 + 1, #[.int .i64 0], 2)) (by simp); have hH : w1.heap[w.heap.size]? = some (.cells #[.float .f32 h] 23 (0, 0)) := k1.out.at (x := (w.heap.size, #[.float .f32 h], 23)) (by simp); have eA0 : w1.cell? ⟨w.heap.size + 1, 0, none⟩ = some (.float .f32 0) := (cell_of_row _ _ 0 _ _ _ hA).trans rfl; have eA1 : w1.cell? ⟨w.heap.size + 1, 1, none⟩ = some (.float .f32 0) := (cell_of_row _ _ 1 _ _ _ hA).trans rfl; have eI : w1.cell? ⟨w.heap.size + 1 + 1, 0, none⟩ = some (.int .i64 0) := (cell_of_row _ _ 0 _ _ _ hI).trans rfl; have eH : w1.cell? ⟨w.heap.size, 0, none⟩ = some (.float .f32 h) := (cell_of_row _ _ 0 _ _ _ hH).trans rfl; have fA0 := frozen_of_row w1 (w.heap.size + 1) 0 _ _ hA; have fA1 := frozen_of_row w1 (w.heap.size + 1) 1 _ _ hA; have fI := frozen_of_row w1 (w.heap.size + 1 + 1) 0 _ _ hI) | (refine ⟨trivial, ?_⟩; gi_at_call 80; refine (callsIn_wide.2 (iNeighbours _ _ _ _)).mono ?_; rintro e w' ⟨rfl, rfl⟩))
  have hge := k1.out.1.size
  have hs1 := k1.out.lt (x := (w.heap.size + 1 + 1, #[.int .i64 0], 2)) (by simp)
  have hs2 : w.heap.size + 1 + 1 < w1.heap.size := hs1
  clear eA0 eA1 eI eH fA0 fA1 fI hA hI hH hs1
  have bC := Boxed.new w1 27 (.slice p n cap)
  have kB : Hid (Kept w [(w.heap.size + 1 + 1, #[.int .i64 0], 2), (w.heap.size + 1, #[.float .f32 0, .float .f32 0], 44), (w.heap.size, #[.float .f32 h], 23)] (w1.alloc (.cells #[.slice p n cap] 27))) := hid (k1.out.alloc _)
  have hsz : (w1.alloc (.cells #[.slice p n cap] 27)).heap.size = w1.heap.size + 1 := by simp
  clear hb1
  obtain ⟨W0, hW0⟩ : ∃ W0, w1.alloc (.cells #[.slice p n cap] 27) = W0 := ⟨_, rfl⟩
  rw [hW0] at bC kB hsz ⊢
  clear hW0
  refine wpIn_rangeFunc_ownH (α := Fin (n - 1)) rfl (by decide) (gf := 159) (lb := #[.pointer (some ⟨w1.heap.size, 0, none⟩)]) rfl trivial (Go.Proofs.enters_of Try.func159 (by kernel_rfl) rfl)
    (neighbours_stops 8 w1.heap.size W0.heap.size p n cap x hn W0 (by omega) (Nat.le_refl _) bC.cell (fun hp => by
      obtain ⟨b, o, e, hk⟩ := HC.out hp
      have hb := block_lt_of_cell (hk 0 (by omega))
      exact ⟨b, o, e, by simp at hb; omega, fun j hj => (kB.out.1.cell (p := ⟨b, o + j, none⟩) hb).trans (hk j hj)⟩)) belowK_t (belowK_b (Nat.le_refl _)) (Below.refl _ _) (fun _ => rfl)
    (fun pre W => (∀ i ∈ pre, stopH x h i.1 = false) ∧ Below W0.heap.size W0 W)
    (fun c pre W => (∃ z : List (Fin (n - 1)) × Fin (n - 1), ((c = .ret ∧ pre = z.1 ++ [z.2] ∧ (∀ i ∈ z.1, stopH x h i.1 = false) ∧ stopH x h z.2.1 = true) ∧ W.heap[w.heap.size + 1]? = some (.cells #[.float .f32 (layR x h z.2.1).1, .float .f32 (layR x h z.2.1).2.1] 44 (0, 0))) ∧ Boxed W (w.heap.size + 1 + 1) 2 (.int .i64 (layR x h z.2.1).2.2)) ∧ Below w.heap.size w W)
    (OwnFrom.and (ownFrom_pure _ _) (ownFrom_below (Nat.le_refl _) (Nat.le_refl _)))
    (fun c => OwnFrom.and (fun s X Y row hs hg hr => by
      obtain ⟨z, ⟨h1, h2⟩, h3⟩ := hs
      exact ⟨z, ⟨h1, row_own (w.heap.size + 1) 44 (fun (_ : Unit) => _) () X Y row h2 hg (fun r e => (hr r e).2)⟩, boxed_own _ _ (fun (_ : Unit) => _) () X Y row h3 hg (fun r e => (hr r e).2)⟩) (ownFrom_below (Nat.le_refl _) (by omega)))
    ⟨by simp, Below.refl _ _⟩
    (fun j a' W => ∃ Bx, W0.heap.size ≤ Bx ∧ W.heap[Bx]? = some (.cells #[.float .f32 (x (j.1 * 3)), .float .f32 (x (j.1 * 3 + 1)), .float .f32 (x (j.1 * 3 + 2)), .float .f32 (x ((j.1 + 1) * 3)), .float .f32 (x ((j.1 + 1) * 3 + 1)), .float .f32 (x ((j.1 + 1) * 3 + 2))] 120 (0, 0)) ∧ a' = { tmps := #[.slice p n cap, .float .f32 h, undef, .pointer (some ⟨w.heap.size, 0, none⟩), .pointer (some ⟨w.heap.size + 1, 0, none⟩), .pointer (some ⟨w.heap.size + 1 + 1, 0, none⟩), undef, .pointer (some ⟨Bx, 0, none⟩), .slice p n cap, .bool true, .bool false, undef, .slice p n cap, .func (.func 159) #[] #[.pointer (some ⟨w1.heap.size, 0, none⟩)], .int .i64 (j.1 : Int), .agg #[.float .f32 (x (j.1 * 3)), .float .f32 (x (j.1 * 3 + 1)), .float .f32 (x (j.1 * 3 + 2)), .float .f32 (x ((j.1 + 1) * 3)), .float .f32 (x ((j.1 + 1) * 3 + 1)), .float .f32 (x ((j.1 + 1) * 3 + 2))], undef, undef, undef, undef, undef, undef, undef, undef, undef, undef, undef, undef, undef, undef, undef, undef, undef, undef, undef, undef, undef, undef, undef, undef, undef, undef, undef, undef, undef, undef, undef, undef, undef, undef, undef, undef, undef, undef, undef, undef, undef, undef, undef, undef, undef, undef, undef, undef, undef], defers := [] })
    (fun j a' _ X Y row hs hg hr => by obtain ⟨Bx, e1, e2, e3⟩ := hs; exact ⟨Bx, e1, row_own Bx 120 (fun (_ : Unit) => _) () X Y row e2 hg (fun r e => (hr r e).2), e3⟩)
    ?assign ?body ?done ?stop
  case assign =>
    rintro l pre j W K ⟨hp, hB⟩ hK
    have hS := hB.size
    unfold encL
    gi_wp2
    exact hK _ _ ((KeepsOthers.alloc _ _).from _) ((Below.refl _ W).alloc (by omega) _) ⟨hp, hB.alloc (by omega) _⟩ ⟨W.heap.size, by omega, heap_alloc_new _ _, rfl⟩
  case body =>
    rintro l pre j a' W hl ⟨r', hr⟩ ⟨hp, hB⟩ ⟨Bx, hBx, bX, rfl⟩ hlt
    have hS := hB.size
    have kW := hid (kB.out.stay hB)
    have hBW : Below w.heap.size w W := kW.out.1
    clear hr
    have hA : W.heap[w.heap.size + 1]? = some (.cells #[.float .f32 0, .float .f32 0] 44 (0, 0)) := kW.out.at (x := (w.heap.size + 1, #[.float .f32 0, .float .f32 0], 44)) (by simp)
    have hI : W.heap[w.heap.size + 1 + 1]? = some (.cells #[.int .i64 0] 2 (0, 0)) := kW.out.at (x := (w.heap.size + 1 + 1, #[.int .i64 0], 2)) (by simp)
    have hH : W.heap[w.heap.size]? = some (.cells #[.float .f32 h] 23 (0, 0)) := kW.out.at (x := (w.heap.size, #[.float .f32 h], 23)) (by simp)
    have eA0 : W.cell? ⟨w.heap.size + 1, 0, none⟩ = some (.float .f32 0) := (cell_of_row _ _ 0 _ _ _ hA).trans rfl
    have eA1 : W.cell? ⟨w.heap.size + 1, 1, none⟩ = some (.float .f32 0) := (cell_of_row _ _ 1 _ _ _ hA).trans rfl
    have eI : W.cell? ⟨w.heap.size + 1 + 1, 0, none⟩ = some (.int .i64 0) := (cell_of_row _ _ 0 _ _ _ hI).trans rfl
    have eH : W.cell? ⟨w.heap.size, 0, none⟩ = some (.float .f32 h) := (cell_of_row _ _ 0 _ _ _ hH).trans rfl
    have fA0 := frozen_of_row W (w.heap.size + 1) 0 _ _ hA
    have fA1 := frozen_of_row W (w.heap.size + 1) 1 _ _ hA
    have fI := frozen_of_row W (w.heap.size + 1 + 1) 0 _ _ hI
    have g0 : W.cell? ⟨Bx, 0, none⟩ = some (.float .f32 (x (j.1 * 3))) := (cell_of_row W Bx 0 _ _ _ bX).trans rfl
    have g1 : W.cell? ⟨Bx, 1, none⟩ = some (.float .f32 (x (j.1 * 3 + 1))) := (cell_of_row W Bx 1 _ _ _ bX).trans rfl
    have g2 : W.cell? ⟨Bx, 2, none⟩ = some (.float .f32 (x (j.1 * 3 + 2))) := (cell_of_row W Bx 2 _ _ _ bX).trans rfl
    have g3 : W.cell? ⟨Bx, 3, none⟩ = some (.float .f32 (x ((j.1 + 1) * 3))) := (cell_of_row W Bx 3 _ _ _ bX).trans rfl
    have g4 : W.cell? ⟨Bx, 4, none⟩ = some (.float .f32 (x ((j.1 + 1) * 3 + 1))) := (cell_of_row W Bx 4 _ _ _ bX).trans rfl
    have g5 : W.cell? ⟨Bx, 5, none⟩ = some (.float .f32 (x ((j.1 + 1) * 3 + 2))) := (cell_of_row W Bx 5 _ _ _ bX).trans rfl
    have hC1 : (FloatKind.f32.format.order h (x (j.1 * 3)) == some .eq) = eqH x h j.1 := rfl
    have hC2 : (FloatKind.f32.format.order h (x ((j.1 + 1) * 3)) == some .eq) = eqH x h (j.1 + 1) := rfl
    have hC3 : (FloatKind.f32.format.order h (x (j.1 * 3)) == some .gt) = gtH x h j.1 := rfl
    have hC4 : (FloatKind.f32.format.order h (x ((j.1 + 1) * 3)) == some .lt) = ltH x h (j.1 + 1) := rfl
    rcases q1 : eqH x h j.1 with _ | _
    · rcases q2 : eqH x h (j.1 + 1) with _ | _
      · rcases q3 : gtH x h j.1 with _ | _
        · have hstop : stopH x h j.1 = false := by unfold stopH; rw [q1, q2, q3]; rfl
          rw [q1] at hC1; rw [q2] at hC2; rw [q3] at hC3
          clear q1 q2 q3 hC4
          gi_wp2
          exact ⟨KeepsFrom.refl _ _, Below.refl _ _, fun i hi => (List.mem_append.1 hi).elim (hp i) (fun e => by simp at e; rw [e]; exact hstop), hB⟩
        · rcases q4 : ltH x h (j.1 + 1) with _ | _
          · have hstop : stopH x h j.1 = false := by unfold stopH; rw [q1, q2, q3, q4]; rfl
            rw [q1] at hC1; rw [q2] at hC2; rw [q3] at hC3; rw [q4] at hC4
            clear q1 q2 q3 q4
            gi_wp2
            exact ⟨KeepsFrom.refl _ _, Below.refl _ _, fun i hi => (List.mem_append.1 hi).elim (hp i) (fun e => by simp at e; rw [e]; exact hstop), hB⟩
          · have hstop : stopH x h j.1 = true := by unfold stopH; rw [q1, q2, q3, q4]; rfl
            have HAt := hid (HM.out j.1 (by have := j.2; omega) q3 q4)
            have hL : layR x h j.1 = mixR x h j.1 := by unfold layR; rw [if_neg (by rw [q1]; decide), if_neg (by rw [q2]; decide)]
            rw [q1] at hC1; rw [q2] at hC2; rw [q3] at hC3; rw [q4] at hC4
            clear q1 q2 q3 q4
            have r1 := fun w => run_float_arith (P := Try.prog) w .sub 23 .f32 _ _ _ HAt.out.d1
            have r3 := fun w => run_float_arith (P := Try.prog) w .quo 23 .f32 _ _ _ HAt.out.q
            have HMx := fun w => iMixR x h j.1 HX.out HAt.out (HL.out j.1 (by have := j.2; omega)) (HL.out (j.1 + 1) (by have := j.2; omega)) w
            generalize mixR x h j.1 = mm at hL HMx
            obtain ⟨mh, mv, mc⟩ := mm
            gi_wp2_with fail

            refine regionIn_round l 19 #[false, false, false, false, false, false, false, false, false, false, false, false, false, false, false, false, false, false, false] (by kernel_rfl) rfl (by kernel_rfl) rfl rfl ?_
            refine with_name fun G hG => ?_
            have s2569bc : ∀ Wd, Below W.heap.size W Wd → G 5 #[true, true, true, true, true, true, true, true, true, true, true, true, true, true, false, false, false, false, false] ({ tmps := #[.slice p n cap, .float .f32 h, undef, .pointer (some ⟨w.heap.size, 0, none⟩), .pointer (some ⟨w.heap.size + 1, 0, none⟩), .pointer (some ⟨w.heap.size + 1 + 1, 0, none⟩), undef, .pointer (some ⟨Bx, 0, none⟩), .slice p n cap, .bool true, .bool false, undef, .slice p n cap, .func (.func 159) #[] #[.pointer (some ⟨w1.heap.size, 0, none⟩)], .int .i64 (j.1 : Int), .agg #[.float .f32 (x (j.1 * 3)), .float .f32 (x (j.1 * 3 + 1)), .float .f32 (x (j.1 * 3 + 2)), .float .f32 (x ((j.1 + 1) * 3)), .float .f32 (x ((j.1 + 1) * 3 + 1)), .float .f32 (x ((j.1 + 1) * 3 + 2))], .bool false, .float .f32 h, .pointer (some ⟨Bx, 0, none⟩), .pointer (some ⟨Bx, 0, none⟩), .float .f32 (x (j.1 * 3)), .bool false, undef, undef, undef, .bool false, .float .f32 h, .pointer (some ⟨Bx, 3, none⟩), .pointer (some ⟨Bx, 3, none⟩), .float .f32 (x ((j.1 + 1) * 3)), .bool false, undef, undef, undef, .bool true, .float .f32 h, .pointer (some ⟨Bx, 0, none⟩), .pointer (some ⟨Bx, 0, none⟩), .float .f32 (x (j.1 * 3)), .bool true, .bool true, .float .f32 h, .pointer (some ⟨Bx, 3, none⟩), .pointer (some ⟨Bx, 3, none⟩), .float .f32 (x ((j.1 + 1) * 3)), .bool true, .bool true, .pointer (some ⟨Bx, 0, none⟩), .pointer (some ⟨Bx, 1, none⟩), .agg #[.float .f32 (x (j.1 * 3 + 1)), .float .f32 (x (j.1 * 3 + 2))], .pointer (some ⟨Bx, 3, none⟩), .pointer (some ⟨Bx, 4, none⟩), .agg #[.float .f32 (x ((j.1 + 1) * 3 + 1)), .float .f32 (x ((j.1 + 1) * 3 + 2))], .float .f32 h, .pointer (some ⟨Bx, 0, none⟩), .pointer (some ⟨Bx, 0, none⟩), .float .f32 (x (j.1 * 3)), .float .f32 (fsub h (x (j.1 * 3))), .agg #[.float .f32 (x (j.1 * 3)), .float .f32 (x (j.1 * 3 + 1)), .float .f32 (x (j.1 * 3 + 2)), .float .f32 (x ((j.1 + 1) * 3)), .float .f32 (x ((j.1 + 1) * 3 + 1)), .float .f32 (x ((j.1 + 1) * 3 + 2))], .float .f32 (dpW x j.1), .float .f32 (shW x h j.1), undef, undef, undef, undef], defers := [] }) Wd := fun Wd hb => by
              rw [← hG]
              have bXd := (hb.block _ (lt_of_block bX)).trans bX
              have kd := kW.out.stay hb
              have hHd := kd.at (x := (w.heap.size, #[.float .f32 h], 23)) (by simp)
              refine wpAnyIn_ready (rs := [14]) (by kernel_rfl) (by simp) ?_
              refine callIn 14 _ _ (.tuple #[.agg #[.float .f32 mh, .float .f32 mv], .int .i64 mc]) rfl rfl (by rfl) 157 #[.agg #[.float .f32 (x (j.1 * 3 + 1)), .float .f32 (x (j.1 * 3 + 2))], .agg #[.float .f32 (x ((j.1 + 1) * 3 + 1)), .float .f32 (x ((j.1 + 1) * 3 + 2))], .float .f32 (shW x h j.1)] (by unfold execOp; go_simp) (fun _ _ => trivial) (fun hh => by cases hh) (fun w2 => Below Wd.heap.size Wd w2) (callsIn_wide.2 (HMx Wd)) rfl rfl (fun w2 hb2 => ?_) AllReadyIn.nil
              simp only [Act.put, List.setIfInBounds_toArray, List.set_cons_zero, List.set_cons_succ]
              refine takeIn 15 _ _ (.agg #[.float .f32 mh, .float .f32 mv]) rfl rfl (by rfl) (by kernel_rfl) (by kernel_rfl) (by kernel_rfl) (fun w => by unfold execOp; go_simp) (fun _ => rfl) rfl rfl ?_
              simp only [Act.put, List.setIfInBounds_toArray, List.set_cons_zero, List.set_cons_succ]
              refine takeIn 16 _ _ (.int .i64 mc) rfl rfl (by rfl) (by kernel_rfl) (by kernel_rfl) (by kernel_rfl) (fun w => by unfold execOp; go_simp) (fun _ => rfl) rfl rfl ?_
              simp only [Act.put, List.setIfInBounds_toArray, List.set_cons_zero, List.set_cons_succ]
              have kE := kd.stay hb2
              have hAz : w2.heap[w.heap.size + 1]? = some (.cells #[.float .f32 0, .float .f32 0] 44 (0, 0)) := kE.at (x := (w.heap.size + 1, #[.float .f32 0, .float .f32 0], 44)) (by simp)
              have hIz : w2.heap[w.heap.size + 1 + 1]? = some (.cells #[.int .i64 0] 2 (0, 0)) := kE.at (x := (w.heap.size + 1 + 1, #[.int .i64 0], 2)) (by simp)
              have hHz : w2.heap[w.heap.size]? = some (.cells #[.float .f32 h] 23 (0, 0)) := kE.at (x := (w.heap.size, #[.float .f32 h], 23)) (by simp)
              have eA0z : w2.cell? ⟨w.heap.size + 1, 0, none⟩ = some (.float .f32 0) := (cell_of_row _ _ 0 _ _ _ hAz).trans rfl
              have eA1z : w2.cell? ⟨w.heap.size + 1, 1, none⟩ = some (.float .f32 0) := (cell_of_row _ _ 1 _ _ _ hAz).trans rfl
              have eIz : w2.cell? ⟨w.heap.size + 1 + 1, 0, none⟩ = some (.int .i64 0) := (cell_of_row _ _ 0 _ _ _ hIz).trans rfl
              have eHz : w2.cell? ⟨w.heap.size, 0, none⟩ = some (.float .f32 h) := (cell_of_row _ _ 0 _ _ _ hHz).trans rfl
              have fA0z := frozen_of_row w2 (w.heap.size + 1) 0 _ _ hAz
              have fA1z := frozen_of_row w2 (w.heap.size + 1) 1 _ _ hAz
              have fIz := frozen_of_row w2 (w.heap.size + 1 + 1) 0 _ _ hIz
              refine wpAnyIn_ready (rs := [17]) (by kernel_rfl) (by simp) ?_
              refine storeIn 17 _ ((w2.setCell ⟨w.heap.size + 1, 0, none⟩ (.float .f32 mh)).setCell ⟨w.heap.size + 1, 1, none⟩ (.float .f32 mv)) rfl rfl (by rfl) (by unfold execOp; go_simp) (fun _ _ => trivial) rfl ?_ AllReadyIn.nil
              refine wpAnyIn_ready (rs := [18]) (by kernel_rfl) (by simp) ?_
              refine storeIn 18 _ (((w2.setCell ⟨w.heap.size + 1, 0, none⟩ (.float .f32 mh)).setCell ⟨w.heap.size + 1, 1, none⟩ (.float .f32 mv)).setCell ⟨w.heap.size + 1 + 1, 0, none⟩ (.int .i64 mc)) rfl rfl (by rfl) (by unfold execOp; go_simp) (fun _ _ => trivial) rfl ?_ AllReadyIn.nil
              refine wpAnyIn_done (by kernel_rfl) (NoPanic.normal ?_) _
              have kf := air_done kE (Nat.le_refl _) (.float .f32 mh) (.float .f32 mv) (.int .i64 mc)
              have hbE := hb.trans (hb2.mono hb.size)
              gi_wp2
              exact ⟨((((⟨hbE.size, fun k o _ hk _ => (hbE.block k (lt_of_block hk)).trans hk⟩ : KeepsFrom (w1.heap.size + 1) W w2)).trans ((KeepsOthers.setCell _ _ _).from _)).trans ((KeepsOthers.setCell _ _ _).from _)).trans ((KeepsOthers.setCell _ _ _).from _), ⟨pre, j, ⟨⟨rfl, rfl, hp, hstop⟩, by rw [hL]; exact kf.at (x := (w.heap.size + 1, #[.float .f32 mh, .float .f32 mv], 44)) (by simp)⟩, by rw [hL]; exact kf.at (x := (w.heap.size + 1 + 1, #[.int .i64 mc], 2)) (by simp)⟩, kf.1⟩
            have s2569b : ∀ Wd, Below W.heap.size W Wd → G 7 #[true, true, true, true, true, true, true, true, true, true, true, true, false, false, false, false, false, false, false] ({ tmps := #[.slice p n cap, .float .f32 h, undef, .pointer (some ⟨w.heap.size, 0, none⟩), .pointer (some ⟨w.heap.size + 1, 0, none⟩), .pointer (some ⟨w.heap.size + 1 + 1, 0, none⟩), undef, .pointer (some ⟨Bx, 0, none⟩), .slice p n cap, .bool true, .bool false, undef, .slice p n cap, .func (.func 159) #[] #[.pointer (some ⟨w1.heap.size, 0, none⟩)], .int .i64 (j.1 : Int), .agg #[.float .f32 (x (j.1 * 3)), .float .f32 (x (j.1 * 3 + 1)), .float .f32 (x (j.1 * 3 + 2)), .float .f32 (x ((j.1 + 1) * 3)), .float .f32 (x ((j.1 + 1) * 3 + 1)), .float .f32 (x ((j.1 + 1) * 3 + 2))], .bool false, .float .f32 h, .pointer (some ⟨Bx, 0, none⟩), .pointer (some ⟨Bx, 0, none⟩), .float .f32 (x (j.1 * 3)), .bool false, undef, undef, undef, .bool false, .float .f32 h, .pointer (some ⟨Bx, 3, none⟩), .pointer (some ⟨Bx, 3, none⟩), .float .f32 (x ((j.1 + 1) * 3)), .bool false, undef, undef, undef, .bool true, .float .f32 h, .pointer (some ⟨Bx, 0, none⟩), .pointer (some ⟨Bx, 0, none⟩), .float .f32 (x (j.1 * 3)), .bool true, .bool true, .float .f32 h, .pointer (some ⟨Bx, 3, none⟩), .pointer (some ⟨Bx, 3, none⟩), .float .f32 (x ((j.1 + 1) * 3)), .bool true, .bool true, .pointer (some ⟨Bx, 0, none⟩), .pointer (some ⟨Bx, 1, none⟩), .agg #[.float .f32 (x (j.1 * 3 + 1)), .float .f32 (x (j.1 * 3 + 2))], .pointer (some ⟨Bx, 3, none⟩), .pointer (some ⟨Bx, 4, none⟩), .agg #[.float .f32 (x ((j.1 + 1) * 3 + 1)), .float .f32 (x ((j.1 + 1) * 3 + 2))], .float .f32 h, .pointer (some ⟨Bx, 0, none⟩), .pointer (some ⟨Bx, 0, none⟩), .float .f32 (x (j.1 * 3)), .float .f32 (fsub h (x (j.1 * 3))), .agg #[.float .f32 (x (j.1 * 3)), .float .f32 (x (j.1 * 3 + 1)), .float .f32 (x (j.1 * 3 + 2)), .float .f32 (x ((j.1 + 1) * 3)), .float .f32 (x ((j.1 + 1) * 3 + 1)), .float .f32 (x ((j.1 + 1) * 3 + 2))], undef, undef, undef, undef, undef, undef], defers := [] }) Wd := fun Wd hb => by
              rw [← hG]
              have bXd := (hb.block _ (lt_of_block bX)).trans bX
              have kd := kW.out.stay hb
              have hHd := kd.at (x := (w.heap.size, #[.float .f32 h], 23)) (by simp)
              refine wpAnyIn_ready (rs := [12]) (by kernel_rfl) (by simp) ?_
              refine callIn 12 _ _ (.float .f32 (dpW x j.1)) rfl rfl (by rfl) 158 #[.agg #[.float .f32 (x (j.1 * 3)), .float .f32 (x (j.1 * 3 + 1)), .float .f32 (x (j.1 * 3 + 2)), .float .f32 (x ((j.1 + 1) * 3)), .float .f32 (x ((j.1 + 1) * 3 + 1)), .float .f32 (x ((j.1 + 1) * 3 + 2))]] (by unfold execOp; go_simp) (fun _ _ => trivial) (fun hh => by cases hh) (fun w2 => Below Wd.heap.size Wd w2) (callsIn_wide.2 (iDepth x j.1 HAt.out.d2 Wd)) rfl rfl (fun w2 hb2 => ?_) AllReadyIn.nil
              simp only [Act.put, List.setIfInBounds_toArray, List.set_cons_zero, List.set_cons_succ]
              refine takeIn 13 _ _ (.float .f32 (shW x h j.1)) rfl rfl (by rfl) (by kernel_rfl) (by kernel_rfl) (by kernel_rfl) (fun w => run_binop_val _ _ _ _ (by rfl) (by rfl) (by simp [eqGuard]) (r3 w)) (fun _ => rfl) rfl rfl ?_
              simp only [Act.put, List.setIfInBounds_toArray, List.set_cons_zero, List.set_cons_succ]
              exact (hG _ _ _ _).mpr (s2569bc w2 (hb.trans (hb2.mono hb.size)))
            have s256bc : ∀ Wd, Below W.heap.size W Wd → G 8 #[true, true, true, true, true, true, true, true, true, false, false, true, true, false, false, false, false, false, false] ({ tmps := #[.slice p n cap, .float .f32 h, undef, .pointer (some ⟨w.heap.size, 0, none⟩), .pointer (some ⟨w.heap.size + 1, 0, none⟩), .pointer (some ⟨w.heap.size + 1 + 1, 0, none⟩), undef, .pointer (some ⟨Bx, 0, none⟩), .slice p n cap, .bool true, .bool false, undef, .slice p n cap, .func (.func 159) #[] #[.pointer (some ⟨w1.heap.size, 0, none⟩)], .int .i64 (j.1 : Int), .agg #[.float .f32 (x (j.1 * 3)), .float .f32 (x (j.1 * 3 + 1)), .float .f32 (x (j.1 * 3 + 2)), .float .f32 (x ((j.1 + 1) * 3)), .float .f32 (x ((j.1 + 1) * 3 + 1)), .float .f32 (x ((j.1 + 1) * 3 + 2))], .bool false, .float .f32 h, .pointer (some ⟨Bx, 0, none⟩), .pointer (some ⟨Bx, 0, none⟩), .float .f32 (x (j.1 * 3)), .bool false, undef, undef, undef, .bool false, .float .f32 h, .pointer (some ⟨Bx, 3, none⟩), .pointer (some ⟨Bx, 3, none⟩), .float .f32 (x ((j.1 + 1) * 3)), .bool false, undef, undef, undef, .bool true, .float .f32 h, .pointer (some ⟨Bx, 0, none⟩), .pointer (some ⟨Bx, 0, none⟩), .float .f32 (x (j.1 * 3)), .bool true, .bool true, .float .f32 h, .pointer (some ⟨Bx, 3, none⟩), .pointer (some ⟨Bx, 3, none⟩), .float .f32 (x ((j.1 + 1) * 3)), .bool true, .bool true, .pointer (some ⟨Bx, 0, none⟩), .pointer (some ⟨Bx, 1, none⟩), .agg #[.float .f32 (x (j.1 * 3 + 1)), .float .f32 (x (j.1 * 3 + 2))], .pointer (some ⟨Bx, 3, none⟩), .pointer (some ⟨Bx, 4, none⟩), .agg #[.float .f32 (x ((j.1 + 1) * 3 + 1)), .float .f32 (x ((j.1 + 1) * 3 + 2))], .float .f32 h, .pointer (some ⟨Bx, 0, none⟩), .pointer (some ⟨Bx, 0, none⟩), undef, undef, .agg #[.float .f32 (x (j.1 * 3)), .float .f32 (x (j.1 * 3 + 1)), .float .f32 (x (j.1 * 3 + 2)), .float .f32 (x ((j.1 + 1) * 3)), .float .f32 (x ((j.1 + 1) * 3 + 1)), .float .f32 (x ((j.1 + 1) * 3 + 2))], .float .f32 (dpW x j.1), undef, undef, undef, undef, undef], defers := [] }) Wd := fun Wd hb => by
              rw [← hG]
              have bXd := (hb.block _ (lt_of_block bX)).trans bX
              have kd := kW.out.stay hb
              have hHd := kd.at (x := (w.heap.size, #[.float .f32 h], 23)) (by simp)
              refine wpAnyIn_ready (rs := [9]) (by kernel_rfl) (by simp) ?_
              refine readIn 9 _ _ (.float .f32 (x (j.1 * 3))) rfl rfl (by rfl) (run_load_cell 23 _ ⟨Bx, 0, none⟩ _ rfl (run_loadVar_one Try.underlying23 rfl ((cell_of_row _ Bx 0 _ _ _ bXd).trans rfl))) rfl rfl rfl ?_ AllReadyIn.nil
              simp only [Act.put, List.setIfInBounds_toArray, List.set_cons_zero, List.set_cons_succ]
              refine takeIn 10 _ _ (.float .f32 (fsub h (x (j.1 * 3)))) rfl rfl (by rfl) (by kernel_rfl) (by kernel_rfl) (by kernel_rfl) (fun w => run_binop_val _ _ _ _ (by rfl) (by rfl) (by simp [eqGuard]) (r1 w)) (fun _ => rfl) rfl rfl ?_
              simp only [Act.put, List.setIfInBounds_toArray, List.set_cons_zero, List.set_cons_succ]
              refine takeIn 13 _ _ (.float .f32 (shW x h j.1)) rfl rfl (by rfl) (by kernel_rfl) (by kernel_rfl) (by kernel_rfl) (fun w => run_binop_val _ _ _ _ (by rfl) (by rfl) (by simp [eqGuard]) (r3 w)) (fun _ => rfl) rfl rfl ?_
              simp only [Act.put, List.setIfInBounds_toArray, List.set_cons_zero, List.set_cons_succ]
              exact (hG _ _ _ _).mpr (s2569bc Wd hb)
            have s259bc : ∀ Wd, Below W.heap.size W Wd → G 8 #[true, true, true, true, true, true, false, true, true, true, false, true, true, false, false, false, false, false, false] ({ tmps := #[.slice p n cap, .float .f32 h, undef, .pointer (some ⟨w.heap.size, 0, none⟩), .pointer (some ⟨w.heap.size + 1, 0, none⟩), .pointer (some ⟨w.heap.size + 1 + 1, 0, none⟩), undef, .pointer (some ⟨Bx, 0, none⟩), .slice p n cap, .bool true, .bool false, undef, .slice p n cap, .func (.func 159) #[] #[.pointer (some ⟨w1.heap.size, 0, none⟩)], .int .i64 (j.1 : Int), .agg #[.float .f32 (x (j.1 * 3)), .float .f32 (x (j.1 * 3 + 1)), .float .f32 (x (j.1 * 3 + 2)), .float .f32 (x ((j.1 + 1) * 3)), .float .f32 (x ((j.1 + 1) * 3 + 1)), .float .f32 (x ((j.1 + 1) * 3 + 2))], .bool false, .float .f32 h, .pointer (some ⟨Bx, 0, none⟩), .pointer (some ⟨Bx, 0, none⟩), .float .f32 (x (j.1 * 3)), .bool false, undef, undef, undef, .bool false, .float .f32 h, .pointer (some ⟨Bx, 3, none⟩), .pointer (some ⟨Bx, 3, none⟩), .float .f32 (x ((j.1 + 1) * 3)), .bool false, undef, undef, undef, .bool true, .float .f32 h, .pointer (some ⟨Bx, 0, none⟩), .pointer (some ⟨Bx, 0, none⟩), .float .f32 (x (j.1 * 3)), .bool true, .bool true, .float .f32 h, .pointer (some ⟨Bx, 3, none⟩), .pointer (some ⟨Bx, 3, none⟩), .float .f32 (x ((j.1 + 1) * 3)), .bool true, .bool true, .pointer (some ⟨Bx, 0, none⟩), .pointer (some ⟨Bx, 1, none⟩), .agg #[.float .f32 (x (j.1 * 3 + 1)), .float .f32 (x (j.1 * 3 + 2))], .pointer (some ⟨Bx, 3, none⟩), .pointer (some ⟨Bx, 4, none⟩), .agg #[.float .f32 (x ((j.1 + 1) * 3 + 1)), .float .f32 (x ((j.1 + 1) * 3 + 2))], undef, .pointer (some ⟨Bx, 0, none⟩), .pointer (some ⟨Bx, 0, none⟩), .float .f32 (x (j.1 * 3)), undef, .agg #[.float .f32 (x (j.1 * 3)), .float .f32 (x (j.1 * 3 + 1)), .float .f32 (x (j.1 * 3 + 2)), .float .f32 (x ((j.1 + 1) * 3)), .float .f32 (x ((j.1 + 1) * 3 + 1)), .float .f32 (x ((j.1 + 1) * 3 + 2))], .float .f32 (dpW x j.1), undef, undef, undef, undef, undef], defers := [] }) Wd := fun Wd hb => by
              rw [← hG]
              have bXd := (hb.block _ (lt_of_block bX)).trans bX
              have kd := kW.out.stay hb
              have hHd := kd.at (x := (w.heap.size, #[.float .f32 h], 23)) (by simp)
              refine wpAnyIn_ready (rs := [6]) (by kernel_rfl) (by simp) ?_
              refine readIn 6 _ _ (.float .f32 h) rfl rfl (by rfl) (run_load_cell 23 _ ⟨w.heap.size, 0, none⟩ _ rfl (run_loadVar_one Try.underlying23 rfl ((cell_of_row _ _ 0 _ _ _ hHd).trans rfl))) rfl rfl rfl ?_ AllReadyIn.nil
              simp only [Act.put, List.setIfInBounds_toArray, List.set_cons_zero, List.set_cons_succ]
              refine takeIn 10 _ _ (.float .f32 (fsub h (x (j.1 * 3)))) rfl rfl (by rfl) (by kernel_rfl) (by kernel_rfl) (by kernel_rfl) (fun w => run_binop_val _ _ _ _ (by rfl) (by rfl) (by simp [eqGuard]) (r1 w)) (fun _ => rfl) rfl rfl ?_
              simp only [Act.put, List.setIfInBounds_toArray, List.set_cons_zero, List.set_cons_succ]
              refine takeIn 13 _ _ (.float .f32 (shW x h j.1)) rfl rfl (by rfl) (by kernel_rfl) (by kernel_rfl) (by kernel_rfl) (fun w => run_binop_val _ _ _ _ (by rfl) (by rfl) (by simp [eqGuard]) (r3 w)) (fun _ => rfl) rfl rfl ?_
              simp only [Act.put, List.setIfInBounds_toArray, List.set_cons_zero, List.set_cons_succ]
              exact (hG _ _ _ _).mpr (s2569bc Wd hb)
            have s269bc : ∀ Wd, Below W.heap.size W Wd → G 6 #[true, true, true, true, true, false, true, true, true, true, true, true, true, true, false, false, false, false, false] ({ tmps := #[.slice p n cap, .float .f32 h, undef, .pointer (some ⟨w.heap.size, 0, none⟩), .pointer (some ⟨w.heap.size + 1, 0, none⟩), .pointer (some ⟨w.heap.size + 1 + 1, 0, none⟩), undef, .pointer (some ⟨Bx, 0, none⟩), .slice p n cap, .bool true, .bool false, undef, .slice p n cap, .func (.func 159) #[] #[.pointer (some ⟨w1.heap.size, 0, none⟩)], .int .i64 (j.1 : Int), .agg #[.float .f32 (x (j.1 * 3)), .float .f32 (x (j.1 * 3 + 1)), .float .f32 (x (j.1 * 3 + 2)), .float .f32 (x ((j.1 + 1) * 3)), .float .f32 (x ((j.1 + 1) * 3 + 1)), .float .f32 (x ((j.1 + 1) * 3 + 2))], .bool false, .float .f32 h, .pointer (some ⟨Bx, 0, none⟩), .pointer (some ⟨Bx, 0, none⟩), .float .f32 (x (j.1 * 3)), .bool false, undef, undef, undef, .bool false, .float .f32 h, .pointer (some ⟨Bx, 3, none⟩), .pointer (some ⟨Bx, 3, none⟩), .float .f32 (x ((j.1 + 1) * 3)), .bool false, undef, undef, undef, .bool true, .float .f32 h, .pointer (some ⟨Bx, 0, none⟩), .pointer (some ⟨Bx, 0, none⟩), .float .f32 (x (j.1 * 3)), .bool true, .bool true, .float .f32 h, .pointer (some ⟨Bx, 3, none⟩), .pointer (some ⟨Bx, 3, none⟩), .float .f32 (x ((j.1 + 1) * 3)), .bool true, .bool true, .pointer (some ⟨Bx, 0, none⟩), .pointer (some ⟨Bx, 1, none⟩), .agg #[.float .f32 (x (j.1 * 3 + 1)), .float .f32 (x (j.1 * 3 + 2))], .pointer (some ⟨Bx, 3, none⟩), .pointer (some ⟨Bx, 4, none⟩), undef, .float .f32 h, .pointer (some ⟨Bx, 0, none⟩), .pointer (some ⟨Bx, 0, none⟩), .float .f32 (x (j.1 * 3)), .float .f32 (fsub h (x (j.1 * 3))), .agg #[.float .f32 (x (j.1 * 3)), .float .f32 (x (j.1 * 3 + 1)), .float .f32 (x (j.1 * 3 + 2)), .float .f32 (x ((j.1 + 1) * 3)), .float .f32 (x ((j.1 + 1) * 3 + 1)), .float .f32 (x ((j.1 + 1) * 3 + 2))], .float .f32 (dpW x j.1), .float .f32 (shW x h j.1), undef, undef, undef, undef], defers := [] }) Wd := fun Wd hb => by
              rw [← hG]
              have bXd := (hb.block _ (lt_of_block bX)).trans bX
              have kd := kW.out.stay hb
              have hHd := kd.at (x := (w.heap.size, #[.float .f32 h], 23)) (by simp)
              refine wpAnyIn_ready (rs := [5]) (by kernel_rfl) (by simp) ?_
              refine readIn 5 _ _ (.agg #[.float .f32 (x ((j.1 + 1) * 3 + 1)), .float .f32 (x ((j.1 + 1) * 3 + 2))]) rfl rfl (by rfl) (run_load_mid 44 _ Bx 4 [.float .f32 (x ((j.1 + 1) * 3 + 1)), .float .f32 (x ((j.1 + 1) * 3 + 2))] rfl (range2 ((cell_of_row _ Bx 4 _ _ _ bXd).trans rfl) ((cell_of_row _ Bx 5 _ _ _ bXd).trans rfl)) _ Try.underlying44 rfl info_air) rfl rfl rfl ?_ AllReadyIn.nil
              simp only [Act.put, List.setIfInBounds_toArray, List.set_cons_zero, List.set_cons_succ]
              exact (hG _ _ _ _).mpr (s2569bc Wd hb)
            have s569bc : ∀ Wd, Below W.heap.size W Wd → G 6 #[true, true, false, true, true, true, true, true, true, true, true, true, true, true, false, false, false, false, false] ({ tmps := #[.slice p n cap, .float .f32 h, undef, .pointer (some ⟨w.heap.size, 0, none⟩), .pointer (some ⟨w.heap.size + 1, 0, none⟩), .pointer (some ⟨w.heap.size + 1 + 1, 0, none⟩), undef, .pointer (some ⟨Bx, 0, none⟩), .slice p n cap, .bool true, .bool false, undef, .slice p n cap, .func (.func 159) #[] #[.pointer (some ⟨w1.heap.size, 0, none⟩)], .int .i64 (j.1 : Int), .agg #[.float .f32 (x (j.1 * 3)), .float .f32 (x (j.1 * 3 + 1)), .float .f32 (x (j.1 * 3 + 2)), .float .f32 (x ((j.1 + 1) * 3)), .float .f32 (x ((j.1 + 1) * 3 + 1)), .float .f32 (x ((j.1 + 1) * 3 + 2))], .bool false, .float .f32 h, .pointer (some ⟨Bx, 0, none⟩), .pointer (some ⟨Bx, 0, none⟩), .float .f32 (x (j.1 * 3)), .bool false, undef, undef, undef, .bool false, .float .f32 h, .pointer (some ⟨Bx, 3, none⟩), .pointer (some ⟨Bx, 3, none⟩), .float .f32 (x ((j.1 + 1) * 3)), .bool false, undef, undef, undef, .bool true, .float .f32 h, .pointer (some ⟨Bx, 0, none⟩), .pointer (some ⟨Bx, 0, none⟩), .float .f32 (x (j.1 * 3)), .bool true, .bool true, .float .f32 h, .pointer (some ⟨Bx, 3, none⟩), .pointer (some ⟨Bx, 3, none⟩), .float .f32 (x ((j.1 + 1) * 3)), .bool true, .bool true, .pointer (some ⟨Bx, 0, none⟩), .pointer (some ⟨Bx, 1, none⟩), undef, .pointer (some ⟨Bx, 3, none⟩), .pointer (some ⟨Bx, 4, none⟩), .agg #[.float .f32 (x ((j.1 + 1) * 3 + 1)), .float .f32 (x ((j.1 + 1) * 3 + 2))], .float .f32 h, .pointer (some ⟨Bx, 0, none⟩), .pointer (some ⟨Bx, 0, none⟩), .float .f32 (x (j.1 * 3)), .float .f32 (fsub h (x (j.1 * 3))), .agg #[.float .f32 (x (j.1 * 3)), .float .f32 (x (j.1 * 3 + 1)), .float .f32 (x (j.1 * 3 + 2)), .float .f32 (x ((j.1 + 1) * 3)), .float .f32 (x ((j.1 + 1) * 3 + 1)), .float .f32 (x ((j.1 + 1) * 3 + 2))], .float .f32 (dpW x j.1), .float .f32 (shW x h j.1), undef, undef, undef, undef], defers := [] }) Wd := fun Wd hb => by
              rw [← hG]
              have bXd := (hb.block _ (lt_of_block bX)).trans bX
              have kd := kW.out.stay hb
              have hHd := kd.at (x := (w.heap.size, #[.float .f32 h], 23)) (by simp)
              refine wpAnyIn_ready (rs := [2]) (by kernel_rfl) (by simp) ?_
              refine readIn 2 _ _ (.agg #[.float .f32 (x (j.1 * 3 + 1)), .float .f32 (x (j.1 * 3 + 2))]) rfl rfl (by rfl) (run_load_mid 44 _ Bx 1 [.float .f32 (x (j.1 * 3 + 1)), .float .f32 (x (j.1 * 3 + 2))] rfl (range2 ((cell_of_row _ Bx 1 _ _ _ bXd).trans rfl) ((cell_of_row _ Bx 2 _ _ _ bXd).trans rfl)) _ Try.underlying44 rfl info_air) rfl rfl rfl ?_ AllReadyIn.nil
              simp only [Act.put, List.setIfInBounds_toArray, List.set_cons_zero, List.set_cons_succ]
              exact (hG _ _ _ _).mpr (s2569bc Wd hb)
            have s2569 : ∀ Wd, Below W.heap.size W Wd → G 8 #[true, true, true, true, true, true, true, true, true, true, true, false, false, false, false, false, false, false, false] ({ tmps := #[.slice p n cap, .float .f32 h, undef, .pointer (some ⟨w.heap.size, 0, none⟩), .pointer (some ⟨w.heap.size + 1, 0, none⟩), .pointer (some ⟨w.heap.size + 1 + 1, 0, none⟩), undef, .pointer (some ⟨Bx, 0, none⟩), .slice p n cap, .bool true, .bool false, undef, .slice p n cap, .func (.func 159) #[] #[.pointer (some ⟨w1.heap.size, 0, none⟩)], .int .i64 (j.1 : Int), .agg #[.float .f32 (x (j.1 * 3)), .float .f32 (x (j.1 * 3 + 1)), .float .f32 (x (j.1 * 3 + 2)), .float .f32 (x ((j.1 + 1) * 3)), .float .f32 (x ((j.1 + 1) * 3 + 1)), .float .f32 (x ((j.1 + 1) * 3 + 2))], .bool false, .float .f32 h, .pointer (some ⟨Bx, 0, none⟩), .pointer (some ⟨Bx, 0, none⟩), .float .f32 (x (j.1 * 3)), .bool false, undef, undef, undef, .bool false, .float .f32 h, .pointer (some ⟨Bx, 3, none⟩), .pointer (some ⟨Bx, 3, none⟩), .float .f32 (x ((j.1 + 1) * 3)), .bool false, undef, undef, undef, .bool true, .float .f32 h, .pointer (some ⟨Bx, 0, none⟩), .pointer (some ⟨Bx, 0, none⟩), .float .f32 (x (j.1 * 3)), .bool true, .bool true, .float .f32 h, .pointer (some ⟨Bx, 3, none⟩), .pointer (some ⟨Bx, 3, none⟩), .float .f32 (x ((j.1 + 1) * 3)), .bool true, .bool true, .pointer (some ⟨Bx, 0, none⟩), .pointer (some ⟨Bx, 1, none⟩), .agg #[.float .f32 (x (j.1 * 3 + 1)), .float .f32 (x (j.1 * 3 + 2))], .pointer (some ⟨Bx, 3, none⟩), .pointer (some ⟨Bx, 4, none⟩), .agg #[.float .f32 (x ((j.1 + 1) * 3 + 1)), .float .f32 (x ((j.1 + 1) * 3 + 2))], .float .f32 h, .pointer (some ⟨Bx, 0, none⟩), .pointer (some ⟨Bx, 0, none⟩), .float .f32 (x (j.1 * 3)), .float .f32 (fsub h (x (j.1 * 3))), undef, undef, undef, undef, undef, undef, undef], defers := [] }) Wd := fun Wd hb => by
              rw [← hG]
              have bXd := (hb.block _ (lt_of_block bX)).trans bX
              have kd := kW.out.stay hb
              have hHd := kd.at (x := (w.heap.size, #[.float .f32 h], 23)) (by simp)
              refine wpAnyIn_ready (rs := [11]) (by kernel_rfl) (by simp) ?_
              refine readIn 11 _ _ (.agg #[.float .f32 (x (j.1 * 3)), .float .f32 (x (j.1 * 3 + 1)), .float .f32 (x (j.1 * 3 + 2)), .float .f32 (x ((j.1 + 1) * 3)), .float .f32 (x ((j.1 + 1) * 3 + 1)), .float .f32 (x ((j.1 + 1) * 3 + 2))]) rfl rfl (by rfl) (run_load_mid 120 _ Bx 0 [.float .f32 (x (j.1 * 3)), .float .f32 (x (j.1 * 3 + 1)), .float .f32 (x (j.1 * 3 + 2)), .float .f32 (x ((j.1 + 1) * 3)), .float .f32 (x ((j.1 + 1) * 3 + 1)), .float .f32 (x ((j.1 + 1) * 3 + 2))] rfl (rowRange bXd) _ Try.underlying120 rfl info_lay) rfl rfl rfl ?_ AllReadyIn.nil
              simp only [Act.put, List.setIfInBounds_toArray, List.set_cons_zero, List.set_cons_succ]
              exact (hG _ _ _ _).mpr (s2569b Wd hb)
            have s256b : ∀ Wd, Below W.heap.size W Wd → G 9 #[true, true, true, true, true, true, true, true, true, false, false, true, false, false, false, false, false, false, false] ({ tmps := #[.slice p n cap, .float .f32 h, undef, .pointer (some ⟨w.heap.size, 0, none⟩), .pointer (some ⟨w.heap.size + 1, 0, none⟩), .pointer (some ⟨w.heap.size + 1 + 1, 0, none⟩), undef, .pointer (some ⟨Bx, 0, none⟩), .slice p n cap, .bool true, .bool false, undef, .slice p n cap, .func (.func 159) #[] #[.pointer (some ⟨w1.heap.size, 0, none⟩)], .int .i64 (j.1 : Int), .agg #[.float .f32 (x (j.1 * 3)), .float .f32 (x (j.1 * 3 + 1)), .float .f32 (x (j.1 * 3 + 2)), .float .f32 (x ((j.1 + 1) * 3)), .float .f32 (x ((j.1 + 1) * 3 + 1)), .float .f32 (x ((j.1 + 1) * 3 + 2))], .bool false, .float .f32 h, .pointer (some ⟨Bx, 0, none⟩), .pointer (some ⟨Bx, 0, none⟩), .float .f32 (x (j.1 * 3)), .bool false, undef, undef, undef, .bool false, .float .f32 h, .pointer (some ⟨Bx, 3, none⟩), .pointer (some ⟨Bx, 3, none⟩), .float .f32 (x ((j.1 + 1) * 3)), .bool false, undef, undef, undef, .bool true, .float .f32 h, .pointer (some ⟨Bx, 0, none⟩), .pointer (some ⟨Bx, 0, none⟩), .float .f32 (x (j.1 * 3)), .bool true, .bool true, .float .f32 h, .pointer (some ⟨Bx, 3, none⟩), .pointer (some ⟨Bx, 3, none⟩), .float .f32 (x ((j.1 + 1) * 3)), .bool true, .bool true, .pointer (some ⟨Bx, 0, none⟩), .pointer (some ⟨Bx, 1, none⟩), .agg #[.float .f32 (x (j.1 * 3 + 1)), .float .f32 (x (j.1 * 3 + 2))], .pointer (some ⟨Bx, 3, none⟩), .pointer (some ⟨Bx, 4, none⟩), .agg #[.float .f32 (x ((j.1 + 1) * 3 + 1)), .float .f32 (x ((j.1 + 1) * 3 + 2))], .float .f32 h, .pointer (some ⟨Bx, 0, none⟩), .pointer (some ⟨Bx, 0, none⟩), undef, undef, .agg #[.float .f32 (x (j.1 * 3)), .float .f32 (x (j.1 * 3 + 1)), .float .f32 (x (j.1 * 3 + 2)), .float .f32 (x ((j.1 + 1) * 3)), .float .f32 (x ((j.1 + 1) * 3 + 1)), .float .f32 (x ((j.1 + 1) * 3 + 2))], undef, undef, undef, undef, undef, undef], defers := [] }) Wd := fun Wd hb => by
              rw [← hG]
              have bXd := (hb.block _ (lt_of_block bX)).trans bX
              have kd := kW.out.stay hb
              have hHd := kd.at (x := (w.heap.size, #[.float .f32 h], 23)) (by simp)
              refine wpAnyIn_ready (rs := [9, 12]) (by kernel_rfl) (by simp) ?_
              refine readIn 9 _ _ (.float .f32 (x (j.1 * 3))) rfl rfl (by rfl) (run_load_cell 23 _ ⟨Bx, 0, none⟩ _ rfl (run_loadVar_one Try.underlying23 rfl ((cell_of_row _ Bx 0 _ _ _ bXd).trans rfl))) rfl rfl rfl ?_ ?_
              · simp only [Act.put, List.setIfInBounds_toArray, List.set_cons_zero, List.set_cons_succ]
                refine takeIn 10 _ _ (.float .f32 (fsub h (x (j.1 * 3)))) rfl rfl (by rfl) (by kernel_rfl) (by kernel_rfl) (by kernel_rfl) (fun w => run_binop_val _ _ _ _ (by rfl) (by rfl) (by simp [eqGuard]) (r1 w)) (fun _ => rfl) rfl rfl ?_
                simp only [Act.put, List.setIfInBounds_toArray, List.set_cons_zero, List.set_cons_succ]
                exact (hG _ _ _ _).mpr (s2569b Wd hb)
              refine callIn 12 _ _ (.float .f32 (dpW x j.1)) rfl rfl (by rfl) 158 #[.agg #[.float .f32 (x (j.1 * 3)), .float .f32 (x (j.1 * 3 + 1)), .float .f32 (x (j.1 * 3 + 2)), .float .f32 (x ((j.1 + 1) * 3)), .float .f32 (x ((j.1 + 1) * 3 + 1)), .float .f32 (x ((j.1 + 1) * 3 + 2))]] (by unfold execOp; go_simp) (fun _ _ => trivial) (fun hh => by cases hh) (fun w2 => Below Wd.heap.size Wd w2) (callsIn_wide.2 (iDepth x j.1 HAt.out.d2 Wd)) rfl rfl (fun w2 hb2 => ?_) AllReadyIn.nil
              simp only [Act.put, List.setIfInBounds_toArray, List.set_cons_zero, List.set_cons_succ]
              exact (hG _ _ _ _).mpr (s256bc w2 (hb.trans (hb2.mono hb.size)))
            have s259b : ∀ Wd, Below W.heap.size W Wd → G 9 #[true, true, true, true, true, true, false, true, true, true, false, true, false, false, false, false, false, false, false] ({ tmps := #[.slice p n cap, .float .f32 h, undef, .pointer (some ⟨w.heap.size, 0, none⟩), .pointer (some ⟨w.heap.size + 1, 0, none⟩), .pointer (some ⟨w.heap.size + 1 + 1, 0, none⟩), undef, .pointer (some ⟨Bx, 0, none⟩), .slice p n cap, .bool true, .bool false, undef, .slice p n cap, .func (.func 159) #[] #[.pointer (some ⟨w1.heap.size, 0, none⟩)], .int .i64 (j.1 : Int), .agg #[.float .f32 (x (j.1 * 3)), .float .f32 (x (j.1 * 3 + 1)), .float .f32 (x (j.1 * 3 + 2)), .float .f32 (x ((j.1 + 1) * 3)), .float .f32 (x ((j.1 + 1) * 3 + 1)), .float .f32 (x ((j.1 + 1) * 3 + 2))], .bool false, .float .f32 h, .pointer (some ⟨Bx, 0, none⟩), .pointer (some ⟨Bx, 0, none⟩), .float .f32 (x (j.1 * 3)), .bool false, undef, undef, undef, .bool false, .float .f32 h, .pointer (some ⟨Bx, 3, none⟩), .pointer (some ⟨Bx, 3, none⟩), .float .f32 (x ((j.1 + 1) * 3)), .bool false, undef, undef, undef, .bool true, .float .f32 h, .pointer (some ⟨Bx, 0, none⟩), .pointer (some ⟨Bx, 0, none⟩), .float .f32 (x (j.1 * 3)), .bool true, .bool true, .float .f32 h, .pointer (some ⟨Bx, 3, none⟩), .pointer (some ⟨Bx, 3, none⟩), .float .f32 (x ((j.1 + 1) * 3)), .bool true, .bool true, .pointer (some ⟨Bx, 0, none⟩), .pointer (some ⟨Bx, 1, none⟩), .agg #[.float .f32 (x (j.1 * 3 + 1)), .float .f32 (x (j.1 * 3 + 2))], .pointer (some ⟨Bx, 3, none⟩), .pointer (some ⟨Bx, 4, none⟩), .agg #[.float .f32 (x ((j.1 + 1) * 3 + 1)), .float .f32 (x ((j.1 + 1) * 3 + 2))], undef, .pointer (some ⟨Bx, 0, none⟩), .pointer (some ⟨Bx, 0, none⟩), .float .f32 (x (j.1 * 3)), undef, .agg #[.float .f32 (x (j.1 * 3)), .float .f32 (x (j.1 * 3 + 1)), .float .f32 (x (j.1 * 3 + 2)), .float .f32 (x ((j.1 + 1) * 3)), .float .f32 (x ((j.1 + 1) * 3 + 1)), .float .f32 (x ((j.1 + 1) * 3 + 2))], undef, undef, undef, undef, undef, undef], defers := [] }) Wd := fun Wd hb => by
              rw [← hG]
              have bXd := (hb.block _ (lt_of_block bX)).trans bX
              have kd := kW.out.stay hb
              have hHd := kd.at (x := (w.heap.size, #[.float .f32 h], 23)) (by simp)
              refine wpAnyIn_ready (rs := [6, 12]) (by kernel_rfl) (by simp) ?_
              refine readIn 6 _ _ (.float .f32 h) rfl rfl (by rfl) (run_load_cell 23 _ ⟨w.heap.size, 0, none⟩ _ rfl (run_loadVar_one Try.underlying23 rfl ((cell_of_row _ _ 0 _ _ _ hHd).trans rfl))) rfl rfl rfl ?_ ?_
              · simp only [Act.put, List.setIfInBounds_toArray, List.set_cons_zero, List.set_cons_succ]
                refine takeIn 10 _ _ (.float .f32 (fsub h (x (j.1 * 3)))) rfl rfl (by rfl) (by kernel_rfl) (by kernel_rfl) (by kernel_rfl) (fun w => run_binop_val _ _ _ _ (by rfl) (by rfl) (by simp [eqGuard]) (r1 w)) (fun _ => rfl) rfl rfl ?_
                simp only [Act.put, List.setIfInBounds_toArray, List.set_cons_zero, List.set_cons_succ]
                exact (hG _ _ _ _).mpr (s2569b Wd hb)
              refine callIn 12 _ _ (.float .f32 (dpW x j.1)) rfl rfl (by rfl) 158 #[.agg #[.float .f32 (x (j.1 * 3)), .float .f32 (x (j.1 * 3 + 1)), .float .f32 (x (j.1 * 3 + 2)), .float .f32 (x ((j.1 + 1) * 3)), .float .f32 (x ((j.1 + 1) * 3 + 1)), .float .f32 (x ((j.1 + 1) * 3 + 2))]] (by unfold execOp; go_simp) (fun _ _ => trivial) (fun hh => by cases hh) (fun w2 => Below Wd.heap.size Wd w2) (callsIn_wide.2 (iDepth x j.1 HAt.out.d2 Wd)) rfl rfl (fun w2 hb2 => ?_) AllReadyIn.nil
              simp only [Act.put, List.setIfInBounds_toArray, List.set_cons_zero, List.set_cons_succ]
              exact (hG _ _ _ _).mpr (s259bc w2 (hb.trans (hb2.mono hb.size)))
            have s25bc : ∀ Wd, Below W.heap.size W Wd → G 9 #[true, true, true, true, true, true, false, true, true, false, false, true, true, false, false, false, false, false, false] ({ tmps := #[.slice p n cap, .float .f32 h, undef, .pointer (some ⟨w.heap.size, 0, none⟩), .pointer (some ⟨w.heap.size + 1, 0, none⟩), .pointer (some ⟨w.heap.size + 1 + 1, 0, none⟩), undef, .pointer (some ⟨Bx, 0, none⟩), .slice p n cap, .bool true, .bool false, undef, .slice p n cap, .func (.func 159) #[] #[.pointer (some ⟨w1.heap.size, 0, none⟩)], .int .i64 (j.1 : Int), .agg #[.float .f32 (x (j.1 * 3)), .float .f32 (x (j.1 * 3 + 1)), .float .f32 (x (j.1 * 3 + 2)), .float .f32 (x ((j.1 + 1) * 3)), .float .f32 (x ((j.1 + 1) * 3 + 1)), .float .f32 (x ((j.1 + 1) * 3 + 2))], .bool false, .float .f32 h, .pointer (some ⟨Bx, 0, none⟩), .pointer (some ⟨Bx, 0, none⟩), .float .f32 (x (j.1 * 3)), .bool false, undef, undef, undef, .bool false, .float .f32 h, .pointer (some ⟨Bx, 3, none⟩), .pointer (some ⟨Bx, 3, none⟩), .float .f32 (x ((j.1 + 1) * 3)), .bool false, undef, undef, undef, .bool true, .float .f32 h, .pointer (some ⟨Bx, 0, none⟩), .pointer (some ⟨Bx, 0, none⟩), .float .f32 (x (j.1 * 3)), .bool true, .bool true, .float .f32 h, .pointer (some ⟨Bx, 3, none⟩), .pointer (some ⟨Bx, 3, none⟩), .float .f32 (x ((j.1 + 1) * 3)), .bool true, .bool true, .pointer (some ⟨Bx, 0, none⟩), .pointer (some ⟨Bx, 1, none⟩), .agg #[.float .f32 (x (j.1 * 3 + 1)), .float .f32 (x (j.1 * 3 + 2))], .pointer (some ⟨Bx, 3, none⟩), .pointer (some ⟨Bx, 4, none⟩), .agg #[.float .f32 (x ((j.1 + 1) * 3 + 1)), .float .f32 (x ((j.1 + 1) * 3 + 2))], undef, .pointer (some ⟨Bx, 0, none⟩), .pointer (some ⟨Bx, 0, none⟩), undef, undef, .agg #[.float .f32 (x (j.1 * 3)), .float .f32 (x (j.1 * 3 + 1)), .float .f32 (x (j.1 * 3 + 2)), .float .f32 (x ((j.1 + 1) * 3)), .float .f32 (x ((j.1 + 1) * 3 + 1)), .float .f32 (x ((j.1 + 1) * 3 + 2))], .float .f32 (dpW x j.1), undef, undef, undef, undef, undef], defers := [] }) Wd := fun Wd hb => by
              rw [← hG]
              have bXd := (hb.block _ (lt_of_block bX)).trans bX
              have kd := kW.out.stay hb
              have hHd := kd.at (x := (w.heap.size, #[.float .f32 h], 23)) (by simp)
              refine wpAnyIn_ready (rs := [6, 9]) (by kernel_rfl) (by simp) ?_
              refine readIn 6 _ _ (.float .f32 h) rfl rfl (by rfl) (run_load_cell 23 _ ⟨w.heap.size, 0, none⟩ _ rfl (run_loadVar_one Try.underlying23 rfl ((cell_of_row _ _ 0 _ _ _ hHd).trans rfl))) rfl rfl rfl ?_ ?_
              · simp only [Act.put, List.setIfInBounds_toArray, List.set_cons_zero, List.set_cons_succ]
                exact (hG _ _ _ _).mpr (s256bc Wd hb)
              refine readIn 9 _ _ (.float .f32 (x (j.1 * 3))) rfl rfl (by rfl) (run_load_cell 23 _ ⟨Bx, 0, none⟩ _ rfl (run_loadVar_one Try.underlying23 rfl ((cell_of_row _ Bx 0 _ _ _ bXd).trans rfl))) rfl rfl rfl ?_ AllReadyIn.nil
              simp only [Act.put, List.setIfInBounds_toArray, List.set_cons_zero, List.set_cons_succ]
              exact (hG _ _ _ _).mpr (s259bc Wd hb)
            have s269b : ∀ Wd, Below W.heap.size W Wd → G 8 #[true, true, true, true, true, false, true, true, true, true, true, true, false, false, false, false, false, false, false] ({ tmps := #[.slice p n cap, .float .f32 h, undef, .pointer (some ⟨w.heap.size, 0, none⟩), .pointer (some ⟨w.heap.size + 1, 0, none⟩), .pointer (some ⟨w.heap.size + 1 + 1, 0, none⟩), undef, .pointer (some ⟨Bx, 0, none⟩), .slice p n cap, .bool true, .bool false, undef, .slice p n cap, .func (.func 159) #[] #[.pointer (some ⟨w1.heap.size, 0, none⟩)], .int .i64 (j.1 : Int), .agg #[.float .f32 (x (j.1 * 3)), .float .f32 (x (j.1 * 3 + 1)), .float .f32 (x (j.1 * 3 + 2)), .float .f32 (x ((j.1 + 1) * 3)), .float .f32 (x ((j.1 + 1) * 3 + 1)), .float .f32 (x ((j.1 + 1) * 3 + 2))], .bool false, .float .f32 h, .pointer (some ⟨Bx, 0, none⟩), .pointer (some ⟨Bx, 0, none⟩), .float .f32 (x (j.1 * 3)), .bool false, undef, undef, undef, .bool false, .float .f32 h, .pointer (some ⟨Bx, 3, none⟩), .pointer (some ⟨Bx, 3, none⟩), .float .f32 (x ((j.1 + 1) * 3)), .bool false, undef, undef, undef, .bool true, .float .f32 h, .pointer (some ⟨Bx, 0, none⟩), .pointer (some ⟨Bx, 0, none⟩), .float .f32 (x (j.1 * 3)), .bool true, .bool true, .float .f32 h, .pointer (some ⟨Bx, 3, none⟩), .pointer (some ⟨Bx, 3, none⟩), .float .f32 (x ((j.1 + 1) * 3)), .bool true, .bool true, .pointer (some ⟨Bx, 0, none⟩), .pointer (some ⟨Bx, 1, none⟩), .agg #[.float .f32 (x (j.1 * 3 + 1)), .float .f32 (x (j.1 * 3 + 2))], .pointer (some ⟨Bx, 3, none⟩), .pointer (some ⟨Bx, 4, none⟩), undef, .float .f32 h, .pointer (some ⟨Bx, 0, none⟩), .pointer (some ⟨Bx, 0, none⟩), .float .f32 (x (j.1 * 3)), .float .f32 (fsub h (x (j.1 * 3))), .agg #[.float .f32 (x (j.1 * 3)), .float .f32 (x (j.1 * 3 + 1)), .float .f32 (x (j.1 * 3 + 2)), .float .f32 (x ((j.1 + 1) * 3)), .float .f32 (x ((j.1 + 1) * 3 + 1)), .float .f32 (x ((j.1 + 1) * 3 + 2))], undef, undef, undef, undef, undef, undef], defers := [] }) Wd := fun Wd hb => by
              rw [← hG]
              have bXd := (hb.block _ (lt_of_block bX)).trans bX
              have kd := kW.out.stay hb
              have hHd := kd.at (x := (w.heap.size, #[.float .f32 h], 23)) (by simp)
              refine wpAnyIn_ready (rs := [5, 12]) (by kernel_rfl) (by simp) ?_
              refine readIn 5 _ _ (.agg #[.float .f32 (x ((j.1 + 1) * 3 + 1)), .float .f32 (x ((j.1 + 1) * 3 + 2))]) rfl rfl (by rfl) (run_load_mid 44 _ Bx 4 [.float .f32 (x ((j.1 + 1) * 3 + 1)), .float .f32 (x ((j.1 + 1) * 3 + 2))] rfl (range2 ((cell_of_row _ Bx 4 _ _ _ bXd).trans rfl) ((cell_of_row _ Bx 5 _ _ _ bXd).trans rfl)) _ Try.underlying44 rfl info_air) rfl rfl rfl ?_ ?_
              · simp only [Act.put, List.setIfInBounds_toArray, List.set_cons_zero, List.set_cons_succ]
                exact (hG _ _ _ _).mpr (s2569b Wd hb)
              refine callIn 12 _ _ (.float .f32 (dpW x j.1)) rfl rfl (by rfl) 158 #[.agg #[.float .f32 (x (j.1 * 3)), .float .f32 (x (j.1 * 3 + 1)), .float .f32 (x (j.1 * 3 + 2)), .float .f32 (x ((j.1 + 1) * 3)), .float .f32 (x ((j.1 + 1) * 3 + 1)), .float .f32 (x ((j.1 + 1) * 3 + 2))]] (by unfold execOp; go_simp) (fun _ _ => trivial) (fun hh => by cases hh) (fun w2 => Below Wd.heap.size Wd w2) (callsIn_wide.2 (iDepth x j.1 HAt.out.d2 Wd)) rfl rfl (fun w2 hb2 => ?_) AllReadyIn.nil
              simp only [Act.put, List.setIfInBounds_toArray, List.set_cons_zero, List.set_cons_succ]
              refine takeIn 13 _ _ (.float .f32 (shW x h j.1)) rfl rfl (by rfl) (by kernel_rfl) (by kernel_rfl) (by kernel_rfl) (fun w => run_binop_val _ _ _ _ (by rfl) (by rfl) (by simp [eqGuard]) (r3 w)) (fun _ => rfl) rfl rfl ?_
              simp only [Act.put, List.setIfInBounds_toArray, List.set_cons_zero, List.set_cons_succ]
              exact (hG _ _ _ _).mpr (s269bc w2 (hb.trans (hb2.mono hb.size)))
            have s26bc : ∀ Wd, Below W.heap.size W Wd → G 9 #[true, true, true, true, true, false, true, true, true, false, false, true, true, false, false, false, false, false, false] ({ tmps := #[.slice p n cap, .float .f32 h, undef, .pointer (some ⟨w.heap.size, 0, none⟩), .pointer (some ⟨w.heap.size + 1, 0, none⟩), .pointer (some ⟨w.heap.size + 1 + 1, 0, none⟩), undef, .pointer (some ⟨Bx, 0, none⟩), .slice p n cap, .bool true, .bool false, undef, .slice p n cap, .func (.func 159) #[] #[.pointer (some ⟨w1.heap.size, 0, none⟩)], .int .i64 (j.1 : Int), .agg #[.float .f32 (x (j.1 * 3)), .float .f32 (x (j.1 * 3 + 1)), .float .f32 (x (j.1 * 3 + 2)), .float .f32 (x ((j.1 + 1) * 3)), .float .f32 (x ((j.1 + 1) * 3 + 1)), .float .f32 (x ((j.1 + 1) * 3 + 2))], .bool false, .float .f32 h, .pointer (some ⟨Bx, 0, none⟩), .pointer (some ⟨Bx, 0, none⟩), .float .f32 (x (j.1 * 3)), .bool false, undef, undef, undef, .bool false, .float .f32 h, .pointer (some ⟨Bx, 3, none⟩), .pointer (some ⟨Bx, 3, none⟩), .float .f32 (x ((j.1 + 1) * 3)), .bool false, undef, undef, undef, .bool true, .float .f32 h, .pointer (some ⟨Bx, 0, none⟩), .pointer (some ⟨Bx, 0, none⟩), .float .f32 (x (j.1 * 3)), .bool true, .bool true, .float .f32 h, .pointer (some ⟨Bx, 3, none⟩), .pointer (some ⟨Bx, 3, none⟩), .float .f32 (x ((j.1 + 1) * 3)), .bool true, .bool true, .pointer (some ⟨Bx, 0, none⟩), .pointer (some ⟨Bx, 1, none⟩), .agg #[.float .f32 (x (j.1 * 3 + 1)), .float .f32 (x (j.1 * 3 + 2))], .pointer (some ⟨Bx, 3, none⟩), .pointer (some ⟨Bx, 4, none⟩), undef, .float .f32 h, .pointer (some ⟨Bx, 0, none⟩), .pointer (some ⟨Bx, 0, none⟩), undef, undef, .agg #[.float .f32 (x (j.1 * 3)), .float .f32 (x (j.1 * 3 + 1)), .float .f32 (x (j.1 * 3 + 2)), .float .f32 (x ((j.1 + 1) * 3)), .float .f32 (x ((j.1 + 1) * 3 + 1)), .float .f32 (x ((j.1 + 1) * 3 + 2))], .float .f32 (dpW x j.1), undef, undef, undef, undef, undef], defers := [] }) Wd := fun Wd hb => by
              rw [← hG]
              have bXd := (hb.block _ (lt_of_block bX)).trans bX
              have kd := kW.out.stay hb
              have hHd := kd.at (x := (w.heap.size, #[.float .f32 h], 23)) (by simp)
              refine wpAnyIn_ready (rs := [5, 9]) (by kernel_rfl) (by simp) ?_
              refine readIn 5 _ _ (.agg #[.float .f32 (x ((j.1 + 1) * 3 + 1)), .float .f32 (x ((j.1 + 1) * 3 + 2))]) rfl rfl (by rfl) (run_load_mid 44 _ Bx 4 [.float .f32 (x ((j.1 + 1) * 3 + 1)), .float .f32 (x ((j.1 + 1) * 3 + 2))] rfl (range2 ((cell_of_row _ Bx 4 _ _ _ bXd).trans rfl) ((cell_of_row _ Bx 5 _ _ _ bXd).trans rfl)) _ Try.underlying44 rfl info_air) rfl rfl rfl ?_ ?_
              · simp only [Act.put, List.setIfInBounds_toArray, List.set_cons_zero, List.set_cons_succ]
                exact (hG _ _ _ _).mpr (s256bc Wd hb)
              refine readIn 9 _ _ (.float .f32 (x (j.1 * 3))) rfl rfl (by rfl) (run_load_cell 23 _ ⟨Bx, 0, none⟩ _ rfl (run_loadVar_one Try.underlying23 rfl ((cell_of_row _ Bx 0 _ _ _ bXd).trans rfl))) rfl rfl rfl ?_ AllReadyIn.nil
              simp only [Act.put, List.setIfInBounds_toArray, List.set_cons_zero, List.set_cons_succ]
              refine takeIn 10 _ _ (.float .f32 (fsub h (x (j.1 * 3)))) rfl rfl (by rfl) (by kernel_rfl) (by kernel_rfl) (by kernel_rfl) (fun w => run_binop_val _ _ _ _ (by rfl) (by rfl) (by simp [eqGuard]) (r1 w)) (fun _ => rfl) rfl rfl ?_
              simp only [Act.put, List.setIfInBounds_toArray, List.set_cons_zero, List.set_cons_succ]
              refine takeIn 13 _ _ (.float .f32 (shW x h j.1)) rfl rfl (by rfl) (by kernel_rfl) (by kernel_rfl) (by kernel_rfl) (fun w => run_binop_val _ _ _ _ (by rfl) (by rfl) (by simp [eqGuard]) (r3 w)) (fun _ => rfl) rfl rfl ?_
              simp only [Act.put, List.setIfInBounds_toArray, List.set_cons_zero, List.set_cons_succ]
              exact (hG _ _ _ _).mpr (s269bc Wd hb)
            have s29bc : ∀ Wd, Below W.heap.size W Wd → G 9 #[true, true, true, true, true, false, false, true, true, true, false, true, true, false, false, false, false, false, false] ({ tmps := #[.slice p n cap, .float .f32 h, undef, .pointer (some ⟨w.heap.size, 0, none⟩), .pointer (some ⟨w.heap.size + 1, 0, none⟩), .pointer (some ⟨w.heap.size + 1 + 1, 0, none⟩), undef, .pointer (some ⟨Bx, 0, none⟩), .slice p n cap, .bool true, .bool false, undef, .slice p n cap, .func (.func 159) #[] #[.pointer (some ⟨w1.heap.size, 0, none⟩)], .int .i64 (j.1 : Int), .agg #[.float .f32 (x (j.1 * 3)), .float .f32 (x (j.1 * 3 + 1)), .float .f32 (x (j.1 * 3 + 2)), .float .f32 (x ((j.1 + 1) * 3)), .float .f32 (x ((j.1 + 1) * 3 + 1)), .float .f32 (x ((j.1 + 1) * 3 + 2))], .bool false, .float .f32 h, .pointer (some ⟨Bx, 0, none⟩), .pointer (some ⟨Bx, 0, none⟩), .float .f32 (x (j.1 * 3)), .bool false, undef, undef, undef, .bool false, .float .f32 h, .pointer (some ⟨Bx, 3, none⟩), .pointer (some ⟨Bx, 3, none⟩), .float .f32 (x ((j.1 + 1) * 3)), .bool false, undef, undef, undef, .bool true, .float .f32 h, .pointer (some ⟨Bx, 0, none⟩), .pointer (some ⟨Bx, 0, none⟩), .float .f32 (x (j.1 * 3)), .bool true, .bool true, .float .f32 h, .pointer (some ⟨Bx, 3, none⟩), .pointer (some ⟨Bx, 3, none⟩), .float .f32 (x ((j.1 + 1) * 3)), .bool true, .bool true, .pointer (some ⟨Bx, 0, none⟩), .pointer (some ⟨Bx, 1, none⟩), .agg #[.float .f32 (x (j.1 * 3 + 1)), .float .f32 (x (j.1 * 3 + 2))], .pointer (some ⟨Bx, 3, none⟩), .pointer (some ⟨Bx, 4, none⟩), undef, undef, .pointer (some ⟨Bx, 0, none⟩), .pointer (some ⟨Bx, 0, none⟩), .float .f32 (x (j.1 * 3)), undef, .agg #[.float .f32 (x (j.1 * 3)), .float .f32 (x (j.1 * 3 + 1)), .float .f32 (x (j.1 * 3 + 2)), .float .f32 (x ((j.1 + 1) * 3)), .float .f32 (x ((j.1 + 1) * 3 + 1)), .float .f32 (x ((j.1 + 1) * 3 + 2))], .float .f32 (dpW x j.1), undef, undef, undef, undef, undef], defers := [] }) Wd := fun Wd hb => by
              rw [← hG]
              have bXd := (hb.block _ (lt_of_block bX)).trans bX
              have kd := kW.out.stay hb
              have hHd := kd.at (x := (w.heap.size, #[.float .f32 h], 23)) (by simp)
              refine wpAnyIn_ready (rs := [5, 6]) (by kernel_rfl) (by simp) ?_
              refine readIn 5 _ _ (.agg #[.float .f32 (x ((j.1 + 1) * 3 + 1)), .float .f32 (x ((j.1 + 1) * 3 + 2))]) rfl rfl (by rfl) (run_load_mid 44 _ Bx 4 [.float .f32 (x ((j.1 + 1) * 3 + 1)), .float .f32 (x ((j.1 + 1) * 3 + 2))] rfl (range2 ((cell_of_row _ Bx 4 _ _ _ bXd).trans rfl) ((cell_of_row _ Bx 5 _ _ _ bXd).trans rfl)) _ Try.underlying44 rfl info_air) rfl rfl rfl ?_ ?_
              · simp only [Act.put, List.setIfInBounds_toArray, List.set_cons_zero, List.set_cons_succ]
                exact (hG _ _ _ _).mpr (s259bc Wd hb)
              refine readIn 6 _ _ (.float .f32 h) rfl rfl (by rfl) (run_load_cell 23 _ ⟨w.heap.size, 0, none⟩ _ rfl (run_loadVar_one Try.underlying23 rfl ((cell_of_row _ _ 0 _ _ _ hHd).trans rfl))) rfl rfl rfl ?_ AllReadyIn.nil
              simp only [Act.put, List.setIfInBounds_toArray, List.set_cons_zero, List.set_cons_succ]
              refine takeIn 10 _ _ (.float .f32 (fsub h (x (j.1 * 3)))) rfl rfl (by rfl) (by kernel_rfl) (by kernel_rfl) (by kernel_rfl) (fun w => run_binop_val _ _ _ _ (by rfl) (by rfl) (by simp [eqGuard]) (r1 w)) (fun _ => rfl) rfl rfl ?_
              simp only [Act.put, List.setIfInBounds_toArray, List.set_cons_zero, List.set_cons_succ]
              refine takeIn 13 _ _ (.float .f32 (shW x h j.1)) rfl rfl (by rfl) (by kernel_rfl) (by kernel_rfl) (by kernel_rfl) (fun w => run_binop_val _ _ _ _ (by rfl) (by rfl) (by simp [eqGuard]) (r3 w)) (fun _ => rfl) rfl rfl ?_
              simp only [Act.put, List.setIfInBounds_toArray, List.set_cons_zero, List.set_cons_succ]
              exact (hG _ _ _ _).mpr (s269bc Wd hb)
            have s569b : ∀ Wd, Below W.heap.size W Wd → G 8 #[true, true, false, true, true, true, true, true, true, true, true, true, false, false, false, false, false, false, false] ({ tmps := #[.slice p n cap, .float .f32 h, undef, .pointer (some ⟨w.heap.size, 0, none⟩), .pointer (some ⟨w.heap.size + 1, 0, none⟩), .pointer (some ⟨w.heap.size + 1 + 1, 0, none⟩), undef, .pointer (some ⟨Bx, 0, none⟩), .slice p n cap, .bool true, .bool false, undef, .slice p n cap, .func (.func 159) #[] #[.pointer (some ⟨w1.heap.size, 0, none⟩)], .int .i64 (j.1 : Int), .agg #[.float .f32 (x (j.1 * 3)), .float .f32 (x (j.1 * 3 + 1)), .float .f32 (x (j.1 * 3 + 2)), .float .f32 (x ((j.1 + 1) * 3)), .float .f32 (x ((j.1 + 1) * 3 + 1)), .float .f32 (x ((j.1 + 1) * 3 + 2))], .bool false, .float .f32 h, .pointer (some ⟨Bx, 0, none⟩), .pointer (some ⟨Bx, 0, none⟩), .float .f32 (x (j.1 * 3)), .bool false, undef, undef, undef, .bool false, .float .f32 h, .pointer (some ⟨Bx, 3, none⟩), .pointer (some ⟨Bx, 3, none⟩), .float .f32 (x ((j.1 + 1) * 3)), .bool false, undef, undef, undef, .bool true, .float .f32 h, .pointer (some ⟨Bx, 0, none⟩), .pointer (some ⟨Bx, 0, none⟩), .float .f32 (x (j.1 * 3)), .bool true, .bool true, .float .f32 h, .pointer (some ⟨Bx, 3, none⟩), .pointer (some ⟨Bx, 3, none⟩), .float .f32 (x ((j.1 + 1) * 3)), .bool true, .bool true, .pointer (some ⟨Bx, 0, none⟩), .pointer (some ⟨Bx, 1, none⟩), undef, .pointer (some ⟨Bx, 3, none⟩), .pointer (some ⟨Bx, 4, none⟩), .agg #[.float .f32 (x ((j.1 + 1) * 3 + 1)), .float .f32 (x ((j.1 + 1) * 3 + 2))], .float .f32 h, .pointer (some ⟨Bx, 0, none⟩), .pointer (some ⟨Bx, 0, none⟩), .float .f32 (x (j.1 * 3)), .float .f32 (fsub h (x (j.1 * 3))), .agg #[.float .f32 (x (j.1 * 3)), .float .f32 (x (j.1 * 3 + 1)), .float .f32 (x (j.1 * 3 + 2)), .float .f32 (x ((j.1 + 1) * 3)), .float .f32 (x ((j.1 + 1) * 3 + 1)), .float .f32 (x ((j.1 + 1) * 3 + 2))], undef, undef, undef, undef, undef, undef], defers := [] }) Wd := fun Wd hb => by
              rw [← hG]
              have bXd := (hb.block _ (lt_of_block bX)).trans bX
              have kd := kW.out.stay hb
              have hHd := kd.at (x := (w.heap.size, #[.float .f32 h], 23)) (by simp)
              refine wpAnyIn_ready (rs := [2, 12]) (by kernel_rfl) (by simp) ?_
              refine readIn 2 _ _ (.agg #[.float .f32 (x (j.1 * 3 + 1)), .float .f32 (x (j.1 * 3 + 2))]) rfl rfl (by rfl) (run_load_mid 44 _ Bx 1 [.float .f32 (x (j.1 * 3 + 1)), .float .f32 (x (j.1 * 3 + 2))] rfl (range2 ((cell_of_row _ Bx 1 _ _ _ bXd).trans rfl) ((cell_of_row _ Bx 2 _ _ _ bXd).trans rfl)) _ Try.underlying44 rfl info_air) rfl rfl rfl ?_ ?_
              · simp only [Act.put, List.setIfInBounds_toArray, List.set_cons_zero, List.set_cons_succ]
                exact (hG _ _ _ _).mpr (s2569b Wd hb)
              refine callIn 12 _ _ (.float .f32 (dpW x j.1)) rfl rfl (by rfl) 158 #[.agg #[.float .f32 (x (j.1 * 3)), .float .f32 (x (j.1 * 3 + 1)), .float .f32 (x (j.1 * 3 + 2)), .float .f32 (x ((j.1 + 1) * 3)), .float .f32 (x ((j.1 + 1) * 3 + 1)), .float .f32 (x ((j.1 + 1) * 3 + 2))]] (by unfold execOp; go_simp) (fun _ _ => trivial) (fun hh => by cases hh) (fun w2 => Below Wd.heap.size Wd w2) (callsIn_wide.2 (iDepth x j.1 HAt.out.d2 Wd)) rfl rfl (fun w2 hb2 => ?_) AllReadyIn.nil
              simp only [Act.put, List.setIfInBounds_toArray, List.set_cons_zero, List.set_cons_succ]
              refine takeIn 13 _ _ (.float .f32 (shW x h j.1)) rfl rfl (by rfl) (by kernel_rfl) (by kernel_rfl) (by kernel_rfl) (fun w => run_binop_val _ _ _ _ (by rfl) (by rfl) (by simp [eqGuard]) (r3 w)) (fun _ => rfl) rfl rfl ?_
              simp only [Act.put, List.setIfInBounds_toArray, List.set_cons_zero, List.set_cons_succ]
              exact (hG _ _ _ _).mpr (s569bc w2 (hb.trans (hb2.mono hb.size)))
            have s56bc : ∀ Wd, Below W.heap.size W Wd → G 9 #[true, true, false, true, true, true, true, true, true, false, false, true, true, false, false, false, false, false, false] ({ tmps := #[.slice p n cap, .float .f32 h, undef, .pointer (some ⟨w.heap.size, 0, none⟩), .pointer (some ⟨w.heap.size + 1, 0, none⟩), .pointer (some ⟨w.heap.size + 1 + 1, 0, none⟩), undef, .pointer (some ⟨Bx, 0, none⟩), .slice p n cap, .bool true, .bool false, undef, .slice p n cap, .func (.func 159) #[] #[.pointer (some ⟨w1.heap.size, 0, none⟩)], .int .i64 (j.1 : Int), .agg #[.float .f32 (x (j.1 * 3)), .float .f32 (x (j.1 * 3 + 1)), .float .f32 (x (j.1 * 3 + 2)), .float .f32 (x ((j.1 + 1) * 3)), .float .f32 (x ((j.1 + 1) * 3 + 1)), .float .f32 (x ((j.1 + 1) * 3 + 2))], .bool false, .float .f32 h, .pointer (some ⟨Bx, 0, none⟩), .pointer (some ⟨Bx, 0, none⟩), .float .f32 (x (j.1 * 3)), .bool false, undef, undef, undef, .bool false, .float .f32 h, .pointer (some ⟨Bx, 3, none⟩), .pointer (some ⟨Bx, 3, none⟩), .float .f32 (x ((j.1 + 1) * 3)), .bool false, undef, undef, undef, .bool true, .float .f32 h, .pointer (some ⟨Bx, 0, none⟩), .pointer (some ⟨Bx, 0, none⟩), .float .f32 (x (j.1 * 3)), .bool true, .bool true, .float .f32 h, .pointer (some ⟨Bx, 3, none⟩), .pointer (some ⟨Bx, 3, none⟩), .float .f32 (x ((j.1 + 1) * 3)), .bool true, .bool true, .pointer (some ⟨Bx, 0, none⟩), .pointer (some ⟨Bx, 1, none⟩), undef, .pointer (some ⟨Bx, 3, none⟩), .pointer (some ⟨Bx, 4, none⟩), .agg #[.float .f32 (x ((j.1 + 1) * 3 + 1)), .float .f32 (x ((j.1 + 1) * 3 + 2))], .float .f32 h, .pointer (some ⟨Bx, 0, none⟩), .pointer (some ⟨Bx, 0, none⟩), undef, undef, .agg #[.float .f32 (x (j.1 * 3)), .float .f32 (x (j.1 * 3 + 1)), .float .f32 (x (j.1 * 3 + 2)), .float .f32 (x ((j.1 + 1) * 3)), .float .f32 (x ((j.1 + 1) * 3 + 1)), .float .f32 (x ((j.1 + 1) * 3 + 2))], .float .f32 (dpW x j.1), undef, undef, undef, undef, undef], defers := [] }) Wd := fun Wd hb => by
              rw [← hG]
              have bXd := (hb.block _ (lt_of_block bX)).trans bX
              have kd := kW.out.stay hb
              have hHd := kd.at (x := (w.heap.size, #[.float .f32 h], 23)) (by simp)
              refine wpAnyIn_ready (rs := [2, 9]) (by kernel_rfl) (by simp) ?_
              refine readIn 2 _ _ (.agg #[.float .f32 (x (j.1 * 3 + 1)), .float .f32 (x (j.1 * 3 + 2))]) rfl rfl (by rfl) (run_load_mid 44 _ Bx 1 [.float .f32 (x (j.1 * 3 + 1)), .float .f32 (x (j.1 * 3 + 2))] rfl (range2 ((cell_of_row _ Bx 1 _ _ _ bXd).trans rfl) ((cell_of_row _ Bx 2 _ _ _ bXd).trans rfl)) _ Try.underlying44 rfl info_air) rfl rfl rfl ?_ ?_
              · simp only [Act.put, List.setIfInBounds_toArray, List.set_cons_zero, List.set_cons_succ]
                exact (hG _ _ _ _).mpr (s256bc Wd hb)
              refine readIn 9 _ _ (.float .f32 (x (j.1 * 3))) rfl rfl (by rfl) (run_load_cell 23 _ ⟨Bx, 0, none⟩ _ rfl (run_loadVar_one Try.underlying23 rfl ((cell_of_row _ Bx 0 _ _ _ bXd).trans rfl))) rfl rfl rfl ?_ AllReadyIn.nil
              simp only [Act.put, List.setIfInBounds_toArray, List.set_cons_zero, List.set_cons_succ]
              refine takeIn 10 _ _ (.float .f32 (fsub h (x (j.1 * 3)))) rfl rfl (by rfl) (by kernel_rfl) (by kernel_rfl) (by kernel_rfl) (fun w => run_binop_val _ _ _ _ (by rfl) (by rfl) (by simp [eqGuard]) (r1 w)) (fun _ => rfl) rfl rfl ?_
              simp only [Act.put, List.setIfInBounds_toArray, List.set_cons_zero, List.set_cons_succ]
              refine takeIn 13 _ _ (.float .f32 (shW x h j.1)) rfl rfl (by rfl) (by kernel_rfl) (by kernel_rfl) (by kernel_rfl) (fun w => run_binop_val _ _ _ _ (by rfl) (by rfl) (by simp [eqGuard]) (r3 w)) (fun _ => rfl) rfl rfl ?_
              simp only [Act.put, List.setIfInBounds_toArray, List.set_cons_zero, List.set_cons_succ]
              exact (hG _ _ _ _).mpr (s569bc Wd hb)
            have s59bc : ∀ Wd, Below W.heap.size W Wd → G 9 #[true, true, false, true, true, true, false, true, true, true, false, true, true, false, false, false, false, false, false] ({ tmps := #[.slice p n cap, .float .f32 h, undef, .pointer (some ⟨w.heap.size, 0, none⟩), .pointer (some ⟨w.heap.size + 1, 0, none⟩), .pointer (some ⟨w.heap.size + 1 + 1, 0, none⟩), undef, .pointer (some ⟨Bx, 0, none⟩), .slice p n cap, .bool true, .bool false, undef, .slice p n cap, .func (.func 159) #[] #[.pointer (some ⟨w1.heap.size, 0, none⟩)], .int .i64 (j.1 : Int), .agg #[.float .f32 (x (j.1 * 3)), .float .f32 (x (j.1 * 3 + 1)), .float .f32 (x (j.1 * 3 + 2)), .float .f32 (x ((j.1 + 1) * 3)), .float .f32 (x ((j.1 + 1) * 3 + 1)), .float .f32 (x ((j.1 + 1) * 3 + 2))], .bool false, .float .f32 h, .pointer (some ⟨Bx, 0, none⟩), .pointer (some ⟨Bx, 0, none⟩), .float .f32 (x (j.1 * 3)), .bool false, undef, undef, undef, .bool false, .float .f32 h, .pointer (some ⟨Bx, 3, none⟩), .pointer (some ⟨Bx, 3, none⟩), .float .f32 (x ((j.1 + 1) * 3)), .bool false, undef, undef, undef, .bool true, .float .f32 h, .pointer (some ⟨Bx, 0, none⟩), .pointer (some ⟨Bx, 0, none⟩), .float .f32 (x (j.1 * 3)), .bool true, .bool true, .float .f32 h, .pointer (some ⟨Bx, 3, none⟩), .pointer (some ⟨Bx, 3, none⟩), .float .f32 (x ((j.1 + 1) * 3)), .bool true, .bool true, .pointer (some ⟨Bx, 0, none⟩), .pointer (some ⟨Bx, 1, none⟩), undef, .pointer (some ⟨Bx, 3, none⟩), .pointer (some ⟨Bx, 4, none⟩), .agg #[.float .f32 (x ((j.1 + 1) * 3 + 1)), .float .f32 (x ((j.1 + 1) * 3 + 2))], undef, .pointer (some ⟨Bx, 0, none⟩), .pointer (some ⟨Bx, 0, none⟩), .float .f32 (x (j.1 * 3)), undef, .agg #[.float .f32 (x (j.1 * 3)), .float .f32 (x (j.1 * 3 + 1)), .float .f32 (x (j.1 * 3 + 2)), .float .f32 (x ((j.1 + 1) * 3)), .float .f32 (x ((j.1 + 1) * 3 + 1)), .float .f32 (x ((j.1 + 1) * 3 + 2))], .float .f32 (dpW x j.1), undef, undef, undef, undef, undef], defers := [] }) Wd := fun Wd hb => by
              rw [← hG]
              have bXd := (hb.block _ (lt_of_block bX)).trans bX
              have kd := kW.out.stay hb
              have hHd := kd.at (x := (w.heap.size, #[.float .f32 h], 23)) (by simp)
              refine wpAnyIn_ready (rs := [2, 6]) (by kernel_rfl) (by simp) ?_
              refine readIn 2 _ _ (.agg #[.float .f32 (x (j.1 * 3 + 1)), .float .f32 (x (j.1 * 3 + 2))]) rfl rfl (by rfl) (run_load_mid 44 _ Bx 1 [.float .f32 (x (j.1 * 3 + 1)), .float .f32 (x (j.1 * 3 + 2))] rfl (range2 ((cell_of_row _ Bx 1 _ _ _ bXd).trans rfl) ((cell_of_row _ Bx 2 _ _ _ bXd).trans rfl)) _ Try.underlying44 rfl info_air) rfl rfl rfl ?_ ?_
              · simp only [Act.put, List.setIfInBounds_toArray, List.set_cons_zero, List.set_cons_succ]
                exact (hG _ _ _ _).mpr (s259bc Wd hb)
              refine readIn 6 _ _ (.float .f32 h) rfl rfl (by rfl) (run_load_cell 23 _ ⟨w.heap.size, 0, none⟩ _ rfl (run_loadVar_one Try.underlying23 rfl ((cell_of_row _ _ 0 _ _ _ hHd).trans rfl))) rfl rfl rfl ?_ AllReadyIn.nil
              simp only [Act.put, List.setIfInBounds_toArray, List.set_cons_zero, List.set_cons_succ]
              refine takeIn 10 _ _ (.float .f32 (fsub h (x (j.1 * 3)))) rfl rfl (by rfl) (by kernel_rfl) (by kernel_rfl) (by kernel_rfl) (fun w => run_binop_val _ _ _ _ (by rfl) (by rfl) (by simp [eqGuard]) (r1 w)) (fun _ => rfl) rfl rfl ?_
              simp only [Act.put, List.setIfInBounds_toArray, List.set_cons_zero, List.set_cons_succ]
              refine takeIn 13 _ _ (.float .f32 (shW x h j.1)) rfl rfl (by rfl) (by kernel_rfl) (by kernel_rfl) (by kernel_rfl) (fun w => run_binop_val _ _ _ _ (by rfl) (by rfl) (by simp [eqGuard]) (r3 w)) (fun _ => rfl) rfl rfl ?_
              simp only [Act.put, List.setIfInBounds_toArray, List.set_cons_zero, List.set_cons_succ]
              exact (hG _ _ _ _).mpr (s569bc Wd hb)
            have s69bc : ∀ Wd, Below W.heap.size W Wd → G 7 #[true, true, false, true, true, false, true, true, true, true, true, true, true, true, false, false, false, false, false] ({ tmps := #[.slice p n cap, .float .f32 h, undef, .pointer (some ⟨w.heap.size, 0, none⟩), .pointer (some ⟨w.heap.size + 1, 0, none⟩), .pointer (some ⟨w.heap.size + 1 + 1, 0, none⟩), undef, .pointer (some ⟨Bx, 0, none⟩), .slice p n cap, .bool true, .bool false, undef, .slice p n cap, .func (.func 159) #[] #[.pointer (some ⟨w1.heap.size, 0, none⟩)], .int .i64 (j.1 : Int), .agg #[.float .f32 (x (j.1 * 3)), .float .f32 (x (j.1 * 3 + 1)), .float .f32 (x (j.1 * 3 + 2)), .float .f32 (x ((j.1 + 1) * 3)), .float .f32 (x ((j.1 + 1) * 3 + 1)), .float .f32 (x ((j.1 + 1) * 3 + 2))], .bool false, .float .f32 h, .pointer (some ⟨Bx, 0, none⟩), .pointer (some ⟨Bx, 0, none⟩), .float .f32 (x (j.1 * 3)), .bool false, undef, undef, undef, .bool false, .float .f32 h, .pointer (some ⟨Bx, 3, none⟩), .pointer (some ⟨Bx, 3, none⟩), .float .f32 (x ((j.1 + 1) * 3)), .bool false, undef, undef, undef, .bool true, .float .f32 h, .pointer (some ⟨Bx, 0, none⟩), .pointer (some ⟨Bx, 0, none⟩), .float .f32 (x (j.1 * 3)), .bool true, .bool true, .float .f32 h, .pointer (some ⟨Bx, 3, none⟩), .pointer (some ⟨Bx, 3, none⟩), .float .f32 (x ((j.1 + 1) * 3)), .bool true, .bool true, .pointer (some ⟨Bx, 0, none⟩), .pointer (some ⟨Bx, 1, none⟩), undef, .pointer (some ⟨Bx, 3, none⟩), .pointer (some ⟨Bx, 4, none⟩), undef, .float .f32 h, .pointer (some ⟨Bx, 0, none⟩), .pointer (some ⟨Bx, 0, none⟩), .float .f32 (x (j.1 * 3)), .float .f32 (fsub h (x (j.1 * 3))), .agg #[.float .f32 (x (j.1 * 3)), .float .f32 (x (j.1 * 3 + 1)), .float .f32 (x (j.1 * 3 + 2)), .float .f32 (x ((j.1 + 1) * 3)), .float .f32 (x ((j.1 + 1) * 3 + 1)), .float .f32 (x ((j.1 + 1) * 3 + 2))], .float .f32 (dpW x j.1), .float .f32 (shW x h j.1), undef, undef, undef, undef], defers := [] }) Wd := fun Wd hb => by
              rw [← hG]
              have bXd := (hb.block _ (lt_of_block bX)).trans bX
              have kd := kW.out.stay hb
              have hHd := kd.at (x := (w.heap.size, #[.float .f32 h], 23)) (by simp)
              refine wpAnyIn_ready (rs := [2, 5]) (by kernel_rfl) (by simp) ?_
              refine readIn 2 _ _ (.agg #[.float .f32 (x (j.1 * 3 + 1)), .float .f32 (x (j.1 * 3 + 2))]) rfl rfl (by rfl) (run_load_mid 44 _ Bx 1 [.float .f32 (x (j.1 * 3 + 1)), .float .f32 (x (j.1 * 3 + 2))] rfl (range2 ((cell_of_row _ Bx 1 _ _ _ bXd).trans rfl) ((cell_of_row _ Bx 2 _ _ _ bXd).trans rfl)) _ Try.underlying44 rfl info_air) rfl rfl rfl ?_ ?_
              · simp only [Act.put, List.setIfInBounds_toArray, List.set_cons_zero, List.set_cons_succ]
                exact (hG _ _ _ _).mpr (s269bc Wd hb)
              refine readIn 5 _ _ (.agg #[.float .f32 (x ((j.1 + 1) * 3 + 1)), .float .f32 (x ((j.1 + 1) * 3 + 2))]) rfl rfl (by rfl) (run_load_mid 44 _ Bx 4 [.float .f32 (x ((j.1 + 1) * 3 + 1)), .float .f32 (x ((j.1 + 1) * 3 + 2))] rfl (range2 ((cell_of_row _ Bx 4 _ _ _ bXd).trans rfl) ((cell_of_row _ Bx 5 _ _ _ bXd).trans rfl)) _ Try.underlying44 rfl info_air) rfl rfl rfl ?_ AllReadyIn.nil
              simp only [Act.put, List.setIfInBounds_toArray, List.set_cons_zero, List.set_cons_succ]
              exact (hG _ _ _ _).mpr (s569bc Wd hb)
            have s256 : ∀ Wd, Below W.heap.size W Wd → G 10 #[true, true, true, true, true, true, true, true, true, false, false, false, false, false, false, false, false, false, false] ({ tmps := #[.slice p n cap, .float .f32 h, undef, .pointer (some ⟨w.heap.size, 0, none⟩), .pointer (some ⟨w.heap.size + 1, 0, none⟩), .pointer (some ⟨w.heap.size + 1 + 1, 0, none⟩), undef, .pointer (some ⟨Bx, 0, none⟩), .slice p n cap, .bool true, .bool false, undef, .slice p n cap, .func (.func 159) #[] #[.pointer (some ⟨w1.heap.size, 0, none⟩)], .int .i64 (j.1 : Int), .agg #[.float .f32 (x (j.1 * 3)), .float .f32 (x (j.1 * 3 + 1)), .float .f32 (x (j.1 * 3 + 2)), .float .f32 (x ((j.1 + 1) * 3)), .float .f32 (x ((j.1 + 1) * 3 + 1)), .float .f32 (x ((j.1 + 1) * 3 + 2))], .bool false, .float .f32 h, .pointer (some ⟨Bx, 0, none⟩), .pointer (some ⟨Bx, 0, none⟩), .float .f32 (x (j.1 * 3)), .bool false, undef, undef, undef, .bool false, .float .f32 h, .pointer (some ⟨Bx, 3, none⟩), .pointer (some ⟨Bx, 3, none⟩), .float .f32 (x ((j.1 + 1) * 3)), .bool false, undef, undef, undef, .bool true, .float .f32 h, .pointer (some ⟨Bx, 0, none⟩), .pointer (some ⟨Bx, 0, none⟩), .float .f32 (x (j.1 * 3)), .bool true, .bool true, .float .f32 h, .pointer (some ⟨Bx, 3, none⟩), .pointer (some ⟨Bx, 3, none⟩), .float .f32 (x ((j.1 + 1) * 3)), .bool true, .bool true, .pointer (some ⟨Bx, 0, none⟩), .pointer (some ⟨Bx, 1, none⟩), .agg #[.float .f32 (x (j.1 * 3 + 1)), .float .f32 (x (j.1 * 3 + 2))], .pointer (some ⟨Bx, 3, none⟩), .pointer (some ⟨Bx, 4, none⟩), .agg #[.float .f32 (x ((j.1 + 1) * 3 + 1)), .float .f32 (x ((j.1 + 1) * 3 + 2))], .float .f32 h, .pointer (some ⟨Bx, 0, none⟩), .pointer (some ⟨Bx, 0, none⟩), undef, undef, undef, undef, undef, undef, undef, undef, undef], defers := [] }) Wd := fun Wd hb => by
              rw [← hG]
              have bXd := (hb.block _ (lt_of_block bX)).trans bX
              have kd := kW.out.stay hb
              have hHd := kd.at (x := (w.heap.size, #[.float .f32 h], 23)) (by simp)
              refine wpAnyIn_ready (rs := [9, 11]) (by kernel_rfl) (by simp) ?_
              refine readIn 9 _ _ (.float .f32 (x (j.1 * 3))) rfl rfl (by rfl) (run_load_cell 23 _ ⟨Bx, 0, none⟩ _ rfl (run_loadVar_one Try.underlying23 rfl ((cell_of_row _ Bx 0 _ _ _ bXd).trans rfl))) rfl rfl rfl ?_ ?_
              · simp only [Act.put, List.setIfInBounds_toArray, List.set_cons_zero, List.set_cons_succ]
                refine takeIn 10 _ _ (.float .f32 (fsub h (x (j.1 * 3)))) rfl rfl (by rfl) (by kernel_rfl) (by kernel_rfl) (by kernel_rfl) (fun w => run_binop_val _ _ _ _ (by rfl) (by rfl) (by simp [eqGuard]) (r1 w)) (fun _ => rfl) rfl rfl ?_
                simp only [Act.put, List.setIfInBounds_toArray, List.set_cons_zero, List.set_cons_succ]
                exact (hG _ _ _ _).mpr (s2569 Wd hb)
              refine readIn 11 _ _ (.agg #[.float .f32 (x (j.1 * 3)), .float .f32 (x (j.1 * 3 + 1)), .float .f32 (x (j.1 * 3 + 2)), .float .f32 (x ((j.1 + 1) * 3)), .float .f32 (x ((j.1 + 1) * 3 + 1)), .float .f32 (x ((j.1 + 1) * 3 + 2))]) rfl rfl (by rfl) (run_load_mid 120 _ Bx 0 [.float .f32 (x (j.1 * 3)), .float .f32 (x (j.1 * 3 + 1)), .float .f32 (x (j.1 * 3 + 2)), .float .f32 (x ((j.1 + 1) * 3)), .float .f32 (x ((j.1 + 1) * 3 + 1)), .float .f32 (x ((j.1 + 1) * 3 + 2))] rfl (rowRange bXd) _ Try.underlying120 rfl info_lay) rfl rfl rfl ?_ AllReadyIn.nil
              simp only [Act.put, List.setIfInBounds_toArray, List.set_cons_zero, List.set_cons_succ]
              exact (hG _ _ _ _).mpr (s256b Wd hb)
            have s259 : ∀ Wd, Below W.heap.size W Wd → G 10 #[true, true, true, true, true, true, false, true, true, true, false, false, false, false, false, false, false, false, false] ({ tmps := #[.slice p n cap, .float .f32 h, undef, .pointer (some ⟨w.heap.size, 0, none⟩), .pointer (some ⟨w.heap.size + 1, 0, none⟩), .pointer (some ⟨w.heap.size + 1 + 1, 0, none⟩), undef, .pointer (some ⟨Bx, 0, none⟩), .slice p n cap, .bool true, .bool false, undef, .slice p n cap, .func (.func 159) #[] #[.pointer (some ⟨w1.heap.size, 0, none⟩)], .int .i64 (j.1 : Int), .agg #[.float .f32 (x (j.1 * 3)), .float .f32 (x (j.1 * 3 + 1)), .float .f32 (x (j.1 * 3 + 2)), .float .f32 (x ((j.1 + 1) * 3)), .float .f32 (x ((j.1 + 1) * 3 + 1)), .float .f32 (x ((j.1 + 1) * 3 + 2))], .bool false, .float .f32 h, .pointer (some ⟨Bx, 0, none⟩), .pointer (some ⟨Bx, 0, none⟩), .float .f32 (x (j.1 * 3)), .bool false, undef, undef, undef, .bool false, .float .f32 h, .pointer (some ⟨Bx, 3, none⟩), .pointer (some ⟨Bx, 3, none⟩), .float .f32 (x ((j.1 + 1) * 3)), .bool false, undef, undef, undef, .bool true, .float .f32 h, .pointer (some ⟨Bx, 0, none⟩), .pointer (some ⟨Bx, 0, none⟩), .float .f32 (x (j.1 * 3)), .bool true, .bool true, .float .f32 h, .pointer (some ⟨Bx, 3, none⟩), .pointer (some ⟨Bx, 3, none⟩), .float .f32 (x ((j.1 + 1) * 3)), .bool true, .bool true, .pointer (some ⟨Bx, 0, none⟩), .pointer (some ⟨Bx, 1, none⟩), .agg #[.float .f32 (x (j.1 * 3 + 1)), .float .f32 (x (j.1 * 3 + 2))], .pointer (some ⟨Bx, 3, none⟩), .pointer (some ⟨Bx, 4, none⟩), .agg #[.float .f32 (x ((j.1 + 1) * 3 + 1)), .float .f32 (x ((j.1 + 1) * 3 + 2))], undef, .pointer (some ⟨Bx, 0, none⟩), .pointer (some ⟨Bx, 0, none⟩), .float .f32 (x (j.1 * 3)), undef, undef, undef, undef, undef, undef, undef, undef], defers := [] }) Wd := fun Wd hb => by
              rw [← hG]
              have bXd := (hb.block _ (lt_of_block bX)).trans bX
              have kd := kW.out.stay hb
              have hHd := kd.at (x := (w.heap.size, #[.float .f32 h], 23)) (by simp)
              refine wpAnyIn_ready (rs := [6, 11]) (by kernel_rfl) (by simp) ?_
              refine readIn 6 _ _ (.float .f32 h) rfl rfl (by rfl) (run_load_cell 23 _ ⟨w.heap.size, 0, none⟩ _ rfl (run_loadVar_one Try.underlying23 rfl ((cell_of_row _ _ 0 _ _ _ hHd).trans rfl))) rfl rfl rfl ?_ ?_
              · simp only [Act.put, List.setIfInBounds_toArray, List.set_cons_zero, List.set_cons_succ]
                refine takeIn 10 _ _ (.float .f32 (fsub h (x (j.1 * 3)))) rfl rfl (by rfl) (by kernel_rfl) (by kernel_rfl) (by kernel_rfl) (fun w => run_binop_val _ _ _ _ (by rfl) (by rfl) (by simp [eqGuard]) (r1 w)) (fun _ => rfl) rfl rfl ?_
                simp only [Act.put, List.setIfInBounds_toArray, List.set_cons_zero, List.set_cons_succ]
                exact (hG _ _ _ _).mpr (s2569 Wd hb)
              refine readIn 11 _ _ (.agg #[.float .f32 (x (j.1 * 3)), .float .f32 (x (j.1 * 3 + 1)), .float .f32 (x (j.1 * 3 + 2)), .float .f32 (x ((j.1 + 1) * 3)), .float .f32 (x ((j.1 + 1) * 3 + 1)), .float .f32 (x ((j.1 + 1) * 3 + 2))]) rfl rfl (by rfl) (run_load_mid 120 _ Bx 0 [.float .f32 (x (j.1 * 3)), .float .f32 (x (j.1 * 3 + 1)), .float .f32 (x (j.1 * 3 + 2)), .float .f32 (x ((j.1 + 1) * 3)), .float .f32 (x ((j.1 + 1) * 3 + 1)), .float .f32 (x ((j.1 + 1) * 3 + 2))] rfl (rowRange bXd) _ Try.underlying120 rfl info_lay) rfl rfl rfl ?_ AllReadyIn.nil
              simp only [Act.put, List.setIfInBounds_toArray, List.set_cons_zero, List.set_cons_succ]
              exact (hG _ _ _ _).mpr (s259b Wd hb)
            have s25b : ∀ Wd, Below W.heap.size W Wd → G 10 #[true, true, true, true, true, true, false, true, true, false, false, true, false, false, false, false, false, false, false] ({ tmps := #[.slice p n cap, .float .f32 h, undef, .pointer (some ⟨w.heap.size, 0, none⟩), .pointer (some ⟨w.heap.size + 1, 0, none⟩), .pointer (some ⟨w.heap.size + 1 + 1, 0, none⟩), undef, .pointer (some ⟨Bx, 0, none⟩), .slice p n cap, .bool true, .bool false, undef, .slice p n cap, .func (.func 159) #[] #[.pointer (some ⟨w1.heap.size, 0, none⟩)], .int .i64 (j.1 : Int), .agg #[.float .f32 (x (j.1 * 3)), .float .f32 (x (j.1 * 3 + 1)), .float .f32 (x (j.1 * 3 + 2)), .float .f32 (x ((j.1 + 1) * 3)), .float .f32 (x ((j.1 + 1) * 3 + 1)), .float .f32 (x ((j.1 + 1) * 3 + 2))], .bool false, .float .f32 h, .pointer (some ⟨Bx, 0, none⟩), .pointer (some ⟨Bx, 0, none⟩), .float .f32 (x (j.1 * 3)), .bool false, undef, undef, undef, .bool false, .float .f32 h, .pointer (some ⟨Bx, 3, none⟩), .pointer (some ⟨Bx, 3, none⟩), .float .f32 (x ((j.1 + 1) * 3)), .bool false, undef, undef, undef, .bool true, .float .f32 h, .pointer (some ⟨Bx, 0, none⟩), .pointer (some ⟨Bx, 0, none⟩), .float .f32 (x (j.1 * 3)), .bool true, .bool true, .float .f32 h, .pointer (some ⟨Bx, 3, none⟩), .pointer (some ⟨Bx, 3, none⟩), .float .f32 (x ((j.1 + 1) * 3)), .bool true, .bool true, .pointer (some ⟨Bx, 0, none⟩), .pointer (some ⟨Bx, 1, none⟩), .agg #[.float .f32 (x (j.1 * 3 + 1)), .float .f32 (x (j.1 * 3 + 2))], .pointer (some ⟨Bx, 3, none⟩), .pointer (some ⟨Bx, 4, none⟩), .agg #[.float .f32 (x ((j.1 + 1) * 3 + 1)), .float .f32 (x ((j.1 + 1) * 3 + 2))], undef, .pointer (some ⟨Bx, 0, none⟩), .pointer (some ⟨Bx, 0, none⟩), undef, undef, .agg #[.float .f32 (x (j.1 * 3)), .float .f32 (x (j.1 * 3 + 1)), .float .f32 (x (j.1 * 3 + 2)), .float .f32 (x ((j.1 + 1) * 3)), .float .f32 (x ((j.1 + 1) * 3 + 1)), .float .f32 (x ((j.1 + 1) * 3 + 2))], undef, undef, undef, undef, undef, undef], defers := [] }) Wd := fun Wd hb => by
              rw [← hG]
              have bXd := (hb.block _ (lt_of_block bX)).trans bX
              have kd := kW.out.stay hb
              have hHd := kd.at (x := (w.heap.size, #[.float .f32 h], 23)) (by simp)
              refine wpAnyIn_ready (rs := [6, 9, 12]) (by kernel_rfl) (by simp) ?_
              refine readIn 6 _ _ (.float .f32 h) rfl rfl (by rfl) (run_load_cell 23 _ ⟨w.heap.size, 0, none⟩ _ rfl (run_loadVar_one Try.underlying23 rfl ((cell_of_row _ _ 0 _ _ _ hHd).trans rfl))) rfl rfl rfl ?_ ?_
              · simp only [Act.put, List.setIfInBounds_toArray, List.set_cons_zero, List.set_cons_succ]
                exact (hG _ _ _ _).mpr (s256b Wd hb)
              refine readIn 9 _ _ (.float .f32 (x (j.1 * 3))) rfl rfl (by rfl) (run_load_cell 23 _ ⟨Bx, 0, none⟩ _ rfl (run_loadVar_one Try.underlying23 rfl ((cell_of_row _ Bx 0 _ _ _ bXd).trans rfl))) rfl rfl rfl ?_ ?_
              · simp only [Act.put, List.setIfInBounds_toArray, List.set_cons_zero, List.set_cons_succ]
                exact (hG _ _ _ _).mpr (s259b Wd hb)
              refine callIn 12 _ _ (.float .f32 (dpW x j.1)) rfl rfl (by rfl) 158 #[.agg #[.float .f32 (x (j.1 * 3)), .float .f32 (x (j.1 * 3 + 1)), .float .f32 (x (j.1 * 3 + 2)), .float .f32 (x ((j.1 + 1) * 3)), .float .f32 (x ((j.1 + 1) * 3 + 1)), .float .f32 (x ((j.1 + 1) * 3 + 2))]] (by unfold execOp; go_simp) (fun _ _ => trivial) (fun hh => by cases hh) (fun w2 => Below Wd.heap.size Wd w2) (callsIn_wide.2 (iDepth x j.1 HAt.out.d2 Wd)) rfl rfl (fun w2 hb2 => ?_) AllReadyIn.nil
              simp only [Act.put, List.setIfInBounds_toArray, List.set_cons_zero, List.set_cons_succ]
              exact (hG _ _ _ _).mpr (s25bc w2 (hb.trans (hb2.mono hb.size)))
            have s269 : ∀ Wd, Below W.heap.size W Wd → G 9 #[true, true, true, true, true, false, true, true, true, true, true, false, false, false, false, false, false, false, false] ({ tmps := #[.slice p n cap, .float .f32 h, undef, .pointer (some ⟨w.heap.size, 0, none⟩), .pointer (some ⟨w.heap.size + 1, 0, none⟩), .pointer (some ⟨w.heap.size + 1 + 1, 0, none⟩), undef, .pointer (some ⟨Bx, 0, none⟩), .slice p n cap, .bool true, .bool false, undef, .slice p n cap, .func (.func 159) #[] #[.pointer (some ⟨w1.heap.size, 0, none⟩)], .int .i64 (j.1 : Int), .agg #[.float .f32 (x (j.1 * 3)), .float .f32 (x (j.1 * 3 + 1)), .float .f32 (x (j.1 * 3 + 2)), .float .f32 (x ((j.1 + 1) * 3)), .float .f32 (x ((j.1 + 1) * 3 + 1)), .float .f32 (x ((j.1 + 1) * 3 + 2))], .bool false, .float .f32 h, .pointer (some ⟨Bx, 0, none⟩), .pointer (some ⟨Bx, 0, none⟩), .float .f32 (x (j.1 * 3)), .bool false, undef, undef, undef, .bool false, .float .f32 h, .pointer (some ⟨Bx, 3, none⟩), .pointer (some ⟨Bx, 3, none⟩), .float .f32 (x ((j.1 + 1) * 3)), .bool false, undef, undef, undef, .bool true, .float .f32 h, .pointer (some ⟨Bx, 0, none⟩), .pointer (some ⟨Bx, 0, none⟩), .float .f32 (x (j.1 * 3)), .bool true, .bool true, .float .f32 h, .pointer (some ⟨Bx, 3, none⟩), .pointer (some ⟨Bx, 3, none⟩), .float .f32 (x ((j.1 + 1) * 3)), .bool true, .bool true, .pointer (some ⟨Bx, 0, none⟩), .pointer (some ⟨Bx, 1, none⟩), .agg #[.float .f32 (x (j.1 * 3 + 1)), .float .f32 (x (j.1 * 3 + 2))], .pointer (some ⟨Bx, 3, none⟩), .pointer (some ⟨Bx, 4, none⟩), undef, .float .f32 h, .pointer (some ⟨Bx, 0, none⟩), .pointer (some ⟨Bx, 0, none⟩), .float .f32 (x (j.1 * 3)), .float .f32 (fsub h (x (j.1 * 3))), undef, undef, undef, undef, undef, undef, undef], defers := [] }) Wd := fun Wd hb => by
              rw [← hG]
              have bXd := (hb.block _ (lt_of_block bX)).trans bX
              have kd := kW.out.stay hb
              have hHd := kd.at (x := (w.heap.size, #[.float .f32 h], 23)) (by simp)
              refine wpAnyIn_ready (rs := [5, 11]) (by kernel_rfl) (by simp) ?_
              refine readIn 5 _ _ (.agg #[.float .f32 (x ((j.1 + 1) * 3 + 1)), .float .f32 (x ((j.1 + 1) * 3 + 2))]) rfl rfl (by rfl) (run_load_mid 44 _ Bx 4 [.float .f32 (x ((j.1 + 1) * 3 + 1)), .float .f32 (x ((j.1 + 1) * 3 + 2))] rfl (range2 ((cell_of_row _ Bx 4 _ _ _ bXd).trans rfl) ((cell_of_row _ Bx 5 _ _ _ bXd).trans rfl)) _ Try.underlying44 rfl info_air) rfl rfl rfl ?_ ?_
              · simp only [Act.put, List.setIfInBounds_toArray, List.set_cons_zero, List.set_cons_succ]
                exact (hG _ _ _ _).mpr (s2569 Wd hb)
              refine readIn 11 _ _ (.agg #[.float .f32 (x (j.1 * 3)), .float .f32 (x (j.1 * 3 + 1)), .float .f32 (x (j.1 * 3 + 2)), .float .f32 (x ((j.1 + 1) * 3)), .float .f32 (x ((j.1 + 1) * 3 + 1)), .float .f32 (x ((j.1 + 1) * 3 + 2))]) rfl rfl (by rfl) (run_load_mid 120 _ Bx 0 [.float .f32 (x (j.1 * 3)), .float .f32 (x (j.1 * 3 + 1)), .float .f32 (x (j.1 * 3 + 2)), .float .f32 (x ((j.1 + 1) * 3)), .float .f32 (x ((j.1 + 1) * 3 + 1)), .float .f32 (x ((j.1 + 1) * 3 + 2))] rfl (rowRange bXd) _ Try.underlying120 rfl info_lay) rfl rfl rfl ?_ AllReadyIn.nil
              simp only [Act.put, List.setIfInBounds_toArray, List.set_cons_zero, List.set_cons_succ]
              exact (hG _ _ _ _).mpr (s269b Wd hb)
            have s26b : ∀ Wd, Below W.heap.size W Wd → G 10 #[true, true, true, true, true, false, true, true, true, false, false, true, false, false, false, false, false, false, false] ({ tmps := #[.slice p n cap, .float .f32 h, undef, .pointer (some ⟨w.heap.size, 0, none⟩), .pointer (some ⟨w.heap.size + 1, 0, none⟩), .pointer (some ⟨w.heap.size + 1 + 1, 0, none⟩), undef, .pointer (some ⟨Bx, 0, none⟩), .slice p n cap, .bool true, .bool false, undef, .slice p n cap, .func (.func 159) #[] #[.pointer (some ⟨w1.heap.size, 0, none⟩)], .int .i64 (j.1 : Int), .agg #[.float .f32 (x (j.1 * 3)), .float .f32 (x (j.1 * 3 + 1)), .float .f32 (x (j.1 * 3 + 2)), .float .f32 (x ((j.1 + 1) * 3)), .float .f32 (x ((j.1 + 1) * 3 + 1)), .float .f32 (x ((j.1 + 1) * 3 + 2))], .bool false, .float .f32 h, .pointer (some ⟨Bx, 0, none⟩), .pointer (some ⟨Bx, 0, none⟩), .float .f32 (x (j.1 * 3)), .bool false, undef, undef, undef, .bool false, .float .f32 h, .pointer (some ⟨Bx, 3, none⟩), .pointer (some ⟨Bx, 3, none⟩), .float .f32 (x ((j.1 + 1) * 3)), .bool false, undef, undef, undef, .bool true, .float .f32 h, .pointer (some ⟨Bx, 0, none⟩), .pointer (some ⟨Bx, 0, none⟩), .float .f32 (x (j.1 * 3)), .bool true, .bool true, .float .f32 h, .pointer (some ⟨Bx, 3, none⟩), .pointer (some ⟨Bx, 3, none⟩), .float .f32 (x ((j.1 + 1) * 3)), .bool true, .bool true, .pointer (some ⟨Bx, 0, none⟩), .pointer (some ⟨Bx, 1, none⟩), .agg #[.float .f32 (x (j.1 * 3 + 1)), .float .f32 (x (j.1 * 3 + 2))], .pointer (some ⟨Bx, 3, none⟩), .pointer (some ⟨Bx, 4, none⟩), undef, .float .f32 h, .pointer (some ⟨Bx, 0, none⟩), .pointer (some ⟨Bx, 0, none⟩), undef, undef, .agg #[.float .f32 (x (j.1 * 3)), .float .f32 (x (j.1 * 3 + 1)), .float .f32 (x (j.1 * 3 + 2)), .float .f32 (x ((j.1 + 1) * 3)), .float .f32 (x ((j.1 + 1) * 3 + 1)), .float .f32 (x ((j.1 + 1) * 3 + 2))], undef, undef, undef, undef, undef, undef], defers := [] }) Wd := fun Wd hb => by
              rw [← hG]
              have bXd := (hb.block _ (lt_of_block bX)).trans bX
              have kd := kW.out.stay hb
              have hHd := kd.at (x := (w.heap.size, #[.float .f32 h], 23)) (by simp)
              refine wpAnyIn_ready (rs := [5, 9, 12]) (by kernel_rfl) (by simp) ?_
              refine readIn 5 _ _ (.agg #[.float .f32 (x ((j.1 + 1) * 3 + 1)), .float .f32 (x ((j.1 + 1) * 3 + 2))]) rfl rfl (by rfl) (run_load_mid 44 _ Bx 4 [.float .f32 (x ((j.1 + 1) * 3 + 1)), .float .f32 (x ((j.1 + 1) * 3 + 2))] rfl (range2 ((cell_of_row _ Bx 4 _ _ _ bXd).trans rfl) ((cell_of_row _ Bx 5 _ _ _ bXd).trans rfl)) _ Try.underlying44 rfl info_air) rfl rfl rfl ?_ ?_
              · simp only [Act.put, List.setIfInBounds_toArray, List.set_cons_zero, List.set_cons_succ]
                exact (hG _ _ _ _).mpr (s256b Wd hb)
              refine readIn 9 _ _ (.float .f32 (x (j.1 * 3))) rfl rfl (by rfl) (run_load_cell 23 _ ⟨Bx, 0, none⟩ _ rfl (run_loadVar_one Try.underlying23 rfl ((cell_of_row _ Bx 0 _ _ _ bXd).trans rfl))) rfl rfl rfl ?_ ?_
              · simp only [Act.put, List.setIfInBounds_toArray, List.set_cons_zero, List.set_cons_succ]
                refine takeIn 10 _ _ (.float .f32 (fsub h (x (j.1 * 3)))) rfl rfl (by rfl) (by kernel_rfl) (by kernel_rfl) (by kernel_rfl) (fun w => run_binop_val _ _ _ _ (by rfl) (by rfl) (by simp [eqGuard]) (r1 w)) (fun _ => rfl) rfl rfl ?_
                simp only [Act.put, List.setIfInBounds_toArray, List.set_cons_zero, List.set_cons_succ]
                exact (hG _ _ _ _).mpr (s269b Wd hb)
              refine callIn 12 _ _ (.float .f32 (dpW x j.1)) rfl rfl (by rfl) 158 #[.agg #[.float .f32 (x (j.1 * 3)), .float .f32 (x (j.1 * 3 + 1)), .float .f32 (x (j.1 * 3 + 2)), .float .f32 (x ((j.1 + 1) * 3)), .float .f32 (x ((j.1 + 1) * 3 + 1)), .float .f32 (x ((j.1 + 1) * 3 + 2))]] (by unfold execOp; go_simp) (fun _ _ => trivial) (fun hh => by cases hh) (fun w2 => Below Wd.heap.size Wd w2) (callsIn_wide.2 (iDepth x j.1 HAt.out.d2 Wd)) rfl rfl (fun w2 hb2 => ?_) AllReadyIn.nil
              simp only [Act.put, List.setIfInBounds_toArray, List.set_cons_zero, List.set_cons_succ]
              exact (hG _ _ _ _).mpr (s26bc w2 (hb.trans (hb2.mono hb.size)))
            have s29b : ∀ Wd, Below W.heap.size W Wd → G 10 #[true, true, true, true, true, false, false, true, true, true, false, true, false, false, false, false, false, false, false] ({ tmps := #[.slice p n cap, .float .f32 h, undef, .pointer (some ⟨w.heap.size, 0, none⟩), .pointer (some ⟨w.heap.size + 1, 0, none⟩), .pointer (some ⟨w.heap.size + 1 + 1, 0, none⟩), undef, .pointer (some ⟨Bx, 0, none⟩), .slice p n cap, .bool true, .bool false, undef, .slice p n cap, .func (.func 159) #[] #[.pointer (some ⟨w1.heap.size, 0, none⟩)], .int .i64 (j.1 : Int), .agg #[.float .f32 (x (j.1 * 3)), .float .f32 (x (j.1 * 3 + 1)), .float .f32 (x (j.1 * 3 + 2)), .float .f32 (x ((j.1 + 1) * 3)), .float .f32 (x ((j.1 + 1) * 3 + 1)), .float .f32 (x ((j.1 + 1) * 3 + 2))], .bool false, .float .f32 h, .pointer (some ⟨Bx, 0, none⟩), .pointer (some ⟨Bx, 0, none⟩), .float .f32 (x (j.1 * 3)), .bool false, undef, undef, undef, .bool false, .float .f32 h, .pointer (some ⟨Bx, 3, none⟩), .pointer (some ⟨Bx, 3, none⟩), .float .f32 (x ((j.1 + 1) * 3)), .bool false, undef, undef, undef, .bool true, .float .f32 h, .pointer (some ⟨Bx, 0, none⟩), .pointer (some ⟨Bx, 0, none⟩), .float .f32 (x (j.1 * 3)), .bool true, .bool true, .float .f32 h, .pointer (some ⟨Bx, 3, none⟩), .pointer (some ⟨Bx, 3, none⟩), .float .f32 (x ((j.1 + 1) * 3)), .bool true, .bool true, .pointer (some ⟨Bx, 0, none⟩), .pointer (some ⟨Bx, 1, none⟩), .agg #[.float .f32 (x (j.1 * 3 + 1)), .float .f32 (x (j.1 * 3 + 2))], .pointer (some ⟨Bx, 3, none⟩), .pointer (some ⟨Bx, 4, none⟩), undef, undef, .pointer (some ⟨Bx, 0, none⟩), .pointer (some ⟨Bx, 0, none⟩), .float .f32 (x (j.1 * 3)), undef, .agg #[.float .f32 (x (j.1 * 3)), .float .f32 (x (j.1 * 3 + 1)), .float .f32 (x (j.1 * 3 + 2)), .float .f32 (x ((j.1 + 1) * 3)), .float .f32 (x ((j.1 + 1) * 3 + 1)), .float .f32 (x ((j.1 + 1) * 3 + 2))], undef, undef, undef, undef, undef, undef], defers := [] }) Wd := fun Wd hb => by
              rw [← hG]
              have bXd := (hb.block _ (lt_of_block bX)).trans bX
              have kd := kW.out.stay hb
              have hHd := kd.at (x := (w.heap.size, #[.float .f32 h], 23)) (by simp)
              refine wpAnyIn_ready (rs := [5, 6, 12]) (by kernel_rfl) (by simp) ?_
              refine readIn 5 _ _ (.agg #[.float .f32 (x ((j.1 + 1) * 3 + 1)), .float .f32 (x ((j.1 + 1) * 3 + 2))]) rfl rfl (by rfl) (run_load_mid 44 _ Bx 4 [.float .f32 (x ((j.1 + 1) * 3 + 1)), .float .f32 (x ((j.1 + 1) * 3 + 2))] rfl (range2 ((cell_of_row _ Bx 4 _ _ _ bXd).trans rfl) ((cell_of_row _ Bx 5 _ _ _ bXd).trans rfl)) _ Try.underlying44 rfl info_air) rfl rfl rfl ?_ ?_
              · simp only [Act.put, List.setIfInBounds_toArray, List.set_cons_zero, List.set_cons_succ]
                exact (hG _ _ _ _).mpr (s259b Wd hb)
              refine readIn 6 _ _ (.float .f32 h) rfl rfl (by rfl) (run_load_cell 23 _ ⟨w.heap.size, 0, none⟩ _ rfl (run_loadVar_one Try.underlying23 rfl ((cell_of_row _ _ 0 _ _ _ hHd).trans rfl))) rfl rfl rfl ?_ ?_
              · simp only [Act.put, List.setIfInBounds_toArray, List.set_cons_zero, List.set_cons_succ]
                refine takeIn 10 _ _ (.float .f32 (fsub h (x (j.1 * 3)))) rfl rfl (by rfl) (by kernel_rfl) (by kernel_rfl) (by kernel_rfl) (fun w => run_binop_val _ _ _ _ (by rfl) (by rfl) (by simp [eqGuard]) (r1 w)) (fun _ => rfl) rfl rfl ?_
                simp only [Act.put, List.setIfInBounds_toArray, List.set_cons_zero, List.set_cons_succ]
                exact (hG _ _ _ _).mpr (s269b Wd hb)
              refine callIn 12 _ _ (.float .f32 (dpW x j.1)) rfl rfl (by rfl) 158 #[.agg #[.float .f32 (x (j.1 * 3)), .float .f32 (x (j.1 * 3 + 1)), .float .f32 (x (j.1 * 3 + 2)), .float .f32 (x ((j.1 + 1) * 3)), .float .f32 (x ((j.1 + 1) * 3 + 1)), .float .f32 (x ((j.1 + 1) * 3 + 2))]] (by unfold execOp; go_simp) (fun _ _ => trivial) (fun hh => by cases hh) (fun w2 => Below Wd.heap.size Wd w2) (callsIn_wide.2 (iDepth x j.1 HAt.out.d2 Wd)) rfl rfl (fun w2 hb2 => ?_) AllReadyIn.nil
              simp only [Act.put, List.setIfInBounds_toArray, List.set_cons_zero, List.set_cons_succ]
              exact (hG _ _ _ _).mpr (s29bc w2 (hb.trans (hb2.mono hb.size)))
            have s2bc : ∀ Wd, Below W.heap.size W Wd → G 10 #[true, true, true, true, true, false, false, true, true, false, false, true, true, false, false, false, false, false, false] ({ tmps := #[.slice p n cap, .float .f32 h, undef, .pointer (some ⟨w.heap.size, 0, none⟩), .pointer (some ⟨w.heap.size + 1, 0, none⟩), .pointer (some ⟨w.heap.size + 1 + 1, 0, none⟩), undef, .pointer (some ⟨Bx, 0, none⟩), .slice p n cap, .bool true, .bool false, undef, .slice p n cap, .func (.func 159) #[] #[.pointer (some ⟨w1.heap.size, 0, none⟩)], .int .i64 (j.1 : Int), .agg #[.float .f32 (x (j.1 * 3)), .float .f32 (x (j.1 * 3 + 1)), .float .f32 (x (j.1 * 3 + 2)), .float .f32 (x ((j.1 + 1) * 3)), .float .f32 (x ((j.1 + 1) * 3 + 1)), .float .f32 (x ((j.1 + 1) * 3 + 2))], .bool false, .float .f32 h, .pointer (some ⟨Bx, 0, none⟩), .pointer (some ⟨Bx, 0, none⟩), .float .f32 (x (j.1 * 3)), .bool false, undef, undef, undef, .bool false, .float .f32 h, .pointer (some ⟨Bx, 3, none⟩), .pointer (some ⟨Bx, 3, none⟩), .float .f32 (x ((j.1 + 1) * 3)), .bool false, undef, undef, undef, .bool true, .float .f32 h, .pointer (some ⟨Bx, 0, none⟩), .pointer (some ⟨Bx, 0, none⟩), .float .f32 (x (j.1 * 3)), .bool true, .bool true, .float .f32 h, .pointer (some ⟨Bx, 3, none⟩), .pointer (some ⟨Bx, 3, none⟩), .float .f32 (x ((j.1 + 1) * 3)), .bool true, .bool true, .pointer (some ⟨Bx, 0, none⟩), .pointer (some ⟨Bx, 1, none⟩), .agg #[.float .f32 (x (j.1 * 3 + 1)), .float .f32 (x (j.1 * 3 + 2))], .pointer (some ⟨Bx, 3, none⟩), .pointer (some ⟨Bx, 4, none⟩), undef, undef, .pointer (some ⟨Bx, 0, none⟩), .pointer (some ⟨Bx, 0, none⟩), undef, undef, .agg #[.float .f32 (x (j.1 * 3)), .float .f32 (x (j.1 * 3 + 1)), .float .f32 (x (j.1 * 3 + 2)), .float .f32 (x ((j.1 + 1) * 3)), .float .f32 (x ((j.1 + 1) * 3 + 1)), .float .f32 (x ((j.1 + 1) * 3 + 2))], .float .f32 (dpW x j.1), undef, undef, undef, undef, undef], defers := [] }) Wd := fun Wd hb => by
              rw [← hG]
              have bXd := (hb.block _ (lt_of_block bX)).trans bX
              have kd := kW.out.stay hb
              have hHd := kd.at (x := (w.heap.size, #[.float .f32 h], 23)) (by simp)
              refine wpAnyIn_ready (rs := [5, 6, 9]) (by kernel_rfl) (by simp) ?_
              refine readIn 5 _ _ (.agg #[.float .f32 (x ((j.1 + 1) * 3 + 1)), .float .f32 (x ((j.1 + 1) * 3 + 2))]) rfl rfl (by rfl) (run_load_mid 44 _ Bx 4 [.float .f32 (x ((j.1 + 1) * 3 + 1)), .float .f32 (x ((j.1 + 1) * 3 + 2))] rfl (range2 ((cell_of_row _ Bx 4 _ _ _ bXd).trans rfl) ((cell_of_row _ Bx 5 _ _ _ bXd).trans rfl)) _ Try.underlying44 rfl info_air) rfl rfl rfl ?_ ?_
              · simp only [Act.put, List.setIfInBounds_toArray, List.set_cons_zero, List.set_cons_succ]
                exact (hG _ _ _ _).mpr (s25bc Wd hb)
              refine readIn 6 _ _ (.float .f32 h) rfl rfl (by rfl) (run_load_cell 23 _ ⟨w.heap.size, 0, none⟩ _ rfl (run_loadVar_one Try.underlying23 rfl ((cell_of_row _ _ 0 _ _ _ hHd).trans rfl))) rfl rfl rfl ?_ ?_
              · simp only [Act.put, List.setIfInBounds_toArray, List.set_cons_zero, List.set_cons_succ]
                exact (hG _ _ _ _).mpr (s26bc Wd hb)
              refine readIn 9 _ _ (.float .f32 (x (j.1 * 3))) rfl rfl (by rfl) (run_load_cell 23 _ ⟨Bx, 0, none⟩ _ rfl (run_loadVar_one Try.underlying23 rfl ((cell_of_row _ Bx 0 _ _ _ bXd).trans rfl))) rfl rfl rfl ?_ AllReadyIn.nil
              simp only [Act.put, List.setIfInBounds_toArray, List.set_cons_zero, List.set_cons_succ]
              exact (hG _ _ _ _).mpr (s29bc Wd hb)
            have s569 : ∀ Wd, Below W.heap.size W Wd → G 9 #[true, true, false, true, true, true, true, true, true, true, true, false, false, false, false, false, false, false, false] ({ tmps := #[.slice p n cap, .float .f32 h, undef, .pointer (some ⟨w.heap.size, 0, none⟩), .pointer (some ⟨w.heap.size + 1, 0, none⟩), .pointer (some ⟨w.heap.size + 1 + 1, 0, none⟩), undef, .pointer (some ⟨Bx, 0, none⟩), .slice p n cap, .bool true, .bool false, undef, .slice p n cap, .func (.func 159) #[] #[.pointer (some ⟨w1.heap.size, 0, none⟩)], .int .i64 (j.1 : Int), .agg #[.float .f32 (x (j.1 * 3)), .float .f32 (x (j.1 * 3 + 1)), .float .f32 (x (j.1 * 3 + 2)), .float .f32 (x ((j.1 + 1) * 3)), .float .f32 (x ((j.1 + 1) * 3 + 1)), .float .f32 (x ((j.1 + 1) * 3 + 2))], .bool false, .float .f32 h, .pointer (some ⟨Bx, 0, none⟩), .pointer (some ⟨Bx, 0, none⟩), .float .f32 (x (j.1 * 3)), .bool false, undef, undef, undef, .bool false, .float .f32 h, .pointer (some ⟨Bx, 3, none⟩), .pointer (some ⟨Bx, 3, none⟩), .float .f32 (x ((j.1 + 1) * 3)), .bool false, undef, undef, undef, .bool true, .float .f32 h, .pointer (some ⟨Bx, 0, none⟩), .pointer (some ⟨Bx, 0, none⟩), .float .f32 (x (j.1 * 3)), .bool true, .bool true, .float .f32 h, .pointer (some ⟨Bx, 3, none⟩), .pointer (some ⟨Bx, 3, none⟩), .float .f32 (x ((j.1 + 1) * 3)), .bool true, .bool true, .pointer (some ⟨Bx, 0, none⟩), .pointer (some ⟨Bx, 1, none⟩), undef, .pointer (some ⟨Bx, 3, none⟩), .pointer (some ⟨Bx, 4, none⟩), .agg #[.float .f32 (x ((j.1 + 1) * 3 + 1)), .float .f32 (x ((j.1 + 1) * 3 + 2))], .float .f32 h, .pointer (some ⟨Bx, 0, none⟩), .pointer (some ⟨Bx, 0, none⟩), .float .f32 (x (j.1 * 3)), .float .f32 (fsub h (x (j.1 * 3))), undef, undef, undef, undef, undef, undef, undef], defers := [] }) Wd := fun Wd hb => by
              rw [← hG]
              have bXd := (hb.block _ (lt_of_block bX)).trans bX
              have kd := kW.out.stay hb
              have hHd := kd.at (x := (w.heap.size, #[.float .f32 h], 23)) (by simp)
              refine wpAnyIn_ready (rs := [2, 11]) (by kernel_rfl) (by simp) ?_
              refine readIn 2 _ _ (.agg #[.float .f32 (x (j.1 * 3 + 1)), .float .f32 (x (j.1 * 3 + 2))]) rfl rfl (by rfl) (run_load_mid 44 _ Bx 1 [.float .f32 (x (j.1 * 3 + 1)), .float .f32 (x (j.1 * 3 + 2))] rfl (range2 ((cell_of_row _ Bx 1 _ _ _ bXd).trans rfl) ((cell_of_row _ Bx 2 _ _ _ bXd).trans rfl)) _ Try.underlying44 rfl info_air) rfl rfl rfl ?_ ?_
              · simp only [Act.put, List.setIfInBounds_toArray, List.set_cons_zero, List.set_cons_succ]
                exact (hG _ _ _ _).mpr (s2569 Wd hb)
              refine readIn 11 _ _ (.agg #[.float .f32 (x (j.1 * 3)), .float .f32 (x (j.1 * 3 + 1)), .float .f32 (x (j.1 * 3 + 2)), .float .f32 (x ((j.1 + 1) * 3)), .float .f32 (x ((j.1 + 1) * 3 + 1)), .float .f32 (x ((j.1 + 1) * 3 + 2))]) rfl rfl (by rfl) (run_load_mid 120 _ Bx 0 [.float .f32 (x (j.1 * 3)), .float .f32 (x (j.1 * 3 + 1)), .float .f32 (x (j.1 * 3 + 2)), .float .f32 (x ((j.1 + 1) * 3)), .float .f32 (x ((j.1 + 1) * 3 + 1)), .float .f32 (x ((j.1 + 1) * 3 + 2))] rfl (rowRange bXd) _ Try.underlying120 rfl info_lay) rfl rfl rfl ?_ AllReadyIn.nil
              simp only [Act.put, List.setIfInBounds_toArray, List.set_cons_zero, List.set_cons_succ]
              exact (hG _ _ _ _).mpr (s569b Wd hb)
            have s56b : ∀ Wd, Below W.heap.size W Wd → G 10 #[true, true, false, true, true, true, true, true, true, false, false, true, false, false, false, false, false, false, false] ({ tmps := #[.slice p n cap, .float .f32 h, undef, .pointer (some ⟨w.heap.size, 0, none⟩), .pointer (some ⟨w.heap.size + 1, 0, none⟩), .pointer (some ⟨w.heap.size + 1 + 1, 0, none⟩), undef, .pointer (some ⟨Bx, 0, none⟩), .slice p n cap, .bool true, .bool false, undef, .slice p n cap, .func (.func 159) #[] #[.pointer (some ⟨w1.heap.size, 0, none⟩)], .int .i64 (j.1 : Int), .agg #[.float .f32 (x (j.1 * 3)), .float .f32 (x (j.1 * 3 + 1)), .float .f32 (x (j.1 * 3 + 2)), .float .f32 (x ((j.1 + 1) * 3)), .float .f32 (x ((j.1 + 1) * 3 + 1)), .float .f32 (x ((j.1 + 1) * 3 + 2))], .bool false, .float .f32 h, .pointer (some ⟨Bx, 0, none⟩), .pointer (some ⟨Bx, 0, none⟩), .float .f32 (x (j.1 * 3)), .bool false, undef, undef, undef, .bool false, .float .f32 h, .pointer (some ⟨Bx, 3, none⟩), .pointer (some ⟨Bx, 3, none⟩), .float .f32 (x ((j.1 + 1) * 3)), .bool false, undef, undef, undef, .bool true, .float .f32 h, .pointer (some ⟨Bx, 0, none⟩), .pointer (some ⟨Bx, 0, none⟩), .float .f32 (x (j.1 * 3)), .bool true, .bool true, .float .f32 h, .pointer (some ⟨Bx, 3, none⟩), .pointer (some ⟨Bx, 3, none⟩), .float .f32 (x ((j.1 + 1) * 3)), .bool true, .bool true, .pointer (some ⟨Bx, 0, none⟩), .pointer (some ⟨Bx, 1, none⟩), undef, .pointer (some ⟨Bx, 3, none⟩), .pointer (some ⟨Bx, 4, none⟩), .agg #[.float .f32 (x ((j.1 + 1) * 3 + 1)), .float .f32 (x ((j.1 + 1) * 3 + 2))], .float .f32 h, .pointer (some ⟨Bx, 0, none⟩), .pointer (some ⟨Bx, 0, none⟩), undef, undef, .agg #[.float .f32 (x (j.1 * 3)), .float .f32 (x (j.1 * 3 + 1)), .float .f32 (x (j.1 * 3 + 2)), .float .f32 (x ((j.1 + 1) * 3)), .float .f32 (x ((j.1 + 1) * 3 + 1)), .float .f32 (x ((j.1 + 1) * 3 + 2))], undef, undef, undef, undef, undef, undef], defers := [] }) Wd := fun Wd hb => by
              rw [← hG]
              have bXd := (hb.block _ (lt_of_block bX)).trans bX
              have kd := kW.out.stay hb
              have hHd := kd.at (x := (w.heap.size, #[.float .f32 h], 23)) (by simp)
              refine wpAnyIn_ready (rs := [2, 9, 12]) (by kernel_rfl) (by simp) ?_
              refine readIn 2 _ _ (.agg #[.float .f32 (x (j.1 * 3 + 1)), .float .f32 (x (j.1 * 3 + 2))]) rfl rfl (by rfl) (run_load_mid 44 _ Bx 1 [.float .f32 (x (j.1 * 3 + 1)), .float .f32 (x (j.1 * 3 + 2))] rfl (range2 ((cell_of_row _ Bx 1 _ _ _ bXd).trans rfl) ((cell_of_row _ Bx 2 _ _ _ bXd).trans rfl)) _ Try.underlying44 rfl info_air) rfl rfl rfl ?_ ?_
              · simp only [Act.put, List.setIfInBounds_toArray, List.set_cons_zero, List.set_cons_succ]
                exact (hG _ _ _ _).mpr (s256b Wd hb)
              refine readIn 9 _ _ (.float .f32 (x (j.1 * 3))) rfl rfl (by rfl) (run_load_cell 23 _ ⟨Bx, 0, none⟩ _ rfl (run_loadVar_one Try.underlying23 rfl ((cell_of_row _ Bx 0 _ _ _ bXd).trans rfl))) rfl rfl rfl ?_ ?_
              · simp only [Act.put, List.setIfInBounds_toArray, List.set_cons_zero, List.set_cons_succ]
                refine takeIn 10 _ _ (.float .f32 (fsub h (x (j.1 * 3)))) rfl rfl (by rfl) (by kernel_rfl) (by kernel_rfl) (by kernel_rfl) (fun w => run_binop_val _ _ _ _ (by rfl) (by rfl) (by simp [eqGuard]) (r1 w)) (fun _ => rfl) rfl rfl ?_
                simp only [Act.put, List.setIfInBounds_toArray, List.set_cons_zero, List.set_cons_succ]
                exact (hG _ _ _ _).mpr (s569b Wd hb)
              refine callIn 12 _ _ (.float .f32 (dpW x j.1)) rfl rfl (by rfl) 158 #[.agg #[.float .f32 (x (j.1 * 3)), .float .f32 (x (j.1 * 3 + 1)), .float .f32 (x (j.1 * 3 + 2)), .float .f32 (x ((j.1 + 1) * 3)), .float .f32 (x ((j.1 + 1) * 3 + 1)), .float .f32 (x ((j.1 + 1) * 3 + 2))]] (by unfold execOp; go_simp) (fun _ _ => trivial) (fun hh => by cases hh) (fun w2 => Below Wd.heap.size Wd w2) (callsIn_wide.2 (iDepth x j.1 HAt.out.d2 Wd)) rfl rfl (fun w2 hb2 => ?_) AllReadyIn.nil
              simp only [Act.put, List.setIfInBounds_toArray, List.set_cons_zero, List.set_cons_succ]
              exact (hG _ _ _ _).mpr (s56bc w2 (hb.trans (hb2.mono hb.size)))
            have s59b : ∀ Wd, Below W.heap.size W Wd → G 10 #[true, true, false, true, true, true, false, true, true, true, false, true, false, false, false, false, false, false, false] ({ tmps := #[.slice p n cap, .float .f32 h, undef, .pointer (some ⟨w.heap.size, 0, none⟩), .pointer (some ⟨w.heap.size + 1, 0, none⟩), .pointer (some ⟨w.heap.size + 1 + 1, 0, none⟩), undef, .pointer (some ⟨Bx, 0, none⟩), .slice p n cap, .bool true, .bool false, undef, .slice p n cap, .func (.func 159) #[] #[.pointer (some ⟨w1.heap.size, 0, none⟩)], .int .i64 (j.1 : Int), .agg #[.float .f32 (x (j.1 * 3)), .float .f32 (x (j.1 * 3 + 1)), .float .f32 (x (j.1 * 3 + 2)), .float .f32 (x ((j.1 + 1) * 3)), .float .f32 (x ((j.1 + 1) * 3 + 1)), .float .f32 (x ((j.1 + 1) * 3 + 2))], .bool false, .float .f32 h, .pointer (some ⟨Bx, 0, none⟩), .pointer (some ⟨Bx, 0, none⟩), .float .f32 (x (j.1 * 3)), .bool false, undef, undef, undef, .bool false, .float .f32 h, .pointer (some ⟨Bx, 3, none⟩), .pointer (some ⟨Bx, 3, none⟩), .float .f32 (x ((j.1 + 1) * 3)), .bool false, undef, undef, undef, .bool true, .float .f32 h, .pointer (some ⟨Bx, 0, none⟩), .pointer (some ⟨Bx, 0, none⟩), .float .f32 (x (j.1 * 3)), .bool true, .bool true, .float .f32 h, .pointer (some ⟨Bx, 3, none⟩), .pointer (some ⟨Bx, 3, none⟩), .float .f32 (x ((j.1 + 1) * 3)), .bool true, .bool true, .pointer (some ⟨Bx, 0, none⟩), .pointer (some ⟨Bx, 1, none⟩), undef, .pointer (some ⟨Bx, 3, none⟩), .pointer (some ⟨Bx, 4, none⟩), .agg #[.float .f32 (x ((j.1 + 1) * 3 + 1)), .float .f32 (x ((j.1 + 1) * 3 + 2))], undef, .pointer (some ⟨Bx, 0, none⟩), .pointer (some ⟨Bx, 0, none⟩), .float .f32 (x (j.1 * 3)), undef, .agg #[.float .f32 (x (j.1 * 3)), .float .f32 (x (j.1 * 3 + 1)), .float .f32 (x (j.1 * 3 + 2)), .float .f32 (x ((j.1 + 1) * 3)), .float .f32 (x ((j.1 + 1) * 3 + 1)), .float .f32 (x ((j.1 + 1) * 3 + 2))], undef, undef, undef, undef, undef, undef], defers := [] }) Wd := fun Wd hb => by
              rw [← hG]
              have bXd := (hb.block _ (lt_of_block bX)).trans bX
              have kd := kW.out.stay hb
              have hHd := kd.at (x := (w.heap.size, #[.float .f32 h], 23)) (by simp)
              refine wpAnyIn_ready (rs := [2, 6, 12]) (by kernel_rfl) (by simp) ?_
              refine readIn 2 _ _ (.agg #[.float .f32 (x (j.1 * 3 + 1)), .float .f32 (x (j.1 * 3 + 2))]) rfl rfl (by rfl) (run_load_mid 44 _ Bx 1 [.float .f32 (x (j.1 * 3 + 1)), .float .f32 (x (j.1 * 3 + 2))] rfl (range2 ((cell_of_row _ Bx 1 _ _ _ bXd).trans rfl) ((cell_of_row _ Bx 2 _ _ _ bXd).trans rfl)) _ Try.underlying44 rfl info_air) rfl rfl rfl ?_ ?_
              · simp only [Act.put, List.setIfInBounds_toArray, List.set_cons_zero, List.set_cons_succ]
                exact (hG _ _ _ _).mpr (s259b Wd hb)
              refine readIn 6 _ _ (.float .f32 h) rfl rfl (by rfl) (run_load_cell 23 _ ⟨w.heap.size, 0, none⟩ _ rfl (run_loadVar_one Try.underlying23 rfl ((cell_of_row _ _ 0 _ _ _ hHd).trans rfl))) rfl rfl rfl ?_ ?_
              · simp only [Act.put, List.setIfInBounds_toArray, List.set_cons_zero, List.set_cons_succ]
                refine takeIn 10 _ _ (.float .f32 (fsub h (x (j.1 * 3)))) rfl rfl (by rfl) (by kernel_rfl) (by kernel_rfl) (by kernel_rfl) (fun w => run_binop_val _ _ _ _ (by rfl) (by rfl) (by simp [eqGuard]) (r1 w)) (fun _ => rfl) rfl rfl ?_
                simp only [Act.put, List.setIfInBounds_toArray, List.set_cons_zero, List.set_cons_succ]
                exact (hG _ _ _ _).mpr (s569b Wd hb)
              refine callIn 12 _ _ (.float .f32 (dpW x j.1)) rfl rfl (by rfl) 158 #[.agg #[.float .f32 (x (j.1 * 3)), .float .f32 (x (j.1 * 3 + 1)), .float .f32 (x (j.1 * 3 + 2)), .float .f32 (x ((j.1 + 1) * 3)), .float .f32 (x ((j.1 + 1) * 3 + 1)), .float .f32 (x ((j.1 + 1) * 3 + 2))]] (by unfold execOp; go_simp) (fun _ _ => trivial) (fun hh => by cases hh) (fun w2 => Below Wd.heap.size Wd w2) (callsIn_wide.2 (iDepth x j.1 HAt.out.d2 Wd)) rfl rfl (fun w2 hb2 => ?_) AllReadyIn.nil
              simp only [Act.put, List.setIfInBounds_toArray, List.set_cons_zero, List.set_cons_succ]
              exact (hG _ _ _ _).mpr (s59bc w2 (hb.trans (hb2.mono hb.size)))
            have s5bc : ∀ Wd, Below W.heap.size W Wd → G 10 #[true, true, false, true, true, true, false, true, true, false, false, true, true, false, false, false, false, false, false] ({ tmps := #[.slice p n cap, .float .f32 h, undef, .pointer (some ⟨w.heap.size, 0, none⟩), .pointer (some ⟨w.heap.size + 1, 0, none⟩), .pointer (some ⟨w.heap.size + 1 + 1, 0, none⟩), undef, .pointer (some ⟨Bx, 0, none⟩), .slice p n cap, .bool true, .bool false, undef, .slice p n cap, .func (.func 159) #[] #[.pointer (some ⟨w1.heap.size, 0, none⟩)], .int .i64 (j.1 : Int), .agg #[.float .f32 (x (j.1 * 3)), .float .f32 (x (j.1 * 3 + 1)), .float .f32 (x (j.1 * 3 + 2)), .float .f32 (x ((j.1 + 1) * 3)), .float .f32 (x ((j.1 + 1) * 3 + 1)), .float .f32 (x ((j.1 + 1) * 3 + 2))], .bool false, .float .f32 h, .pointer (some ⟨Bx, 0, none⟩), .pointer (some ⟨Bx, 0, none⟩), .float .f32 (x (j.1 * 3)), .bool false, undef, undef, undef, .bool false, .float .f32 h, .pointer (some ⟨Bx, 3, none⟩), .pointer (some ⟨Bx, 3, none⟩), .float .f32 (x ((j.1 + 1) * 3)), .bool false, undef, undef, undef, .bool true, .float .f32 h, .pointer (some ⟨Bx, 0, none⟩), .pointer (some ⟨Bx, 0, none⟩), .float .f32 (x (j.1 * 3)), .bool true, .bool true, .float .f32 h, .pointer (some ⟨Bx, 3, none⟩), .pointer (some ⟨Bx, 3, none⟩), .float .f32 (x ((j.1 + 1) * 3)), .bool true, .bool true, .pointer (some ⟨Bx, 0, none⟩), .pointer (some ⟨Bx, 1, none⟩), undef, .pointer (some ⟨Bx, 3, none⟩), .pointer (some ⟨Bx, 4, none⟩), .agg #[.float .f32 (x ((j.1 + 1) * 3 + 1)), .float .f32 (x ((j.1 + 1) * 3 + 2))], undef, .pointer (some ⟨Bx, 0, none⟩), .pointer (some ⟨Bx, 0, none⟩), undef, undef, .agg #[.float .f32 (x (j.1 * 3)), .float .f32 (x (j.1 * 3 + 1)), .float .f32 (x (j.1 * 3 + 2)), .float .f32 (x ((j.1 + 1) * 3)), .float .f32 (x ((j.1 + 1) * 3 + 1)), .float .f32 (x ((j.1 + 1) * 3 + 2))], .float .f32 (dpW x j.1), undef, undef, undef, undef, undef], defers := [] }) Wd := fun Wd hb => by
              rw [← hG]
              have bXd := (hb.block _ (lt_of_block bX)).trans bX
              have kd := kW.out.stay hb
              have hHd := kd.at (x := (w.heap.size, #[.float .f32 h], 23)) (by simp)
              refine wpAnyIn_ready (rs := [2, 6, 9]) (by kernel_rfl) (by simp) ?_
              refine readIn 2 _ _ (.agg #[.float .f32 (x (j.1 * 3 + 1)), .float .f32 (x (j.1 * 3 + 2))]) rfl rfl (by rfl) (run_load_mid 44 _ Bx 1 [.float .f32 (x (j.1 * 3 + 1)), .float .f32 (x (j.1 * 3 + 2))] rfl (range2 ((cell_of_row _ Bx 1 _ _ _ bXd).trans rfl) ((cell_of_row _ Bx 2 _ _ _ bXd).trans rfl)) _ Try.underlying44 rfl info_air) rfl rfl rfl ?_ ?_
              · simp only [Act.put, List.setIfInBounds_toArray, List.set_cons_zero, List.set_cons_succ]
                exact (hG _ _ _ _).mpr (s25bc Wd hb)
              refine readIn 6 _ _ (.float .f32 h) rfl rfl (by rfl) (run_load_cell 23 _ ⟨w.heap.size, 0, none⟩ _ rfl (run_loadVar_one Try.underlying23 rfl ((cell_of_row _ _ 0 _ _ _ hHd).trans rfl))) rfl rfl rfl ?_ ?_
              · simp only [Act.put, List.setIfInBounds_toArray, List.set_cons_zero, List.set_cons_succ]
                exact (hG _ _ _ _).mpr (s56bc Wd hb)
              refine readIn 9 _ _ (.float .f32 (x (j.1 * 3))) rfl rfl (by rfl) (run_load_cell 23 _ ⟨Bx, 0, none⟩ _ rfl (run_loadVar_one Try.underlying23 rfl ((cell_of_row _ Bx 0 _ _ _ bXd).trans rfl))) rfl rfl rfl ?_ AllReadyIn.nil
              simp only [Act.put, List.setIfInBounds_toArray, List.set_cons_zero, List.set_cons_succ]
              exact (hG _ _ _ _).mpr (s59bc Wd hb)
            have s69b : ∀ Wd, Below W.heap.size W Wd → G 9 #[true, true, false, true, true, false, true, true, true, true, true, true, false, false, false, false, false, false, false] ({ tmps := #[.slice p n cap, .float .f32 h, undef, .pointer (some ⟨w.heap.size, 0, none⟩), .pointer (some ⟨w.heap.size + 1, 0, none⟩), .pointer (some ⟨w.heap.size + 1 + 1, 0, none⟩), undef, .pointer (some ⟨Bx, 0, none⟩), .slice p n cap, .bool true, .bool false, undef, .slice p n cap, .func (.func 159) #[] #[.pointer (some ⟨w1.heap.size, 0, none⟩)], .int .i64 (j.1 : Int), .agg #[.float .f32 (x (j.1 * 3)), .float .f32 (x (j.1 * 3 + 1)), .float .f32 (x (j.1 * 3 + 2)), .float .f32 (x ((j.1 + 1) * 3)), .float .f32 (x ((j.1 + 1) * 3 + 1)), .float .f32 (x ((j.1 + 1) * 3 + 2))], .bool false, .float .f32 h, .pointer (some ⟨Bx, 0, none⟩), .pointer (some ⟨Bx, 0, none⟩), .float .f32 (x (j.1 * 3)), .bool false, undef, undef, undef, .bool false, .float .f32 h, .pointer (some ⟨Bx, 3, none⟩), .pointer (some ⟨Bx, 3, none⟩), .float .f32 (x ((j.1 + 1) * 3)), .bool false, undef, undef, undef, .bool true, .float .f32 h, .pointer (some ⟨Bx, 0, none⟩), .pointer (some ⟨Bx, 0, none⟩), .float .f32 (x (j.1 * 3)), .bool true, .bool true, .float .f32 h, .pointer (some ⟨Bx, 3, none⟩), .pointer (some ⟨Bx, 3, none⟩), .float .f32 (x ((j.1 + 1) * 3)), .bool true, .bool true, .pointer (some ⟨Bx, 0, none⟩), .pointer (some ⟨Bx, 1, none⟩), undef, .pointer (some ⟨Bx, 3, none⟩), .pointer (some ⟨Bx, 4, none⟩), undef, .float .f32 h, .pointer (some ⟨Bx, 0, none⟩), .pointer (some ⟨Bx, 0, none⟩), .float .f32 (x (j.1 * 3)), .float .f32 (fsub h (x (j.1 * 3))), .agg #[.float .f32 (x (j.1 * 3)), .float .f32 (x (j.1 * 3 + 1)), .float .f32 (x (j.1 * 3 + 2)), .float .f32 (x ((j.1 + 1) * 3)), .float .f32 (x ((j.1 + 1) * 3 + 1)), .float .f32 (x ((j.1 + 1) * 3 + 2))], undef, undef, undef, undef, undef, undef], defers := [] }) Wd := fun Wd hb => by
              rw [← hG]
              have bXd := (hb.block _ (lt_of_block bX)).trans bX
              have kd := kW.out.stay hb
              have hHd := kd.at (x := (w.heap.size, #[.float .f32 h], 23)) (by simp)
              refine wpAnyIn_ready (rs := [2, 5, 12]) (by kernel_rfl) (by simp) ?_
              refine readIn 2 _ _ (.agg #[.float .f32 (x (j.1 * 3 + 1)), .float .f32 (x (j.1 * 3 + 2))]) rfl rfl (by rfl) (run_load_mid 44 _ Bx 1 [.float .f32 (x (j.1 * 3 + 1)), .float .f32 (x (j.1 * 3 + 2))] rfl (range2 ((cell_of_row _ Bx 1 _ _ _ bXd).trans rfl) ((cell_of_row _ Bx 2 _ _ _ bXd).trans rfl)) _ Try.underlying44 rfl info_air) rfl rfl rfl ?_ ?_
              · simp only [Act.put, List.setIfInBounds_toArray, List.set_cons_zero, List.set_cons_succ]
                exact (hG _ _ _ _).mpr (s269b Wd hb)
              refine readIn 5 _ _ (.agg #[.float .f32 (x ((j.1 + 1) * 3 + 1)), .float .f32 (x ((j.1 + 1) * 3 + 2))]) rfl rfl (by rfl) (run_load_mid 44 _ Bx 4 [.float .f32 (x ((j.1 + 1) * 3 + 1)), .float .f32 (x ((j.1 + 1) * 3 + 2))] rfl (range2 ((cell_of_row _ Bx 4 _ _ _ bXd).trans rfl) ((cell_of_row _ Bx 5 _ _ _ bXd).trans rfl)) _ Try.underlying44 rfl info_air) rfl rfl rfl ?_ ?_
              · simp only [Act.put, List.setIfInBounds_toArray, List.set_cons_zero, List.set_cons_succ]
                exact (hG _ _ _ _).mpr (s569b Wd hb)
              refine callIn 12 _ _ (.float .f32 (dpW x j.1)) rfl rfl (by rfl) 158 #[.agg #[.float .f32 (x (j.1 * 3)), .float .f32 (x (j.1 * 3 + 1)), .float .f32 (x (j.1 * 3 + 2)), .float .f32 (x ((j.1 + 1) * 3)), .float .f32 (x ((j.1 + 1) * 3 + 1)), .float .f32 (x ((j.1 + 1) * 3 + 2))]] (by unfold execOp; go_simp) (fun _ _ => trivial) (fun hh => by cases hh) (fun w2 => Below Wd.heap.size Wd w2) (callsIn_wide.2 (iDepth x j.1 HAt.out.d2 Wd)) rfl rfl (fun w2 hb2 => ?_) AllReadyIn.nil
              simp only [Act.put, List.setIfInBounds_toArray, List.set_cons_zero, List.set_cons_succ]
              refine takeIn 13 _ _ (.float .f32 (shW x h j.1)) rfl rfl (by rfl) (by kernel_rfl) (by kernel_rfl) (by kernel_rfl) (fun w => run_binop_val _ _ _ _ (by rfl) (by rfl) (by simp [eqGuard]) (r3 w)) (fun _ => rfl) rfl rfl ?_
              simp only [Act.put, List.setIfInBounds_toArray, List.set_cons_zero, List.set_cons_succ]
              exact (hG _ _ _ _).mpr (s69bc w2 (hb.trans (hb2.mono hb.size)))
            have s6bc : ∀ Wd, Below W.heap.size W Wd → G 10 #[true, true, false, true, true, false, true, true, true, false, false, true, true, false, false, false, false, false, false] ({ tmps := #[.slice p n cap, .float .f32 h, undef, .pointer (some ⟨w.heap.size, 0, none⟩), .pointer (some ⟨w.heap.size + 1, 0, none⟩), .pointer (some ⟨w.heap.size + 1 + 1, 0, none⟩), undef, .pointer (some ⟨Bx, 0, none⟩), .slice p n cap, .bool true, .bool false, undef, .slice p n cap, .func (.func 159) #[] #[.pointer (some ⟨w1.heap.size, 0, none⟩)], .int .i64 (j.1 : Int), .agg #[.float .f32 (x (j.1 * 3)), .float .f32 (x (j.1 * 3 + 1)), .float .f32 (x (j.1 * 3 + 2)), .float .f32 (x ((j.1 + 1) * 3)), .float .f32 (x ((j.1 + 1) * 3 + 1)), .float .f32 (x ((j.1 + 1) * 3 + 2))], .bool false, .float .f32 h, .pointer (some ⟨Bx, 0, none⟩), .pointer (some ⟨Bx, 0, none⟩), .float .f32 (x (j.1 * 3)), .bool false, undef, undef, undef, .bool false, .float .f32 h, .pointer (some ⟨Bx, 3, none⟩), .pointer (some ⟨Bx, 3, none⟩), .float .f32 (x ((j.1 + 1) * 3)), .bool false, undef, undef, undef, .bool true, .float .f32 h, .pointer (some ⟨Bx, 0, none⟩), .pointer (some ⟨Bx, 0, none⟩), .float .f32 (x (j.1 * 3)), .bool true, .bool true, .float .f32 h, .pointer (some ⟨Bx, 3, none⟩), .pointer (some ⟨Bx, 3, none⟩), .float .f32 (x ((j.1 + 1) * 3)), .bool true, .bool true, .pointer (some ⟨Bx, 0, none⟩), .pointer (some ⟨Bx, 1, none⟩), undef, .pointer (some ⟨Bx, 3, none⟩), .pointer (some ⟨Bx, 4, none⟩), undef, .float .f32 h, .pointer (some ⟨Bx, 0, none⟩), .pointer (some ⟨Bx, 0, none⟩), undef, undef, .agg #[.float .f32 (x (j.1 * 3)), .float .f32 (x (j.1 * 3 + 1)), .float .f32 (x (j.1 * 3 + 2)), .float .f32 (x ((j.1 + 1) * 3)), .float .f32 (x ((j.1 + 1) * 3 + 1)), .float .f32 (x ((j.1 + 1) * 3 + 2))], .float .f32 (dpW x j.1), undef, undef, undef, undef, undef], defers := [] }) Wd := fun Wd hb => by
              rw [← hG]
              have bXd := (hb.block _ (lt_of_block bX)).trans bX
              have kd := kW.out.stay hb
              have hHd := kd.at (x := (w.heap.size, #[.float .f32 h], 23)) (by simp)
              refine wpAnyIn_ready (rs := [2, 5, 9]) (by kernel_rfl) (by simp) ?_
              refine readIn 2 _ _ (.agg #[.float .f32 (x (j.1 * 3 + 1)), .float .f32 (x (j.1 * 3 + 2))]) rfl rfl (by rfl) (run_load_mid 44 _ Bx 1 [.float .f32 (x (j.1 * 3 + 1)), .float .f32 (x (j.1 * 3 + 2))] rfl (range2 ((cell_of_row _ Bx 1 _ _ _ bXd).trans rfl) ((cell_of_row _ Bx 2 _ _ _ bXd).trans rfl)) _ Try.underlying44 rfl info_air) rfl rfl rfl ?_ ?_
              · simp only [Act.put, List.setIfInBounds_toArray, List.set_cons_zero, List.set_cons_succ]
                exact (hG _ _ _ _).mpr (s26bc Wd hb)
              refine readIn 5 _ _ (.agg #[.float .f32 (x ((j.1 + 1) * 3 + 1)), .float .f32 (x ((j.1 + 1) * 3 + 2))]) rfl rfl (by rfl) (run_load_mid 44 _ Bx 4 [.float .f32 (x ((j.1 + 1) * 3 + 1)), .float .f32 (x ((j.1 + 1) * 3 + 2))] rfl (range2 ((cell_of_row _ Bx 4 _ _ _ bXd).trans rfl) ((cell_of_row _ Bx 5 _ _ _ bXd).trans rfl)) _ Try.underlying44 rfl info_air) rfl rfl rfl ?_ ?_
              · simp only [Act.put, List.setIfInBounds_toArray, List.set_cons_zero, List.set_cons_succ]
                exact (hG _ _ _ _).mpr (s56bc Wd hb)
              refine readIn 9 _ _ (.float .f32 (x (j.1 * 3))) rfl rfl (by rfl) (run_load_cell 23 _ ⟨Bx, 0, none⟩ _ rfl (run_loadVar_one Try.underlying23 rfl ((cell_of_row _ Bx 0 _ _ _ bXd).trans rfl))) rfl rfl rfl ?_ AllReadyIn.nil
              simp only [Act.put, List.setIfInBounds_toArray, List.set_cons_zero, List.set_cons_succ]
              refine takeIn 10 _ _ (.float .f32 (fsub h (x (j.1 * 3)))) rfl rfl (by rfl) (by kernel_rfl) (by kernel_rfl) (by kernel_rfl) (fun w => run_binop_val _ _ _ _ (by rfl) (by rfl) (by simp [eqGuard]) (r1 w)) (fun _ => rfl) rfl rfl ?_
              simp only [Act.put, List.setIfInBounds_toArray, List.set_cons_zero, List.set_cons_succ]
              refine takeIn 13 _ _ (.float .f32 (shW x h j.1)) rfl rfl (by rfl) (by kernel_rfl) (by kernel_rfl) (by kernel_rfl) (fun w => run_binop_val _ _ _ _ (by rfl) (by rfl) (by simp [eqGuard]) (r3 w)) (fun _ => rfl) rfl rfl ?_
              simp only [Act.put, List.setIfInBounds_toArray, List.set_cons_zero, List.set_cons_succ]
              exact (hG _ _ _ _).mpr (s69bc Wd hb)
            have s9bc : ∀ Wd, Below W.heap.size W Wd → G 10 #[true, true, false, true, true, false, false, true, true, true, false, true, true, false, false, false, false, false, false] ({ tmps := #[.slice p n cap, .float .f32 h, undef, .pointer (some ⟨w.heap.size, 0, none⟩), .pointer (some ⟨w.heap.size + 1, 0, none⟩), .pointer (some ⟨w.heap.size + 1 + 1, 0, none⟩), undef, .pointer (some ⟨Bx, 0, none⟩), .slice p n cap, .bool true, .bool false, undef, .slice p n cap, .func (.func 159) #[] #[.pointer (some ⟨w1.heap.size, 0, none⟩)], .int .i64 (j.1 : Int), .agg #[.float .f32 (x (j.1 * 3)), .float .f32 (x (j.1 * 3 + 1)), .float .f32 (x (j.1 * 3 + 2)), .float .f32 (x ((j.1 + 1) * 3)), .float .f32 (x ((j.1 + 1) * 3 + 1)), .float .f32 (x ((j.1 + 1) * 3 + 2))], .bool false, .float .f32 h, .pointer (some ⟨Bx, 0, none⟩), .pointer (some ⟨Bx, 0, none⟩), .float .f32 (x (j.1 * 3)), .bool false, undef, undef, undef, .bool false, .float .f32 h, .pointer (some ⟨Bx, 3, none⟩), .pointer (some ⟨Bx, 3, none⟩), .float .f32 (x ((j.1 + 1) * 3)), .bool false, undef, undef, undef, .bool true, .float .f32 h, .pointer (some ⟨Bx, 0, none⟩), .pointer (some ⟨Bx, 0, none⟩), .float .f32 (x (j.1 * 3)), .bool true, .bool true, .float .f32 h, .pointer (some ⟨Bx, 3, none⟩), .pointer (some ⟨Bx, 3, none⟩), .float .f32 (x ((j.1 + 1) * 3)), .bool true, .bool true, .pointer (some ⟨Bx, 0, none⟩), .pointer (some ⟨Bx, 1, none⟩), undef, .pointer (some ⟨Bx, 3, none⟩), .pointer (some ⟨Bx, 4, none⟩), undef, undef, .pointer (some ⟨Bx, 0, none⟩), .pointer (some ⟨Bx, 0, none⟩), .float .f32 (x (j.1 * 3)), undef, .agg #[.float .f32 (x (j.1 * 3)), .float .f32 (x (j.1 * 3 + 1)), .float .f32 (x (j.1 * 3 + 2)), .float .f32 (x ((j.1 + 1) * 3)), .float .f32 (x ((j.1 + 1) * 3 + 1)), .float .f32 (x ((j.1 + 1) * 3 + 2))], .float .f32 (dpW x j.1), undef, undef, undef, undef, undef], defers := [] }) Wd := fun Wd hb => by
              rw [← hG]
              have bXd := (hb.block _ (lt_of_block bX)).trans bX
              have kd := kW.out.stay hb
              have hHd := kd.at (x := (w.heap.size, #[.float .f32 h], 23)) (by simp)
              refine wpAnyIn_ready (rs := [2, 5, 6]) (by kernel_rfl) (by simp) ?_
              refine readIn 2 _ _ (.agg #[.float .f32 (x (j.1 * 3 + 1)), .float .f32 (x (j.1 * 3 + 2))]) rfl rfl (by rfl) (run_load_mid 44 _ Bx 1 [.float .f32 (x (j.1 * 3 + 1)), .float .f32 (x (j.1 * 3 + 2))] rfl (range2 ((cell_of_row _ Bx 1 _ _ _ bXd).trans rfl) ((cell_of_row _ Bx 2 _ _ _ bXd).trans rfl)) _ Try.underlying44 rfl info_air) rfl rfl rfl ?_ ?_
              · simp only [Act.put, List.setIfInBounds_toArray, List.set_cons_zero, List.set_cons_succ]
                exact (hG _ _ _ _).mpr (s29bc Wd hb)
              refine readIn 5 _ _ (.agg #[.float .f32 (x ((j.1 + 1) * 3 + 1)), .float .f32 (x ((j.1 + 1) * 3 + 2))]) rfl rfl (by rfl) (run_load_mid 44 _ Bx 4 [.float .f32 (x ((j.1 + 1) * 3 + 1)), .float .f32 (x ((j.1 + 1) * 3 + 2))] rfl (range2 ((cell_of_row _ Bx 4 _ _ _ bXd).trans rfl) ((cell_of_row _ Bx 5 _ _ _ bXd).trans rfl)) _ Try.underlying44 rfl info_air) rfl rfl rfl ?_ ?_
              · simp only [Act.put, List.setIfInBounds_toArray, List.set_cons_zero, List.set_cons_succ]
                exact (hG _ _ _ _).mpr (s59bc Wd hb)
              refine readIn 6 _ _ (.float .f32 h) rfl rfl (by rfl) (run_load_cell 23 _ ⟨w.heap.size, 0, none⟩ _ rfl (run_loadVar_one Try.underlying23 rfl ((cell_of_row _ _ 0 _ _ _ hHd).trans rfl))) rfl rfl rfl ?_ AllReadyIn.nil
              simp only [Act.put, List.setIfInBounds_toArray, List.set_cons_zero, List.set_cons_succ]
              refine takeIn 10 _ _ (.float .f32 (fsub h (x (j.1 * 3)))) rfl rfl (by rfl) (by kernel_rfl) (by kernel_rfl) (by kernel_rfl) (fun w => run_binop_val _ _ _ _ (by rfl) (by rfl) (by simp [eqGuard]) (r1 w)) (fun _ => rfl) rfl rfl ?_
              simp only [Act.put, List.setIfInBounds_toArray, List.set_cons_zero, List.set_cons_succ]
              refine takeIn 13 _ _ (.float .f32 (shW x h j.1)) rfl rfl (by rfl) (by kernel_rfl) (by kernel_rfl) (by kernel_rfl) (fun w => run_binop_val _ _ _ _ (by rfl) (by rfl) (by simp [eqGuard]) (r3 w)) (fun _ => rfl) rfl rfl ?_
              simp only [Act.put, List.setIfInBounds_toArray, List.set_cons_zero, List.set_cons_succ]
              exact (hG _ _ _ _).mpr (s69bc Wd hb)
            have s25 : ∀ Wd, Below W.heap.size W Wd → G 11 #[true, true, true, true, true, true, false, true, true, false, false, false, false, false, false, false, false, false, false] ({ tmps := #[.slice p n cap, .float .f32 h, undef, .pointer (some ⟨w.heap.size, 0, none⟩), .pointer (some ⟨w.heap.size + 1, 0, none⟩), .pointer (some ⟨w.heap.size + 1 + 1, 0, none⟩), undef, .pointer (some ⟨Bx, 0, none⟩), .slice p n cap, .bool true, .bool false, undef, .slice p n cap, .func (.func 159) #[] #[.pointer (some ⟨w1.heap.size, 0, none⟩)], .int .i64 (j.1 : Int), .agg #[.float .f32 (x (j.1 * 3)), .float .f32 (x (j.1 * 3 + 1)), .float .f32 (x (j.1 * 3 + 2)), .float .f32 (x ((j.1 + 1) * 3)), .float .f32 (x ((j.1 + 1) * 3 + 1)), .float .f32 (x ((j.1 + 1) * 3 + 2))], .bool false, .float .f32 h, .pointer (some ⟨Bx, 0, none⟩), .pointer (some ⟨Bx, 0, none⟩), .float .f32 (x (j.1 * 3)), .bool false, undef, undef, undef, .bool false, .float .f32 h, .pointer (some ⟨Bx, 3, none⟩), .pointer (some ⟨Bx, 3, none⟩), .float .f32 (x ((j.1 + 1) * 3)), .bool false, undef, undef, undef, .bool true, .float .f32 h, .pointer (some ⟨Bx, 0, none⟩), .pointer (some ⟨Bx, 0, none⟩), .float .f32 (x (j.1 * 3)), .bool true, .bool true, .float .f32 h, .pointer (some ⟨Bx, 3, none⟩), .pointer (some ⟨Bx, 3, none⟩), .float .f32 (x ((j.1 + 1) * 3)), .bool true, .bool true, .pointer (some ⟨Bx, 0, none⟩), .pointer (some ⟨Bx, 1, none⟩), .agg #[.float .f32 (x (j.1 * 3 + 1)), .float .f32 (x (j.1 * 3 + 2))], .pointer (some ⟨Bx, 3, none⟩), .pointer (some ⟨Bx, 4, none⟩), .agg #[.float .f32 (x ((j.1 + 1) * 3 + 1)), .float .f32 (x ((j.1 + 1) * 3 + 2))], undef, .pointer (some ⟨Bx, 0, none⟩), .pointer (some ⟨Bx, 0, none⟩), undef, undef, undef, undef, undef, undef, undef, undef, undef], defers := [] }) Wd := fun Wd hb => by
              rw [← hG]
              have bXd := (hb.block _ (lt_of_block bX)).trans bX
              have kd := kW.out.stay hb
              have hHd := kd.at (x := (w.heap.size, #[.float .f32 h], 23)) (by simp)
              refine wpAnyIn_ready (rs := [6, 9, 11]) (by kernel_rfl) (by simp) ?_
              refine readIn 6 _ _ (.float .f32 h) rfl rfl (by rfl) (run_load_cell 23 _ ⟨w.heap.size, 0, none⟩ _ rfl (run_loadVar_one Try.underlying23 rfl ((cell_of_row _ _ 0 _ _ _ hHd).trans rfl))) rfl rfl rfl ?_ ?_
              · simp only [Act.put, List.setIfInBounds_toArray, List.set_cons_zero, List.set_cons_succ]
                exact (hG _ _ _ _).mpr (s256 Wd hb)
              refine readIn 9 _ _ (.float .f32 (x (j.1 * 3))) rfl rfl (by rfl) (run_load_cell 23 _ ⟨Bx, 0, none⟩ _ rfl (run_loadVar_one Try.underlying23 rfl ((cell_of_row _ Bx 0 _ _ _ bXd).trans rfl))) rfl rfl rfl ?_ ?_
              · simp only [Act.put, List.setIfInBounds_toArray, List.set_cons_zero, List.set_cons_succ]
                exact (hG _ _ _ _).mpr (s259 Wd hb)
              refine readIn 11 _ _ (.agg #[.float .f32 (x (j.1 * 3)), .float .f32 (x (j.1 * 3 + 1)), .float .f32 (x (j.1 * 3 + 2)), .float .f32 (x ((j.1 + 1) * 3)), .float .f32 (x ((j.1 + 1) * 3 + 1)), .float .f32 (x ((j.1 + 1) * 3 + 2))]) rfl rfl (by rfl) (run_load_mid 120 _ Bx 0 [.float .f32 (x (j.1 * 3)), .float .f32 (x (j.1 * 3 + 1)), .float .f32 (x (j.1 * 3 + 2)), .float .f32 (x ((j.1 + 1) * 3)), .float .f32 (x ((j.1 + 1) * 3 + 1)), .float .f32 (x ((j.1 + 1) * 3 + 2))] rfl (rowRange bXd) _ Try.underlying120 rfl info_lay) rfl rfl rfl ?_ AllReadyIn.nil
              simp only [Act.put, List.setIfInBounds_toArray, List.set_cons_zero, List.set_cons_succ]
              exact (hG _ _ _ _).mpr (s25b Wd hb)
            have s26 : ∀ Wd, Below W.heap.size W Wd → G 11 #[true, true, true, true, true, false, true, true, true, false, false, false, false, false, false, false, false, false, false] ({ tmps := #[.slice p n cap, .float .f32 h, undef, .pointer (some ⟨w.heap.size, 0, none⟩), .pointer (some ⟨w.heap.size + 1, 0, none⟩), .pointer (some ⟨w.heap.size + 1 + 1, 0, none⟩), undef, .pointer (some ⟨Bx, 0, none⟩), .slice p n cap, .bool true, .bool false, undef, .slice p n cap, .func (.func 159) #[] #[.pointer (some ⟨w1.heap.size, 0, none⟩)], .int .i64 (j.1 : Int), .agg #[.float .f32 (x (j.1 * 3)), .float .f32 (x (j.1 * 3 + 1)), .float .f32 (x (j.1 * 3 + 2)), .float .f32 (x ((j.1 + 1) * 3)), .float .f32 (x ((j.1 + 1) * 3 + 1)), .float .f32 (x ((j.1 + 1) * 3 + 2))], .bool false, .float .f32 h, .pointer (some ⟨Bx, 0, none⟩), .pointer (some ⟨Bx, 0, none⟩), .float .f32 (x (j.1 * 3)), .bool false, undef, undef, undef, .bool false, .float .f32 h, .pointer (some ⟨Bx, 3, none⟩), .pointer (some ⟨Bx, 3, none⟩), .float .f32 (x ((j.1 + 1) * 3)), .bool false, undef, undef, undef, .bool true, .float .f32 h, .pointer (some ⟨Bx, 0, none⟩), .pointer (some ⟨Bx, 0, none⟩), .float .f32 (x (j.1 * 3)), .bool true, .bool true, .float .f32 h, .pointer (some ⟨Bx, 3, none⟩), .pointer (some ⟨Bx, 3, none⟩), .float .f32 (x ((j.1 + 1) * 3)), .bool true, .bool true, .pointer (some ⟨Bx, 0, none⟩), .pointer (some ⟨Bx, 1, none⟩), .agg #[.float .f32 (x (j.1 * 3 + 1)), .float .f32 (x (j.1 * 3 + 2))], .pointer (some ⟨Bx, 3, none⟩), .pointer (some ⟨Bx, 4, none⟩), undef, .float .f32 h, .pointer (some ⟨Bx, 0, none⟩), .pointer (some ⟨Bx, 0, none⟩), undef, undef, undef, undef, undef, undef, undef, undef, undef], defers := [] }) Wd := fun Wd hb => by
              rw [← hG]
              have bXd := (hb.block _ (lt_of_block bX)).trans bX
              have kd := kW.out.stay hb
              have hHd := kd.at (x := (w.heap.size, #[.float .f32 h], 23)) (by simp)
              refine wpAnyIn_ready (rs := [5, 9, 11]) (by kernel_rfl) (by simp) ?_
              refine readIn 5 _ _ (.agg #[.float .f32 (x ((j.1 + 1) * 3 + 1)), .float .f32 (x ((j.1 + 1) * 3 + 2))]) rfl rfl (by rfl) (run_load_mid 44 _ Bx 4 [.float .f32 (x ((j.1 + 1) * 3 + 1)), .float .f32 (x ((j.1 + 1) * 3 + 2))] rfl (range2 ((cell_of_row _ Bx 4 _ _ _ bXd).trans rfl) ((cell_of_row _ Bx 5 _ _ _ bXd).trans rfl)) _ Try.underlying44 rfl info_air) rfl rfl rfl ?_ ?_
              · simp only [Act.put, List.setIfInBounds_toArray, List.set_cons_zero, List.set_cons_succ]
                exact (hG _ _ _ _).mpr (s256 Wd hb)
              refine readIn 9 _ _ (.float .f32 (x (j.1 * 3))) rfl rfl (by rfl) (run_load_cell 23 _ ⟨Bx, 0, none⟩ _ rfl (run_loadVar_one Try.underlying23 rfl ((cell_of_row _ Bx 0 _ _ _ bXd).trans rfl))) rfl rfl rfl ?_ ?_
              · simp only [Act.put, List.setIfInBounds_toArray, List.set_cons_zero, List.set_cons_succ]
                refine takeIn 10 _ _ (.float .f32 (fsub h (x (j.1 * 3)))) rfl rfl (by rfl) (by kernel_rfl) (by kernel_rfl) (by kernel_rfl) (fun w => run_binop_val _ _ _ _ (by rfl) (by rfl) (by simp [eqGuard]) (r1 w)) (fun _ => rfl) rfl rfl ?_
                simp only [Act.put, List.setIfInBounds_toArray, List.set_cons_zero, List.set_cons_succ]
                exact (hG _ _ _ _).mpr (s269 Wd hb)
              refine readIn 11 _ _ (.agg #[.float .f32 (x (j.1 * 3)), .float .f32 (x (j.1 * 3 + 1)), .float .f32 (x (j.1 * 3 + 2)), .float .f32 (x ((j.1 + 1) * 3)), .float .f32 (x ((j.1 + 1) * 3 + 1)), .float .f32 (x ((j.1 + 1) * 3 + 2))]) rfl rfl (by rfl) (run_load_mid 120 _ Bx 0 [.float .f32 (x (j.1 * 3)), .float .f32 (x (j.1 * 3 + 1)), .float .f32 (x (j.1 * 3 + 2)), .float .f32 (x ((j.1 + 1) * 3)), .float .f32 (x ((j.1 + 1) * 3 + 1)), .float .f32 (x ((j.1 + 1) * 3 + 2))] rfl (rowRange bXd) _ Try.underlying120 rfl info_lay) rfl rfl rfl ?_ AllReadyIn.nil
              simp only [Act.put, List.setIfInBounds_toArray, List.set_cons_zero, List.set_cons_succ]
              exact (hG _ _ _ _).mpr (s26b Wd hb)
            have s29 : ∀ Wd, Below W.heap.size W Wd → G 11 #[true, true, true, true, true, false, false, true, true, true, false, false, false, false, false, false, false, false, false] ({ tmps := #[.slice p n cap, .float .f32 h, undef, .pointer (some ⟨w.heap.size, 0, none⟩), .pointer (some ⟨w.heap.size + 1, 0, none⟩), .pointer (some ⟨w.heap.size + 1 + 1, 0, none⟩), undef, .pointer (some ⟨Bx, 0, none⟩), .slice p n cap, .bool true, .bool false, undef, .slice p n cap, .func (.func 159) #[] #[.pointer (some ⟨w1.heap.size, 0, none⟩)], .int .i64 (j.1 : Int), .agg #[.float .f32 (x (j.1 * 3)), .float .f32 (x (j.1 * 3 + 1)), .float .f32 (x (j.1 * 3 + 2)), .float .f32 (x ((j.1 + 1) * 3)), .float .f32 (x ((j.1 + 1) * 3 + 1)), .float .f32 (x ((j.1 + 1) * 3 + 2))], .bool false, .float .f32 h, .pointer (some ⟨Bx, 0, none⟩), .pointer (some ⟨Bx, 0, none⟩), .float .f32 (x (j.1 * 3)), .bool false, undef, undef, undef, .bool false, .float .f32 h, .pointer (some ⟨Bx, 3, none⟩), .pointer (some ⟨Bx, 3, none⟩), .float .f32 (x ((j.1 + 1) * 3)), .bool false, undef, undef, undef, .bool true, .float .f32 h, .pointer (some ⟨Bx, 0, none⟩), .pointer (some ⟨Bx, 0, none⟩), .float .f32 (x (j.1 * 3)), .bool true, .bool true, .float .f32 h, .pointer (some ⟨Bx, 3, none⟩), .pointer (some ⟨Bx, 3, none⟩), .float .f32 (x ((j.1 + 1) * 3)), .bool true, .bool true, .pointer (some ⟨Bx, 0, none⟩), .pointer (some ⟨Bx, 1, none⟩), .agg #[.float .f32 (x (j.1 * 3 + 1)), .float .f32 (x (j.1 * 3 + 2))], .pointer (some ⟨Bx, 3, none⟩), .pointer (some ⟨Bx, 4, none⟩), undef, undef, .pointer (some ⟨Bx, 0, none⟩), .pointer (some ⟨Bx, 0, none⟩), .float .f32 (x (j.1 * 3)), undef, undef, undef, undef, undef, undef, undef, undef], defers := [] }) Wd := fun Wd hb => by
              rw [← hG]
              have bXd := (hb.block _ (lt_of_block bX)).trans bX
              have kd := kW.out.stay hb
              have hHd := kd.at (x := (w.heap.size, #[.float .f32 h], 23)) (by simp)
              refine wpAnyIn_ready (rs := [5, 6, 11]) (by kernel_rfl) (by simp) ?_
              refine readIn 5 _ _ (.agg #[.float .f32 (x ((j.1 + 1) * 3 + 1)), .float .f32 (x ((j.1 + 1) * 3 + 2))]) rfl rfl (by rfl) (run_load_mid 44 _ Bx 4 [.float .f32 (x ((j.1 + 1) * 3 + 1)), .float .f32 (x ((j.1 + 1) * 3 + 2))] rfl (range2 ((cell_of_row _ Bx 4 _ _ _ bXd).trans rfl) ((cell_of_row _ Bx 5 _ _ _ bXd).trans rfl)) _ Try.underlying44 rfl info_air) rfl rfl rfl ?_ ?_
              · simp only [Act.put, List.setIfInBounds_toArray, List.set_cons_zero, List.set_cons_succ]
                exact (hG _ _ _ _).mpr (s259 Wd hb)
              refine readIn 6 _ _ (.float .f32 h) rfl rfl (by rfl) (run_load_cell 23 _ ⟨w.heap.size, 0, none⟩ _ rfl (run_loadVar_one Try.underlying23 rfl ((cell_of_row _ _ 0 _ _ _ hHd).trans rfl))) rfl rfl rfl ?_ ?_
              · simp only [Act.put, List.setIfInBounds_toArray, List.set_cons_zero, List.set_cons_succ]
                refine takeIn 10 _ _ (.float .f32 (fsub h (x (j.1 * 3)))) rfl rfl (by rfl) (by kernel_rfl) (by kernel_rfl) (by kernel_rfl) (fun w => run_binop_val _ _ _ _ (by rfl) (by rfl) (by simp [eqGuard]) (r1 w)) (fun _ => rfl) rfl rfl ?_
                simp only [Act.put, List.setIfInBounds_toArray, List.set_cons_zero, List.set_cons_succ]
                exact (hG _ _ _ _).mpr (s269 Wd hb)
              refine readIn 11 _ _ (.agg #[.float .f32 (x (j.1 * 3)), .float .f32 (x (j.1 * 3 + 1)), .float .f32 (x (j.1 * 3 + 2)), .float .f32 (x ((j.1 + 1) * 3)), .float .f32 (x ((j.1 + 1) * 3 + 1)), .float .f32 (x ((j.1 + 1) * 3 + 2))]) rfl rfl (by rfl) (run_load_mid 120 _ Bx 0 [.float .f32 (x (j.1 * 3)), .float .f32 (x (j.1 * 3 + 1)), .float .f32 (x (j.1 * 3 + 2)), .float .f32 (x ((j.1 + 1) * 3)), .float .f32 (x ((j.1 + 1) * 3 + 1)), .float .f32 (x ((j.1 + 1) * 3 + 2))] rfl (rowRange bXd) _ Try.underlying120 rfl info_lay) rfl rfl rfl ?_ AllReadyIn.nil
              simp only [Act.put, List.setIfInBounds_toArray, List.set_cons_zero, List.set_cons_succ]
              exact (hG _ _ _ _).mpr (s29b Wd hb)
            have s2b : ∀ Wd, Below W.heap.size W Wd → G 11 #[true, true, true, true, true, false, false, true, true, false, false, true, false, false, false, false, false, false, false] ({ tmps := #[.slice p n cap, .float .f32 h, undef, .pointer (some ⟨w.heap.size, 0, none⟩), .pointer (some ⟨w.heap.size + 1, 0, none⟩), .pointer (some ⟨w.heap.size + 1 + 1, 0, none⟩), undef, .pointer (some ⟨Bx, 0, none⟩), .slice p n cap, .bool true, .bool false, undef, .slice p n cap, .func (.func 159) #[] #[.pointer (some ⟨w1.heap.size, 0, none⟩)], .int .i64 (j.1 : Int), .agg #[.float .f32 (x (j.1 * 3)), .float .f32 (x (j.1 * 3 + 1)), .float .f32 (x (j.1 * 3 + 2)), .float .f32 (x ((j.1 + 1) * 3)), .float .f32 (x ((j.1 + 1) * 3 + 1)), .float .f32 (x ((j.1 + 1) * 3 + 2))], .bool false, .float .f32 h, .pointer (some ⟨Bx, 0, none⟩), .pointer (some ⟨Bx, 0, none⟩), .float .f32 (x (j.1 * 3)), .bool false, undef, undef, undef, .bool false, .float .f32 h, .pointer (some ⟨Bx, 3, none⟩), .pointer (some ⟨Bx, 3, none⟩), .float .f32 (x ((j.1 + 1) * 3)), .bool false, undef, undef, undef, .bool true, .float .f32 h, .pointer (some ⟨Bx, 0, none⟩), .pointer (some ⟨Bx, 0, none⟩), .float .f32 (x (j.1 * 3)), .bool true, .bool true, .float .f32 h, .pointer (some ⟨Bx, 3, none⟩), .pointer (some ⟨Bx, 3, none⟩), .float .f32 (x ((j.1 + 1) * 3)), .bool true, .bool true, .pointer (some ⟨Bx, 0, none⟩), .pointer (some ⟨Bx, 1, none⟩), .agg #[.float .f32 (x (j.1 * 3 + 1)), .float .f32 (x (j.1 * 3 + 2))], .pointer (some ⟨Bx, 3, none⟩), .pointer (some ⟨Bx, 4, none⟩), undef, undef, .pointer (some ⟨Bx, 0, none⟩), .pointer (some ⟨Bx, 0, none⟩), undef, undef, .agg #[.float .f32 (x (j.1 * 3)), .float .f32 (x (j.1 * 3 + 1)), .float .f32 (x (j.1 * 3 + 2)), .float .f32 (x ((j.1 + 1) * 3)), .float .f32 (x ((j.1 + 1) * 3 + 1)), .float .f32 (x ((j.1 + 1) * 3 + 2))], undef, undef, undef, undef, undef, undef], defers := [] }) Wd := fun Wd hb => by
              rw [← hG]
              have bXd := (hb.block _ (lt_of_block bX)).trans bX
              have kd := kW.out.stay hb
              have hHd := kd.at (x := (w.heap.size, #[.float .f32 h], 23)) (by simp)
              refine wpAnyIn_ready (rs := [5, 6, 9, 12]) (by kernel_rfl) (by simp) ?_
              refine readIn 5 _ _ (.agg #[.float .f32 (x ((j.1 + 1) * 3 + 1)), .float .f32 (x ((j.1 + 1) * 3 + 2))]) rfl rfl (by rfl) (run_load_mid 44 _ Bx 4 [.float .f32 (x ((j.1 + 1) * 3 + 1)), .float .f32 (x ((j.1 + 1) * 3 + 2))] rfl (range2 ((cell_of_row _ Bx 4 _ _ _ bXd).trans rfl) ((cell_of_row _ Bx 5 _ _ _ bXd).trans rfl)) _ Try.underlying44 rfl info_air) rfl rfl rfl ?_ ?_
              · simp only [Act.put, List.setIfInBounds_toArray, List.set_cons_zero, List.set_cons_succ]
                exact (hG _ _ _ _).mpr (s25b Wd hb)
              refine readIn 6 _ _ (.float .f32 h) rfl rfl (by rfl) (run_load_cell 23 _ ⟨w.heap.size, 0, none⟩ _ rfl (run_loadVar_one Try.underlying23 rfl ((cell_of_row _ _ 0 _ _ _ hHd).trans rfl))) rfl rfl rfl ?_ ?_
              · simp only [Act.put, List.setIfInBounds_toArray, List.set_cons_zero, List.set_cons_succ]
                exact (hG _ _ _ _).mpr (s26b Wd hb)
              refine readIn 9 _ _ (.float .f32 (x (j.1 * 3))) rfl rfl (by rfl) (run_load_cell 23 _ ⟨Bx, 0, none⟩ _ rfl (run_loadVar_one Try.underlying23 rfl ((cell_of_row _ Bx 0 _ _ _ bXd).trans rfl))) rfl rfl rfl ?_ ?_
              · simp only [Act.put, List.setIfInBounds_toArray, List.set_cons_zero, List.set_cons_succ]
                exact (hG _ _ _ _).mpr (s29b Wd hb)
              refine callIn 12 _ _ (.float .f32 (dpW x j.1)) rfl rfl (by rfl) 158 #[.agg #[.float .f32 (x (j.1 * 3)), .float .f32 (x (j.1 * 3 + 1)), .float .f32 (x (j.1 * 3 + 2)), .float .f32 (x ((j.1 + 1) * 3)), .float .f32 (x ((j.1 + 1) * 3 + 1)), .float .f32 (x ((j.1 + 1) * 3 + 2))]] (by unfold execOp; go_simp) (fun _ _ => trivial) (fun hh => by cases hh) (fun w2 => Below Wd.heap.size Wd w2) (callsIn_wide.2 (iDepth x j.1 HAt.out.d2 Wd)) rfl rfl (fun w2 hb2 => ?_) AllReadyIn.nil
              simp only [Act.put, List.setIfInBounds_toArray, List.set_cons_zero, List.set_cons_succ]
              exact (hG _ _ _ _).mpr (s2bc w2 (hb.trans (hb2.mono hb.size)))
            have s56 : ∀ Wd, Below W.heap.size W Wd → G 11 #[true, true, false, true, true, true, true, true, true, false, false, false, false, false, false, false, false, false, false] ({ tmps := #[.slice p n cap, .float .f32 h, undef, .pointer (some ⟨w.heap.size, 0, none⟩), .pointer (some ⟨w.heap.size + 1, 0, none⟩), .pointer (some ⟨w.heap.size + 1 + 1, 0, none⟩), undef, .pointer (some ⟨Bx, 0, none⟩), .slice p n cap, .bool true, .bool false, undef, .slice p n cap, .func (.func 159) #[] #[.pointer (some ⟨w1.heap.size, 0, none⟩)], .int .i64 (j.1 : Int), .agg #[.float .f32 (x (j.1 * 3)), .float .f32 (x (j.1 * 3 + 1)), .float .f32 (x (j.1 * 3 + 2)), .float .f32 (x ((j.1 + 1) * 3)), .float .f32 (x ((j.1 + 1) * 3 + 1)), .float .f32 (x ((j.1 + 1) * 3 + 2))], .bool false, .float .f32 h, .pointer (some ⟨Bx, 0, none⟩), .pointer (some ⟨Bx, 0, none⟩), .float .f32 (x (j.1 * 3)), .bool false, undef, undef, undef, .bool false, .float .f32 h, .pointer (some ⟨Bx, 3, none⟩), .pointer (some ⟨Bx, 3, none⟩), .float .f32 (x ((j.1 + 1) * 3)), .bool false, undef, undef, undef, .bool true, .float .f32 h, .pointer (some ⟨Bx, 0, none⟩), .pointer (some ⟨Bx, 0, none⟩), .float .f32 (x (j.1 * 3)), .bool true, .bool true, .float .f32 h, .pointer (some ⟨Bx, 3, none⟩), .pointer (some ⟨Bx, 3, none⟩), .float .f32 (x ((j.1 + 1) * 3)), .bool true, .bool true, .pointer (some ⟨Bx, 0, none⟩), .pointer (some ⟨Bx, 1, none⟩), undef, .pointer (some ⟨Bx, 3, none⟩), .pointer (some ⟨Bx, 4, none⟩), .agg #[.float .f32 (x ((j.1 + 1) * 3 + 1)), .float .f32 (x ((j.1 + 1) * 3 + 2))], .float .f32 h, .pointer (some ⟨Bx, 0, none⟩), .pointer (some ⟨Bx, 0, none⟩), undef, undef, undef, undef, undef, undef, undef, undef, undef], defers := [] }) Wd := fun Wd hb => by
              rw [← hG]
              have bXd := (hb.block _ (lt_of_block bX)).trans bX
              have kd := kW.out.stay hb
              have hHd := kd.at (x := (w.heap.size, #[.float .f32 h], 23)) (by simp)
              refine wpAnyIn_ready (rs := [2, 9, 11]) (by kernel_rfl) (by simp) ?_
              refine readIn 2 _ _ (.agg #[.float .f32 (x (j.1 * 3 + 1)), .float .f32 (x (j.1 * 3 + 2))]) rfl rfl (by rfl) (run_load_mid 44 _ Bx 1 [.float .f32 (x (j.1 * 3 + 1)), .float .f32 (x (j.1 * 3 + 2))] rfl (range2 ((cell_of_row _ Bx 1 _ _ _ bXd).trans rfl) ((cell_of_row _ Bx 2 _ _ _ bXd).trans rfl)) _ Try.underlying44 rfl info_air) rfl rfl rfl ?_ ?_
              · simp only [Act.put, List.setIfInBounds_toArray, List.set_cons_zero, List.set_cons_succ]
                exact (hG _ _ _ _).mpr (s256 Wd hb)
              refine readIn 9 _ _ (.float .f32 (x (j.1 * 3))) rfl rfl (by rfl) (run_load_cell 23 _ ⟨Bx, 0, none⟩ _ rfl (run_loadVar_one Try.underlying23 rfl ((cell_of_row _ Bx 0 _ _ _ bXd).trans rfl))) rfl rfl rfl ?_ ?_
              · simp only [Act.put, List.setIfInBounds_toArray, List.set_cons_zero, List.set_cons_succ]
                refine takeIn 10 _ _ (.float .f32 (fsub h (x (j.1 * 3)))) rfl rfl (by rfl) (by kernel_rfl) (by kernel_rfl) (by kernel_rfl) (fun w => run_binop_val _ _ _ _ (by rfl) (by rfl) (by simp [eqGuard]) (r1 w)) (fun _ => rfl) rfl rfl ?_
                simp only [Act.put, List.setIfInBounds_toArray, List.set_cons_zero, List.set_cons_succ]
                exact (hG _ _ _ _).mpr (s569 Wd hb)
              refine readIn 11 _ _ (.agg #[.float .f32 (x (j.1 * 3)), .float .f32 (x (j.1 * 3 + 1)), .float .f32 (x (j.1 * 3 + 2)), .float .f32 (x ((j.1 + 1) * 3)), .float .f32 (x ((j.1 + 1) * 3 + 1)), .float .f32 (x ((j.1 + 1) * 3 + 2))]) rfl rfl (by rfl) (run_load_mid 120 _ Bx 0 [.float .f32 (x (j.1 * 3)), .float .f32 (x (j.1 * 3 + 1)), .float .f32 (x (j.1 * 3 + 2)), .float .f32 (x ((j.1 + 1) * 3)), .float .f32 (x ((j.1 + 1) * 3 + 1)), .float .f32 (x ((j.1 + 1) * 3 + 2))] rfl (rowRange bXd) _ Try.underlying120 rfl info_lay) rfl rfl rfl ?_ AllReadyIn.nil
              simp only [Act.put, List.setIfInBounds_toArray, List.set_cons_zero, List.set_cons_succ]
              exact (hG _ _ _ _).mpr (s56b Wd hb)
            have s59 : ∀ Wd, Below W.heap.size W Wd → G 11 #[true, true, false, true, true, true, false, true, true, true, false, false, false, false, false, false, false, false, false] ({ tmps := #[.slice p n cap, .float .f32 h, undef, .pointer (some ⟨w.heap.size, 0, none⟩), .pointer (some ⟨w.heap.size + 1, 0, none⟩), .pointer (some ⟨w.heap.size + 1 + 1, 0, none⟩), undef, .pointer (some ⟨Bx, 0, none⟩), .slice p n cap, .bool true, .bool false, undef, .slice p n cap, .func (.func 159) #[] #[.pointer (some ⟨w1.heap.size, 0, none⟩)], .int .i64 (j.1 : Int), .agg #[.float .f32 (x (j.1 * 3)), .float .f32 (x (j.1 * 3 + 1)), .float .f32 (x (j.1 * 3 + 2)), .float .f32 (x ((j.1 + 1) * 3)), .float .f32 (x ((j.1 + 1) * 3 + 1)), .float .f32 (x ((j.1 + 1) * 3 + 2))], .bool false, .float .f32 h, .pointer (some ⟨Bx, 0, none⟩), .pointer (some ⟨Bx, 0, none⟩), .float .f32 (x (j.1 * 3)), .bool false, undef, undef, undef, .bool false, .float .f32 h, .pointer (some ⟨Bx, 3, none⟩), .pointer (some ⟨Bx, 3, none⟩), .float .f32 (x ((j.1 + 1) * 3)), .bool false, undef, undef, undef, .bool true, .float .f32 h, .pointer (some ⟨Bx, 0, none⟩), .pointer (some ⟨Bx, 0, none⟩), .float .f32 (x (j.1 * 3)), .bool true, .bool true, .float .f32 h, .pointer (some ⟨Bx, 3, none⟩), .pointer (some ⟨Bx, 3, none⟩), .float .f32 (x ((j.1 + 1) * 3)), .bool true, .bool true, .pointer (some ⟨Bx, 0, none⟩), .pointer (some ⟨Bx, 1, none⟩), undef, .pointer (some ⟨Bx, 3, none⟩), .pointer (some ⟨Bx, 4, none⟩), .agg #[.float .f32 (x ((j.1 + 1) * 3 + 1)), .float .f32 (x ((j.1 + 1) * 3 + 2))], undef, .pointer (some ⟨Bx, 0, none⟩), .pointer (some ⟨Bx, 0, none⟩), .float .f32 (x (j.1 * 3)), undef, undef, undef, undef, undef, undef, undef, undef], defers := [] }) Wd := fun Wd hb => by
              rw [← hG]
              have bXd := (hb.block _ (lt_of_block bX)).trans bX
              have kd := kW.out.stay hb
              have hHd := kd.at (x := (w.heap.size, #[.float .f32 h], 23)) (by simp)
              refine wpAnyIn_ready (rs := [2, 6, 11]) (by kernel_rfl) (by simp) ?_
              refine readIn 2 _ _ (.agg #[.float .f32 (x (j.1 * 3 + 1)), .float .f32 (x (j.1 * 3 + 2))]) rfl rfl (by rfl) (run_load_mid 44 _ Bx 1 [.float .f32 (x (j.1 * 3 + 1)), .float .f32 (x (j.1 * 3 + 2))] rfl (range2 ((cell_of_row _ Bx 1 _ _ _ bXd).trans rfl) ((cell_of_row _ Bx 2 _ _ _ bXd).trans rfl)) _ Try.underlying44 rfl info_air) rfl rfl rfl ?_ ?_
              · simp only [Act.put, List.setIfInBounds_toArray, List.set_cons_zero, List.set_cons_succ]
                exact (hG _ _ _ _).mpr (s259 Wd hb)
              refine readIn 6 _ _ (.float .f32 h) rfl rfl (by rfl) (run_load_cell 23 _ ⟨w.heap.size, 0, none⟩ _ rfl (run_loadVar_one Try.underlying23 rfl ((cell_of_row _ _ 0 _ _ _ hHd).trans rfl))) rfl rfl rfl ?_ ?_
              · simp only [Act.put, List.setIfInBounds_toArray, List.set_cons_zero, List.set_cons_succ]
                refine takeIn 10 _ _ (.float .f32 (fsub h (x (j.1 * 3)))) rfl rfl (by rfl) (by kernel_rfl) (by kernel_rfl) (by kernel_rfl) (fun w => run_binop_val _ _ _ _ (by rfl) (by rfl) (by simp [eqGuard]) (r1 w)) (fun _ => rfl) rfl rfl ?_
                simp only [Act.put, List.setIfInBounds_toArray, List.set_cons_zero, List.set_cons_succ]
                exact (hG _ _ _ _).mpr (s569 Wd hb)
              refine readIn 11 _ _ (.agg #[.float .f32 (x (j.1 * 3)), .float .f32 (x (j.1 * 3 + 1)), .float .f32 (x (j.1 * 3 + 2)), .float .f32 (x ((j.1 + 1) * 3)), .float .f32 (x ((j.1 + 1) * 3 + 1)), .float .f32 (x ((j.1 + 1) * 3 + 2))]) rfl rfl (by rfl) (run_load_mid 120 _ Bx 0 [.float .f32 (x (j.1 * 3)), .float .f32 (x (j.1 * 3 + 1)), .float .f32 (x (j.1 * 3 + 2)), .float .f32 (x ((j.1 + 1) * 3)), .float .f32 (x ((j.1 + 1) * 3 + 1)), .float .f32 (x ((j.1 + 1) * 3 + 2))] rfl (rowRange bXd) _ Try.underlying120 rfl info_lay) rfl rfl rfl ?_ AllReadyIn.nil
              simp only [Act.put, List.setIfInBounds_toArray, List.set_cons_zero, List.set_cons_succ]
              exact (hG _ _ _ _).mpr (s59b Wd hb)
            have s5b : ∀ Wd, Below W.heap.size W Wd → G 11 #[true, true, false, true, true, true, false, true, true, false, false, true, false, false, false, false, false, false, false] ({ tmps := #[.slice p n cap, .float .f32 h, undef, .pointer (some ⟨w.heap.size, 0, none⟩), .pointer (some ⟨w.heap.size + 1, 0, none⟩), .pointer (some ⟨w.heap.size + 1 + 1, 0, none⟩), undef, .pointer (some ⟨Bx, 0, none⟩), .slice p n cap, .bool true, .bool false, undef, .slice p n cap, .func (.func 159) #[] #[.pointer (some ⟨w1.heap.size, 0, none⟩)], .int .i64 (j.1 : Int), .agg #[.float .f32 (x (j.1 * 3)), .float .f32 (x (j.1 * 3 + 1)), .float .f32 (x (j.1 * 3 + 2)), .float .f32 (x ((j.1 + 1) * 3)), .float .f32 (x ((j.1 + 1) * 3 + 1)), .float .f32 (x ((j.1 + 1) * 3 + 2))], .bool false, .float .f32 h, .pointer (some ⟨Bx, 0, none⟩), .pointer (some ⟨Bx, 0, none⟩), .float .f32 (x (j.1 * 3)), .bool false, undef, undef, undef, .bool false, .float .f32 h, .pointer (some ⟨Bx, 3, none⟩), .pointer (some ⟨Bx, 3, none⟩), .float .f32 (x ((j.1 + 1) * 3)), .bool false, undef, undef, undef, .bool true, .float .f32 h, .pointer (some ⟨Bx, 0, none⟩), .pointer (some ⟨Bx, 0, none⟩), .float .f32 (x (j.1 * 3)), .bool true, .bool true, .float .f32 h, .pointer (some ⟨Bx, 3, none⟩), .pointer (some ⟨Bx, 3, none⟩), .float .f32 (x ((j.1 + 1) * 3)), .bool true, .bool true, .pointer (some ⟨Bx, 0, none⟩), .pointer (some ⟨Bx, 1, none⟩), undef, .pointer (some ⟨Bx, 3, none⟩), .pointer (some ⟨Bx, 4, none⟩), .agg #[.float .f32 (x ((j.1 + 1) * 3 + 1)), .float .f32 (x ((j.1 + 1) * 3 + 2))], undef, .pointer (some ⟨Bx, 0, none⟩), .pointer (some ⟨Bx, 0, none⟩), undef, undef, .agg #[.float .f32 (x (j.1 * 3)), .float .f32 (x (j.1 * 3 + 1)), .float .f32 (x (j.1 * 3 + 2)), .float .f32 (x ((j.1 + 1) * 3)), .float .f32 (x ((j.1 + 1) * 3 + 1)), .float .f32 (x ((j.1 + 1) * 3 + 2))], undef, undef, undef, undef, undef, undef], defers := [] }) Wd := fun Wd hb => by
              rw [← hG]
              have bXd := (hb.block _ (lt_of_block bX)).trans bX
              have kd := kW.out.stay hb
              have hHd := kd.at (x := (w.heap.size, #[.float .f32 h], 23)) (by simp)
              refine wpAnyIn_ready (rs := [2, 6, 9, 12]) (by kernel_rfl) (by simp) ?_
              refine readIn 2 _ _ (.agg #[.float .f32 (x (j.1 * 3 + 1)), .float .f32 (x (j.1 * 3 + 2))]) rfl rfl (by rfl) (run_load_mid 44 _ Bx 1 [.float .f32 (x (j.1 * 3 + 1)), .float .f32 (x (j.1 * 3 + 2))] rfl (range2 ((cell_of_row _ Bx 1 _ _ _ bXd).trans rfl) ((cell_of_row _ Bx 2 _ _ _ bXd).trans rfl)) _ Try.underlying44 rfl info_air) rfl rfl rfl ?_ ?_
              · simp only [Act.put, List.setIfInBounds_toArray, List.set_cons_zero, List.set_cons_succ]
                exact (hG _ _ _ _).mpr (s25b Wd hb)
              refine readIn 6 _ _ (.float .f32 h) rfl rfl (by rfl) (run_load_cell 23 _ ⟨w.heap.size, 0, none⟩ _ rfl (run_loadVar_one Try.underlying23 rfl ((cell_of_row _ _ 0 _ _ _ hHd).trans rfl))) rfl rfl rfl ?_ ?_
              · simp only [Act.put, List.setIfInBounds_toArray, List.set_cons_zero, List.set_cons_succ]
                exact (hG _ _ _ _).mpr (s56b Wd hb)
              refine readIn 9 _ _ (.float .f32 (x (j.1 * 3))) rfl rfl (by rfl) (run_load_cell 23 _ ⟨Bx, 0, none⟩ _ rfl (run_loadVar_one Try.underlying23 rfl ((cell_of_row _ Bx 0 _ _ _ bXd).trans rfl))) rfl rfl rfl ?_ ?_
              · simp only [Act.put, List.setIfInBounds_toArray, List.set_cons_zero, List.set_cons_succ]
                exact (hG _ _ _ _).mpr (s59b Wd hb)
              refine callIn 12 _ _ (.float .f32 (dpW x j.1)) rfl rfl (by rfl) 158 #[.agg #[.float .f32 (x (j.1 * 3)), .float .f32 (x (j.1 * 3 + 1)), .float .f32 (x (j.1 * 3 + 2)), .float .f32 (x ((j.1 + 1) * 3)), .float .f32 (x ((j.1 + 1) * 3 + 1)), .float .f32 (x ((j.1 + 1) * 3 + 2))]] (by unfold execOp; go_simp) (fun _ _ => trivial) (fun hh => by cases hh) (fun w2 => Below Wd.heap.size Wd w2) (callsIn_wide.2 (iDepth x j.1 HAt.out.d2 Wd)) rfl rfl (fun w2 hb2 => ?_) AllReadyIn.nil
              simp only [Act.put, List.setIfInBounds_toArray, List.set_cons_zero, List.set_cons_succ]
              exact (hG _ _ _ _).mpr (s5bc w2 (hb.trans (hb2.mono hb.size)))
            have s69 : ∀ Wd, Below W.heap.size W Wd → G 10 #[true, true, false, true, true, false, true, true, true, true, true, false, false, false, false, false, false, false, false] ({ tmps := #[.slice p n cap, .float .f32 h, undef, .pointer (some ⟨w.heap.size, 0, none⟩), .pointer (some ⟨w.heap.size + 1, 0, none⟩), .pointer (some ⟨w.heap.size + 1 + 1, 0, none⟩), undef, .pointer (some ⟨Bx, 0, none⟩), .slice p n cap, .bool true, .bool false, undef, .slice p n cap, .func (.func 159) #[] #[.pointer (some ⟨w1.heap.size, 0, none⟩)], .int .i64 (j.1 : Int), .agg #[.float .f32 (x (j.1 * 3)), .float .f32 (x (j.1 * 3 + 1)), .float .f32 (x (j.1 * 3 + 2)), .float .f32 (x ((j.1 + 1) * 3)), .float .f32 (x ((j.1 + 1) * 3 + 1)), .float .f32 (x ((j.1 + 1) * 3 + 2))], .bool false, .float .f32 h, .pointer (some ⟨Bx, 0, none⟩), .pointer (some ⟨Bx, 0, none⟩), .float .f32 (x (j.1 * 3)), .bool false, undef, undef, undef, .bool false, .float .f32 h, .pointer (some ⟨Bx, 3, none⟩), .pointer (some ⟨Bx, 3, none⟩), .float .f32 (x ((j.1 + 1) * 3)), .bool false, undef, undef, undef, .bool true, .float .f32 h, .pointer (some ⟨Bx, 0, none⟩), .pointer (some ⟨Bx, 0, none⟩), .float .f32 (x (j.1 * 3)), .bool true, .bool true, .float .f32 h, .pointer (some ⟨Bx, 3, none⟩), .pointer (some ⟨Bx, 3, none⟩), .float .f32 (x ((j.1 + 1) * 3)), .bool true, .bool true, .pointer (some ⟨Bx, 0, none⟩), .pointer (some ⟨Bx, 1, none⟩), undef, .pointer (some ⟨Bx, 3, none⟩), .pointer (some ⟨Bx, 4, none⟩), undef, .float .f32 h, .pointer (some ⟨Bx, 0, none⟩), .pointer (some ⟨Bx, 0, none⟩), .float .f32 (x (j.1 * 3)), .float .f32 (fsub h (x (j.1 * 3))), undef, undef, undef, undef, undef, undef, undef], defers := [] }) Wd := fun Wd hb => by
              rw [← hG]
              have bXd := (hb.block _ (lt_of_block bX)).trans bX
              have kd := kW.out.stay hb
              have hHd := kd.at (x := (w.heap.size, #[.float .f32 h], 23)) (by simp)
              refine wpAnyIn_ready (rs := [2, 5, 11]) (by kernel_rfl) (by simp) ?_
              refine readIn 2 _ _ (.agg #[.float .f32 (x (j.1 * 3 + 1)), .float .f32 (x (j.1 * 3 + 2))]) rfl rfl (by rfl) (run_load_mid 44 _ Bx 1 [.float .f32 (x (j.1 * 3 + 1)), .float .f32 (x (j.1 * 3 + 2))] rfl (range2 ((cell_of_row _ Bx 1 _ _ _ bXd).trans rfl) ((cell_of_row _ Bx 2 _ _ _ bXd).trans rfl)) _ Try.underlying44 rfl info_air) rfl rfl rfl ?_ ?_
              · simp only [Act.put, List.setIfInBounds_toArray, List.set_cons_zero, List.set_cons_succ]
                exact (hG _ _ _ _).mpr (s269 Wd hb)
              refine readIn 5 _ _ (.agg #[.float .f32 (x ((j.1 + 1) * 3 + 1)), .float .f32 (x ((j.1 + 1) * 3 + 2))]) rfl rfl (by rfl) (run_load_mid 44 _ Bx 4 [.float .f32 (x ((j.1 + 1) * 3 + 1)), .float .f32 (x ((j.1 + 1) * 3 + 2))] rfl (range2 ((cell_of_row _ Bx 4 _ _ _ bXd).trans rfl) ((cell_of_row _ Bx 5 _ _ _ bXd).trans rfl)) _ Try.underlying44 rfl info_air) rfl rfl rfl ?_ ?_
              · simp only [Act.put, List.setIfInBounds_toArray, List.set_cons_zero, List.set_cons_succ]
                exact (hG _ _ _ _).mpr (s569 Wd hb)
              refine readIn 11 _ _ (.agg #[.float .f32 (x (j.1 * 3)), .float .f32 (x (j.1 * 3 + 1)), .float .f32 (x (j.1 * 3 + 2)), .float .f32 (x ((j.1 + 1) * 3)), .float .f32 (x ((j.1 + 1) * 3 + 1)), .float .f32 (x ((j.1 + 1) * 3 + 2))]) rfl rfl (by rfl) (run_load_mid 120 _ Bx 0 [.float .f32 (x (j.1 * 3)), .float .f32 (x (j.1 * 3 + 1)), .float .f32 (x (j.1 * 3 + 2)), .float .f32 (x ((j.1 + 1) * 3)), .float .f32 (x ((j.1 + 1) * 3 + 1)), .float .f32 (x ((j.1 + 1) * 3 + 2))] rfl (rowRange bXd) _ Try.underlying120 rfl info_lay) rfl rfl rfl ?_ AllReadyIn.nil
              simp only [Act.put, List.setIfInBounds_toArray, List.set_cons_zero, List.set_cons_succ]
              exact (hG _ _ _ _).mpr (s69b Wd hb)
            have s6b : ∀ Wd, Below W.heap.size W Wd → G 11 #[true, true, false, true, true, false, true, true, true, false, false, true, false, false, false, false, false, false, false] ({ tmps := #[.slice p n cap, .float .f32 h, undef, .pointer (some ⟨w.heap.size, 0, none⟩), .pointer (some ⟨w.heap.size + 1, 0, none⟩), .pointer (some ⟨w.heap.size + 1 + 1, 0, none⟩), undef, .pointer (some ⟨Bx, 0, none⟩), .slice p n cap, .bool true, .bool false, undef, .slice p n cap, .func (.func 159) #[] #[.pointer (some ⟨w1.heap.size, 0, none⟩)], .int .i64 (j.1 : Int), .agg #[.float .f32 (x (j.1 * 3)), .float .f32 (x (j.1 * 3 + 1)), .float .f32 (x (j.1 * 3 + 2)), .float .f32 (x ((j.1 + 1) * 3)), .float .f32 (x ((j.1 + 1) * 3 + 1)), .float .f32 (x ((j.1 + 1) * 3 + 2))], .bool false, .float .f32 h, .pointer (some ⟨Bx, 0, none⟩), .pointer (some ⟨Bx, 0, none⟩), .float .f32 (x (j.1 * 3)), .bool false, undef, undef, undef, .bool false, .float .f32 h, .pointer (some ⟨Bx, 3, none⟩), .pointer (some ⟨Bx, 3, none⟩), .float .f32 (x ((j.1 + 1) * 3)), .bool false, undef, undef, undef, .bool true, .float .f32 h, .pointer (some ⟨Bx, 0, none⟩), .pointer (some ⟨Bx, 0, none⟩), .float .f32 (x (j.1 * 3)), .bool true, .bool true, .float .f32 h, .pointer (some ⟨Bx, 3, none⟩), .pointer (some ⟨Bx, 3, none⟩), .float .f32 (x ((j.1 + 1) * 3)), .bool true, .bool true, .pointer (some ⟨Bx, 0, none⟩), .pointer (some ⟨Bx, 1, none⟩), undef, .pointer (some ⟨Bx, 3, none⟩), .pointer (some ⟨Bx, 4, none⟩), undef, .float .f32 h, .pointer (some ⟨Bx, 0, none⟩), .pointer (some ⟨Bx, 0, none⟩), undef, undef, .agg #[.float .f32 (x (j.1 * 3)), .float .f32 (x (j.1 * 3 + 1)), .float .f32 (x (j.1 * 3 + 2)), .float .f32 (x ((j.1 + 1) * 3)), .float .f32 (x ((j.1 + 1) * 3 + 1)), .float .f32 (x ((j.1 + 1) * 3 + 2))], undef, undef, undef, undef, undef, undef], defers := [] }) Wd := fun Wd hb => by
              rw [← hG]
              have bXd := (hb.block _ (lt_of_block bX)).trans bX
              have kd := kW.out.stay hb
              have hHd := kd.at (x := (w.heap.size, #[.float .f32 h], 23)) (by simp)
              refine wpAnyIn_ready (rs := [2, 5, 9, 12]) (by kernel_rfl) (by simp) ?_
              refine readIn 2 _ _ (.agg #[.float .f32 (x (j.1 * 3 + 1)), .float .f32 (x (j.1 * 3 + 2))]) rfl rfl (by rfl) (run_load_mid 44 _ Bx 1 [.float .f32 (x (j.1 * 3 + 1)), .float .f32 (x (j.1 * 3 + 2))] rfl (range2 ((cell_of_row _ Bx 1 _ _ _ bXd).trans rfl) ((cell_of_row _ Bx 2 _ _ _ bXd).trans rfl)) _ Try.underlying44 rfl info_air) rfl rfl rfl ?_ ?_
              · simp only [Act.put, List.setIfInBounds_toArray, List.set_cons_zero, List.set_cons_succ]
                exact (hG _ _ _ _).mpr (s26b Wd hb)
              refine readIn 5 _ _ (.agg #[.float .f32 (x ((j.1 + 1) * 3 + 1)), .float .f32 (x ((j.1 + 1) * 3 + 2))]) rfl rfl (by rfl) (run_load_mid 44 _ Bx 4 [.float .f32 (x ((j.1 + 1) * 3 + 1)), .float .f32 (x ((j.1 + 1) * 3 + 2))] rfl (range2 ((cell_of_row _ Bx 4 _ _ _ bXd).trans rfl) ((cell_of_row _ Bx 5 _ _ _ bXd).trans rfl)) _ Try.underlying44 rfl info_air) rfl rfl rfl ?_ ?_
              · simp only [Act.put, List.setIfInBounds_toArray, List.set_cons_zero, List.set_cons_succ]
                exact (hG _ _ _ _).mpr (s56b Wd hb)
              refine readIn 9 _ _ (.float .f32 (x (j.1 * 3))) rfl rfl (by rfl) (run_load_cell 23 _ ⟨Bx, 0, none⟩ _ rfl (run_loadVar_one Try.underlying23 rfl ((cell_of_row _ Bx 0 _ _ _ bXd).trans rfl))) rfl rfl rfl ?_ ?_
              · simp only [Act.put, List.setIfInBounds_toArray, List.set_cons_zero, List.set_cons_succ]
                refine takeIn 10 _ _ (.float .f32 (fsub h (x (j.1 * 3)))) rfl rfl (by rfl) (by kernel_rfl) (by kernel_rfl) (by kernel_rfl) (fun w => run_binop_val _ _ _ _ (by rfl) (by rfl) (by simp [eqGuard]) (r1 w)) (fun _ => rfl) rfl rfl ?_
                simp only [Act.put, List.setIfInBounds_toArray, List.set_cons_zero, List.set_cons_succ]
                exact (hG _ _ _ _).mpr (s69b Wd hb)
              refine callIn 12 _ _ (.float .f32 (dpW x j.1)) rfl rfl (by rfl) 158 #[.agg #[.float .f32 (x (j.1 * 3)), .float .f32 (x (j.1 * 3 + 1)), .float .f32 (x (j.1 * 3 + 2)), .float .f32 (x ((j.1 + 1) * 3)), .float .f32 (x ((j.1 + 1) * 3 + 1)), .float .f32 (x ((j.1 + 1) * 3 + 2))]] (by unfold execOp; go_simp) (fun _ _ => trivial) (fun hh => by cases hh) (fun w2 => Below Wd.heap.size Wd w2) (callsIn_wide.2 (iDepth x j.1 HAt.out.d2 Wd)) rfl rfl (fun w2 hb2 => ?_) AllReadyIn.nil
              simp only [Act.put, List.setIfInBounds_toArray, List.set_cons_zero, List.set_cons_succ]
              exact (hG _ _ _ _).mpr (s6bc w2 (hb.trans (hb2.mono hb.size)))
            have s9b : ∀ Wd, Below W.heap.size W Wd → G 11 #[true, true, false, true, true, false, false, true, true, true, false, true, false, false, false, false, false, false, false] ({ tmps := #[.slice p n cap, .float .f32 h, undef, .pointer (some ⟨w.heap.size, 0, none⟩), .pointer (some ⟨w.heap.size + 1, 0, none⟩), .pointer (some ⟨w.heap.size + 1 + 1, 0, none⟩), undef, .pointer (some ⟨Bx, 0, none⟩), .slice p n cap, .bool true, .bool false, undef, .slice p n cap, .func (.func 159) #[] #[.pointer (some ⟨w1.heap.size, 0, none⟩)], .int .i64 (j.1 : Int), .agg #[.float .f32 (x (j.1 * 3)), .float .f32 (x (j.1 * 3 + 1)), .float .f32 (x (j.1 * 3 + 2)), .float .f32 (x ((j.1 + 1) * 3)), .float .f32 (x ((j.1 + 1) * 3 + 1)), .float .f32 (x ((j.1 + 1) * 3 + 2))], .bool false, .float .f32 h, .pointer (some ⟨Bx, 0, none⟩), .pointer (some ⟨Bx, 0, none⟩), .float .f32 (x (j.1 * 3)), .bool false, undef, undef, undef, .bool false, .float .f32 h, .pointer (some ⟨Bx, 3, none⟩), .pointer (some ⟨Bx, 3, none⟩), .float .f32 (x ((j.1 + 1) * 3)), .bool false, undef, undef, undef, .bool true, .float .f32 h, .pointer (some ⟨Bx, 0, none⟩), .pointer (some ⟨Bx, 0, none⟩), .float .f32 (x (j.1 * 3)), .bool true, .bool true, .float .f32 h, .pointer (some ⟨Bx, 3, none⟩), .pointer (some ⟨Bx, 3, none⟩), .float .f32 (x ((j.1 + 1) * 3)), .bool true, .bool true, .pointer (some ⟨Bx, 0, none⟩), .pointer (some ⟨Bx, 1, none⟩), undef, .pointer (some ⟨Bx, 3, none⟩), .pointer (some ⟨Bx, 4, none⟩), undef, undef, .pointer (some ⟨Bx, 0, none⟩), .pointer (some ⟨Bx, 0, none⟩), .float .f32 (x (j.1 * 3)), undef, .agg #[.float .f32 (x (j.1 * 3)), .float .f32 (x (j.1 * 3 + 1)), .float .f32 (x (j.1 * 3 + 2)), .float .f32 (x ((j.1 + 1) * 3)), .float .f32 (x ((j.1 + 1) * 3 + 1)), .float .f32 (x ((j.1 + 1) * 3 + 2))], undef, undef, undef, undef, undef, undef], defers := [] }) Wd := fun Wd hb => by
              rw [← hG]
              have bXd := (hb.block _ (lt_of_block bX)).trans bX
              have kd := kW.out.stay hb
              have hHd := kd.at (x := (w.heap.size, #[.float .f32 h], 23)) (by simp)
              refine wpAnyIn_ready (rs := [2, 5, 6, 12]) (by kernel_rfl) (by simp) ?_
              refine readIn 2 _ _ (.agg #[.float .f32 (x (j.1 * 3 + 1)), .float .f32 (x (j.1 * 3 + 2))]) rfl rfl (by rfl) (run_load_mid 44 _ Bx 1 [.float .f32 (x (j.1 * 3 + 1)), .float .f32 (x (j.1 * 3 + 2))] rfl (range2 ((cell_of_row _ Bx 1 _ _ _ bXd).trans rfl) ((cell_of_row _ Bx 2 _ _ _ bXd).trans rfl)) _ Try.underlying44 rfl info_air) rfl rfl rfl ?_ ?_
              · simp only [Act.put, List.setIfInBounds_toArray, List.set_cons_zero, List.set_cons_succ]
                exact (hG _ _ _ _).mpr (s29b Wd hb)
              refine readIn 5 _ _ (.agg #[.float .f32 (x ((j.1 + 1) * 3 + 1)), .float .f32 (x ((j.1 + 1) * 3 + 2))]) rfl rfl (by rfl) (run_load_mid 44 _ Bx 4 [.float .f32 (x ((j.1 + 1) * 3 + 1)), .float .f32 (x ((j.1 + 1) * 3 + 2))] rfl (range2 ((cell_of_row _ Bx 4 _ _ _ bXd).trans rfl) ((cell_of_row _ Bx 5 _ _ _ bXd).trans rfl)) _ Try.underlying44 rfl info_air) rfl rfl rfl ?_ ?_
              · simp only [Act.put, List.setIfInBounds_toArray, List.set_cons_zero, List.set_cons_succ]
                exact (hG _ _ _ _).mpr (s59b Wd hb)
              refine readIn 6 _ _ (.float .f32 h) rfl rfl (by rfl) (run_load_cell 23 _ ⟨w.heap.size, 0, none⟩ _ rfl (run_loadVar_one Try.underlying23 rfl ((cell_of_row _ _ 0 _ _ _ hHd).trans rfl))) rfl rfl rfl ?_ ?_
              · simp only [Act.put, List.setIfInBounds_toArray, List.set_cons_zero, List.set_cons_succ]
                refine takeIn 10 _ _ (.float .f32 (fsub h (x (j.1 * 3)))) rfl rfl (by rfl) (by kernel_rfl) (by kernel_rfl) (by kernel_rfl) (fun w => run_binop_val _ _ _ _ (by rfl) (by rfl) (by simp [eqGuard]) (r1 w)) (fun _ => rfl) rfl rfl ?_
                simp only [Act.put, List.setIfInBounds_toArray, List.set_cons_zero, List.set_cons_succ]
                exact (hG _ _ _ _).mpr (s69b Wd hb)
              refine callIn 12 _ _ (.float .f32 (dpW x j.1)) rfl rfl (by rfl) 158 #[.agg #[.float .f32 (x (j.1 * 3)), .float .f32 (x (j.1 * 3 + 1)), .float .f32 (x (j.1 * 3 + 2)), .float .f32 (x ((j.1 + 1) * 3)), .float .f32 (x ((j.1 + 1) * 3 + 1)), .float .f32 (x ((j.1 + 1) * 3 + 2))]] (by unfold execOp; go_simp) (fun _ _ => trivial) (fun hh => by cases hh) (fun w2 => Below Wd.heap.size Wd w2) (callsIn_wide.2 (iDepth x j.1 HAt.out.d2 Wd)) rfl rfl (fun w2 hb2 => ?_) AllReadyIn.nil
              simp only [Act.put, List.setIfInBounds_toArray, List.set_cons_zero, List.set_cons_succ]
              exact (hG _ _ _ _).mpr (s9bc w2 (hb.trans (hb2.mono hb.size)))
            have sbc : ∀ Wd, Below W.heap.size W Wd → G 11 #[true, true, false, true, true, false, false, true, true, false, false, true, true, false, false, false, false, false, false] ({ tmps := #[.slice p n cap, .float .f32 h, undef, .pointer (some ⟨w.heap.size, 0, none⟩), .pointer (some ⟨w.heap.size + 1, 0, none⟩), .pointer (some ⟨w.heap.size + 1 + 1, 0, none⟩), undef, .pointer (some ⟨Bx, 0, none⟩), .slice p n cap, .bool true, .bool false, undef, .slice p n cap, .func (.func 159) #[] #[.pointer (some ⟨w1.heap.size, 0, none⟩)], .int .i64 (j.1 : Int), .agg #[.float .f32 (x (j.1 * 3)), .float .f32 (x (j.1 * 3 + 1)), .float .f32 (x (j.1 * 3 + 2)), .float .f32 (x ((j.1 + 1) * 3)), .float .f32 (x ((j.1 + 1) * 3 + 1)), .float .f32 (x ((j.1 + 1) * 3 + 2))], .bool false, .float .f32 h, .pointer (some ⟨Bx, 0, none⟩), .pointer (some ⟨Bx, 0, none⟩), .float .f32 (x (j.1 * 3)), .bool false, undef, undef, undef, .bool false, .float .f32 h, .pointer (some ⟨Bx, 3, none⟩), .pointer (some ⟨Bx, 3, none⟩), .float .f32 (x ((j.1 + 1) * 3)), .bool false, undef, undef, undef, .bool true, .float .f32 h, .pointer (some ⟨Bx, 0, none⟩), .pointer (some ⟨Bx, 0, none⟩), .float .f32 (x (j.1 * 3)), .bool true, .bool true, .float .f32 h, .pointer (some ⟨Bx, 3, none⟩), .pointer (some ⟨Bx, 3, none⟩), .float .f32 (x ((j.1 + 1) * 3)), .bool true, .bool true, .pointer (some ⟨Bx, 0, none⟩), .pointer (some ⟨Bx, 1, none⟩), undef, .pointer (some ⟨Bx, 3, none⟩), .pointer (some ⟨Bx, 4, none⟩), undef, undef, .pointer (some ⟨Bx, 0, none⟩), .pointer (some ⟨Bx, 0, none⟩), undef, undef, .agg #[.float .f32 (x (j.1 * 3)), .float .f32 (x (j.1 * 3 + 1)), .float .f32 (x (j.1 * 3 + 2)), .float .f32 (x ((j.1 + 1) * 3)), .float .f32 (x ((j.1 + 1) * 3 + 1)), .float .f32 (x ((j.1 + 1) * 3 + 2))], .float .f32 (dpW x j.1), undef, undef, undef, undef, undef], defers := [] }) Wd := fun Wd hb => by
              rw [← hG]
              have bXd := (hb.block _ (lt_of_block bX)).trans bX
              have kd := kW.out.stay hb
              have hHd := kd.at (x := (w.heap.size, #[.float .f32 h], 23)) (by simp)
              refine wpAnyIn_ready (rs := [2, 5, 6, 9]) (by kernel_rfl) (by simp) ?_
              refine readIn 2 _ _ (.agg #[.float .f32 (x (j.1 * 3 + 1)), .float .f32 (x (j.1 * 3 + 2))]) rfl rfl (by rfl) (run_load_mid 44 _ Bx 1 [.float .f32 (x (j.1 * 3 + 1)), .float .f32 (x (j.1 * 3 + 2))] rfl (range2 ((cell_of_row _ Bx 1 _ _ _ bXd).trans rfl) ((cell_of_row _ Bx 2 _ _ _ bXd).trans rfl)) _ Try.underlying44 rfl info_air) rfl rfl rfl ?_ ?_
              · simp only [Act.put, List.setIfInBounds_toArray, List.set_cons_zero, List.set_cons_succ]
                exact (hG _ _ _ _).mpr (s2bc Wd hb)
              refine readIn 5 _ _ (.agg #[.float .f32 (x ((j.1 + 1) * 3 + 1)), .float .f32 (x ((j.1 + 1) * 3 + 2))]) rfl rfl (by rfl) (run_load_mid 44 _ Bx 4 [.float .f32 (x ((j.1 + 1) * 3 + 1)), .float .f32 (x ((j.1 + 1) * 3 + 2))] rfl (range2 ((cell_of_row _ Bx 4 _ _ _ bXd).trans rfl) ((cell_of_row _ Bx 5 _ _ _ bXd).trans rfl)) _ Try.underlying44 rfl info_air) rfl rfl rfl ?_ ?_
              · simp only [Act.put, List.setIfInBounds_toArray, List.set_cons_zero, List.set_cons_succ]
                exact (hG _ _ _ _).mpr (s5bc Wd hb)
              refine readIn 6 _ _ (.float .f32 h) rfl rfl (by rfl) (run_load_cell 23 _ ⟨w.heap.size, 0, none⟩ _ rfl (run_loadVar_one Try.underlying23 rfl ((cell_of_row _ _ 0 _ _ _ hHd).trans rfl))) rfl rfl rfl ?_ ?_
              · simp only [Act.put, List.setIfInBounds_toArray, List.set_cons_zero, List.set_cons_succ]
                exact (hG _ _ _ _).mpr (s6bc Wd hb)
              refine readIn 9 _ _ (.float .f32 (x (j.1 * 3))) rfl rfl (by rfl) (run_load_cell 23 _ ⟨Bx, 0, none⟩ _ rfl (run_loadVar_one Try.underlying23 rfl ((cell_of_row _ Bx 0 _ _ _ bXd).trans rfl))) rfl rfl rfl ?_ AllReadyIn.nil
              simp only [Act.put, List.setIfInBounds_toArray, List.set_cons_zero, List.set_cons_succ]
              exact (hG _ _ _ _).mpr (s9bc Wd hb)
            have s2 : ∀ Wd, Below W.heap.size W Wd → G 12 #[true, true, true, true, true, false, false, true, true, false, false, false, false, false, false, false, false, false, false] ({ tmps := #[.slice p n cap, .float .f32 h, undef, .pointer (some ⟨w.heap.size, 0, none⟩), .pointer (some ⟨w.heap.size + 1, 0, none⟩), .pointer (some ⟨w.heap.size + 1 + 1, 0, none⟩), undef, .pointer (some ⟨Bx, 0, none⟩), .slice p n cap, .bool true, .bool false, undef, .slice p n cap, .func (.func 159) #[] #[.pointer (some ⟨w1.heap.size, 0, none⟩)], .int .i64 (j.1 : Int), .agg #[.float .f32 (x (j.1 * 3)), .float .f32 (x (j.1 * 3 + 1)), .float .f32 (x (j.1 * 3 + 2)), .float .f32 (x ((j.1 + 1) * 3)), .float .f32 (x ((j.1 + 1) * 3 + 1)), .float .f32 (x ((j.1 + 1) * 3 + 2))], .bool false, .float .f32 h, .pointer (some ⟨Bx, 0, none⟩), .pointer (some ⟨Bx, 0, none⟩), .float .f32 (x (j.1 * 3)), .bool false, undef, undef, undef, .bool false, .float .f32 h, .pointer (some ⟨Bx, 3, none⟩), .pointer (some ⟨Bx, 3, none⟩), .float .f32 (x ((j.1 + 1) * 3)), .bool false, undef, undef, undef, .bool true, .float .f32 h, .pointer (some ⟨Bx, 0, none⟩), .pointer (some ⟨Bx, 0, none⟩), .float .f32 (x (j.1 * 3)), .bool true, .bool true, .float .f32 h, .pointer (some ⟨Bx, 3, none⟩), .pointer (some ⟨Bx, 3, none⟩), .float .f32 (x ((j.1 + 1) * 3)), .bool true, .bool true, .pointer (some ⟨Bx, 0, none⟩), .pointer (some ⟨Bx, 1, none⟩), .agg #[.float .f32 (x (j.1 * 3 + 1)), .float .f32 (x (j.1 * 3 + 2))], .pointer (some ⟨Bx, 3, none⟩), .pointer (some ⟨Bx, 4, none⟩), undef, undef, .pointer (some ⟨Bx, 0, none⟩), .pointer (some ⟨Bx, 0, none⟩), undef, undef, undef, undef, undef, undef, undef, undef, undef], defers := [] }) Wd := fun Wd hb => by
              rw [← hG]
              have bXd := (hb.block _ (lt_of_block bX)).trans bX
              have kd := kW.out.stay hb
              have hHd := kd.at (x := (w.heap.size, #[.float .f32 h], 23)) (by simp)
              refine wpAnyIn_ready (rs := [5, 6, 9, 11]) (by kernel_rfl) (by simp) ?_
              refine readIn 5 _ _ (.agg #[.float .f32 (x ((j.1 + 1) * 3 + 1)), .float .f32 (x ((j.1 + 1) * 3 + 2))]) rfl rfl (by rfl) (run_load_mid 44 _ Bx 4 [.float .f32 (x ((j.1 + 1) * 3 + 1)), .float .f32 (x ((j.1 + 1) * 3 + 2))] rfl (range2 ((cell_of_row _ Bx 4 _ _ _ bXd).trans rfl) ((cell_of_row _ Bx 5 _ _ _ bXd).trans rfl)) _ Try.underlying44 rfl info_air) rfl rfl rfl ?_ ?_
              · simp only [Act.put, List.setIfInBounds_toArray, List.set_cons_zero, List.set_cons_succ]
                exact (hG _ _ _ _).mpr (s25 Wd hb)
              refine readIn 6 _ _ (.float .f32 h) rfl rfl (by rfl) (run_load_cell 23 _ ⟨w.heap.size, 0, none⟩ _ rfl (run_loadVar_one Try.underlying23 rfl ((cell_of_row _ _ 0 _ _ _ hHd).trans rfl))) rfl rfl rfl ?_ ?_
              · simp only [Act.put, List.setIfInBounds_toArray, List.set_cons_zero, List.set_cons_succ]
                exact (hG _ _ _ _).mpr (s26 Wd hb)
              refine readIn 9 _ _ (.float .f32 (x (j.1 * 3))) rfl rfl (by rfl) (run_load_cell 23 _ ⟨Bx, 0, none⟩ _ rfl (run_loadVar_one Try.underlying23 rfl ((cell_of_row _ Bx 0 _ _ _ bXd).trans rfl))) rfl rfl rfl ?_ ?_
              · simp only [Act.put, List.setIfInBounds_toArray, List.set_cons_zero, List.set_cons_succ]
                exact (hG _ _ _ _).mpr (s29 Wd hb)
              refine readIn 11 _ _ (.agg #[.float .f32 (x (j.1 * 3)), .float .f32 (x (j.1 * 3 + 1)), .float .f32 (x (j.1 * 3 + 2)), .float .f32 (x ((j.1 + 1) * 3)), .float .f32 (x ((j.1 + 1) * 3 + 1)), .float .f32 (x ((j.1 + 1) * 3 + 2))]) rfl rfl (by rfl) (run_load_mid 120 _ Bx 0 [.float .f32 (x (j.1 * 3)), .float .f32 (x (j.1 * 3 + 1)), .float .f32 (x (j.1 * 3 + 2)), .float .f32 (x ((j.1 + 1) * 3)), .float .f32 (x ((j.1 + 1) * 3 + 1)), .float .f32 (x ((j.1 + 1) * 3 + 2))] rfl (rowRange bXd) _ Try.underlying120 rfl info_lay) rfl rfl rfl ?_ AllReadyIn.nil
              simp only [Act.put, List.setIfInBounds_toArray, List.set_cons_zero, List.set_cons_succ]
              exact (hG _ _ _ _).mpr (s2b Wd hb)
            have s5 : ∀ Wd, Below W.heap.size W Wd → G 12 #[true, true, false, true, true, true, false, true, true, false, false, false, false, false, false, false, false, false, false] ({ tmps := #[.slice p n cap, .float .f32 h, undef, .pointer (some ⟨w.heap.size, 0, none⟩), .pointer (some ⟨w.heap.size + 1, 0, none⟩), .pointer (some ⟨w.heap.size + 1 + 1, 0, none⟩), undef, .pointer (some ⟨Bx, 0, none⟩), .slice p n cap, .bool true, .bool false, undef, .slice p n cap, .func (.func 159) #[] #[.pointer (some ⟨w1.heap.size, 0, none⟩)], .int .i64 (j.1 : Int), .agg #[.float .f32 (x (j.1 * 3)), .float .f32 (x (j.1 * 3 + 1)), .float .f32 (x (j.1 * 3 + 2)), .float .f32 (x ((j.1 + 1) * 3)), .float .f32 (x ((j.1 + 1) * 3 + 1)), .float .f32 (x ((j.1 + 1) * 3 + 2))], .bool false, .float .f32 h, .pointer (some ⟨Bx, 0, none⟩), .pointer (some ⟨Bx, 0, none⟩), .float .f32 (x (j.1 * 3)), .bool false, undef, undef, undef, .bool false, .float .f32 h, .pointer (some ⟨Bx, 3, none⟩), .pointer (some ⟨Bx, 3, none⟩), .float .f32 (x ((j.1 + 1) * 3)), .bool false, undef, undef, undef, .bool true, .float .f32 h, .pointer (some ⟨Bx, 0, none⟩), .pointer (some ⟨Bx, 0, none⟩), .float .f32 (x (j.1 * 3)), .bool true, .bool true, .float .f32 h, .pointer (some ⟨Bx, 3, none⟩), .pointer (some ⟨Bx, 3, none⟩), .float .f32 (x ((j.1 + 1) * 3)), .bool true, .bool true, .pointer (some ⟨Bx, 0, none⟩), .pointer (some ⟨Bx, 1, none⟩), undef, .pointer (some ⟨Bx, 3, none⟩), .pointer (some ⟨Bx, 4, none⟩), .agg #[.float .f32 (x ((j.1 + 1) * 3 + 1)), .float .f32 (x ((j.1 + 1) * 3 + 2))], undef, .pointer (some ⟨Bx, 0, none⟩), .pointer (some ⟨Bx, 0, none⟩), undef, undef, undef, undef, undef, undef, undef, undef, undef], defers := [] }) Wd := fun Wd hb => by
              rw [← hG]
              have bXd := (hb.block _ (lt_of_block bX)).trans bX
              have kd := kW.out.stay hb
              have hHd := kd.at (x := (w.heap.size, #[.float .f32 h], 23)) (by simp)
              refine wpAnyIn_ready (rs := [2, 6, 9, 11]) (by kernel_rfl) (by simp) ?_
              refine readIn 2 _ _ (.agg #[.float .f32 (x (j.1 * 3 + 1)), .float .f32 (x (j.1 * 3 + 2))]) rfl rfl (by rfl) (run_load_mid 44 _ Bx 1 [.float .f32 (x (j.1 * 3 + 1)), .float .f32 (x (j.1 * 3 + 2))] rfl (range2 ((cell_of_row _ Bx 1 _ _ _ bXd).trans rfl) ((cell_of_row _ Bx 2 _ _ _ bXd).trans rfl)) _ Try.underlying44 rfl info_air) rfl rfl rfl ?_ ?_
              · simp only [Act.put, List.setIfInBounds_toArray, List.set_cons_zero, List.set_cons_succ]
                exact (hG _ _ _ _).mpr (s25 Wd hb)
              refine readIn 6 _ _ (.float .f32 h) rfl rfl (by rfl) (run_load_cell 23 _ ⟨w.heap.size, 0, none⟩ _ rfl (run_loadVar_one Try.underlying23 rfl ((cell_of_row _ _ 0 _ _ _ hHd).trans rfl))) rfl rfl rfl ?_ ?_
              · simp only [Act.put, List.setIfInBounds_toArray, List.set_cons_zero, List.set_cons_succ]
                exact (hG _ _ _ _).mpr (s56 Wd hb)
              refine readIn 9 _ _ (.float .f32 (x (j.1 * 3))) rfl rfl (by rfl) (run_load_cell 23 _ ⟨Bx, 0, none⟩ _ rfl (run_loadVar_one Try.underlying23 rfl ((cell_of_row _ Bx 0 _ _ _ bXd).trans rfl))) rfl rfl rfl ?_ ?_
              · simp only [Act.put, List.setIfInBounds_toArray, List.set_cons_zero, List.set_cons_succ]
                exact (hG _ _ _ _).mpr (s59 Wd hb)
              refine readIn 11 _ _ (.agg #[.float .f32 (x (j.1 * 3)), .float .f32 (x (j.1 * 3 + 1)), .float .f32 (x (j.1 * 3 + 2)), .float .f32 (x ((j.1 + 1) * 3)), .float .f32 (x ((j.1 + 1) * 3 + 1)), .float .f32 (x ((j.1 + 1) * 3 + 2))]) rfl rfl (by rfl) (run_load_mid 120 _ Bx 0 [.float .f32 (x (j.1 * 3)), .float .f32 (x (j.1 * 3 + 1)), .float .f32 (x (j.1 * 3 + 2)), .float .f32 (x ((j.1 + 1) * 3)), .float .f32 (x ((j.1 + 1) * 3 + 1)), .float .f32 (x ((j.1 + 1) * 3 + 2))] rfl (rowRange bXd) _ Try.underlying120 rfl info_lay) rfl rfl rfl ?_ AllReadyIn.nil
              simp only [Act.put, List.setIfInBounds_toArray, List.set_cons_zero, List.set_cons_succ]
              exact (hG _ _ _ _).mpr (s5b Wd hb)
            have s6 : ∀ Wd, Below W.heap.size W Wd → G 12 #[true, true, false, true, true, false, true, true, true, false, false, false, false, false, false, false, false, false, false] ({ tmps := #[.slice p n cap, .float .f32 h, undef, .pointer (some ⟨w.heap.size, 0, none⟩), .pointer (some ⟨w.heap.size + 1, 0, none⟩), .pointer (some ⟨w.heap.size + 1 + 1, 0, none⟩), undef, .pointer (some ⟨Bx, 0, none⟩), .slice p n cap, .bool true, .bool false, undef, .slice p n cap, .func (.func 159) #[] #[.pointer (some ⟨w1.heap.size, 0, none⟩)], .int .i64 (j.1 : Int), .agg #[.float .f32 (x (j.1 * 3)), .float .f32 (x (j.1 * 3 + 1)), .float .f32 (x (j.1 * 3 + 2)), .float .f32 (x ((j.1 + 1) * 3)), .float .f32 (x ((j.1 + 1) * 3 + 1)), .float .f32 (x ((j.1 + 1) * 3 + 2))], .bool false, .float .f32 h, .pointer (some ⟨Bx, 0, none⟩), .pointer (some ⟨Bx, 0, none⟩), .float .f32 (x (j.1 * 3)), .bool false, undef, undef, undef, .bool false, .float .f32 h, .pointer (some ⟨Bx, 3, none⟩), .pointer (some ⟨Bx, 3, none⟩), .float .f32 (x ((j.1 + 1) * 3)), .bool false, undef, undef, undef, .bool true, .float .f32 h, .pointer (some ⟨Bx, 0, none⟩), .pointer (some ⟨Bx, 0, none⟩), .float .f32 (x (j.1 * 3)), .bool true, .bool true, .float .f32 h, .pointer (some ⟨Bx, 3, none⟩), .pointer (some ⟨Bx, 3, none⟩), .float .f32 (x ((j.1 + 1) * 3)), .bool true, .bool true, .pointer (some ⟨Bx, 0, none⟩), .pointer (some ⟨Bx, 1, none⟩), undef, .pointer (some ⟨Bx, 3, none⟩), .pointer (some ⟨Bx, 4, none⟩), undef, .float .f32 h, .pointer (some ⟨Bx, 0, none⟩), .pointer (some ⟨Bx, 0, none⟩), undef, undef, undef, undef, undef, undef, undef, undef, undef], defers := [] }) Wd := fun Wd hb => by
              rw [← hG]
              have bXd := (hb.block _ (lt_of_block bX)).trans bX
              have kd := kW.out.stay hb
              have hHd := kd.at (x := (w.heap.size, #[.float .f32 h], 23)) (by simp)
              refine wpAnyIn_ready (rs := [2, 5, 9, 11]) (by kernel_rfl) (by simp) ?_
              refine readIn 2 _ _ (.agg #[.float .f32 (x (j.1 * 3 + 1)), .float .f32 (x (j.1 * 3 + 2))]) rfl rfl (by rfl) (run_load_mid 44 _ Bx 1 [.float .f32 (x (j.1 * 3 + 1)), .float .f32 (x (j.1 * 3 + 2))] rfl (range2 ((cell_of_row _ Bx 1 _ _ _ bXd).trans rfl) ((cell_of_row _ Bx 2 _ _ _ bXd).trans rfl)) _ Try.underlying44 rfl info_air) rfl rfl rfl ?_ ?_
              · simp only [Act.put, List.setIfInBounds_toArray, List.set_cons_zero, List.set_cons_succ]
                exact (hG _ _ _ _).mpr (s26 Wd hb)
              refine readIn 5 _ _ (.agg #[.float .f32 (x ((j.1 + 1) * 3 + 1)), .float .f32 (x ((j.1 + 1) * 3 + 2))]) rfl rfl (by rfl) (run_load_mid 44 _ Bx 4 [.float .f32 (x ((j.1 + 1) * 3 + 1)), .float .f32 (x ((j.1 + 1) * 3 + 2))] rfl (range2 ((cell_of_row _ Bx 4 _ _ _ bXd).trans rfl) ((cell_of_row _ Bx 5 _ _ _ bXd).trans rfl)) _ Try.underlying44 rfl info_air) rfl rfl rfl ?_ ?_
              · simp only [Act.put, List.setIfInBounds_toArray, List.set_cons_zero, List.set_cons_succ]
                exact (hG _ _ _ _).mpr (s56 Wd hb)
              refine readIn 9 _ _ (.float .f32 (x (j.1 * 3))) rfl rfl (by rfl) (run_load_cell 23 _ ⟨Bx, 0, none⟩ _ rfl (run_loadVar_one Try.underlying23 rfl ((cell_of_row _ Bx 0 _ _ _ bXd).trans rfl))) rfl rfl rfl ?_ ?_
              · simp only [Act.put, List.setIfInBounds_toArray, List.set_cons_zero, List.set_cons_succ]
                refine takeIn 10 _ _ (.float .f32 (fsub h (x (j.1 * 3)))) rfl rfl (by rfl) (by kernel_rfl) (by kernel_rfl) (by kernel_rfl) (fun w => run_binop_val _ _ _ _ (by rfl) (by rfl) (by simp [eqGuard]) (r1 w)) (fun _ => rfl) rfl rfl ?_
                simp only [Act.put, List.setIfInBounds_toArray, List.set_cons_zero, List.set_cons_succ]
                exact (hG _ _ _ _).mpr (s69 Wd hb)
              refine readIn 11 _ _ (.agg #[.float .f32 (x (j.1 * 3)), .float .f32 (x (j.1 * 3 + 1)), .float .f32 (x (j.1 * 3 + 2)), .float .f32 (x ((j.1 + 1) * 3)), .float .f32 (x ((j.1 + 1) * 3 + 1)), .float .f32 (x ((j.1 + 1) * 3 + 2))]) rfl rfl (by rfl) (run_load_mid 120 _ Bx 0 [.float .f32 (x (j.1 * 3)), .float .f32 (x (j.1 * 3 + 1)), .float .f32 (x (j.1 * 3 + 2)), .float .f32 (x ((j.1 + 1) * 3)), .float .f32 (x ((j.1 + 1) * 3 + 1)), .float .f32 (x ((j.1 + 1) * 3 + 2))] rfl (rowRange bXd) _ Try.underlying120 rfl info_lay) rfl rfl rfl ?_ AllReadyIn.nil
              simp only [Act.put, List.setIfInBounds_toArray, List.set_cons_zero, List.set_cons_succ]
              exact (hG _ _ _ _).mpr (s6b Wd hb)
            have s9 : ∀ Wd, Below W.heap.size W Wd → G 12 #[true, true, false, true, true, false, false, true, true, true, false, false, false, false, false, false, false, false, false] ({ tmps := #[.slice p n cap, .float .f32 h, undef, .pointer (some ⟨w.heap.size, 0, none⟩), .pointer (some ⟨w.heap.size + 1, 0, none⟩), .pointer (some ⟨w.heap.size + 1 + 1, 0, none⟩), undef, .pointer (some ⟨Bx, 0, none⟩), .slice p n cap, .bool true, .bool false, undef, .slice p n cap, .func (.func 159) #[] #[.pointer (some ⟨w1.heap.size, 0, none⟩)], .int .i64 (j.1 : Int), .agg #[.float .f32 (x (j.1 * 3)), .float .f32 (x (j.1 * 3 + 1)), .float .f32 (x (j.1 * 3 + 2)), .float .f32 (x ((j.1 + 1) * 3)), .float .f32 (x ((j.1 + 1) * 3 + 1)), .float .f32 (x ((j.1 + 1) * 3 + 2))], .bool false, .float .f32 h, .pointer (some ⟨Bx, 0, none⟩), .pointer (some ⟨Bx, 0, none⟩), .float .f32 (x (j.1 * 3)), .bool false, undef, undef, undef, .bool false, .float .f32 h, .pointer (some ⟨Bx, 3, none⟩), .pointer (some ⟨Bx, 3, none⟩), .float .f32 (x ((j.1 + 1) * 3)), .bool false, undef, undef, undef, .bool true, .float .f32 h, .pointer (some ⟨Bx, 0, none⟩), .pointer (some ⟨Bx, 0, none⟩), .float .f32 (x (j.1 * 3)), .bool true, .bool true, .float .f32 h, .pointer (some ⟨Bx, 3, none⟩), .pointer (some ⟨Bx, 3, none⟩), .float .f32 (x ((j.1 + 1) * 3)), .bool true, .bool true, .pointer (some ⟨Bx, 0, none⟩), .pointer (some ⟨Bx, 1, none⟩), undef, .pointer (some ⟨Bx, 3, none⟩), .pointer (some ⟨Bx, 4, none⟩), undef, undef, .pointer (some ⟨Bx, 0, none⟩), .pointer (some ⟨Bx, 0, none⟩), .float .f32 (x (j.1 * 3)), undef, undef, undef, undef, undef, undef, undef, undef], defers := [] }) Wd := fun Wd hb => by
              rw [← hG]
              have bXd := (hb.block _ (lt_of_block bX)).trans bX
              have kd := kW.out.stay hb
              have hHd := kd.at (x := (w.heap.size, #[.float .f32 h], 23)) (by simp)
              refine wpAnyIn_ready (rs := [2, 5, 6, 11]) (by kernel_rfl) (by simp) ?_
              refine readIn 2 _ _ (.agg #[.float .f32 (x (j.1 * 3 + 1)), .float .f32 (x (j.1 * 3 + 2))]) rfl rfl (by rfl) (run_load_mid 44 _ Bx 1 [.float .f32 (x (j.1 * 3 + 1)), .float .f32 (x (j.1 * 3 + 2))] rfl (range2 ((cell_of_row _ Bx 1 _ _ _ bXd).trans rfl) ((cell_of_row _ Bx 2 _ _ _ bXd).trans rfl)) _ Try.underlying44 rfl info_air) rfl rfl rfl ?_ ?_
              · simp only [Act.put, List.setIfInBounds_toArray, List.set_cons_zero, List.set_cons_succ]
                exact (hG _ _ _ _).mpr (s29 Wd hb)
              refine readIn 5 _ _ (.agg #[.float .f32 (x ((j.1 + 1) * 3 + 1)), .float .f32 (x ((j.1 + 1) * 3 + 2))]) rfl rfl (by rfl) (run_load_mid 44 _ Bx 4 [.float .f32 (x ((j.1 + 1) * 3 + 1)), .float .f32 (x ((j.1 + 1) * 3 + 2))] rfl (range2 ((cell_of_row _ Bx 4 _ _ _ bXd).trans rfl) ((cell_of_row _ Bx 5 _ _ _ bXd).trans rfl)) _ Try.underlying44 rfl info_air) rfl rfl rfl ?_ ?_
              · simp only [Act.put, List.setIfInBounds_toArray, List.set_cons_zero, List.set_cons_succ]
                exact (hG _ _ _ _).mpr (s59 Wd hb)
              refine readIn 6 _ _ (.float .f32 h) rfl rfl (by rfl) (run_load_cell 23 _ ⟨w.heap.size, 0, none⟩ _ rfl (run_loadVar_one Try.underlying23 rfl ((cell_of_row _ _ 0 _ _ _ hHd).trans rfl))) rfl rfl rfl ?_ ?_
              · simp only [Act.put, List.setIfInBounds_toArray, List.set_cons_zero, List.set_cons_succ]
                refine takeIn 10 _ _ (.float .f32 (fsub h (x (j.1 * 3)))) rfl rfl (by rfl) (by kernel_rfl) (by kernel_rfl) (by kernel_rfl) (fun w => run_binop_val _ _ _ _ (by rfl) (by rfl) (by simp [eqGuard]) (r1 w)) (fun _ => rfl) rfl rfl ?_
                simp only [Act.put, List.setIfInBounds_toArray, List.set_cons_zero, List.set_cons_succ]
                exact (hG _ _ _ _).mpr (s69 Wd hb)
              refine readIn 11 _ _ (.agg #[.float .f32 (x (j.1 * 3)), .float .f32 (x (j.1 * 3 + 1)), .float .f32 (x (j.1 * 3 + 2)), .float .f32 (x ((j.1 + 1) * 3)), .float .f32 (x ((j.1 + 1) * 3 + 1)), .float .f32 (x ((j.1 + 1) * 3 + 2))]) rfl rfl (by rfl) (run_load_mid 120 _ Bx 0 [.float .f32 (x (j.1 * 3)), .float .f32 (x (j.1 * 3 + 1)), .float .f32 (x (j.1 * 3 + 2)), .float .f32 (x ((j.1 + 1) * 3)), .float .f32 (x ((j.1 + 1) * 3 + 1)), .float .f32 (x ((j.1 + 1) * 3 + 2))] rfl (rowRange bXd) _ Try.underlying120 rfl info_lay) rfl rfl rfl ?_ AllReadyIn.nil
              simp only [Act.put, List.setIfInBounds_toArray, List.set_cons_zero, List.set_cons_succ]
              exact (hG _ _ _ _).mpr (s9b Wd hb)
            have sb : ∀ Wd, Below W.heap.size W Wd → G 12 #[true, true, false, true, true, false, false, true, true, false, false, true, false, false, false, false, false, false, false] ({ tmps := #[.slice p n cap, .float .f32 h, undef, .pointer (some ⟨w.heap.size, 0, none⟩), .pointer (some ⟨w.heap.size + 1, 0, none⟩), .pointer (some ⟨w.heap.size + 1 + 1, 0, none⟩), undef, .pointer (some ⟨Bx, 0, none⟩), .slice p n cap, .bool true, .bool false, undef, .slice p n cap, .func (.func 159) #[] #[.pointer (some ⟨w1.heap.size, 0, none⟩)], .int .i64 (j.1 : Int), .agg #[.float .f32 (x (j.1 * 3)), .float .f32 (x (j.1 * 3 + 1)), .float .f32 (x (j.1 * 3 + 2)), .float .f32 (x ((j.1 + 1) * 3)), .float .f32 (x ((j.1 + 1) * 3 + 1)), .float .f32 (x ((j.1 + 1) * 3 + 2))], .bool false, .float .f32 h, .pointer (some ⟨Bx, 0, none⟩), .pointer (some ⟨Bx, 0, none⟩), .float .f32 (x (j.1 * 3)), .bool false, undef, undef, undef, .bool false, .float .f32 h, .pointer (some ⟨Bx, 3, none⟩), .pointer (some ⟨Bx, 3, none⟩), .float .f32 (x ((j.1 + 1) * 3)), .bool false, undef, undef, undef, .bool true, .float .f32 h, .pointer (some ⟨Bx, 0, none⟩), .pointer (some ⟨Bx, 0, none⟩), .float .f32 (x (j.1 * 3)), .bool true, .bool true, .float .f32 h, .pointer (some ⟨Bx, 3, none⟩), .pointer (some ⟨Bx, 3, none⟩), .float .f32 (x ((j.1 + 1) * 3)), .bool true, .bool true, .pointer (some ⟨Bx, 0, none⟩), .pointer (some ⟨Bx, 1, none⟩), undef, .pointer (some ⟨Bx, 3, none⟩), .pointer (some ⟨Bx, 4, none⟩), undef, undef, .pointer (some ⟨Bx, 0, none⟩), .pointer (some ⟨Bx, 0, none⟩), undef, undef, .agg #[.float .f32 (x (j.1 * 3)), .float .f32 (x (j.1 * 3 + 1)), .float .f32 (x (j.1 * 3 + 2)), .float .f32 (x ((j.1 + 1) * 3)), .float .f32 (x ((j.1 + 1) * 3 + 1)), .float .f32 (x ((j.1 + 1) * 3 + 2))], undef, undef, undef, undef, undef, undef], defers := [] }) Wd := fun Wd hb => by
              rw [← hG]
              have bXd := (hb.block _ (lt_of_block bX)).trans bX
              have kd := kW.out.stay hb
              have hHd := kd.at (x := (w.heap.size, #[.float .f32 h], 23)) (by simp)
              refine wpAnyIn_ready (rs := [2, 5, 6, 9, 12]) (by kernel_rfl) (by simp) ?_
              refine readIn 2 _ _ (.agg #[.float .f32 (x (j.1 * 3 + 1)), .float .f32 (x (j.1 * 3 + 2))]) rfl rfl (by rfl) (run_load_mid 44 _ Bx 1 [.float .f32 (x (j.1 * 3 + 1)), .float .f32 (x (j.1 * 3 + 2))] rfl (range2 ((cell_of_row _ Bx 1 _ _ _ bXd).trans rfl) ((cell_of_row _ Bx 2 _ _ _ bXd).trans rfl)) _ Try.underlying44 rfl info_air) rfl rfl rfl ?_ ?_
              · simp only [Act.put, List.setIfInBounds_toArray, List.set_cons_zero, List.set_cons_succ]
                exact (hG _ _ _ _).mpr (s2b Wd hb)
              refine readIn 5 _ _ (.agg #[.float .f32 (x ((j.1 + 1) * 3 + 1)), .float .f32 (x ((j.1 + 1) * 3 + 2))]) rfl rfl (by rfl) (run_load_mid 44 _ Bx 4 [.float .f32 (x ((j.1 + 1) * 3 + 1)), .float .f32 (x ((j.1 + 1) * 3 + 2))] rfl (range2 ((cell_of_row _ Bx 4 _ _ _ bXd).trans rfl) ((cell_of_row _ Bx 5 _ _ _ bXd).trans rfl)) _ Try.underlying44 rfl info_air) rfl rfl rfl ?_ ?_
              · simp only [Act.put, List.setIfInBounds_toArray, List.set_cons_zero, List.set_cons_succ]
                exact (hG _ _ _ _).mpr (s5b Wd hb)
              refine readIn 6 _ _ (.float .f32 h) rfl rfl (by rfl) (run_load_cell 23 _ ⟨w.heap.size, 0, none⟩ _ rfl (run_loadVar_one Try.underlying23 rfl ((cell_of_row _ _ 0 _ _ _ hHd).trans rfl))) rfl rfl rfl ?_ ?_
              · simp only [Act.put, List.setIfInBounds_toArray, List.set_cons_zero, List.set_cons_succ]
                exact (hG _ _ _ _).mpr (s6b Wd hb)
              refine readIn 9 _ _ (.float .f32 (x (j.1 * 3))) rfl rfl (by rfl) (run_load_cell 23 _ ⟨Bx, 0, none⟩ _ rfl (run_loadVar_one Try.underlying23 rfl ((cell_of_row _ Bx 0 _ _ _ bXd).trans rfl))) rfl rfl rfl ?_ ?_
              · simp only [Act.put, List.setIfInBounds_toArray, List.set_cons_zero, List.set_cons_succ]
                exact (hG _ _ _ _).mpr (s9b Wd hb)
              refine callIn 12 _ _ (.float .f32 (dpW x j.1)) rfl rfl (by rfl) 158 #[.agg #[.float .f32 (x (j.1 * 3)), .float .f32 (x (j.1 * 3 + 1)), .float .f32 (x (j.1 * 3 + 2)), .float .f32 (x ((j.1 + 1) * 3)), .float .f32 (x ((j.1 + 1) * 3 + 1)), .float .f32 (x ((j.1 + 1) * 3 + 2))]] (by unfold execOp; go_simp) (fun _ _ => trivial) (fun hh => by cases hh) (fun w2 => Below Wd.heap.size Wd w2) (callsIn_wide.2 (iDepth x j.1 HAt.out.d2 Wd)) rfl rfl (fun w2 hb2 => ?_) AllReadyIn.nil
              simp only [Act.put, List.setIfInBounds_toArray, List.set_cons_zero, List.set_cons_succ]
              exact (hG _ _ _ _).mpr (sbc w2 (hb.trans (hb2.mono hb.size)))
            have s : ∀ Wd, Below W.heap.size W Wd → G 13 #[true, true, false, true, true, false, false, true, true, false, false, false, false, false, false, false, false, false, false] ({ tmps := #[.slice p n cap, .float .f32 h, undef, .pointer (some ⟨w.heap.size, 0, none⟩), .pointer (some ⟨w.heap.size + 1, 0, none⟩), .pointer (some ⟨w.heap.size + 1 + 1, 0, none⟩), undef, .pointer (some ⟨Bx, 0, none⟩), .slice p n cap, .bool true, .bool false, undef, .slice p n cap, .func (.func 159) #[] #[.pointer (some ⟨w1.heap.size, 0, none⟩)], .int .i64 (j.1 : Int), .agg #[.float .f32 (x (j.1 * 3)), .float .f32 (x (j.1 * 3 + 1)), .float .f32 (x (j.1 * 3 + 2)), .float .f32 (x ((j.1 + 1) * 3)), .float .f32 (x ((j.1 + 1) * 3 + 1)), .float .f32 (x ((j.1 + 1) * 3 + 2))], .bool false, .float .f32 h, .pointer (some ⟨Bx, 0, none⟩), .pointer (some ⟨Bx, 0, none⟩), .float .f32 (x (j.1 * 3)), .bool false, undef, undef, undef, .bool false, .float .f32 h, .pointer (some ⟨Bx, 3, none⟩), .pointer (some ⟨Bx, 3, none⟩), .float .f32 (x ((j.1 + 1) * 3)), .bool false, undef, undef, undef, .bool true, .float .f32 h, .pointer (some ⟨Bx, 0, none⟩), .pointer (some ⟨Bx, 0, none⟩), .float .f32 (x (j.1 * 3)), .bool true, .bool true, .float .f32 h, .pointer (some ⟨Bx, 3, none⟩), .pointer (some ⟨Bx, 3, none⟩), .float .f32 (x ((j.1 + 1) * 3)), .bool true, .bool true, .pointer (some ⟨Bx, 0, none⟩), .pointer (some ⟨Bx, 1, none⟩), undef, .pointer (some ⟨Bx, 3, none⟩), .pointer (some ⟨Bx, 4, none⟩), undef, undef, .pointer (some ⟨Bx, 0, none⟩), .pointer (some ⟨Bx, 0, none⟩), undef, undef, undef, undef, undef, undef, undef, undef, undef], defers := [] }) Wd := fun Wd hb => by
              rw [← hG]
              have bXd := (hb.block _ (lt_of_block bX)).trans bX
              have kd := kW.out.stay hb
              have hHd := kd.at (x := (w.heap.size, #[.float .f32 h], 23)) (by simp)
              refine wpAnyIn_ready (rs := [2, 5, 6, 9, 11]) (by kernel_rfl) (by simp) ?_
              refine readIn 2 _ _ (.agg #[.float .f32 (x (j.1 * 3 + 1)), .float .f32 (x (j.1 * 3 + 2))]) rfl rfl (by rfl) (run_load_mid 44 _ Bx 1 [.float .f32 (x (j.1 * 3 + 1)), .float .f32 (x (j.1 * 3 + 2))] rfl (range2 ((cell_of_row _ Bx 1 _ _ _ bXd).trans rfl) ((cell_of_row _ Bx 2 _ _ _ bXd).trans rfl)) _ Try.underlying44 rfl info_air) rfl rfl rfl ?_ ?_
              · simp only [Act.put, List.setIfInBounds_toArray, List.set_cons_zero, List.set_cons_succ]
                exact (hG _ _ _ _).mpr (s2 Wd hb)
              refine readIn 5 _ _ (.agg #[.float .f32 (x ((j.1 + 1) * 3 + 1)), .float .f32 (x ((j.1 + 1) * 3 + 2))]) rfl rfl (by rfl) (run_load_mid 44 _ Bx 4 [.float .f32 (x ((j.1 + 1) * 3 + 1)), .float .f32 (x ((j.1 + 1) * 3 + 2))] rfl (range2 ((cell_of_row _ Bx 4 _ _ _ bXd).trans rfl) ((cell_of_row _ Bx 5 _ _ _ bXd).trans rfl)) _ Try.underlying44 rfl info_air) rfl rfl rfl ?_ ?_
              · simp only [Act.put, List.setIfInBounds_toArray, List.set_cons_zero, List.set_cons_succ]
                exact (hG _ _ _ _).mpr (s5 Wd hb)
              refine readIn 6 _ _ (.float .f32 h) rfl rfl (by rfl) (run_load_cell 23 _ ⟨w.heap.size, 0, none⟩ _ rfl (run_loadVar_one Try.underlying23 rfl ((cell_of_row _ _ 0 _ _ _ hHd).trans rfl))) rfl rfl rfl ?_ ?_
              · simp only [Act.put, List.setIfInBounds_toArray, List.set_cons_zero, List.set_cons_succ]
                exact (hG _ _ _ _).mpr (s6 Wd hb)
              refine readIn 9 _ _ (.float .f32 (x (j.1 * 3))) rfl rfl (by rfl) (run_load_cell 23 _ ⟨Bx, 0, none⟩ _ rfl (run_loadVar_one Try.underlying23 rfl ((cell_of_row _ Bx 0 _ _ _ bXd).trans rfl))) rfl rfl rfl ?_ ?_
              · simp only [Act.put, List.setIfInBounds_toArray, List.set_cons_zero, List.set_cons_succ]
                exact (hG _ _ _ _).mpr (s9 Wd hb)
              refine readIn 11 _ _ (.agg #[.float .f32 (x (j.1 * 3)), .float .f32 (x (j.1 * 3 + 1)), .float .f32 (x (j.1 * 3 + 2)), .float .f32 (x ((j.1 + 1) * 3)), .float .f32 (x ((j.1 + 1) * 3 + 1)), .float .f32 (x ((j.1 + 1) * 3 + 2))]) rfl rfl (by rfl) (run_load_mid 120 _ Bx 0 [.float .f32 (x (j.1 * 3)), .float .f32 (x (j.1 * 3 + 1)), .float .f32 (x (j.1 * 3 + 2)), .float .f32 (x ((j.1 + 1) * 3)), .float .f32 (x ((j.1 + 1) * 3 + 1)), .float .f32 (x ((j.1 + 1) * 3 + 2))] rfl (rowRange bXd) _ Try.underlying120 rfl info_lay) rfl rfl rfl ?_ AllReadyIn.nil
              simp only [Act.put, List.setIfInBounds_toArray, List.set_cons_zero, List.set_cons_succ]
              exact (hG _ _ _ _).mpr (sb Wd hb)
            rw [← hG]
            refine takeIn 0 _ _ (.pointer (some ⟨Bx, 0, none⟩)) rfl rfl (by rfl) (by kernel_rfl) (by kernel_rfl) (by kernel_rfl) (fun w => by unfold execOp; go_simp) (fun _ => rfl) rfl rfl ?_
            simp only [Act.put, List.setIfInBounds_toArray, List.set_cons_zero, List.set_cons_succ]
            refine takeIn 1 _ _ (.pointer (some ⟨Bx, 1, none⟩)) rfl rfl (by rfl) (by kernel_rfl) (by kernel_rfl) (by kernel_rfl) (fun w => by unfold execOp; go_simp) (fun _ => rfl) rfl rfl ?_
            simp only [Act.put, List.setIfInBounds_toArray, List.set_cons_zero, List.set_cons_succ]
            refine takeIn 3 _ _ (.pointer (some ⟨Bx, 3, none⟩)) rfl rfl (by rfl) (by kernel_rfl) (by kernel_rfl) (by kernel_rfl) (fun w => by unfold execOp; go_simp) (fun _ => rfl) rfl rfl ?_
            simp only [Act.put, List.setIfInBounds_toArray, List.set_cons_zero, List.set_cons_succ]
            refine takeIn 4 _ _ (.pointer (some ⟨Bx, 4, none⟩)) rfl rfl (by rfl) (by kernel_rfl) (by kernel_rfl) (by kernel_rfl) (fun w => by unfold execOp; go_simp) (fun _ => rfl) rfl rfl ?_
            simp only [Act.put, List.setIfInBounds_toArray, List.set_cons_zero, List.set_cons_succ]
            refine takeIn 7 _ _ (.pointer (some ⟨Bx, 0, none⟩)) rfl rfl (by rfl) (by kernel_rfl) (by kernel_rfl) (by kernel_rfl) (fun w => by unfold execOp; go_simp) (fun _ => rfl) rfl rfl ?_
            simp only [Act.put, List.setIfInBounds_toArray, List.set_cons_zero, List.set_cons_succ]
            refine takeIn 8 _ _ (.pointer (some ⟨Bx, 0, none⟩)) rfl rfl (by rfl) (by kernel_rfl) (by kernel_rfl) (by kernel_rfl) (fun w => by unfold execOp; go_simp) (fun _ => rfl) rfl rfl ?_
            simp only [Act.put, List.setIfInBounds_toArray, List.set_cons_zero, List.set_cons_succ]
            exact (hG _ _ _ _).mpr (s W.drew (Below.refl _ W).drew)
      · have hstop : stopH x h j.1 = true := by unfold stopH; rw [q1, q2]; rfl
        have hL : layR x h j.1 = (x ((j.1 + 1) * 3 + 1), x ((j.1 + 1) * 3 + 2), 0) := by unfold layR; rw [if_neg (by rw [q1]; decide), if_pos q2]
        rw [q1] at hC1; rw [q2] at hC2
        clear q1 q2 hC3 hC4
        gi_wp2
        have kf := air_done kW.out (Nat.le_refl _) (.float .f32 (x ((j.1 + 1) * 3 + 1))) (.float .f32 (x ((j.1 + 1) * 3 + 2))) (.int .i64 0)
        exact ⟨(((KeepsOthers.setCell _ _ _).from _).trans ((KeepsOthers.setCell _ _ _).from _)).trans ((KeepsOthers.setCell _ _ _).from _), ⟨(pre, j), ⟨⟨rfl, rfl, hp, hstop⟩, by rw [hL]; exact kf.at (x := (w.heap.size + 1, #[.float .f32 (x ((j.1 + 1) * 3 + 1)), .float .f32 (x ((j.1 + 1) * 3 + 2))], 44)) (by simp)⟩, by rw [hL]; exact kf.at (x := (w.heap.size + 1 + 1, #[.int .i64 0], 2)) (by simp)⟩, kf.1⟩
    · have hstop : stopH x h j.1 = true := by unfold stopH; rw [q1]; rfl
      have hL : layR x h j.1 = (x (j.1 * 3 + 1), x (j.1 * 3 + 2), 0) := by unfold layR; rw [if_pos q1]
      rw [q1] at hC1
      clear q1 hC2 hC3 hC4
      gi_wp2
      have kf := air_done kW.out (Nat.le_refl _) (.float .f32 (x (j.1 * 3 + 1))) (.float .f32 (x (j.1 * 3 + 2))) (.int .i64 0)
      exact ⟨(((KeepsOthers.setCell _ _ _).from _).trans ((KeepsOthers.setCell _ _ _).from _)).trans ((KeepsOthers.setCell _ _ _).from _), ⟨(pre, j), ⟨⟨rfl, rfl, hp, hstop⟩, by rw [hL]; exact kf.at (x := (w.heap.size + 1, #[.float .f32 (x (j.1 * 3 + 1)), .float .f32 (x (j.1 * 3 + 2))], 44)) (by simp)⟩, by rw [hL]; exact kf.at (x := (w.heap.size + 1 + 1, #[.int .i64 0], 2)) (by simp)⟩, kf.1⟩
  case done =>
    rintro D ys W hD rfl ⟨hp, hB⟩ hK
    have hS := hB.size
    have kW := hid (kB.out.stay hB)
    have hA : W.heap[w.heap.size + 1]? = some (.cells #[.float .f32 0, .float .f32 0] 44 (0, 0)) := kW.out.at (x := (w.heap.size + 1, #[.float .f32 0, .float .f32 0], 44)) (by simp)
    have hI : W.heap[w.heap.size + 1 + 1]? = some (.cells #[.int .i64 0] 2 (0, 0)) := kW.out.at (x := (w.heap.size + 1 + 1, #[.int .i64 0], 2)) (by simp)
    have hH : W.heap[w.heap.size]? = some (.cells #[.float .f32 h] 23 (0, 0)) := kW.out.at (x := (w.heap.size, #[.float .f32 h], 23)) (by simp)
    have eA0 : W.cell? ⟨w.heap.size + 1, 0, none⟩ = some (.float .f32 0) := (cell_of_row _ _ 0 _ _ _ hA).trans rfl
    have eA1 : W.cell? ⟨w.heap.size + 1, 1, none⟩ = some (.float .f32 0) := (cell_of_row _ _ 1 _ _ _ hA).trans rfl
    have eI : W.cell? ⟨w.heap.size + 1 + 1, 0, none⟩ = some (.int .i64 0) := (cell_of_row _ _ 0 _ _ _ hI).trans rfl
    have eH : W.cell? ⟨w.heap.size, 0, none⟩ = some (.float .f32 h) := (cell_of_row _ _ 0 _ _ _ hH).trans rfl
    have fA0 := frozen_of_row W (w.heap.size + 1) 0 _ _ hA
    have fA1 := frozen_of_row W (w.heap.size + 1) 1 _ _ hA
    have fI := frozen_of_row W (w.heap.size + 1 + 1) 0 _ _ hI
    have hfin := HR.out
    unfold atR at hfin
    rw [firstB_none (p := stopH x h) (m := n - 1) (fun i hi => hp ⟨i, hi⟩ (List.mem_finRange _))] at hfin
    injection hfin with f1 f2
    injection f2 with f2 f3
    subst f1 f2 f3
    gi_wp2
    have kf := air_done kW.out (Nat.le_refl _) (.float .f32 0) (.float .f32 0) (.int .i64 6)
    have hK' := (((KeepsOthers.setCell W ⟨w.heap.size + 1, 0, none⟩ (.float .f32 0)).trans (KeepsOthers.setCell _ ⟨w.heap.size + 1, 1, none⟩ (.float .f32 0))).trans (KeepsOthers.setCell _ ⟨w.heap.size + 1 + 1, 0, none⟩ (.int .i64 6))).same D _ hK rfl
    have jA := kf.at (x := (w.heap.size + 1, #[.float .f32 0, .float .f32 0], 44)) (by simp)
    have jI := kf.at (x := (w.heap.size + 1 + 1, #[.int .i64 6], 2)) (by simp)
    have rA := ((grownBy_putObj' _ D (.deferred none)).block (w.heap.size + 1) (lt_of_block jA) (by simp; omega)).trans jA
    have rI := ((grownBy_putObj' _ D (.deferred none)).block (w.heap.size + 1 + 1) (lt_of_block jI) (by simp; omega)).trans jI
    refine ⟨by simp, .inl ⟨_, _, rfl, run_takeDeferred hK', ?_⟩⟩
    exact ⟨_, results_cells rfl _ _ ⟨w.heap.size + 1, 0, none⟩ ⟨w.heap.size + 1 + 1, 0, none⟩ _ _ rfl rfl (run_loadVar_row _ (w.heap.size + 1) 44 44 _ (0, 0) _ rA Try.underlying44 rfl info_air) (run_loadVar_one Try.underlying2 rfl ((cell_of_row _ _ 0 _ _ _ rI).trans rfl)), rfl, kf.1.trans (belowK_b (w := w) (Nat.le_refl _) _ D _ _ (by omega) hK' rfl rfl)⟩
  case stop =>
    rintro D c pre W hD hpre ⟨⟨⟨ini, last⟩, ⟨⟨rfl, rfl, hp, hl⟩, b1⟩, b2⟩, hB⟩ hK
    have hfin := HR.out
    unfold atR at hfin
    rw [firstB_some (p := stopH x h) (m := n - 1) last.2 (fun i hi => hp ⟨i, by have := last.2; omega⟩ (last_fin hpre _ hi)) hl] at hfin
    rw [show layR x h last.1 = (rh, rv, c') from hfin] at b1 b2
    gi_wp2
    have rA := ((grownBy_putObj' _ D (.deferred none)).block (w.heap.size + 1) (lt_of_block b1) (by simp; omega)).trans b1
    have rI : _ = _ := b2.kept (grownBy_putObj' _ D (.deferred none)) (by simp; omega)
    refine ⟨by simp, .inl ⟨_, _, rfl, run_takeDeferred hK, ?_⟩⟩
    exact ⟨_, results_cells rfl _ _ ⟨w.heap.size + 1, 0, none⟩ ⟨w.heap.size + 1 + 1, 0, none⟩ _ _ rfl rfl (run_loadVar_row _ (w.heap.size + 1) 44 44 _ (0, 0) _ rA Try.underlying44 rfl info_air) (run_loadVar_one Try.underlying2 rfl ((cell_of_row _ _ 0 _ _ _ rI).trans rfl)), rfl, hB.trans (belowK_b (w := w) (Nat.le_refl _) _ D _ _ (by omega) hK rfl rfl)⟩

theorem words_cons : ∀ (v : List Char) (r : List Char), (∀ c ∈ v, c ≠ Char.ofNat 32) → wordsSigns (v ++ Char.ofNat 32 :: r) = v :: wordsSigns r
  | [], r, _ => rfl
  | c :: v, r, h => by
    have ih := words_cons v r (fun x hx => h x (by simp [hx]))
    have hc : c ≠ Char.ofNat 32 := h c (by simp)
    show wordsSigns (c :: (v ++ Char.ofNat 32 :: r)) = _
    rw [wordsSigns.eq_3 _ _ (fun e => hc e), ih]

def w0 : List Nat := [104, 97, 114, 110, 101, 115, 115]

def w1 : List Nat := [53, 57, 54, 54, 49, 98, 54, 54, 48, 56, 52, 53, 55, 102, 98, 53, 50, 52, 101, 51, 99, 56, 50, 53, 50, 97, 53, 101, 54, 51, 54, 56, 102, 102, 97, 97, 51, 57, 56, 49, 55, 102, 98, 48, 49, 52, 99, 56, 53, 102, 54, 56, 99, 52, 55, 101, 50, 49, 51, 102, 56, 53, 101, 101]

def w2 : List Nat := [99, 117, 116]

def w3 : List Nat := [97, 116, 32, 108, 111, 111, 112, 46, 101, 120, 97, 109, 112, 108, 101, 47, 103, 48, 49, 50, 50, 52, 47, 108, 97, 119, 115, 46, 70, 110, 69, 120, 97, 99, 116, 86, 97, 112, 111, 117, 114, 65, 98, 111, 118, 101, 32, 108, 111, 111, 112, 46, 101, 120, 97, 109, 112, 108, 101, 47, 103, 48, 49, 50, 50, 52, 47, 108, 97, 119, 115, 46, 70, 110, 69, 120, 97, 99, 116, 86, 97, 108, 105, 100, 69, 99, 104, 111, 77, 97, 112, 32, 108, 111, 111, 112, 46, 101, 120, 97, 109, 112, 108, 101, 47, 103, 48, 49, 50, 50, 52, 47, 108, 97, 119, 115, 46, 70, 110, 69, 120, 97, 99, 116, 82, 105, 115, 101, 73, 110, 32, 108, 111, 111, 112, 46, 101, 120, 97, 109, 112, 108, 101, 47, 103, 48, 49, 50, 50, 52, 47, 108, 97, 119, 115, 46, 70, 110, 69, 120, 97, 99, 116, 83, 116, 101, 97, 100, 121, 83, 111, 117, 110, 100, 105, 110, 103, 32, 108, 111, 111, 112, 46, 101, 120, 97, 109, 112, 108, 101, 47, 103, 48, 49, 50, 50, 52, 47, 108, 97, 119, 115, 46, 70, 110, 69, 120, 97, 99, 116, 69, 118, 101, 110, 116, 115, 79, 102, 32, 108, 111, 111, 112, 46, 101, 120, 97, 109, 112, 108, 101, 47, 103, 48, 49, 50, 50, 52, 47, 108, 97, 119, 115, 46, 70, 110, 69, 120, 97, 99, 116, 76, 111, 115, 115, 101, 115, 79, 102, 32, 108, 111, 111, 112, 46, 101, 120, 97, 109, 112, 108, 101, 47, 103, 48, 49, 50, 50, 52, 47, 108, 97, 119, 115, 46, 70, 110, 69, 120, 97, 99, 116, 67, 111, 108, 108, 105, 100, 101, 32, 108, 111, 111, 112, 46, 101, 120, 97, 109, 112, 108, 101, 47, 103, 48, 49, 50, 50, 52, 47, 108, 97, 119, 115, 46, 70, 110, 69, 120, 97, 99, 116, 67, 111, 108, 108, 105, 100, 101, 83, 116, 101, 112, 115, 32, 108, 111, 111, 112, 46, 101, 120, 97, 109, 112, 108, 101, 47, 103, 48, 49, 50, 50, 52, 47, 108, 97, 119, 115, 46, 70, 110, 69, 120, 97, 99, 116, 82, 97, 105, 110, 77, 97, 100, 101, 32, 108, 111, 111, 112, 46, 101, 120, 97, 109, 112, 108, 101, 47, 103, 48, 49, 50, 50, 52, 47, 108, 97, 119, 115, 46, 70, 110, 69, 120, 97, 99, 116, 71, 114, 111, 119, 79, 110, 99, 101, 32, 108, 111, 111, 112, 46, 101, 120, 97, 109, 112, 108, 101, 47, 103, 48, 49, 50, 50, 52, 47, 108, 97, 119, 115, 46, 70, 110, 69, 120, 97, 99, 116, 71, 114, 111, 119, 83, 116, 101, 112, 115, 32, 108, 111, 111, 112, 46, 101, 120, 97, 109, 112, 108, 101, 47, 103, 48, 49, 50, 50, 52, 47, 108, 97, 119, 115, 46, 70, 110, 69, 120, 97, 99, 116, 83, 116, 101, 112, 115, 84, 111, 68, 114, 121, 32, 108, 111, 111, 112, 46, 101, 120, 97, 109, 112, 108, 101, 47, 103, 48, 49, 50, 50, 52, 47, 108, 97, 119, 115, 46, 70, 110, 69, 120, 97, 99, 116, 85, 110, 105, 116, 65, 116, 32, 108, 111, 111, 112, 46, 101, 120, 97, 109, 112, 108, 101, 47, 103, 48, 49, 50, 50, 52, 47, 108, 97, 119, 115, 46, 70, 110, 69, 120, 97, 99, 116, 84, 104, 105, 114, 100, 82, 111, 111, 116, 32, 108, 111, 111, 112, 46, 101, 120, 97, 109, 112, 108, 101, 47, 103, 48, 49, 50, 50, 52, 47, 108, 97, 119, 115, 46, 70, 110, 69, 120, 97, 99, 116, 68, 114, 97, 119, 80, 97, 105, 114, 115, 32, 108, 111, 111, 112, 46, 101, 120, 97, 109, 112, 108, 101, 47, 103, 48, 49, 50, 50, 52, 47, 108, 97, 119, 115, 46, 70, 110, 69, 120, 97, 99, 116, 67, 111, 108, 108, 105, 100, 101, 80, 97, 105, 114, 115]

def letters (l : List Nat) : List Char := l.map Char.ofNat

theorem head_reads : Try.prog.initOrder = String.ofList (letters w0 ++ Char.ofNat 32 :: (letters w1 ++ Char.ofNat 32 :: (letters w2 ++ Char.ofNat 32 :: letters w3))) := by kernel_rfl

theorem no_blank {l : List Nat} (h : l.all (fun n => Char.ofNat n != Char.ofNat 32) = true) : ∀ c ∈ letters l, c ≠ Char.ofNat 32 := by
  intro c hc
  obtain ⟨n, hn, rfl⟩ := List.mem_map.1 hc
  have := List.all_eq_true.1 h n hn
  simpa using this

theorem h0 : letters w0 = "harness".toList := by kernel_rfl

theorem h2 : letters w2 = "cut".toList := by kernel_rfl

theorem sums : isSumSigns (letters w1) = true := by kernel_rfl

theorem words : wordsSigns Try.prog.initOrder.toList = "harness".toList :: letters w1 :: "cut".toList :: wordsSigns (letters w3) := by
  rw [head_reads, String.toList_ofList, words_cons _ _ (no_blank (by decide +kernel)), words_cons _ _ (no_blank (by decide +kernel)), words_cons _ _ (no_blank (by decide +kernel)), h0, h2]

theorem behind : ∃ r, behindMainWord (wordsSigns Try.prog.initOrder.toList) = "cut".toList :: r := by
  refine ⟨wordsSigns (letters w3), ?_⟩
  rw [words]
  generalize wordsSigns (letters w3) = r
  have hs := sums
  generalize letters w1 = v at hs
  unfold behindMainWord
  simp [hs]

theorem not_later : Try.prog.laysLater = false := by kernel_rfl

theorem no_reflect : Try.prog.bearsReflect = false := by kernel_rfl

theorem no_doors : Try.prog.doorFits [] = true := by kernel_rfl

theorem strips (r : List (List Char)) : stripLifts liftWords ("cut".toList :: r) = ([], "cut".toList :: r) := by kernel_rfl

theorem may_enter_of (P : Program) (r : List (List Char)) (h : behindMainWord (wordsSigns P.initOrder.toList) = "cut".toList :: r) (h1 : P.laysLater = false) (h2 : P.bearsReflect = false) (h3 : P.doorFits [] = true) : P.mayEnter = true := by
  unfold Program.mayEnter
  rw [h]
  dsimp only
  rw [strips, h1, h2, h3]
  kernel_rfl

theorem lifts_final_of (P : Program) (r : List (List Char)) (h : behindMainWord (wordsSigns P.initOrder.toList) = "cut".toList :: r) : P.liftsFinal = false := by
  unfold Program.liftsFinal Program.headLifts
  rw [h]
  dsimp only
  rw [strips]
  kernel_rfl

theorem made_of (P : Program) (r : List (List Char)) (h : behindMainWord (wordsSigns P.initOrder.toList) = "cut".toList :: r) : P.make = some .cut := by
  unfold Program.make
  rw [h]
  kernel_rfl

theorem may_enter : Try.prog.mayEnter = true := let ⟨r, h⟩ := behind; may_enter_of _ r h not_later no_reflect no_doors

theorem lifts_final : Try.prog.liftsFinal = false := let ⟨r, h⟩ := behind; lifts_final_of _ r h

theorem made : Try.prog.make = some .cut := let ⟨r, h⟩ := behind; made_of _ r h

theorem laid : laidOutB Try.prog = true := by kernel_rfl

theorem rowed : mapsRowed Try.prog = true := by kernel_rfl

theorem no_stops : Try.prog.stops = [] := by kernel_rfl

theorem no_knobs : Try.prog.stopKnobs = [] := by kernel_rfl

theorem plain_keys : Try.prog.plainKeys = false := by kernel_rfl

theorem stops_heard : Try.prog.stopsHeard = true := by kernel_rfl

theorem arr2 {α : Type} {cs : Array α} (h : cs.size = 2) : ∃ c0 c1, cs = #[c0, c1] := by
  obtain ⟨l⟩ := cs
  match l, h with
  | [a, b], _ => exact ⟨a, b, rfl⟩

theorem own : ownKnob Try.prog.godebug = none := by kernel_rfl

theorem rdf : Try.prog.readableRec 23 = true ∧ 23 < Try.prog.types.size := ⟨by kernel_rfl, of_decide_eq_true (by kernel_rfl)⟩

theorem cells2 : Try.prog.cellsOf 41 = 2 := by kernel_rfl

theorem cellsL : Try.prog.cellsOf 113 = 3 := by kernel_rfl

theorem cellsF : Try.prog.cellsOf 23 = 1 := by kernel_rfl

theorem rds : Try.prog.readableRec 22 = true ∧ 22 < Try.prog.types.size := ⟨by kernel_rfl, of_decide_eq_true (by kernel_rfl)⟩

set_option maxRecDepth 100000 in
set_option maxHeartbeats 4000000 in
theorem neighbours1_but (m : Nat) (l Bs n0 sb : Nat) (p : Option Addr) (n cap : Nat) (x : Nat → Nat) (hn : n ≤ 1048576) (J Jx : List (Fin (n - 1)) → World → Prop) (hAb : ∀ pre W, J pre W → J pre W.drew)
    (hY : ∀ pre (k : Fin (n - 1)) W, J pre W → pre.length < n - 1 → YieldAt Fence.wide (m - 1) Try.prog l (encL x k.1) W fun e W' =>
      (e = .returned (.bool true) ∧ J (pre ++ [k]) W' ∧ BelowBut sb n0 W W') ∨ (e = .returned (.bool false) ∧ Jx (pre ++ [k]) W'))
    (W : World) (hB : Bs < n0 ∧ Bs ≠ sb) (hBs : W.cell? ⟨Bs, 0, none⟩ = some (.slice p n cap))
    (hc : 0 < n → ∃ b o, p = some ⟨b, o, none⟩ ∧ (b < n0 ∧ b ≠ sb) ∧ ∀ k, k < 3 * n → W.cell? ⟨b, o + k, none⟩ = some (.float .f32 (x k))) (h0 : J [] W) :
    CallsIn Fence.wide m Try.prog 159 #[.func (.yield l) #[] #[], .pointer (some ⟨Bs, 0, none⟩)] W fun e W' => (∃ v, e = .returned v) ∧
      ((∃ ys, ys = List.finRange (n - 1) ∧ J ys W') ∨ (∃ pre, pre <+: List.finRange (n - 1) ∧ Jx pre W')) := by
  refine callsIn_of_wp Try.func159 rfl trivial ?_ rfl
  simp only [Try.ntmps159, List.size_toArray, List.length_cons, List.length_nil, Nat.reduceAdd, Nat.reduceSub, Array.replicate_succ, Array.replicate_zero, List.push_toArray, List.append_toArray, List.nil_append, List.cons_append]
  have HC := hid hc
  have HY := hid hY
  have HBS := hid hBs
  clear hc hY hBs
  gi_wp2
  gi_loopw [3] (fun i wr => ∃ k : Nat, k ≤ n - 1 ∧ i = .int .i64 ((k : Int) + 1) ∧ J ((List.finRange (n - 1)).take k) wr ∧ Hid (BelowBut sb n0 W wr))
    (fun i _ => n - (intOf i).toNat)
  case atStart => exact ⟨0, Nat.zero_le _, rfl, h0, hid (BelowBut.refl _ _ _)⟩
  case round =>
    obtain ⟨k, hk, rfl, hJs, hnx⟩ := hrel
    have hbx := hid ((hnx.out.cell (p := ⟨Bs, 0, none⟩) hB).trans HBS.out)
    have hbx' := hbx.out
    by_cases hlt : k + 1 < n
    · have HL := hid hlt
      have HN : Hid (k ≤ 1048576) := hid (by omega)
      obtain ⟨b, o, rfl, hb, hcell⟩ := HC.out (by omega)
      have hcw : ∀ j, j < 3 * n → wr.cell? ⟨b, o + j, none⟩ = some (.float .f32 (x j)) := fun j hj => (hnx.out.cell (p := ⟨b, o + j, none⟩) hb).trans (hcell j hj)
      have R0 := hid (row3 hcw (i := k) (by omega))
      have R1 := hid (row3 hcw (i := k + 1) hlt)
      obtain ⟨fn, tmps, assign, body, hy, hR⟩ := HY.out _ ⟨k, by omega⟩ wr.drew (hAb _ wr hJs) (by simp; omega)
      have hy := hid (show (Instr.yield l #[.int .i64 (k : Int), .agg #[.float .f32 (x (k * 3)), .float .f32 (x (k * 3 + 1)), .float .f32 (x (k * 3 + 2)), .float .f32 (x ((k + 1) * 3)), .float .f32 (x ((k + 1) * 3 + 1)), .float .f32 (x ((k + 1) * 3 + 2))]]).run Try.prog wr.drew = _ from hy)
      have hR := hid hR
      clear hcell hcw
      have hk3 : (k : Int) + 1 < (n : Int) := by omega
      gi_wp2
      clear hbx'
      refine regionIn_any 15 #[false, false, false, false, false, false, false, false, false, false, false, false, false, false, false] (by kernel_rfl) rfl rfl ?_
      refine takeIn 0 _ _ (.func (.yield l) #[] #[]) rfl rfl (by rfl) (by kernel_rfl) (by kernel_rfl) (by kernel_rfl) (fun w => by rfl) (fun _ => rfl) rfl rfl ?_
      simp only [Act.put, List.setIfInBounds_toArray, List.set_cons_zero, List.set_cons_succ]
      refine takeIn 1 _ _ (.int .i64 ((k : Int) + 1)) rfl rfl (by rfl) (by kernel_rfl) (by kernel_rfl) (by kernel_rfl) (fun w => by rfl) (fun _ => rfl) rfl rfl ?_
      simp only [Act.put, List.setIfInBounds_toArray, List.set_cons_zero, List.set_cons_succ]
      refine takeIn 2 _ _ (.int .i64 (k : Int)) rfl rfl (by rfl) (by kernel_rfl) (by kernel_rfl) (by kernel_rfl) (fun w => run_binop_val _ _ _ _ (by rfl) (by rfl) (by simp [eqGuard]) (run_pred HN.out w)) (fun _ => rfl) rfl rfl ?_
      simp only [Act.put, List.setIfInBounds_toArray, List.set_cons_zero, List.set_cons_succ]
      refine takeIn 4 _ _ (.int .i64 ((k : Int) + 1)) rfl rfl (by rfl) (by kernel_rfl) (by kernel_rfl) (by kernel_rfl) (fun w => by rfl) (fun _ => rfl) rfl rfl ?_
      simp only [Act.put, List.setIfInBounds_toArray, List.set_cons_zero, List.set_cons_succ]
      refine takeIn 5 _ _ (.int .i64 (k : Int)) rfl rfl (by rfl) (by kernel_rfl) (by kernel_rfl) (by kernel_rfl) (fun w => run_binop_val _ _ _ _ (by rfl) (by rfl) (by simp [eqGuard]) (run_pred HN.out w)) (fun _ => rfl) rfl rfl ?_
      simp only [Act.put, List.setIfInBounds_toArray, List.set_cons_zero, List.set_cons_succ]
      refine takeIn 9 _ _ (.int .i64 ((k : Int) + 1)) rfl rfl (by rfl) (by kernel_rfl) (by kernel_rfl) (by kernel_rfl) (fun w => by rfl) (fun _ => rfl) rfl rfl ?_
      simp only [Act.put, List.setIfInBounds_toArray, List.set_cons_zero, List.set_cons_succ]
      refine wpAnyIn_ready (rs := [3, 8]) (by kernel_rfl) (by simp) ?_
      refine readIn 3 _ _ (.slice (some ⟨b, o, none⟩) n cap) rfl rfl (by rfl) (run_load_cell _ _ ⟨Bs, 0, none⟩ _ rfl (run_loadVar_one Try.underlying27 rfl hbx.out)) rfl rfl rfl ?_ ?_
      · simp only [Act.put, List.setIfInBounds_toArray, List.set_cons_zero, List.set_cons_succ]
        refine takeIn 6 _ _ (.pointer (some ⟨b, o + k * 3, none⟩)) rfl rfl (by rfl) (by kernel_rfl) (by kernel_rfl) (by kernel_rfl) (fun w => run_index_op _ _ rfl rfl (run_indexAt Try.underlying27 info_lev (by have := HL.out; omega) w)) (fun _ => rfl) rfl rfl ?_
        simp only [Act.put, List.setIfInBounds_toArray, List.set_cons_zero, List.set_cons_succ]
        refine wpAnyIn_ready (rs := [7, 8]) (by kernel_rfl) (by simp) ?_
        refine readIn 7 _ _ (.agg #[.float .f32 (x (k * 3)), .float .f32 (x (k * 3 + 1)), .float .f32 (x (k * 3 + 2))]) rfl rfl (by rfl) (run_load_mid 111 _ b (o + k * 3) [.float .f32 (x (k * 3)), .float .f32 (x (k * 3 + 1)), .float .f32 (x (k * 3 + 2))] rfl (R0.out) _ Try.underlying111 rfl info_lev) rfl rfl rfl ?_ ?_
        · simp only [Act.put, List.setIfInBounds_toArray, List.set_cons_zero, List.set_cons_succ]
          refine wpAnyIn_ready (rs := [8]) (by kernel_rfl) (by simp) ?_
          refine readIn 8 _ _ (.slice (some ⟨b, o, none⟩) n cap) rfl rfl (by rfl) (run_load_cell _ _ ⟨Bs, 0, none⟩ _ rfl (run_loadVar_one Try.underlying27 rfl hbx.out)) rfl rfl rfl ?_ AllReadyIn.nil
          simp only [Act.put, List.setIfInBounds_toArray, List.set_cons_zero, List.set_cons_succ]
          refine takeIn 10 _ _ (.pointer (some ⟨b, o + (k + 1) * 3, none⟩)) rfl rfl (by rfl) (by kernel_rfl) (by kernel_rfl) (by kernel_rfl) (fun w => run_index_op _ _ rfl rfl (run_indexAt Try.underlying27 info_lev (by have := HL.out; omega) w)) (fun _ => rfl) rfl rfl ?_
          simp only [Act.put, List.setIfInBounds_toArray, List.set_cons_zero, List.set_cons_succ]
          refine wpAnyIn_ready (rs := [11]) (by kernel_rfl) (by simp) ?_
          refine readIn 11 _ _ (.agg #[.float .f32 (x ((k + 1) * 3)), .float .f32 (x ((k + 1) * 3 + 1)), .float .f32 (x ((k + 1) * 3 + 2))]) rfl rfl (by rfl) (run_load_mid 111 _ b (o + (k + 1) * 3) [.float .f32 (x ((k + 1) * 3)), .float .f32 (x ((k + 1) * 3 + 1)), .float .f32 (x ((k + 1) * 3 + 2))] rfl (R1.out) _ Try.underlying111 rfl info_lev) rfl rfl rfl ?_ AllReadyIn.nil
          simp only [Act.put, List.setIfInBounds_toArray, List.set_cons_zero, List.set_cons_succ]
          refine takeIn 12 _ _ (.agg #[.float .f32 (x (k * 3)), .float .f32 (x (k * 3 + 1)), .float .f32 (x (k * 3 + 2)), .float .f32 (x ((k + 1) * 3)), .float .f32 (x ((k + 1) * 3 + 1)), .float .f32 (x ((k + 1) * 3 + 2))]) rfl rfl (by rfl) (by kernel_rfl) (by kernel_rfl) (by kernel_rfl) (fun w => by unfold execOp; go_simp) (fun _ => rfl) rfl rfl ?_
          simp only [Act.put, List.setIfInBounds_toArray, List.set_cons_zero, List.set_cons_succ]
          refine wpAnyIn_ready (rs := [13]) (by kernel_rfl) (by simp) ?_
          refine yieldIn (F := Fence.wide) (l := l) (fn := fn) (tmps := tmps) (assign := assign) (body := body) 13 rfl rfl (by rfl) (by have hy2 := hy.out; unfold execOp; go_simp) (fun _ _ => True.intro) (fun h => by cases h) hR.out (fun e W3 hr => ?_) AllReadyIn.nil
          rcases hr with ⟨rfl, hJ3, hk3⟩ | ⟨rfl, hJx3⟩
          · refine ⟨.bool true, rfl, ?_⟩
            simp only [Act.put, List.setIfInBounds_toArray, List.set_cons_zero, List.set_cons_succ]
            refine takeIn 14 _ _ (.bool false) rfl rfl (by rfl) (by kernel_rfl) (by kernel_rfl) (by kernel_rfl) (fun w => by unfold execOp; go_simp) (fun _ => rfl) rfl rfl ?_
            simp only [Act.put, List.setIfInBounds_toArray, List.set_cons_zero, List.set_cons_succ]
            refine wpAnyIn_done (by kernel_rfl) (NoPanic.normal ?_) _
            gi_wp2
            go_roundw
            case rel => exact ⟨k + 1, by omega, by go_num, by rw [take_fin (m := n - 1) (k := k) (by omega)]; exact hJ3, hid (hnx.out.drew.trans hk3)⟩
            case measure => simp [intOf]; omega
          · refine ⟨.bool false, rfl, ?_⟩
            simp only [Act.put, List.setIfInBounds_toArray, List.set_cons_zero, List.set_cons_succ]
            refine takeIn 14 _ _ (.bool true) rfl rfl (by rfl) (by kernel_rfl) (by kernel_rfl) (by kernel_rfl) (fun w => by unfold execOp; go_simp) (fun _ => rfl) rfl rfl ?_
            simp only [Act.put, List.setIfInBounds_toArray, List.set_cons_zero, List.set_cons_succ]
            refine wpAnyIn_done (by kernel_rfl) (NoPanic.normal ?_) _
            gi_wp2
            refine bodyPost_ret (results_none rfl _ _ _) rfl ?_
            exact ⟨⟨_, rfl⟩, .inr ⟨_, by rw [← take_fin (m := n - 1) (k := k) (by omega)]; exact List.take_prefix _ _, hJx3⟩⟩
        refine readIn 8 _ _ (.slice (some ⟨b, o, none⟩) n cap) rfl rfl (by rfl) (run_load_cell _ _ ⟨Bs, 0, none⟩ _ rfl (run_loadVar_one Try.underlying27 rfl hbx.out)) rfl rfl rfl ?_ AllReadyIn.nil
        simp only [Act.put, List.setIfInBounds_toArray, List.set_cons_zero, List.set_cons_succ]
        refine takeIn 10 _ _ (.pointer (some ⟨b, o + (k + 1) * 3, none⟩)) rfl rfl (by rfl) (by kernel_rfl) (by kernel_rfl) (by kernel_rfl) (fun w => run_index_op _ _ rfl rfl (run_indexAt Try.underlying27 info_lev (by have := HL.out; omega) w)) (fun _ => rfl) rfl rfl ?_
        simp only [Act.put, List.setIfInBounds_toArray, List.set_cons_zero, List.set_cons_succ]
        refine wpAnyIn_ready (rs := [7, 11]) (by kernel_rfl) (by simp) ?_
        refine readIn 7 _ _ (.agg #[.float .f32 (x (k * 3)), .float .f32 (x (k * 3 + 1)), .float .f32 (x (k * 3 + 2))]) rfl rfl (by rfl) (run_load_mid 111 _ b (o + k * 3) [.float .f32 (x (k * 3)), .float .f32 (x (k * 3 + 1)), .float .f32 (x (k * 3 + 2))] rfl (R0.out) _ Try.underlying111 rfl info_lev) rfl rfl rfl ?_ ?_
        · simp only [Act.put, List.setIfInBounds_toArray, List.set_cons_zero, List.set_cons_succ]
          refine wpAnyIn_ready (rs := [11]) (by kernel_rfl) (by simp) ?_
          refine readIn 11 _ _ (.agg #[.float .f32 (x ((k + 1) * 3)), .float .f32 (x ((k + 1) * 3 + 1)), .float .f32 (x ((k + 1) * 3 + 2))]) rfl rfl (by rfl) (run_load_mid 111 _ b (o + (k + 1) * 3) [.float .f32 (x ((k + 1) * 3)), .float .f32 (x ((k + 1) * 3 + 1)), .float .f32 (x ((k + 1) * 3 + 2))] rfl (R1.out) _ Try.underlying111 rfl info_lev) rfl rfl rfl ?_ AllReadyIn.nil
          simp only [Act.put, List.setIfInBounds_toArray, List.set_cons_zero, List.set_cons_succ]
          refine takeIn 12 _ _ (.agg #[.float .f32 (x (k * 3)), .float .f32 (x (k * 3 + 1)), .float .f32 (x (k * 3 + 2)), .float .f32 (x ((k + 1) * 3)), .float .f32 (x ((k + 1) * 3 + 1)), .float .f32 (x ((k + 1) * 3 + 2))]) rfl rfl (by rfl) (by kernel_rfl) (by kernel_rfl) (by kernel_rfl) (fun w => by unfold execOp; go_simp) (fun _ => rfl) rfl rfl ?_
          simp only [Act.put, List.setIfInBounds_toArray, List.set_cons_zero, List.set_cons_succ]
          refine wpAnyIn_ready (rs := [13]) (by kernel_rfl) (by simp) ?_
          refine yieldIn (F := Fence.wide) (l := l) (fn := fn) (tmps := tmps) (assign := assign) (body := body) 13 rfl rfl (by rfl) (by have hy2 := hy.out; unfold execOp; go_simp) (fun _ _ => True.intro) (fun h => by cases h) hR.out (fun e W3 hr => ?_) AllReadyIn.nil
          rcases hr with ⟨rfl, hJ3, hk3⟩ | ⟨rfl, hJx3⟩
          · refine ⟨.bool true, rfl, ?_⟩
            simp only [Act.put, List.setIfInBounds_toArray, List.set_cons_zero, List.set_cons_succ]
            refine takeIn 14 _ _ (.bool false) rfl rfl (by rfl) (by kernel_rfl) (by kernel_rfl) (by kernel_rfl) (fun w => by unfold execOp; go_simp) (fun _ => rfl) rfl rfl ?_
            simp only [Act.put, List.setIfInBounds_toArray, List.set_cons_zero, List.set_cons_succ]
            refine wpAnyIn_done (by kernel_rfl) (NoPanic.normal ?_) _
            gi_wp2
            go_roundw
            case rel => exact ⟨k + 1, by omega, by go_num, by rw [take_fin (m := n - 1) (k := k) (by omega)]; exact hJ3, hid (hnx.out.drew.trans hk3)⟩
            case measure => simp [intOf]; omega
          · refine ⟨.bool false, rfl, ?_⟩
            simp only [Act.put, List.setIfInBounds_toArray, List.set_cons_zero, List.set_cons_succ]
            refine takeIn 14 _ _ (.bool true) rfl rfl (by rfl) (by kernel_rfl) (by kernel_rfl) (by kernel_rfl) (fun w => by unfold execOp; go_simp) (fun _ => rfl) rfl rfl ?_
            simp only [Act.put, List.setIfInBounds_toArray, List.set_cons_zero, List.set_cons_succ]
            refine wpAnyIn_done (by kernel_rfl) (NoPanic.normal ?_) _
            gi_wp2
            refine bodyPost_ret (results_none rfl _ _ _) rfl ?_
            exact ⟨⟨_, rfl⟩, .inr ⟨_, by rw [← take_fin (m := n - 1) (k := k) (by omega)]; exact List.take_prefix _ _, hJx3⟩⟩
        refine readIn 11 _ _ (.agg #[.float .f32 (x ((k + 1) * 3)), .float .f32 (x ((k + 1) * 3 + 1)), .float .f32 (x ((k + 1) * 3 + 2))]) rfl rfl (by rfl) (run_load_mid 111 _ b (o + (k + 1) * 3) [.float .f32 (x ((k + 1) * 3)), .float .f32 (x ((k + 1) * 3 + 1)), .float .f32 (x ((k + 1) * 3 + 2))] rfl (R1.out) _ Try.underlying111 rfl info_lev) rfl rfl rfl ?_ AllReadyIn.nil
        simp only [Act.put, List.setIfInBounds_toArray, List.set_cons_zero, List.set_cons_succ]
        refine wpAnyIn_ready (rs := [7]) (by kernel_rfl) (by simp) ?_
        refine readIn 7 _ _ (.agg #[.float .f32 (x (k * 3)), .float .f32 (x (k * 3 + 1)), .float .f32 (x (k * 3 + 2))]) rfl rfl (by rfl) (run_load_mid 111 _ b (o + k * 3) [.float .f32 (x (k * 3)), .float .f32 (x (k * 3 + 1)), .float .f32 (x (k * 3 + 2))] rfl (R0.out) _ Try.underlying111 rfl info_lev) rfl rfl rfl ?_ AllReadyIn.nil
        simp only [Act.put, List.setIfInBounds_toArray, List.set_cons_zero, List.set_cons_succ]
        refine takeIn 12 _ _ (.agg #[.float .f32 (x (k * 3)), .float .f32 (x (k * 3 + 1)), .float .f32 (x (k * 3 + 2)), .float .f32 (x ((k + 1) * 3)), .float .f32 (x ((k + 1) * 3 + 1)), .float .f32 (x ((k + 1) * 3 + 2))]) rfl rfl (by rfl) (by kernel_rfl) (by kernel_rfl) (by kernel_rfl) (fun w => by unfold execOp; go_simp) (fun _ => rfl) rfl rfl ?_
        simp only [Act.put, List.setIfInBounds_toArray, List.set_cons_zero, List.set_cons_succ]
        refine wpAnyIn_ready (rs := [13]) (by kernel_rfl) (by simp) ?_
        refine yieldIn (F := Fence.wide) (l := l) (fn := fn) (tmps := tmps) (assign := assign) (body := body) 13 rfl rfl (by rfl) (by have hy2 := hy.out; unfold execOp; go_simp) (fun _ _ => True.intro) (fun h => by cases h) hR.out (fun e W3 hr => ?_) AllReadyIn.nil
        rcases hr with ⟨rfl, hJ3, hk3⟩ | ⟨rfl, hJx3⟩
        · refine ⟨.bool true, rfl, ?_⟩
          simp only [Act.put, List.setIfInBounds_toArray, List.set_cons_zero, List.set_cons_succ]
          refine takeIn 14 _ _ (.bool false) rfl rfl (by rfl) (by kernel_rfl) (by kernel_rfl) (by kernel_rfl) (fun w => by unfold execOp; go_simp) (fun _ => rfl) rfl rfl ?_
          simp only [Act.put, List.setIfInBounds_toArray, List.set_cons_zero, List.set_cons_succ]
          refine wpAnyIn_done (by kernel_rfl) (NoPanic.normal ?_) _
          gi_wp2
          go_roundw
          case rel => exact ⟨k + 1, by omega, by go_num, by rw [take_fin (m := n - 1) (k := k) (by omega)]; exact hJ3, hid (hnx.out.drew.trans hk3)⟩
          case measure => simp [intOf]; omega
        · refine ⟨.bool false, rfl, ?_⟩
          simp only [Act.put, List.setIfInBounds_toArray, List.set_cons_zero, List.set_cons_succ]
          refine takeIn 14 _ _ (.bool true) rfl rfl (by rfl) (by kernel_rfl) (by kernel_rfl) (by kernel_rfl) (fun w => by unfold execOp; go_simp) (fun _ => rfl) rfl rfl ?_
          simp only [Act.put, List.setIfInBounds_toArray, List.set_cons_zero, List.set_cons_succ]
          refine wpAnyIn_done (by kernel_rfl) (NoPanic.normal ?_) _
          gi_wp2
          refine bodyPost_ret (results_none rfl _ _ _) rfl ?_
          exact ⟨⟨_, rfl⟩, .inr ⟨_, by rw [← take_fin (m := n - 1) (k := k) (by omega)]; exact List.take_prefix _ _, hJx3⟩⟩
      refine readIn 8 _ _ (.slice (some ⟨b, o, none⟩) n cap) rfl rfl (by rfl) (run_load_cell _ _ ⟨Bs, 0, none⟩ _ rfl (run_loadVar_one Try.underlying27 rfl hbx.out)) rfl rfl rfl ?_ AllReadyIn.nil
      simp only [Act.put, List.setIfInBounds_toArray, List.set_cons_zero, List.set_cons_succ]
      refine takeIn 10 _ _ (.pointer (some ⟨b, o + (k + 1) * 3, none⟩)) rfl rfl (by rfl) (by kernel_rfl) (by kernel_rfl) (by kernel_rfl) (fun w => run_index_op _ _ rfl rfl (run_indexAt Try.underlying27 info_lev (by have := HL.out; omega) w)) (fun _ => rfl) rfl rfl ?_
      simp only [Act.put, List.setIfInBounds_toArray, List.set_cons_zero, List.set_cons_succ]
      refine wpAnyIn_ready (rs := [3, 11]) (by kernel_rfl) (by simp) ?_
      refine readIn 3 _ _ (.slice (some ⟨b, o, none⟩) n cap) rfl rfl (by rfl) (run_load_cell _ _ ⟨Bs, 0, none⟩ _ rfl (run_loadVar_one Try.underlying27 rfl hbx.out)) rfl rfl rfl ?_ ?_
      · simp only [Act.put, List.setIfInBounds_toArray, List.set_cons_zero, List.set_cons_succ]
        refine takeIn 6 _ _ (.pointer (some ⟨b, o + k * 3, none⟩)) rfl rfl (by rfl) (by kernel_rfl) (by kernel_rfl) (by kernel_rfl) (fun w => run_index_op _ _ rfl rfl (run_indexAt Try.underlying27 info_lev (by have := HL.out; omega) w)) (fun _ => rfl) rfl rfl ?_
        simp only [Act.put, List.setIfInBounds_toArray, List.set_cons_zero, List.set_cons_succ]
        refine wpAnyIn_ready (rs := [7, 11]) (by kernel_rfl) (by simp) ?_
        refine readIn 7 _ _ (.agg #[.float .f32 (x (k * 3)), .float .f32 (x (k * 3 + 1)), .float .f32 (x (k * 3 + 2))]) rfl rfl (by rfl) (run_load_mid 111 _ b (o + k * 3) [.float .f32 (x (k * 3)), .float .f32 (x (k * 3 + 1)), .float .f32 (x (k * 3 + 2))] rfl (R0.out) _ Try.underlying111 rfl info_lev) rfl rfl rfl ?_ ?_
        · simp only [Act.put, List.setIfInBounds_toArray, List.set_cons_zero, List.set_cons_succ]
          refine wpAnyIn_ready (rs := [11]) (by kernel_rfl) (by simp) ?_
          refine readIn 11 _ _ (.agg #[.float .f32 (x ((k + 1) * 3)), .float .f32 (x ((k + 1) * 3 + 1)), .float .f32 (x ((k + 1) * 3 + 2))]) rfl rfl (by rfl) (run_load_mid 111 _ b (o + (k + 1) * 3) [.float .f32 (x ((k + 1) * 3)), .float .f32 (x ((k + 1) * 3 + 1)), .float .f32 (x ((k + 1) * 3 + 2))] rfl (R1.out) _ Try.underlying111 rfl info_lev) rfl rfl rfl ?_ AllReadyIn.nil
          simp only [Act.put, List.setIfInBounds_toArray, List.set_cons_zero, List.set_cons_succ]
          refine takeIn 12 _ _ (.agg #[.float .f32 (x (k * 3)), .float .f32 (x (k * 3 + 1)), .float .f32 (x (k * 3 + 2)), .float .f32 (x ((k + 1) * 3)), .float .f32 (x ((k + 1) * 3 + 1)), .float .f32 (x ((k + 1) * 3 + 2))]) rfl rfl (by rfl) (by kernel_rfl) (by kernel_rfl) (by kernel_rfl) (fun w => by unfold execOp; go_simp) (fun _ => rfl) rfl rfl ?_
          simp only [Act.put, List.setIfInBounds_toArray, List.set_cons_zero, List.set_cons_succ]
          refine wpAnyIn_ready (rs := [13]) (by kernel_rfl) (by simp) ?_
          refine yieldIn (F := Fence.wide) (l := l) (fn := fn) (tmps := tmps) (assign := assign) (body := body) 13 rfl rfl (by rfl) (by have hy2 := hy.out; unfold execOp; go_simp) (fun _ _ => True.intro) (fun h => by cases h) hR.out (fun e W3 hr => ?_) AllReadyIn.nil
          rcases hr with ⟨rfl, hJ3, hk3⟩ | ⟨rfl, hJx3⟩
          · refine ⟨.bool true, rfl, ?_⟩
            simp only [Act.put, List.setIfInBounds_toArray, List.set_cons_zero, List.set_cons_succ]
            refine takeIn 14 _ _ (.bool false) rfl rfl (by rfl) (by kernel_rfl) (by kernel_rfl) (by kernel_rfl) (fun w => by unfold execOp; go_simp) (fun _ => rfl) rfl rfl ?_
            simp only [Act.put, List.setIfInBounds_toArray, List.set_cons_zero, List.set_cons_succ]
            refine wpAnyIn_done (by kernel_rfl) (NoPanic.normal ?_) _
            gi_wp2
            go_roundw
            case rel => exact ⟨k + 1, by omega, by go_num, by rw [take_fin (m := n - 1) (k := k) (by omega)]; exact hJ3, hid (hnx.out.drew.trans hk3)⟩
            case measure => simp [intOf]; omega
          · refine ⟨.bool false, rfl, ?_⟩
            simp only [Act.put, List.setIfInBounds_toArray, List.set_cons_zero, List.set_cons_succ]
            refine takeIn 14 _ _ (.bool true) rfl rfl (by rfl) (by kernel_rfl) (by kernel_rfl) (by kernel_rfl) (fun w => by unfold execOp; go_simp) (fun _ => rfl) rfl rfl ?_
            simp only [Act.put, List.setIfInBounds_toArray, List.set_cons_zero, List.set_cons_succ]
            refine wpAnyIn_done (by kernel_rfl) (NoPanic.normal ?_) _
            gi_wp2
            refine bodyPost_ret (results_none rfl _ _ _) rfl ?_
            exact ⟨⟨_, rfl⟩, .inr ⟨_, by rw [← take_fin (m := n - 1) (k := k) (by omega)]; exact List.take_prefix _ _, hJx3⟩⟩
        refine readIn 11 _ _ (.agg #[.float .f32 (x ((k + 1) * 3)), .float .f32 (x ((k + 1) * 3 + 1)), .float .f32 (x ((k + 1) * 3 + 2))]) rfl rfl (by rfl) (run_load_mid 111 _ b (o + (k + 1) * 3) [.float .f32 (x ((k + 1) * 3)), .float .f32 (x ((k + 1) * 3 + 1)), .float .f32 (x ((k + 1) * 3 + 2))] rfl (R1.out) _ Try.underlying111 rfl info_lev) rfl rfl rfl ?_ AllReadyIn.nil
        simp only [Act.put, List.setIfInBounds_toArray, List.set_cons_zero, List.set_cons_succ]
        refine wpAnyIn_ready (rs := [7]) (by kernel_rfl) (by simp) ?_
        refine readIn 7 _ _ (.agg #[.float .f32 (x (k * 3)), .float .f32 (x (k * 3 + 1)), .float .f32 (x (k * 3 + 2))]) rfl rfl (by rfl) (run_load_mid 111 _ b (o + k * 3) [.float .f32 (x (k * 3)), .float .f32 (x (k * 3 + 1)), .float .f32 (x (k * 3 + 2))] rfl (R0.out) _ Try.underlying111 rfl info_lev) rfl rfl rfl ?_ AllReadyIn.nil
        simp only [Act.put, List.setIfInBounds_toArray, List.set_cons_zero, List.set_cons_succ]
        refine takeIn 12 _ _ (.agg #[.float .f32 (x (k * 3)), .float .f32 (x (k * 3 + 1)), .float .f32 (x (k * 3 + 2)), .float .f32 (x ((k + 1) * 3)), .float .f32 (x ((k + 1) * 3 + 1)), .float .f32 (x ((k + 1) * 3 + 2))]) rfl rfl (by rfl) (by kernel_rfl) (by kernel_rfl) (by kernel_rfl) (fun w => by unfold execOp; go_simp) (fun _ => rfl) rfl rfl ?_
        simp only [Act.put, List.setIfInBounds_toArray, List.set_cons_zero, List.set_cons_succ]
        refine wpAnyIn_ready (rs := [13]) (by kernel_rfl) (by simp) ?_
        refine yieldIn (F := Fence.wide) (l := l) (fn := fn) (tmps := tmps) (assign := assign) (body := body) 13 rfl rfl (by rfl) (by have hy2 := hy.out; unfold execOp; go_simp) (fun _ _ => True.intro) (fun h => by cases h) hR.out (fun e W3 hr => ?_) AllReadyIn.nil
        rcases hr with ⟨rfl, hJ3, hk3⟩ | ⟨rfl, hJx3⟩
        · refine ⟨.bool true, rfl, ?_⟩
          simp only [Act.put, List.setIfInBounds_toArray, List.set_cons_zero, List.set_cons_succ]
          refine takeIn 14 _ _ (.bool false) rfl rfl (by rfl) (by kernel_rfl) (by kernel_rfl) (by kernel_rfl) (fun w => by unfold execOp; go_simp) (fun _ => rfl) rfl rfl ?_
          simp only [Act.put, List.setIfInBounds_toArray, List.set_cons_zero, List.set_cons_succ]
          refine wpAnyIn_done (by kernel_rfl) (NoPanic.normal ?_) _
          gi_wp2
          go_roundw
          case rel => exact ⟨k + 1, by omega, by go_num, by rw [take_fin (m := n - 1) (k := k) (by omega)]; exact hJ3, hid (hnx.out.drew.trans hk3)⟩
          case measure => simp [intOf]; omega
        · refine ⟨.bool false, rfl, ?_⟩
          simp only [Act.put, List.setIfInBounds_toArray, List.set_cons_zero, List.set_cons_succ]
          refine takeIn 14 _ _ (.bool true) rfl rfl (by rfl) (by kernel_rfl) (by kernel_rfl) (by kernel_rfl) (fun w => by unfold execOp; go_simp) (fun _ => rfl) rfl rfl ?_
          simp only [Act.put, List.setIfInBounds_toArray, List.set_cons_zero, List.set_cons_succ]
          refine wpAnyIn_done (by kernel_rfl) (NoPanic.normal ?_) _
          gi_wp2
          refine bodyPost_ret (results_none rfl _ _ _) rfl ?_
          exact ⟨⟨_, rfl⟩, .inr ⟨_, by rw [← take_fin (m := n - 1) (k := k) (by omega)]; exact List.take_prefix _ _, hJx3⟩⟩
      refine readIn 11 _ _ (.agg #[.float .f32 (x ((k + 1) * 3)), .float .f32 (x ((k + 1) * 3 + 1)), .float .f32 (x ((k + 1) * 3 + 2))]) rfl rfl (by rfl) (run_load_mid 111 _ b (o + (k + 1) * 3) [.float .f32 (x ((k + 1) * 3)), .float .f32 (x ((k + 1) * 3 + 1)), .float .f32 (x ((k + 1) * 3 + 2))] rfl (R1.out) _ Try.underlying111 rfl info_lev) rfl rfl rfl ?_ AllReadyIn.nil
      simp only [Act.put, List.setIfInBounds_toArray, List.set_cons_zero, List.set_cons_succ]
      refine wpAnyIn_ready (rs := [3]) (by kernel_rfl) (by simp) ?_
      refine readIn 3 _ _ (.slice (some ⟨b, o, none⟩) n cap) rfl rfl (by rfl) (run_load_cell _ _ ⟨Bs, 0, none⟩ _ rfl (run_loadVar_one Try.underlying27 rfl hbx.out)) rfl rfl rfl ?_ AllReadyIn.nil
      simp only [Act.put, List.setIfInBounds_toArray, List.set_cons_zero, List.set_cons_succ]
      refine takeIn 6 _ _ (.pointer (some ⟨b, o + k * 3, none⟩)) rfl rfl (by rfl) (by kernel_rfl) (by kernel_rfl) (by kernel_rfl) (fun w => run_index_op _ _ rfl rfl (run_indexAt Try.underlying27 info_lev (by have := HL.out; omega) w)) (fun _ => rfl) rfl rfl ?_
      simp only [Act.put, List.setIfInBounds_toArray, List.set_cons_zero, List.set_cons_succ]
      refine wpAnyIn_ready (rs := [7]) (by kernel_rfl) (by simp) ?_
      refine readIn 7 _ _ (.agg #[.float .f32 (x (k * 3)), .float .f32 (x (k * 3 + 1)), .float .f32 (x (k * 3 + 2))]) rfl rfl (by rfl) (run_load_mid 111 _ b (o + k * 3) [.float .f32 (x (k * 3)), .float .f32 (x (k * 3 + 1)), .float .f32 (x (k * 3 + 2))] rfl (R0.out) _ Try.underlying111 rfl info_lev) rfl rfl rfl ?_ AllReadyIn.nil
      simp only [Act.put, List.setIfInBounds_toArray, List.set_cons_zero, List.set_cons_succ]
      refine takeIn 12 _ _ (.agg #[.float .f32 (x (k * 3)), .float .f32 (x (k * 3 + 1)), .float .f32 (x (k * 3 + 2)), .float .f32 (x ((k + 1) * 3)), .float .f32 (x ((k + 1) * 3 + 1)), .float .f32 (x ((k + 1) * 3 + 2))]) rfl rfl (by rfl) (by kernel_rfl) (by kernel_rfl) (by kernel_rfl) (fun w => by unfold execOp; go_simp) (fun _ => rfl) rfl rfl ?_
      simp only [Act.put, List.setIfInBounds_toArray, List.set_cons_zero, List.set_cons_succ]
      refine wpAnyIn_ready (rs := [13]) (by kernel_rfl) (by simp) ?_
      refine yieldIn (F := Fence.wide) (l := l) (fn := fn) (tmps := tmps) (assign := assign) (body := body) 13 rfl rfl (by rfl) (by have hy2 := hy.out; unfold execOp; go_simp) (fun _ _ => True.intro) (fun h => by cases h) hR.out (fun e W3 hr => ?_) AllReadyIn.nil
      rcases hr with ⟨rfl, hJ3, hk3⟩ | ⟨rfl, hJx3⟩
      · refine ⟨.bool true, rfl, ?_⟩
        simp only [Act.put, List.setIfInBounds_toArray, List.set_cons_zero, List.set_cons_succ]
        refine takeIn 14 _ _ (.bool false) rfl rfl (by rfl) (by kernel_rfl) (by kernel_rfl) (by kernel_rfl) (fun w => by unfold execOp; go_simp) (fun _ => rfl) rfl rfl ?_
        simp only [Act.put, List.setIfInBounds_toArray, List.set_cons_zero, List.set_cons_succ]
        refine wpAnyIn_done (by kernel_rfl) (NoPanic.normal ?_) _
        gi_wp2
        go_roundw
        case rel => exact ⟨k + 1, by omega, by go_num, by rw [take_fin (m := n - 1) (k := k) (by omega)]; exact hJ3, hid (hnx.out.drew.trans hk3)⟩
        case measure => simp [intOf]; omega
      · refine ⟨.bool false, rfl, ?_⟩
        simp only [Act.put, List.setIfInBounds_toArray, List.set_cons_zero, List.set_cons_succ]
        refine takeIn 14 _ _ (.bool true) rfl rfl (by rfl) (by kernel_rfl) (by kernel_rfl) (by kernel_rfl) (fun w => by unfold execOp; go_simp) (fun _ => rfl) rfl rfl ?_
        simp only [Act.put, List.setIfInBounds_toArray, List.set_cons_zero, List.set_cons_succ]
        refine wpAnyIn_done (by kernel_rfl) (NoPanic.normal ?_) _
        gi_wp2
        refine bodyPost_ret (results_none rfl _ _ _) rfl ?_
        exact ⟨⟨_, rfl⟩, .inr ⟨_, by rw [← take_fin (m := n - 1) (k := k) (by omega)]; exact List.take_prefix _ _, hJx3⟩⟩
    · have hk3 : ¬ (k : Int) + 1 < (n : Int) := by omega
      gi_wp2
      go_end0
      refine ⟨⟨_, rfl⟩, .inl ?_⟩
      have e : (List.finRange (n - 1)).take k = List.finRange (n - 1) := List.take_of_length_le (by simp; omega)
      rw [e] at hJs
      exact hJs

theorem neighbours_but (m : Nat) (Bs n0 sb : Nat) (p : Option Addr) (n cap : Nat) (x : Nat → Nat) (hn : n ≤ 1048576) (w : World) (hB : Bs < n0 ∧ Bs ≠ sb) (hn0 : n0 ≤ w.heap.size)
    (hBs : w.cell? ⟨Bs, 0, none⟩ = some (.slice p n cap)) (hc : 0 < n → ∃ b o, p = some ⟨b, o, none⟩ ∧ (b < n0 ∧ b ≠ sb) ∧ ∀ k, k < 3 * n → w.cell? ⟨b, o + k, none⟩ = some (.float .f32 (x k))) :
    SeqStopsK Fence.wide m Try.prog 159 #[.pointer (some ⟨Bs, 0, none⟩)] (fun k : Fin (n - 1) => encL x k.1) (BelowBut sb n0) (fun ys => ys = List.finRange (n - 1)) (fun pre => pre <+: List.finRange (n - 1)) (n - 1) w := fun l J Jx W hW hA _ hY h0 =>
  neighbours1_but m l Bs n0 sb p n cap x hn J Jx (fun pre W1 hj => hA pre W1 W1.drew none hj ⟨rfl, rfl, rfl, Nat.le_refl _, fun _ _ _ => rfl⟩ (fun r e => by cases e)) hY W hB ((hW.cell (p := ⟨Bs, 0, none⟩) (show Bs < _ by have := hB.1; omega)).trans hBs) (fun hp => by
    obtain ⟨b, o, e, hb, hk⟩ := hc hp
    exact ⟨b, o, e, hb, fun j hj => (hW.cell (p := ⟨b, o + j, none⟩) (show b < _ by have := hb.1; omega)).trans (hk j hj)⟩) h0
end Go.Proofs.Ytgmcpbhjcfiikaa
