import Derived.Test.YthpimindkmmkjaaGreatTTickColumn
import Derived.Test.YthpimindkmmkjaaGreatCTickColumn
import Derived.Test.YthpimindkmmkjaaGreatChecked
import Derived.Test.YthpimindkmmkjaaGreatRows
import Derived.Laws.FloatArith
import Derived.ProofKit
import Derived.WalkKit
import Derived.WalkLawsBesides
import Derived.WalkSpells
import Derived.Deep.QuietTactic
import Derived.BigQuiet
import Derived.Deep.RegionHeld3
import Derived.ChangeKeysEq
import Derived.Laws.BitsAllLaws
import Derived.Deep.MidRow
import Derived.Deep.WholeRow
import Derived.StillTailTactics
import Derived.Deep.Slices
import Derived.ChangeSame
import Derived.OrdersIn
import Derived.ControlIn
import Derived.RangeFuncSeq
import Derived.RangeFuncNested
import Derived.ArgAppend
import Derived.OwnWalkIn
import Derived.TacticsInMore
import Derived.Below
import Derived.Laws.AppendOwn
import Derived.RangeFuncLeaves
import Derived.RangeFuncBox
import Derived.MapKept
import Derived.StillTail
import Derived.Carry
import Derived.Shelf.Abstract
import Derived.OpenShut
/- The law FnExactTickColumn of chapter 1: at every argument the call returns true, and what was there before it is as it was. -/
namespace Go.Proofs.YthpimindkmmkjaaGreat
open Go.RowKit Go.Fl

set_option maxHeartbeats 1000000 in
set_option maxRecDepth 100000 in
theorem coreTickColumn (x0 : Nat → Nat) (t0 : Int) (r0 : Nat → Nat) (s0 : Int) (hl0 : ∀ i, i < 177 → r0 i < 4294967296) (hf0 : ∀ i, i < 177 → finB (r0 i) = true) (r1 : Int)
    (hS : ∀ w, Calls Tryz.prog 7 #[.agg (vls 178 (clw x0 t0))] w fun e w' => e = .returned (.tuple #[.agg (vls 178 (clw r0 s0)), .int .i64 r1]) ∧ Below w.heap.size w w')
    (hI : ∀ w, Calls Tryz.prog 9 #[.agg (vls 178 (clw x0 t0))] w fun e w' => e = .returned (.tuple #[.agg (vls 178 (clw r0 s0)), .int .i64 r1]) ∧ Below w.heap.size w w') (w : World) :
    Calls Tryz.prog 3 #[.agg (vls 178 (clw x0 t0))] w fun e w' => e = .returned (.bool true) ∧ Below w.heap.size w w' := by
  have k0 : Hid (Kept w [(w.heap.size, vls 178 (clw x0 t0), 29)] (w.alloc (.cells (vls 178 (clw x0 t0)) 29))) := hid (((Kept.nil w).push _ _).sub (by simp))
  have HS := hid hS
  have HI := hid hI
  clear hS hI
  have Hl0 := hid hl0
  have Hf0 := hid hf0
  clear hl0 hf0
  go_enter Tryz.func3, Tryz.ntmps3
  go_wp2_with (first | (refine wpList_load_row rfl 29 _ rfl (w.heap.size) rfl 29 (vls 178 (clw x0 t0)) (0, 0) _ (k0.out.at (x := (w.heap.size, vls 178 (clw x0 t0), 29)) in0) Tryz.underlying29 rfl (by rw [vls_size]; exact info_lcol) ?_))
  refine (toColumn x0 t0 _).mono ?_
  rintro e u00 ⟨rfl, hu00⟩
  have k1 := hid (k0.out.stay hu00)
  clear k0 hu00
  go_wp2_with fail
  refine (HS.out _).mono ?_
  rintro e v0 ⟨rfl, hv0⟩
  have k2 := hid (k1.out.stay hv0)
  clear k1 hv0
  have bs0 : w.heap.size ≤ v0.heap.size := k2.out.size
  have fr0 := k2.out.fresh
  have k3 := hid (k2.out.push (vls 178 (clw (fun _ => 0) 0)) 35)
  clear k2
  have tok0 : True := trivial
  go_wp2_with (first | (have _t := tok0; refine store_row (by rfl) 35 _ _ (by rfl) (v0.heap.size) (vls 178 (clw r0 s0)) (vls 178 (clw (fun _ => 0) 0)) (by rfl) (by rfl) k3.out (by rw [vls_size]; exact info_col) (by simp) (vls_one (clw_one r0 s0)) (by omega) fr0 ?_; intro w0 k4; replace k4 := hid k4; clear k3 tok0) | (refine wpList_load_row rfl 29 _ rfl (w.heap.size) rfl 29 (vls 178 (clw x0 t0)) (0, 0) _ (k4.out.at (x := (w.heap.size, vls 178 (clw x0 t0), 29)) in1) Tryz.underlying29 rfl (by rw [vls_size]; exact info_lcol) ?_))
  refine (toColumn x0 t0 _).mono ?_
  rintro e u10 ⟨rfl, hu10⟩
  have k5 := hid (k4.out.stay hu10)
  clear k4 hu10
  go_wp2_with fail
  refine (HI.out _).mono ?_
  rintro e v1 ⟨rfl, hv1⟩
  have k6 := hid (k5.out.stay hv1)
  clear k5 hv1
  have bs1 : w.heap.size ≤ v1.heap.size := k6.out.size
  have fr1 := k6.out.fresh
  have k7 := hid (k6.out.push (vls 178 (clw (fun _ => 0) 0)) 35)
  clear k6
  have tok1 : True := trivial
  go_wp2_with (first | (have _t := tok1; refine store_row (by rfl) 35 _ _ (by rfl) (v1.heap.size) (vls 178 (clw r0 s0)) (vls 178 (clw (fun _ => 0) 0)) (by rfl) (by rfl) k7.out (by rw [vls_size]; exact info_col) (by simp) (vls_one (clw_one r0 s0)) (by omega) fr1 ?_; intro w1 k8; replace k8 := hid k8; clear k7 tok1) | (refine wpList_load_row rfl 35 _ rfl (v1.heap.size) rfl 35 (vls 178 (clw r0 s0)) (0, 0) _ (k8.out.at (x := (v1.heap.size, vls 178 (clw r0 s0), 35)) in0) Tryz.underlying35 rfl (by rw [vls_size]; exact info_col) ?_) | (refine wpList_load_row rfl 35 _ rfl (v0.heap.size) rfl 35 (vls 178 (clw r0 s0)) (0, 0) _ (k8.out.at (x := (v0.heap.size, vls 178 (clw r0 s0), 35)) in1) Tryz.underlying35 rfl (by rw [vls_size]; exact info_col) ?_))
  refine (eqColumn r0 s0 Hl0.out Hf0.out _).mono ?_
  rintro e z ⟨rfl, hz⟩
  have k9 := hid (k8.out.stay hz)
  clear k8 hz
  go_wp2
  go_ret
  exact ⟨rfl, k9.out.1⟩

theorem lawTickColumn (c : Nat → Nat) (t : Int) (hb : ∀ i, i < 177 → c i < 4294967296) (w : World) :
    Calls Tryz.prog 3 #[.agg (vls 178 (clw c t))] w fun e w' => e = .returned (.bool true) ∧ Below w.heap.size w w' := by
  rcases Classical.em (ColOk c t) with h | h
  · rcases Classical.em (tickOk c t) with k | k
    · exact coreTickColumn c t (tickW c) (t + 1) (tickW_lt h hb k) (colok_fin k.2.2 (tickW_lt h hb k)) 0 (sTickColumn_ok c t hb h _ _ _ (sTick_t c t hb h k)) (iTick_t c t hb h k) w
    · exact coreTickColumn c t (fun _ => 0) 0 (fun _ _ => by decide) (fun _ _ => by decide) 4 (sTickColumn_ok c t hb h _ _ _ (sTick_f c t hb h k)) (iTick_f c t hb h k) w
  · exact coreTickColumn c t (fun _ => 0) 0 (fun _ _ => by decide) (fun _ _ => by decide) 1 (sTickColumn_bad c t hb h) (iTick_bad c t hb h) w
end Go.Proofs.YthpimindkmmkjaaGreat

namespace Go.Proofs.YthpimindkmmkjaaGreat.fnExactTickColumn
open Go.RowKit Go.Fl Go.ChangeShapes Go.WideShapes Go.ChangeAt

set_option maxHeartbeats 2000000 in
theorem closed : joinedFacts Tryz.prog 3 Tryz.f3 Rows.fnExactTickColumnSpec Rows.fnExactTickColumnRow = true := by
  unfold joinedFacts
  simp only [Bool.and_eq_true]
  exact ⟨⟨⟨⟨⟨⟨⟨⟨⟨⟨⟨⟨⟨⟨⟨⟨⟨⟨⟨⟨⟨⟨⟨⟨⟨⟨⟨⟨⟨⟨⟨(by as_aux_lemma => kernel_rfl),
    laid⟩,
    rowed⟩,
    (by as_aux_lemma => kernel_rfl)⟩,
    (by as_aux_lemma => kernel_rfl)⟩,
    (by as_aux_lemma => kernel_rfl)⟩,
    (by rw [no_stops]; rfl)⟩,
    (by as_aux_lemma => kernel_rfl)⟩,
    (by rw [no_knobs]; rfl)⟩,
    (by as_aux_lemma => kernel_rfl)⟩,
    (by as_aux_lemma => kernel_rfl)⟩,
    (by as_aux_lemma => kernel_rfl)⟩,
    (by as_aux_lemma => kernel_rfl)⟩,
    (by as_aux_lemma => kernel_rfl)⟩,
    (by as_aux_lemma => kernel_rfl)⟩,
    (by as_aux_lemma => kernel_rfl)⟩,
    (by as_aux_lemma => kernel_rfl)⟩,
    (by as_aux_lemma => kernel_rfl)⟩,
    (by as_aux_lemma => kernel_rfl)⟩,
    (by as_aux_lemma => kernel_rfl)⟩,
    (by as_aux_lemma => kernel_rfl)⟩,
    (by as_aux_lemma => kernel_rfl)⟩,
    (show (Rows.fnExactTickColumnRow.plainKeys == Tryz.prog.plainKeys) = true by rw [plain_keys]; rfl)⟩,
    (by as_aux_lemma => kernel_rfl)⟩,
    stops_heard⟩,
    may_enter⟩,
    (show (Rows.fnExactTickColumnRow.lifted == Tryz.prog.liftsFinal) = true by rw [lifts_final]; rfl)⟩,
    (show (Tryz.prog.make == some Rows.fnExactTickColumnRow.make) = true by rw [made]; rfl)⟩,
    (by as_aux_lemma => kernel_rfl)⟩,
    (by as_aux_lemma => kernel_rfl)⟩,
    (by as_aux_lemma => kernel_rfl)⟩,
    (by as_aux_lemma => kernel_rfl)⟩

set_option maxRecDepth 100000 in
theorem lifted (os : Os) (started : os.Started) (H : Type) (enc : TypeId × Value → H) :
    ReturnsInHanded {} Tryz.checked os 3 .any (Rows.fnExactTickColumnSpec.pre6 enc Tryz.prog Tryz.f3 Rows.fnExactTickColumnRow.domain false) (Rows.fnExactTickColumnSpec.post enc Tryz.prog Tryz.f3 false true false false) := by
  refine LawFrame.lifted (C := Tryz.checked) (fn := Tryz.f3) (n := 1) (tb := 4) started own (by kernel_rfl) Tryz.func3 laid ?_ rfl rfl ?_ rfl Tryz.underlying4
    (ChangeSpec.witness6 (enc := enc) (C := Tryz.checked) false ⟨#[], #[.agg ((Array.replicate 177 (.float .f32 0)).push (.int .i64 0))], []⟩ 8 (by kernel_rfl) (by kernel_rfl) (by kernel_rfl) (by kernel_rfl)) ?_
  · intro t ht
    simp only [Tryz.params3, List.mem_cons, List.not_mem_nil, or_false] at ht
    subst ht; exact rdc
  · intro ds hd
    match ds, hd with
    | [_], _ => rfl
  · intro W base args ds ps hval hn _
    obtain ⟨v0, rfl⟩ : ∃ v0, args = #[v0] := arr1 hn
    obtain ⟨c0, n0, rfl, hb0, hi0⟩ := open_col Tryz.underlying29 rfl Tryz.underlying22 Tryz.underlying2 cells178 types178 (hval 0 29 v0 rfl rfl)
    exact lawTickColumn c0 n0 hb0 W

theorem over : Rows.fnExactTickColumnRow.holds Tryz.pinned (OpenSpec.ofChange Rows.fnExactTickColumnSpec) :=
  OpenClaim.holds_of_wide 3 Tryz.f3 rfl rfl rfl rfl rfl rfl rfl ⟨rfl, rfl, rfl, rfl, rfl⟩ rfl rfl rfl rfl rfl (by kernel_rfl) Tryz.func3 closed
    (of_decide_eq_true (by kernel_rfl)) (by unfold Func.isWrapper; rw [if_neg (by decide +kernel)]; exact ⟨rfl, rfl⟩)
    (fun os started H enc _ => lifted os started H enc)

theorem proved : Rows.FnExactTickColumnSaid := over
#print axioms proved
end Go.Proofs.YthpimindkmmkjaaGreat.fnExactTickColumn
