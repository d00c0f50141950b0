import Derived.Test.YthpimindkmmkjaaGreatTTickColumns
import Derived.Test.YthpimindkmmkjaaGreatCTickColumns
import Derived.Test.YthpimindkmmkjaaGreatChecked
import Derived.Test.YthpimindkmmkjaaGreatRows
import Derived.Laws.FloatArith
import Derived.ProofKit
import Derived.WalkKit
import Derived.WalkLawsBesides
import Derived.WalkSpells
import Derived.Deep.QuietTactic
import Derived.BigQuiet
import Derived.Deep.RegionHeld3
import Derived.ChangeKeysEq
import Derived.Laws.BitsAllLaws
import Derived.Deep.MidRow
import Derived.Deep.WholeRow
import Derived.StillTailTactics
import Derived.Deep.Slices
import Derived.ChangeSame
import Derived.OrdersIn
import Derived.ControlIn
import Derived.RangeFuncSeq
import Derived.RangeFuncNested
import Derived.ArgAppend
import Derived.OwnWalkIn
import Derived.TacticsInMore
import Derived.Below
import Derived.Laws.AppendOwn
import Derived.RangeFuncLeaves
import Derived.RangeFuncBox
import Derived.MapKept
import Derived.StillTail
import Derived.Carry
import Derived.Shelf.Abstract
import Derived.OpenShut
/- The law FnExactTickColumns of chapter 1: at every argument the call returns true, and what was there before it is as it was. -/
namespace Go.Proofs.YthpimindkmmkjaaGreat
open Go.RowKit Go.Fl

set_option maxHeartbeats 1000000 in
set_option maxRecDepth 100000 in
theorem coreTickColumns (x0 : Nat → Nat) (t0 : Int) (x1 : Int) (r0 : Nat → Nat) (s0 : Int) (hl0 : ∀ i, i < 177 → r0 i < 4294967296) (hf0 : ∀ i, i < 177 → finB (r0 i) = true) (r1 : Int)
    (hS : ∀ w, Calls Tryz.prog 11 #[.agg (vls 178 (clw x0 t0)), .int .i64 x1] w fun e w' => e = .returned (.tuple #[.agg (vls 178 (clw r0 s0)), .int .i64 r1]) ∧ Below w.heap.size w w')
    (hI : ∀ w, Calls Tryz.prog 12 #[.agg (vls 178 (clw x0 t0)), .int .i64 x1] w fun e w' => e = .returned (.tuple #[.agg (vls 178 (clw r0 s0)), .int .i64 r1]) ∧ Below w.heap.size w w') (w : World) :
    Calls Tryz.prog 4 #[.agg (vls 178 (clw x0 t0)), .int .i64 x1] w fun e w' => e = .returned (.bool true) ∧ Below w.heap.size w w' := by
  have k0 : Hid (Kept w [(w.heap.size, vls 178 (clw x0 t0), 29)] (w.alloc (.cells (vls 178 (clw x0 t0)) 29))) := hid (((Kept.nil w).push _ _).sub (by simp))
  have HS := hid hS
  have HI := hid hI
  clear hS hI
  have Hl0 := hid hl0
  have Hf0 := hid hf0
  clear hl0 hf0
  go_enter Tryz.func4, Tryz.ntmps4
  go_wp2_with (first | (refine wpList_load_row rfl 29 _ rfl (w.heap.size) rfl 29 (vls 178 (clw x0 t0)) (0, 0) _ (k0.out.at (x := (w.heap.size, vls 178 (clw x0 t0), 29)) in0) Tryz.underlying29 rfl (by rw [vls_size]; exact info_lcol) ?_))
  refine (toColumn x0 t0 _).mono ?_
  rintro e u00 ⟨rfl, hu00⟩
  have k1 := hid (k0.out.stay hu00)
  clear k0 hu00
  go_wp2_with fail
  refine (HS.out _).mono ?_
  rintro e v0 ⟨rfl, hv0⟩
  have k2 := hid (k1.out.stay hv0)
  clear k1 hv0
  have bs0 : w.heap.size ≤ v0.heap.size := k2.out.size
  have fr0 := k2.out.fresh
  have k3 := hid (k2.out.push (vls 178 (clw (fun _ => 0) 0)) 35)
  clear k2
  have tok0 : True := trivial
  go_wp2_with (first | (have _t := tok0; refine store_row (by rfl) 35 _ _ (by rfl) (v0.heap.size) (vls 178 (clw r0 s0)) (vls 178 (clw (fun _ => 0) 0)) (by rfl) (by rfl) k3.out (by rw [vls_size]; exact info_col) (by simp) (vls_one (clw_one r0 s0)) (by omega) fr0 ?_; intro w0 k4; replace k4 := hid k4; clear k3 tok0) | (refine wpList_load_row rfl 29 _ rfl (w.heap.size) rfl 29 (vls 178 (clw x0 t0)) (0, 0) _ (k4.out.at (x := (w.heap.size, vls 178 (clw x0 t0), 29)) in1) Tryz.underlying29 rfl (by rw [vls_size]; exact info_lcol) ?_))
  refine (toColumn x0 t0 _).mono ?_
  rintro e u10 ⟨rfl, hu10⟩
  have k5 := hid (k4.out.stay hu10)
  clear k4 hu10
  go_wp2_with fail
  refine (HI.out _).mono ?_
  rintro e v1 ⟨rfl, hv1⟩
  have k6 := hid (k5.out.stay hv1)
  clear k5 hv1
  have bs1 : w.heap.size ≤ v1.heap.size := k6.out.size
  have fr1 := k6.out.fresh
  have k7 := hid (k6.out.push (vls 178 (clw (fun _ => 0) 0)) 35)
  clear k6
  have tok1 : True := trivial
  go_wp2_with (first | (have _t := tok1; refine store_row (by rfl) 35 _ _ (by rfl) (v1.heap.size) (vls 178 (clw r0 s0)) (vls 178 (clw (fun _ => 0) 0)) (by rfl) (by rfl) k7.out (by rw [vls_size]; exact info_col) (by simp) (vls_one (clw_one r0 s0)) (by omega) fr1 ?_; intro w1 k8; replace k8 := hid k8; clear k7 tok1) | (refine wpList_load_row rfl 35 _ rfl (v1.heap.size) rfl 35 (vls 178 (clw r0 s0)) (0, 0) _ (k8.out.at (x := (v1.heap.size, vls 178 (clw r0 s0), 35)) in0) Tryz.underlying35 rfl (by rw [vls_size]; exact info_col) ?_) | (refine wpList_load_row rfl 35 _ rfl (v0.heap.size) rfl 35 (vls 178 (clw r0 s0)) (0, 0) _ (k8.out.at (x := (v0.heap.size, vls 178 (clw r0 s0), 35)) in1) Tryz.underlying35 rfl (by rw [vls_size]; exact info_col) ?_))
  refine (eqColumn r0 s0 Hl0.out Hf0.out _).mono ?_
  rintro e z ⟨rfl, hz⟩
  have k9 := hid (k8.out.stay hz)
  clear k8 hz
  go_wp2
  go_ret
  exact ⟨rfl, k9.out.1⟩

theorem ticks_out (s : TSt) (hs : TVal s) (N : Nat) : ∃ (r : Nat → Nat) (tt n : Int), (∀ D : Nat, D < N → (∀ j, j ≤ D → (tSt s j).n = 0) → (tSt s (D + 1)).n ≠ 0 → r = (fun _ => 0) ∧ tt = 0 ∧ n = (tSt s (D + 1)).n) ∧ ((∀ j, j ≤ N → (tSt s j).n = 0) → r = (tSt s N).c ∧ tt = (tSt s N).t ∧ n = 0) ∧ (∀ i, i < 177 → r i < 4294967296) ∧ (∀ i, i < 177 → finB (r i) = true) := by
  rcases Classical.em (∃ D, D < N ∧ (∀ j, j ≤ D → (tSt s j).n = 0) ∧ (tSt s (D + 1)).n ≠ 0) with ⟨D, h1, h2, h3⟩ | h
  · refine ⟨fun _ => 0, 0, (tSt s (D + 1)).n, fun E e1 e2 e3 => ?_, fun hn => absurd (hn (D + 1) h1) h3, fun _ _ => (by decide : (0 : Nat) < 4294967296), fun _ _ => (by decide : finB 0 = true)⟩
    rcases Nat.lt_trichotomy D E with l | rfl | l
    · exact absurd (e2 (D + 1) l) h3
    · exact ⟨rfl, rfl, rfl⟩
    · exact absurd (h2 (E + 1) l) e3
  · have V := hs.at N
    exact ⟨(tSt s N).c, (tSt s N).t, 0, fun D d1 d2 d3 => absurd ⟨D, d1, d2, d3⟩ h, fun _ => ⟨rfl, rfl, rfl⟩, V.lt, colok_fin V.ok V.lt⟩

theorem lawTickColumns (c : Nat → Nat) (t : Int) (hb : ∀ i, i < 177 → c i < 4294967296) (m : Int) (_h1 : -9223372036854775808 ≤ m) (_h2 : m ≤ 9223372036854775807) (w : World) :
    Calls Tryz.prog 4 #[.agg (vls 178 (clw c t)), .int .i64 m] w fun e w' => e = .returned (.bool true) ∧ Below w.heap.size w w' := by
  rcases Classical.em (ColOk c t) with h | h
  · have hs : TVal ⟨c, t, 0⟩ := ⟨h, hb⟩
    by_cases hm : 0 ≤ m ∧ m ≤ 200
    · obtain ⟨N, rfl⟩ := Int.eq_ofNat_of_zero_le hm.1
      have hN : N ≤ 200 := by omega
      obtain ⟨r, tt, n, o1, o2, o3, o4⟩ := ticks_out ⟨c, t, 0⟩ hs N
      exact coreTickColumns c t N r tt o3 o4 n (sTicks_ok ⟨c, t, 0⟩ hs rfl N hN r tt n o1 o2) (iTicks_ok ⟨c, t, 0⟩ hs rfl N hN r tt n o1 o2) w
    · exact coreTickColumns c t m (fun _ => 0) 0 (fun _ _ => by decide) (fun _ _ => by decide) 2 (sTicks_range ⟨c, t, 0⟩ hs m hm) (iTicks_range ⟨c, t, 0⟩ hs m (by omega)) w
  · exact coreTickColumns c t m (fun _ => 0) 0 (fun _ _ => by decide) (fun _ _ => by decide) 1 (sTicks_bad ⟨c, t, 0⟩ hb h m) (iTicks_bad ⟨c, t, 0⟩ hb h m) w
end Go.Proofs.YthpimindkmmkjaaGreat

namespace Go.Proofs.YthpimindkmmkjaaGreat.fnExactTickColumns
open Go.RowKit Go.Fl Go.ChangeShapes Go.WideShapes Go.ChangeAt

set_option maxHeartbeats 2000000 in
theorem closed : joinedFacts Tryz.prog 4 Tryz.f4 Rows.fnExactTickColumnsSpec Rows.fnExactTickColumnsRow = true := by
  unfold joinedFacts
  simp only [Bool.and_eq_true]
  exact ⟨⟨⟨⟨⟨⟨⟨⟨⟨⟨⟨⟨⟨⟨⟨⟨⟨⟨⟨⟨⟨⟨⟨⟨⟨⟨⟨⟨⟨⟨⟨(by as_aux_lemma => kernel_rfl),
    laid⟩,
    rowed⟩,
    (by as_aux_lemma => kernel_rfl)⟩,
    (by as_aux_lemma => kernel_rfl)⟩,
    (by as_aux_lemma => kernel_rfl)⟩,
    (by rw [no_stops]; rfl)⟩,
    (by as_aux_lemma => kernel_rfl)⟩,
    (by rw [no_knobs]; rfl)⟩,
    (by as_aux_lemma => kernel_rfl)⟩,
    (by as_aux_lemma => kernel_rfl)⟩,
    (by as_aux_lemma => kernel_rfl)⟩,
    (by as_aux_lemma => kernel_rfl)⟩,
    (by as_aux_lemma => kernel_rfl)⟩,
    (by as_aux_lemma => kernel_rfl)⟩,
    (by as_aux_lemma => kernel_rfl)⟩,
    (by as_aux_lemma => kernel_rfl)⟩,
    (by as_aux_lemma => kernel_rfl)⟩,
    (by as_aux_lemma => kernel_rfl)⟩,
    (by as_aux_lemma => kernel_rfl)⟩,
    (by as_aux_lemma => kernel_rfl)⟩,
    (by as_aux_lemma => kernel_rfl)⟩,
    (show (Rows.fnExactTickColumnsRow.plainKeys == Tryz.prog.plainKeys) = true by rw [plain_keys]; rfl)⟩,
    (by as_aux_lemma => kernel_rfl)⟩,
    stops_heard⟩,
    may_enter⟩,
    (show (Rows.fnExactTickColumnsRow.lifted == Tryz.prog.liftsFinal) = true by rw [lifts_final]; rfl)⟩,
    (show (Tryz.prog.make == some Rows.fnExactTickColumnsRow.make) = true by rw [made]; rfl)⟩,
    (by as_aux_lemma => kernel_rfl)⟩,
    (by as_aux_lemma => kernel_rfl)⟩,
    (by as_aux_lemma => kernel_rfl)⟩,
    (by as_aux_lemma => kernel_rfl)⟩

set_option maxRecDepth 100000 in
theorem lifted (os : Os) (started : os.Started) (H : Type) (enc : TypeId × Value → H) :
    ReturnsInHanded {} Tryz.checked os 4 .any (Rows.fnExactTickColumnsSpec.pre6 enc Tryz.prog Tryz.f4 Rows.fnExactTickColumnsRow.domain false) (Rows.fnExactTickColumnsSpec.post enc Tryz.prog Tryz.f4 false true false false) := by
  refine LawFrame.lifted (C := Tryz.checked) (fn := Tryz.f4) (n := 2) (tb := 4) started own (by kernel_rfl) Tryz.func4 laid ?_ rfl rfl ?_ rfl Tryz.underlying4
    (ChangeSpec.witness6 (enc := enc) (C := Tryz.checked) false ⟨#[], #[.agg ((Array.replicate 177 (.float .f32 0)).push (.int .i64 0)), .int .i64 0], []⟩ 8 (by kernel_rfl) (by kernel_rfl) (by kernel_rfl) (by kernel_rfl)) ?_
  · intro t ht
    simp only [Tryz.params4, List.mem_cons, List.not_mem_nil, or_false] at ht
    rcases ht with rfl | rfl <;> first | exact rdc | exact rdi
  · intro ds hd
    match ds, hd with
    | [_, _], _ => rfl
  · intro W base args ds ps hval hn _
    obtain ⟨v0, v1, rfl⟩ : ∃ v0 v1, args = #[v0, v1] := arr2 hn
    obtain ⟨c0, n0, rfl, hb0, hi0⟩ := open_col Tryz.underlying29 rfl Tryz.underlying22 Tryz.underlying2 cells178 types178 (hval 0 29 v0 rfl rfl)
    obtain ⟨c1, rfl, hb1, hc1⟩ := open_i64 Tryz.underlying2 (hval 1 2 v1 rfl rfl)
    exact lawTickColumns c0 n0 hb0 c1 hb1 hc1 W

theorem over : Rows.fnExactTickColumnsRow.holds Tryz.pinned (OpenSpec.ofChange Rows.fnExactTickColumnsSpec) :=
  OpenClaim.holds_of_wide 4 Tryz.f4 rfl rfl rfl rfl rfl rfl rfl ⟨rfl, rfl, rfl, rfl, rfl⟩ rfl rfl rfl rfl rfl (by kernel_rfl) Tryz.func4 closed
    (of_decide_eq_true (by kernel_rfl)) (by unfold Func.isWrapper; rw [if_neg (by decide +kernel)]; exact ⟨rfl, rfl⟩)
    (fun os started H enc _ => lifted os started H enc)

theorem proved : Rows.FnExactTickColumnsSaid := over
#print axioms proved
end Go.Proofs.YthpimindkmmkjaaGreat.fnExactTickColumns
