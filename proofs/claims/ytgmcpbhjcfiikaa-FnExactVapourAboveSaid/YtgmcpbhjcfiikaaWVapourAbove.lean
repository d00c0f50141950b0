import Derived.Test.YtgmcpbhjcfiikaaTVapourAbove
import Derived.Test.YtgmcpbhjcfiikaaCVapourAbove
import Derived.Test.YtgmcpbhjcfiikaaChecked
import Derived.Test.YtgmcpbhjcfiikaaRows
import Derived.Laws.FloatArith
import Derived.ProofKit
import Derived.WalkKit
import Derived.WalkLawsBesides
import Derived.WalkSpells
import Derived.Deep.QuietTactic
import Derived.BigQuiet
import Derived.Deep.RegionHeld3
import Derived.ChangeKeysEq
import Derived.Laws.BitsAllLaws
import Derived.Deep.MidRow
import Derived.Deep.WholeRow
import Derived.StillTailTactics
import Derived.Deep.Slices
import Derived.ChangeSame
import Derived.OrdersIn
import Derived.ControlIn
import Derived.RangeFuncSeq
import Derived.RangeFuncNested
import Derived.RangeFuncLeaves
import Derived.RangeFuncBox
import Derived.OwnWalkIn
import Derived.TacticsInMore
import Derived.LoopNIn
import Derived.LoopIn
import Derived.Shelf.Abstract
import Derived.ArgAppend
import Derived.Lib.SliceRun
import Derived.Below
import Derived.Laws.AppendOwn
import Derived.OpenShut
/- The law FnExactVapourAbove of chapter 1: at every argument the call returns true, and what was there before it is as it was. -/
namespace Go.Proofs.Ytgmcpbhjcfiikaa
open Go.RowKit Go.Fl

set_option maxRecDepth 100000 in
theorem iVapour_bad (n : Nat) (x : Nat → Nat) (hx : W32 x) (hq : souB n x = false) (h : Nat) (w : World) (s : Value) (hs : Rd w s n x) (hn : n ≤ 1048576) :
    Calls Try.prog 22 #[s, .float .f32 h] w fun e w' => e = .returned (.tuple #[.float .f32 0, .int .i64 1]) ∧ Below w.heap.size w w' := by
  have HA := hid (iAirAt_bad n x hx hq h w s hs hn)
  obtain ⟨p, cap, rfl, hcc⟩ := hs
  clear hcc hx hq
  refine (callsIn_wide (n := 9)).1 ?_
  refine callsIn_of_wp_marks Try.func22 rfl trivial ?_ rfl
  simp only [Try.ntmps22, List.size_toArray, List.length_cons, List.length_nil, Nat.reduceAdd, Nat.reduceSub, Array.replicate_succ, Array.replicate_zero, List.push_toArray, List.append_toArray, List.nil_append, List.cons_append]
  gi_wp2_with fail
  refine ⟨trivial, ?_⟩
  gi_at_call 79
  refine (callsIn_wide.2 HA.out).mono ?_
  rintro e w1 ⟨rfl, hb1⟩
  have HB1 := hid hb1
  clear hb1 HA
  gi_wp2_with fail
  have hb9 := HB1.out
  exact ⟨_, results_tmp2 rfl _ _ _, rfl, hb9.alloc hb9.size _⟩

set_option maxRecDepth 100000 in
set_option maxHeartbeats 1000000 in
theorem coreVapourAbove (n : Nat) (x : Nat → Nat) (hx : W32 x) (x0 : Nat) (r0 : Nat) (hl0 : r0 < 4294967296) (r1 : Int)
    (hS : ∀ w s, Rd w s n x → n ≤ 1048576 → Calls Try.prog 20 #[s, .float .f32 x0] w fun e w' => e = .returned (.tuple #[.float .f32 r0, .int .i64 r1]) ∧ Below w.heap.size w w')
    (hI : ∀ w s, Rd w s n x → n ≤ 1048576 → Calls Try.prog 22 #[s, .float .f32 x0] w fun e w' => e = .returned (.tuple #[.float .f32 r0, .int .i64 r1]) ∧ Below w.heap.size w w') (s : Value) (w : World) (hs : Rd w s n x) (hm : n ≤ maxLen) :
    Calls Try.prog 3 #[s, .float .f32 x0] w fun e w' => e = .returned (.bool true) ∧ Below w.heap.size w w' := by
  have HS := hid hS
  have HI := hid hI
  have HX := hid hx
  have q0 := hid hs
  have k0 : Hid (Kept w [] w) := hid (Kept.nil w)
  clear hS hI hx
  obtain ⟨p, cap, rfl, _⟩ := hs
  by_cases hn : n ≤ 1048576
  · have HN := hid hn
    have hneg : ¬ (1048576 - (n : Int) < 0) := by omega
    obtain ⟨zf0, wf0, hc0, hd0, hs0⟩ := conv_any (P := Try.prog) 23 30 r0 hl0 Try.underlying23 Try.underlying30
    have S0 := hid hs0
    have D0 := hid hd0
    clear hl0 hs0 hd0
    clear hn
    all_goals
      go_enter Try.func3, Try.ntmps3
      go_wp2_with fail
      refine (szLevels_ok p n cap HN.out _).mono ?_
      rintro e u ⟨rfl, rfl⟩
      go_wp2_with fail
      refine (toLevels _ n x HX.out _ q0.out HN.out).mono ?_
      rintro e u1 ⟨g1, rfl, R1, hb1⟩
      have q1 := hid (q0.out.stay hb1)
      have k1 := hid (k0.out.stay hb1)
      have s1 := hid R1
      clear hb1
      go_wp2_with fail
      refine (HS.out _ _ s1.out HN.out).mono ?_
      rintro e u2 ⟨rfl, hb2⟩
      have q2 := hid (q1.out.stay hb2)
      have k2 := hid (k1.out.stay hb2)
      have s1_2 := hid (s1.out.stay hb2)
      clear hb2
      go_wp2_with fail
      refine (toLevels _ n x HX.out _ q2.out HN.out).mono ?_
      rintro e u3 ⟨g3, rfl, R3, hb3⟩
      have q3 := hid (q2.out.stay hb3)
      have k3 := hid (k2.out.stay hb3)
      have s1_3 := hid (s1_2.out.stay hb3)
      have s2 := hid R3
      clear hb3
      go_wp2_with fail
      refine (HI.out _ _ s2.out HN.out).mono ?_
      rintro e u4 ⟨rfl, hb4⟩
      have q4 := hid (q3.out.stay hb4)
      have k4 := hid (k3.out.stay hb4)
      have s1_4 := hid (s1_3.out.stay hb4)
      have s2_4 := hid (s2.out.stay hb4)
      clear hb4
      go_wp2_with fail
      refine (sameFloat2 _ _ (S0.out _ _) _).mono ?_
      rintro e z0 ⟨rfl, rfl⟩
      have qn0 := hid (rd_wf (rd_wf q4.out (D0.out _)) (D0.out _))
      have kn0 := hid (kept_wf (kept_wf k4.out (D0.out _)) (D0.out _))
      have s1_n0 := hid (rd_wf (rd_wf s1_4.out (D0.out _)) (D0.out _))
      have s2_n0 := hid (rd_wf (rd_wf s2_4.out (D0.out _)) (D0.out _))
      go_wp2_with fail
      refine (toLevels _ n x HX.out _ qn0.out HN.out).mono ?_
      rintro e u5 ⟨g5, rfl, R5, hb5⟩
      have q5 := hid (qn0.out.stay hb5)
      have k5 := hid (kn0.out.stay hb5)
      have s1_5 := hid (s1_n0.out.stay hb5)
      have s2_5 := hid (s2_n0.out.stay hb5)
      have s3 := hid R5
      clear hb5
      go_wp2_with fail
      refine (eqLevels _ _ n x HX.out _ s2_5.out s3.out HN.out).mono ?_
      rintro e u6 ⟨rfl, hb6⟩
      have q6 := hid (q5.out.stay hb6)
      have k6 := hid (k5.out.stay hb6)
      have s1_6 := hid (s1_5.out.stay hb6)
      have s2_6 := hid (s2_5.out.stay hb6)
      have s3_6 := hid (s3.out.stay hb6)
      clear hb6
      go_wp2
      go_ret
      exact ⟨rfl, k6.out.1⟩
  · have HM : Hid (1048576 < n) := hid (by omega)
    have hneg : 1048576 - (n : Int) < 0 := by omega
    clear hn
    go_enter Try.func3, Try.ntmps3
    go_wp2_with fail
    refine (szLevels_no p n cap HM.out hm _).mono ?_
    rintro e u ⟨rfl, rfl⟩
    go_wp2
    go_ret
    exact ⟨rfl, Below.refl _ _⟩

theorem lawVapourAbove (n : Nat) (x : Nat → Nat) (s : Value) (hx : ∀ k, x k < 4294967296) {w : World} (hs : Rd w s n x) (hm : n ≤ maxLen) (h : Nat) (hl : h < 4294967296) :
    Calls Try.prog 3 #[s, .float .f32 h] w fun e w' => e = .returned (.bool true) ∧ Below w.heap.size w w' := by
  rcases hq : souB n x with _ | _
  · exact coreVapourAbove n x hx h 0 (by decide) 1 (fun w s hs hn => sVapour_bad n x hx hq h w s hs hn) (fun w s hs hn => iVapour_bad n x hx hq h w s hs hn) s w hs hm
  · have F := souB_iff.1 hq
    rcases hr : atR n x h with ⟨rh, rv, c⟩
    have hB := fun k hk g l => at_between hx F hl (k := k) hk g l
    by_cases hc : c = 0
    · subst hc
      obtain ⟨j, hj⟩ := nx_of F hl hr
      have hv := at_vap F hr
      have hnn := smV_nn F hj hv (n - j) (by have := hj.2.1; omega)
      exact coreVapourAbove n x hx h (smV x h rv j (n - j)) (nn_lt hnn) 0
        (fun w s hs hn => sVapour_ok n x hx hq h hl rh rv 0 hr (fun _ => hv) _ (fun h0 => absurd rfl h0) (fun _ i hi => by rw [nx_uni F hi hj]) w s hs hn)
        (fun w s hs hn => iVapourAbove n x hx hq h rh rv 0 hr hB j (fun _ => hj) _ (fun h0 => absurd rfl h0) (fun _ => rfl) w s hs hn) s w hs hm
    · exact coreVapourAbove n x hx h 0 (by decide) c
        (fun w s hs hn => sVapour_ok n x hx hq h hl rh rv c hr (fun h0 => absurd h0 hc) 0 (fun _ => rfl) (fun h0 => absurd h0 hc) w s hs hn)
        (fun w s hs hn => iVapourAbove n x hx hq h rh rv c hr hB 0 (fun h0 => absurd h0 hc) 0 (fun _ => rfl) (fun h0 => absurd h0 hc) w s hs hn) s w hs hm
end Go.Proofs.Ytgmcpbhjcfiikaa

namespace Go.Proofs.Ytgmcpbhjcfiikaa.fnExactVapourAbove
open Go.RowKit Go.Fl Go.ChangeShapes Go.WideShapes Go.ChangeAt

set_option maxHeartbeats 2000000 in
theorem closed : joinedFacts Try.prog 3 Try.f3 Rows.fnExactVapourAboveSpec Rows.fnExactVapourAboveRow = true := by
  unfold joinedFacts
  simp only [Bool.and_eq_true]
  exact ⟨⟨⟨⟨⟨⟨⟨⟨⟨⟨⟨⟨⟨⟨⟨⟨⟨⟨⟨⟨⟨⟨⟨⟨⟨⟨⟨⟨⟨⟨⟨(by as_aux_lemma => kernel_rfl),
    laid⟩,
    rowed⟩,
    (by as_aux_lemma => kernel_rfl)⟩,
    (by as_aux_lemma => kernel_rfl)⟩,
    (by as_aux_lemma => kernel_rfl)⟩,
    (by rw [no_stops]; rfl)⟩,
    (by as_aux_lemma => kernel_rfl)⟩,
    (by rw [no_knobs]; rfl)⟩,
    (by as_aux_lemma => kernel_rfl)⟩,
    (by as_aux_lemma => kernel_rfl)⟩,
    (by as_aux_lemma => kernel_rfl)⟩,
    (by as_aux_lemma => kernel_rfl)⟩,
    (by as_aux_lemma => kernel_rfl)⟩,
    (by as_aux_lemma => kernel_rfl)⟩,
    (by as_aux_lemma => kernel_rfl)⟩,
    (by as_aux_lemma => kernel_rfl)⟩,
    (by as_aux_lemma => kernel_rfl)⟩,
    (by as_aux_lemma => kernel_rfl)⟩,
    (by as_aux_lemma => kernel_rfl)⟩,
    (by as_aux_lemma => kernel_rfl)⟩,
    (by as_aux_lemma => kernel_rfl)⟩,
    (show (Rows.fnExactVapourAboveRow.plainKeys == Try.prog.plainKeys) = true by rw [plain_keys]; rfl)⟩,
    (by as_aux_lemma => kernel_rfl)⟩,
    stops_heard⟩,
    may_enter⟩,
    (show (Rows.fnExactVapourAboveRow.lifted == Try.prog.liftsFinal) = true by rw [lifts_final]; rfl)⟩,
    (show (Try.prog.make == some Rows.fnExactVapourAboveRow.make) = true by rw [made]; rfl)⟩,
    (by as_aux_lemma => kernel_rfl)⟩,
    (by as_aux_lemma => kernel_rfl)⟩,
    (by as_aux_lemma => kernel_rfl)⟩,
    (by as_aux_lemma => kernel_rfl)⟩

set_option maxRecDepth 100000 in
theorem lifted (os : Os) (started : os.Started) (H : Type) (enc : TypeId × Value → H) :
    ReturnsInHanded {} Try.checked os 3 .any (Rows.fnExactVapourAboveSpec.pre6 enc Try.prog Try.f3 Rows.fnExactVapourAboveRow.domain false) (Rows.fnExactVapourAboveSpec.post enc Try.prog Try.f3 false true false false) := by
  refine LawFrame.lifted (C := Try.checked) (fn := Try.f3) (n := 2) (tb := 4) started own (by kernel_rfl) Try.func3 laid ?_ rfl rfl ?_ rfl Try.underlying4
    (ChangeSpec.witness6 (enc := enc) (C := Try.checked) false ⟨#[], #[.slice none 0 0, .float .f32 0], []⟩ 8 (by kernel_rfl) (by kernel_rfl) (by kernel_rfl) (by kernel_rfl)) ?_
  · intro t ht
    simp only [Try.params3, List.mem_cons, List.not_mem_nil, or_false] at ht
    rcases ht with rfl | rfl <;> first | exact rdf | exact rds
  · intro ds hd
    match ds, hd with
    | [_, _], _ => rfl
  · intro W base args ds ps hval hn hT
    obtain ⟨v0, v1, rfl⟩ : ∃ v0 v1, args = #[v0, v1] := arr2 hn
    simp only [Try.params3] at hT
    obtain ⟨d0, p0, t0⟩ := trodAll_head hT
    obtain ⟨n0, x0, R0, M0, X0⟩ := open_level Try.underlying22 Try.underlying113 Try.underlying41 Try.underlying23 ⟨rfl, rfl⟩ ⟨rfl, rfl⟩ ⟨rfl, rfl⟩ ⟨rfl, rfl⟩ cellsL cells2 cellsF t0 (open_sl Try.underlying22 (hval 0 22 v0 rfl rfl))
    obtain ⟨ds0, ps0, T0⟩ := trodAll_tail hT
    obtain ⟨c1, rfl, hb1⟩ := open_f32 Try.underlying23 (hval 1 23 v1 rfl rfl)
    exact lawVapourAbove n0 x0 v0 X0 R0 M0 c1 hb1

theorem over : Rows.fnExactVapourAboveRow.holds Try.pinned (OpenSpec.ofChange Rows.fnExactVapourAboveSpec) :=
  OpenClaim.holds_of_wide 3 Try.f3 rfl rfl rfl rfl rfl rfl rfl ⟨rfl, rfl, rfl, rfl, rfl⟩ rfl rfl rfl rfl rfl (by kernel_rfl) Try.func3 closed
    (of_decide_eq_true (by kernel_rfl)) (by unfold Func.isWrapper; rw [if_neg (by decide +kernel)]; exact ⟨rfl, rfl⟩)
    (fun os started H enc _ => lifted os started H enc)

theorem proved : Rows.FnExactVapourAboveSaid := over
#print axioms proved
end Go.Proofs.Ytgmcpbhjcfiikaa.fnExactVapourAbove
