import Derived.Test.YtdmnlbfmcibohaaULiftOf
import Derived.Test.YtdmnlbfmcibohaaCLiftOf
import Derived.Test.YtdmnlbfmcibohaaChecked
import Derived.Test.YtdmnlbfmcibohaaRows
import Derived.Laws.FloatArith
import Derived.ProofKit
import Derived.WalkKit
import Derived.WalkLawsBesides
import Derived.WalkSpells
import Derived.Deep.QuietTactic
import Derived.BigQuiet
import Derived.Deep.RegionHeld3
import Derived.ChangeKeysEq
import Derived.Laws.BitsAllLaws
import Derived.Deep.MidRow
import Derived.Deep.WholeRow
import Derived.StillTailTactics
import Derived.Deep.Slices
import Derived.ChangeSame
import Derived.OrdersIn
import Derived.ControlIn
import Derived.RangeFuncSeq
import Derived.RangeFuncNested
import Derived.RangeFuncLeaves
import Derived.RangeFuncBox
import Derived.OwnWalkIn
import Derived.TacticsInMore
import Derived.LoopNIn
import Derived.LoopIn
import Derived.Shelf.Abstract
import Derived.ArgAppend
import Derived.Lib.SliceRun
import Derived.OpenShut
/- The law FnExactLiftOf of chapter 1: at every argument the call returns true, and what was there before it is as it was. -/
namespace Go.Proofs.Ytdmnlbfmcibohaa
open Go.RowKit Go.Fl

set_option maxRecDepth 100000 in
set_option maxHeartbeats 2000000 in
theorem coreLiftOf (n : Nat) (x : Nat → Nat) (hx : W32 x) (a h v : Nat) (r0 : Nat) (hl0 : r0 < 4294967296) (r1 : Int)
    (hS : ∀ w s, Rd w s n x → n ≤ 1048576 → Calls Try.prog 24 #[s, .agg #[.float .f32 a, .float .f32 h, .float .f32 v]] w fun e w' => e = .returned (.tuple #[.float .f32 r0, .int .i64 r1]) ∧ Below w.heap.size w w')
    (hI : ∀ w s, Rd w s n x → n ≤ 1048576 → Calls Try.prog 27 #[s, .agg #[.float .f32 a, .float .f32 h, .float .f32 v]] w fun e w' => e = .returned (.tuple #[.float .f32 r0, .int .i64 r1]) ∧ Below w.heap.size w w') (s : Value) (w : World) (hs : Rd w s n x) (hm : n ≤ maxLen) :
    Calls Try.prog 5 #[s, .agg #[.float .f32 a, .float .f32 h, .float .f32 v]] w fun e w' => e = .returned (.bool true) ∧ Below w.heap.size w w' := by
  have HS := hid hS
  have HI := hid hI
  have HX := hid hx
  have q0 := hid hs
  have k0 : Hid (Kept w [(w.heap.size, #[.float .f32 a, .float .f32 h, .float .f32 v], 42)] (w.alloc (.cells #[.float .f32 a, .float .f32 h, .float .f32 v] 42))) := hid ((Kept.nil w).push _ _)
  clear hS hI hx
  obtain ⟨p, cap, rfl, _⟩ := hs
  by_cases hn : n ≤ 1048576
  · have HN := hid hn
    have hneg : ¬ (1048576 - (n : Int) < 0) := by omega
    obtain ⟨zf0, wf0, hc0, hd0, hs0⟩ := conv_any (P := Try.prog) 22 29 r0 hl0 Try.underlying22 Try.underlying29
    have S0 := hid hs0
    have D0 := hid hd0
    clear hl0 hs0 hd0
    clear hn
    go_enter Try.func5, Try.ntmps5
    go_wp2_with fail
    refine (szLevels_ok p n cap HN.out _).mono ?_
    rintro e u ⟨rfl, rfl⟩
    go_wp2_with fail
    refine region_kept (w0 := w) (l := [(w.heap.size, #[.float .f32 a, .float .f32 h, .float .f32 v], 42)]) 10 #[false, false, false, false, false, false, false, false, false, false] (by kernel_rfl) rfl rfl ?_
    have kd := k0.out.drew
    generalize World.drew _ = wd at kd ⊢
    refine take_val 0 _ _ (.slice p n cap) rfl (by rfl) (by kernel_rfl) (by kernel_rfl) (by kernel_rfl) (fun w => by rfl) rfl rfl kd ?_
    simp only [Act.put, List.setIfInBounds_toArray, List.set_cons_zero, List.set_cons_succ]
    refine take_load 2 _ _ rfl (by rfl) (by kernel_rfl) (by kernel_rfl) (by kernel_rfl) 42 _ rfl (w.heap.size) (#[.float .f32 a, .float .f32 h, .float .f32 v]) 42 rfl (by simp) _ Try.underlying42 rfl (info_lpar) rfl rfl kd ?_
    simp only [Act.put, List.setIfInBounds_toArray, List.set_cons_zero, List.set_cons_succ]
    refine wpAnyH_ready (rs := [1]) (by kernel_rfl) (by simp) ?_
    refine callKQ 1 _ (fun y w' => ∃ g, y = .slice (some ⟨g, 0, none⟩) n n ∧ Rd w' (.slice (some ⟨g, 0, none⟩) n n) n x) kd rfl (by rfl) 25 #[.slice p n cap] (fun w => by unfold execOp; go_simp) rfl ?hc1 (fun v1 w1 hv1 k1 hb1 => ?_) AllReadyH.nil
    case hc1 =>
      refine (toLevels _ n x HX.out _ (q0.out.stay kd.1) HN.out).mono ?_
      rintro e w' ⟨g, rfl, R, hb⟩
      exact ⟨_, ⟨g, rfl, R⟩, rfl, hb⟩
    obtain ⟨g1, rfl, R1⟩ := hv1
    refine ⟨k1, ?_⟩
    simp only [Act.put, List.setIfInBounds_toArray, List.set_cons_zero, List.set_cons_succ]
    refine wpAnyH_ready (rs := [3]) (by kernel_rfl) (by simp) ?_
    refine callKQ 3 _ (fun y _ => y = .agg #[.float .f32 a, .float .f32 h, .float .f32 v]) k1 rfl (by rfl) 26 #[.agg #[.float .f32 a, .float .f32 h, .float .f32 v]] (fun w => by unfold execOp; go_simp) rfl ?hc2 (fun v2 w2 hv2 k2 hb2 => ?_) AllReadyH.nil
    case hc2 =>
      refine (toParcel a h v _).mono ?_
      rintro e w' ⟨rfl, hb⟩
      exact ⟨_, rfl, rfl, hb⟩
    subst hv2
    refine ⟨k2, ?_⟩
    simp only [Act.put, List.setIfInBounds_toArray, List.set_cons_zero, List.set_cons_succ]
    refine wpAnyH_ready (rs := [4]) (by kernel_rfl) (by simp) ?_
    refine callKQ 4 _ (fun y _ => y = .tuple #[.float .f32 r0, .int .i64 r1]) k2 rfl (by rfl) 24 #[.slice (some ⟨g1, 0, none⟩) n n, .agg #[.float .f32 a, .float .f32 h, .float .f32 v]] (fun w => by unfold execOp; go_simp) rfl ?hc3 (fun v3 w3 hv3 k3 hb3 => ?_) AllReadyH.nil
    case hc3 =>
      refine (HS.out _ _ (R1.stay hb2) HN.out).mono ?_
      rintro e w' ⟨rfl, hb⟩
      exact ⟨_, rfl, rfl, hb⟩
    subst hv3
    refine ⟨k3, ?_⟩
    simp only [Act.put, List.setIfInBounds_toArray, List.set_cons_zero, List.set_cons_succ]
    refine take_val 5 _ _ (.tuple #[.float .f32 r0, .int .i64 r1]) rfl (by rfl) (by kernel_rfl) (by kernel_rfl) (by kernel_rfl) (fun w => by rfl) rfl rfl k3 ?_
    simp only [Act.put, List.setIfInBounds_toArray, List.set_cons_zero, List.set_cons_succ]
    refine take_val 6 _ _ (.float .f32 r0) rfl (by rfl) (by kernel_rfl) (by kernel_rfl) (by kernel_rfl) (fun w => by unfold execOp; go_simp) rfl rfl k3 ?_
    simp only [Act.put, List.setIfInBounds_toArray, List.set_cons_zero, List.set_cons_succ]
    refine take_val 7 _ _ (.int .i64 r1) rfl (by rfl) (by kernel_rfl) (by kernel_rfl) (by kernel_rfl) (fun w => by unfold execOp; go_simp) rfl rfl k3 ?_
    simp only [Act.put, List.setIfInBounds_toArray, List.set_cons_zero, List.set_cons_succ]
    refine take_val 8 _ _ (.float .f32 r0) rfl (by rfl) (by kernel_rfl) (by kernel_rfl) (by kernel_rfl) (fun w => by rfl) rfl rfl k3 ?_
    simp only [Act.put, List.setIfInBounds_toArray, List.set_cons_zero, List.set_cons_succ]
    refine take_val 9 _ _ (.int .i64 r1) rfl (by rfl) (by kernel_rfl) (by kernel_rfl) (by kernel_rfl) (fun w => by rfl) rfl rfl k3 ?_
    simp only [Act.put, List.setIfInBounds_toArray, List.set_cons_zero, List.set_cons_succ]
    refine wpAnyH_done (by kernel_rfl) (NoPanic.normal ?_) _
    replace k3 := hid k3
    have q3 := hid (q0.out.stay k3.out.1)
    clear kd k1 k2 hb1 hb2 hb3 R1
    go_wp2_with fail
    refine (toLevels _ n x HX.out _ q3.out HN.out).mono ?_
    rintro e w4 ⟨g4, rfl, R4, hb4⟩
    have q4 := hid (q3.out.stay hb4)
    have k4 := hid (k3.out.stay hb4)
    have s4 := hid R4
    clear hb4
    go_wp2_with (refine wpList_load_row rfl 42 _ rfl (w.heap.size) rfl 42 (#[.float .f32 a, .float .f32 h, .float .f32 v]) (0, 0) _ (k4.out.at (x := (w.heap.size, #[.float .f32 a, .float .f32 h, .float .f32 v], 42)) (by simp)) Try.underlying42 rfl (info_lpar) ?_)
    refine (toParcel a h v _).mono ?_
    rintro e w5 ⟨rfl, hb5⟩
    have q5 := hid (q4.out.stay hb5)
    have k5 := hid (k4.out.stay hb5)
    have s5 := hid (s4.out.stay hb5)
    clear hb5
    go_wp2_with fail
    refine (HI.out _ _ s5.out HN.out).mono ?_
    rintro e w6 ⟨rfl, hb6⟩
    have q6 := hid (q5.out.stay hb6)
    have k6 := hid (k5.out.stay hb6)
    have s6 := hid (s5.out.stay hb6)
    clear hb6
    go_wp2_with fail
    refine (sameFloat2 _ _ (S0.out _ _) _).mono ?_
    rintro e z0 ⟨rfl, rfl⟩
    have q7 := hid (rd_wf (rd_wf q6.out (D0.out _)) (D0.out _))
    have k7 := hid (kept_wf (kept_wf k6.out (D0.out _)) (D0.out _))
    have s7 := hid (rd_wf (rd_wf s6.out (D0.out _)) (D0.out _))
    go_wp2_with fail
    refine (toLevels _ n x HX.out _ q7.out HN.out).mono ?_
    rintro e w8 ⟨g8, rfl, R8, hb8⟩
    have k8 := hid (k7.out.stay hb8)
    have s8 := hid (s7.out.stay hb8)
    have t8 := hid R8
    clear hb8
    go_wp2_with fail
    refine (eqLevels _ _ n x HX.out _ s8.out t8.out HN.out).mono ?_
    rintro e w9 ⟨rfl, hb9⟩
    have k9 := hid (k8.out.stay hb9)
    go_wp2
    go_ret
    exact ⟨rfl, k9.out.1⟩
  · have HM : Hid (1048576 < n) := hid (by omega)
    have hneg : 1048576 - (n : Int) < 0 := by omega
    clear hn
    go_enter Try.func5, Try.ntmps5
    go_wp2_with fail
    refine (szLevels_no p n cap HM.out hm _).mono ?_
    rintro e u ⟨rfl, rfl⟩
    go_wp2
    go_ret
    exact ⟨rfl, k0.out.1⟩

theorem lawLiftOf (n : Nat) (x : Nat → Nat) (s : Value) (hx : ∀ k, x k < 4294967296) {w : World} (hs : Rd w s n x) (hm : n ≤ maxLen) (a h v : Nat) (ha : a < 4294967296) (hh : h < 4294967296) (hv : v < 4294967296) :
    Calls Try.prog 5 #[s, .agg #[.float .f32 a, .float .f32 h, .float .f32 v]] w fun e w' => e = .returned (.bool true) ∧ Below w.heap.size w w' := by
  rcases hq : souB n x with _ | _
  · exact coreLiftOf n x hx a h v 0 (by decide) 1 (fun w s hs hn => sLiftOf_bad1 n x hx hq a h v w s hs hn) (fun w s hs hn => iLift_bad1 n x hx hq a h v w s hs hn) s w hs hm
  · rcases hp : parB a h v with _ | _
    · exact coreLiftOf n x hx a h v 0 (by decide) 1 (fun w s hs hn => sLiftOf_par n x hx hq a h v ha hh hv false hp 0 1 (fun _ => ⟨rfl, rfl⟩) (fun hb => absurd hb (by decide)) w s hs hn) (fun w s hs hn => iLift_bad2 n x hx hq a h v ha hh hv hp w s hs hn) s w hs hm
    · have F := souB_iff.1 hq
      have L := at_fin hx F ha
      rcases hr : atR n x a with ⟨rh, rv, c⟩
      rw [hr] at L
      by_cases hc : c = 0
      · subst hc
        obtain ⟨p0, _, _⟩ := airB_iff.1 (parB_iff.1 hp).2
        have fh : FW h := fw_of hh (heat_fin hh p0)
        have fr : FW rh := fw_of L.1 L.2.2.1
        obtain ⟨hsub, hlt, _⟩ := sub_nw fh fr
        exact coreLiftOf n x hx a h v (fsb h rh) hlt 0 (fun w s hs hn => sLiftOf_par n x hx hq a h v ha hh hv true hp (fsb h rh) 0 (fun hb => absurd hb (by decide)) (fun _ u s g T hs hg => sLift_ok n x hx hq a h v ha hh hv rh rv hr _ hsub u s hs g T hg) w s hs hn) (fun w s hs hn => iLift_ok n x hx hq a h v ha hh hv hp rh rv hr _ hsub w s hs hn) s w hs hm
      · exact coreLiftOf n x hx a h v 0 (by decide) c (fun w s hs hn => sLiftOf_par n x hx hq a h v ha hh hv true hp 0 c (fun hb => absurd hb (by decide)) (fun _ u s g T hs hg => sLift_none n x hx hq a h v ha hh hv rh rv c hr hc u s hs g T hg) w s hs hn) (fun w s hs hn => iLift_none n x hx hq a h v ha hh hv hp rh rv c hr hc w s hs hn) s w hs hm
end Go.Proofs.Ytdmnlbfmcibohaa

namespace Go.Proofs.Ytdmnlbfmcibohaa.fnExactLiftOf
open Go.RowKit Go.Fl Go.ChangeShapes Go.WideShapes Go.ChangeAt

set_option maxHeartbeats 2000000 in
theorem closed : joinedFacts Try.prog 5 Try.f5 Rows.fnExactLiftOfSpec Rows.fnExactLiftOfRow = true := by
  unfold joinedFacts
  simp only [Bool.and_eq_true]
  exact ⟨⟨⟨⟨⟨⟨⟨⟨⟨⟨⟨⟨⟨⟨⟨⟨⟨⟨⟨⟨⟨⟨⟨⟨⟨⟨⟨⟨⟨⟨⟨(by as_aux_lemma => kernel_rfl),
    laid⟩,
    rowed⟩,
    (by as_aux_lemma => kernel_rfl)⟩,
    (by as_aux_lemma => kernel_rfl)⟩,
    (by as_aux_lemma => kernel_rfl)⟩,
    (by rw [no_stops]; rfl)⟩,
    (by as_aux_lemma => kernel_rfl)⟩,
    (by rw [no_knobs]; rfl)⟩,
    (by as_aux_lemma => kernel_rfl)⟩,
    (by as_aux_lemma => kernel_rfl)⟩,
    (by as_aux_lemma => kernel_rfl)⟩,
    (by as_aux_lemma => kernel_rfl)⟩,
    (by as_aux_lemma => kernel_rfl)⟩,
    (by as_aux_lemma => kernel_rfl)⟩,
    (by as_aux_lemma => kernel_rfl)⟩,
    (by as_aux_lemma => kernel_rfl)⟩,
    (by as_aux_lemma => kernel_rfl)⟩,
    (by as_aux_lemma => kernel_rfl)⟩,
    (by as_aux_lemma => kernel_rfl)⟩,
    (by as_aux_lemma => kernel_rfl)⟩,
    (by as_aux_lemma => kernel_rfl)⟩,
    (show (Rows.fnExactLiftOfRow.plainKeys == Try.prog.plainKeys) = true by rw [plain_keys]; rfl)⟩,
    (by as_aux_lemma => kernel_rfl)⟩,
    stops_heard⟩,
    may_enter⟩,
    (show (Rows.fnExactLiftOfRow.lifted == Try.prog.liftsFinal) = true by rw [lifts_final]; rfl)⟩,
    (show (Try.prog.make == some Rows.fnExactLiftOfRow.make) = true by rw [made]; rfl)⟩,
    (by as_aux_lemma => kernel_rfl)⟩,
    (by as_aux_lemma => kernel_rfl)⟩,
    (by as_aux_lemma => kernel_rfl)⟩,
    (by as_aux_lemma => kernel_rfl)⟩

set_option maxRecDepth 100000 in
theorem lifted (os : Os) (started : os.Started) (H : Type) (enc : TypeId × Value → H) :
    ReturnsInHanded {} Try.checked os 5 .any (Rows.fnExactLiftOfSpec.pre6 enc Try.prog Try.f5 Rows.fnExactLiftOfRow.domain false) (Rows.fnExactLiftOfSpec.post enc Try.prog Try.f5 false true false false) := by
  refine LawFrame.lifted (C := Try.checked) (fn := Try.f5) (n := 2) (tb := 4) started own (by kernel_rfl) Try.func5 laid ?_ rfl rfl ?_ rfl Try.underlying4
    (ChangeSpec.witness6 (enc := enc) (C := Try.checked) false ⟨#[], #[.slice none 0 0, .agg #[.float .f32 0, .float .f32 0, .float .f32 0]], []⟩ 8 (by kernel_rfl) (by kernel_rfl) (by kernel_rfl) (by kernel_rfl)) ?_
  · intro t ht
    simp only [Try.params5, List.mem_cons, List.not_mem_nil, or_false] at ht
    rcases ht with rfl | rfl <;> first | exact rdq | exact rds
  · intro ds hd
    match ds, hd with
    | [_, _], _ => rfl
  · intro W base args ds ps hval hn hT
    obtain ⟨v0, v1, rfl⟩ : ∃ v0 v1, args = #[v0, v1] := arr2 hn
    simp only [Try.params5] at hT
    obtain ⟨d0, p0, t0⟩ := trodAll_head hT
    obtain ⟨n0, x0, R0, M0, X0⟩ := open_level Try.underlying38 Try.underlying102 Try.underlying40 Try.underlying22 ⟨rfl, rfl⟩ ⟨rfl, rfl⟩ ⟨rfl, rfl⟩ ⟨rfl, rfl⟩ cellsL cells2 cellsF t0 (open_sl Try.underlying38 (hval 0 38 v0 rfl rfl))
    obtain ⟨ds0, ps0, T0⟩ := trodAll_tail hT
    obtain ⟨c1, rfl, hb1⟩ := open_floats Try.underlying42 rfl Try.underlying22 cells3 types3 (hval 1 42 v1 rfl rfl)
    simp only [vls3]
    exact lawLiftOf n0 x0 v0 X0 R0 M0 (c1 0) (c1 1) (c1 2) (hb1 0 (by decide)) (hb1 1 (by decide)) (hb1 2 (by decide))

theorem over : Rows.fnExactLiftOfRow.holds Try.pinned (OpenSpec.ofChange Rows.fnExactLiftOfSpec) :=
  OpenClaim.holds_of_wide 5 Try.f5 rfl rfl rfl rfl rfl rfl rfl ⟨rfl, rfl, rfl, rfl, rfl⟩ rfl rfl rfl rfl rfl (by kernel_rfl) Try.func5 closed
    (of_decide_eq_true (by kernel_rfl)) (by unfold Func.isWrapper; rw [if_neg (by decide +kernel)]; exact ⟨rfl, rfl⟩)
    (fun os started H enc _ => lifted os started H enc)

theorem proved : Rows.FnExactLiftOfSaid := over
#print axioms proved
end Go.Proofs.Ytdmnlbfmcibohaa.fnExactLiftOf
