import Derived.Test.YtlccmhkjfnmdiaaUAirAt
import Derived.Test.YtlccmhkjfnmdiaaCAirAt
import Derived.Test.YtlccmhkjfnmdiaaChecked
import Derived.Test.YtlccmhkjfnmdiaaRows
import Derived.Laws.FloatArith
import Derived.ProofKit
import Derived.WalkKit
import Derived.WalkLawsBesides
import Derived.WalkSpells
import Derived.Deep.QuietTactic
import Derived.BigQuiet
import Derived.Deep.RegionHeld3
import Derived.ChangeKeysEq
import Derived.Laws.BitsAllLaws
import Derived.Deep.MidRow
import Derived.Deep.WholeRow
import Derived.StillTailTactics
import Derived.Deep.Slices
import Derived.ChangeSame
import Derived.OrdersIn
import Derived.ControlIn
import Derived.RangeFuncSeq
import Derived.RangeFuncNested
import Derived.RangeFuncLeaves
import Derived.RangeFuncBox
import Derived.OwnWalkIn
import Derived.TacticsInMore
import Derived.LoopNIn
import Derived.LoopIn
import Derived.Shelf.Abstract
import Derived.ArgAppend
import Derived.Lib.SliceRun
import Derived.OpenShut
/- The law FnExactAirAt of chapter 1: at every argument the call returns true, and what was there before it is as it was. -/
namespace Go.Proofs.Ytlccmhkjfnmdiaa
open Go.RowKit Go.Fl

theorem at_between {n : Nat} {x : Nat → Nat} (hx : W32 x) (F : SouF n x) {h : Nat} (hl : h < 4294967296) {k : Nat} (hk : k + 1 < n) (g : gtH x h k = true) (l : ltH x h (k + 1) = true) : AtF x h k := by
  rcases hf : finB h with _ | _
  · exfalso
    have a := order_bad hl hf (hgt_inf (hgt_lv (F.lv k (by omega))))
    have b := order_bad hl hf (hgt_inf (hgt_lv (F.lv (k + 1) hk)))
    unfold gtH at g
    unfold ltH at l
    by_cases hs : 2147483648 ≤ h
    · rw [if_pos hs] at a
      rcases a with a | a <;> rw [a] at g <;> exact absurd g (by decide)
    · rw [if_neg hs] at b
      rcases b with b | b <;> rw [b] at l <;> exact absurd l (by decide)
  · have f := fw_of hl hf
    exact at_facts hx F f hk ((gtH_iff F f (by omega)).1 g) ((ltH_iff F f hk).1 l)

theorem at_fin {n : Nat} {x : Nat → Nat} (hx : W32 x) (F : SouF n x) {h : Nat} (hl : h < 4294967296) : (atR n x h).1 < 4294967296 ∧ (atR n x h).2.1 < 4294967296 ∧ finB (atR n x h).1 = true ∧ finB (atR n x h).2.1 = true := by
  have lev : ∀ k, k < n → finB (x (k * 3 + 1)) = true ∧ finB (x (k * 3 + 2)) = true := fun k hk => by
    obtain ⟨p0, p1, _⟩ := airB_iff.1 (parB_iff.1 (F.lv k hk)).2
    exact ⟨heat_fin (hx _) p0, amt_fin p1⟩
  have zz : (0 : Nat) < 4294967296 ∧ (0 : Nat) < 4294967296 ∧ finB 0 = true ∧ finB 0 = true := ⟨by decide, by decide, by decide, by decide⟩
  unfold atR
  rcases hb : firstB (stopH x h) (n - 1) with _ | k
  · exact zz
  · have hk := firstB_lt hb
    have hp : stopH x h k = true := by
      unfold firstB at hb
      exact List.find?_some hb
    show (layR x h k).1 < 4294967296 ∧ (layR x h k).2.1 < 4294967296 ∧ finB (layR x h k).1 = true ∧ finB (layR x h k).2.1 = true
    unfold layR
    by_cases e1 : eqH x h k = true
    · rw [if_pos e1]; exact ⟨hx _, hx _, (lev k (by omega)).1, (lev k (by omega)).2⟩
    · rw [if_neg e1]
      by_cases e2 : eqH x h (k + 1) = true
      · rw [if_pos e2]; exact ⟨hx _, hx _, (lev (k + 1) (by omega)).1, (lev (k + 1) (by omega)).2⟩
      · rw [if_neg e2]
        unfold stopH at hp
        rw [Bool.not_eq_true] at e1 e2
        rw [e1, e2, Bool.false_or, Bool.false_or, Bool.and_eq_true] at hp
        have A := at_between hx F hl (k := k) (by omega) hp.1 hp.2
        unfold mixR
        by_cases e3 : airB (mixW (x (k * 3 + 1)) (x ((k + 1) * 3 + 1)) (shW x h k)) (mixW (x (k * 3 + 2)) (x ((k + 1) * 3 + 2)) (shW x h k)) = true
        · rw [if_pos e3]
          obtain ⟨t1, t2, _⟩ := airB_iff.1 e3
          exact ⟨A.m1.lt, A.m2.lt, heat_fin A.m1.lt t1, amt_fin t2⟩
        · rw [if_neg e3]; exact zz

set_option maxRecDepth 100000 in
set_option maxHeartbeats 1000000 in
theorem coreAirAt (n : Nat) (x : Nat → Nat) (hx : W32 x) (x0 : Nat) (r0h r0v : Nat) (hl0h : r0h < 4294967296) (hl0v : r0v < 4294967296) (hf0h : finB r0h = true) (hf0v : finB r0v = true) (r1 : Int)
    (hS : ∀ w s, Rd w s n x → n ≤ 1048576 → Calls Try.prog 99 #[s, .float .f32 x0] w fun e w' => e = .returned (.tuple #[.agg #[.float .f32 r0h, .float .f32 r0v], .int .i64 r1]) ∧ Below w.heap.size w w')
    (hI : ∀ w s, Rd w s n x → n ≤ 1048576 → Calls Try.prog 100 #[s, .float .f32 x0] w fun e w' => e = .returned (.tuple #[.agg #[.float .f32 r0h, .float .f32 r0v], .int .i64 r1]) ∧ Below w.heap.size w w') (s : Value) (w : World) (hs : Rd w s n x) (hm : n ≤ maxLen) :
    Calls Try.prog 25 #[s, .float .f32 x0] w fun e w' => e = .returned (.bool true) ∧ Below w.heap.size w w' := by
  have HS := hid hS
  have HI := hid hI
  have HX := hid hx
  have q0 := hid hs
  have k0 : Hid (Kept w [] w) := hid (Kept.nil w)
  clear hS hI hx
  obtain ⟨p, cap, rfl, _⟩ := hs
  by_cases hn : n ≤ 1048576
  · have HN := hid hn
    have hneg : ¬ (1048576 - (n : Int) < 0) := by omega
    have Hl0h := hid hl0h
    have Hf0h := hid hf0h
    clear hl0h hf0h
    have Hl0v := hid hl0v
    have Hf0v := hid hf0v
    clear hl0v hf0v
    clear hn
    all_goals
      go_enter Try.func25, Try.ntmps25
      go_wp2_with fail
      refine (szLevels_ok p n cap HN.out _).mono ?_
      rintro e u ⟨rfl, rfl⟩
      go_wp2_with fail
      refine (toLevels _ n x HX.out _ q0.out HN.out).mono ?_
      rintro e u1 ⟨g1, rfl, R1, hb1⟩
      have q1 := hid (q0.out.stay hb1)
      have k1 := hid (k0.out.stay hb1)
      have s1 := hid R1
      clear hb1
      go_wp2_with fail
      refine (HS.out _ _ s1.out HN.out).mono ?_
      rintro e u2 ⟨rfl, hb2⟩
      have q2 := hid (q1.out.stay hb2)
      have k2 := hid (k1.out.stay hb2)
      have s1_2 := hid (s1.out.stay hb2)
      clear hb2
      have b2 := (Below.refl u2.heap.size u2).alloc (Nat.le_refl _) (.cells #[.float .f32 r0h, .float .f32 r0v] 38)
      have m2 := hid (k2.out.push #[.float .f32 r0h, .float .f32 r0v] 38)
      have qm2 := hid (q2.out.stay b2)
      have s1_m2 := hid (s1_2.out.stay b2)
      go_wp2_with fail
      refine (toLevels _ n x HX.out _ qm2.out HN.out).mono ?_
      rintro e u3 ⟨g3, rfl, R3, hb3⟩
      have q3 := hid (qm2.out.stay hb3)
      have k3 := hid (m2.out.stay hb3)
      have s1_3 := hid (s1_m2.out.stay hb3)
      have s2 := hid R3
      clear hb3
      go_wp2_with fail
      refine (HI.out _ _ s2.out HN.out).mono ?_
      rintro e u4 ⟨rfl, hb4⟩
      have q4 := hid (q3.out.stay hb4)
      have k4 := hid (k3.out.stay hb4)
      have s1_4 := hid (s1_3.out.stay hb4)
      have s2_4 := hid (s2.out.stay hb4)
      clear hb4
      have b4 := (Below.refl u4.heap.size u4).alloc (Nat.le_refl _) (.cells #[.float .f32 r0h, .float .f32 r0v] 38)
      have m4 := hid (k4.out.push #[.float .f32 r0h, .float .f32 r0v] 38)
      have qm4 := hid (q4.out.stay b4)
      have s1_m4 := hid (s1_4.out.stay b4)
      have s2_m4 := hid (s2_4.out.stay b4)
      go_wp2_with (first | (refine wpList_load_row rfl 38 _ rfl (u4.heap.size) rfl 38 (#[.float .f32 r0h, .float .f32 r0v]) (0, 0) _ (m4.out.at (x := (u4.heap.size, #[.float .f32 r0h, .float .f32 r0v], 38)) (by simp)) Try.underlying38 rfl (info_air) ?_) | (refine wpList_load_row rfl 38 _ rfl (u2.heap.size) rfl 38 (#[.float .f32 r0h, .float .f32 r0v]) (0, 0) _ (m4.out.at (x := (u2.heap.size, #[.float .f32 r0h, .float .f32 r0v], 38)) (by simp)) Try.underlying38 rfl (info_air) ?_))
      refine (eqAir r0h r0v Hl0h.out Hl0v.out Hf0h.out Hf0v.out _).mono ?_
      rintro e u5 ⟨rfl, hb5⟩
      have q5 := hid (qm4.out.stay hb5)
      have k5 := hid (m4.out.stay hb5)
      have s1_5 := hid (s1_m4.out.stay hb5)
      have s2_5 := hid (s2_m4.out.stay hb5)
      clear hb5
      go_wp2_with fail
      refine (toLevels _ n x HX.out _ q5.out HN.out).mono ?_
      rintro e u6 ⟨g6, rfl, R6, hb6⟩
      have q6 := hid (q5.out.stay hb6)
      have k6 := hid (k5.out.stay hb6)
      have s1_6 := hid (s1_5.out.stay hb6)
      have s2_6 := hid (s2_5.out.stay hb6)
      have s3 := hid R6
      clear hb6
      go_wp2_with fail
      refine (eqLevels _ _ n x HX.out _ s2_6.out s3.out HN.out).mono ?_
      rintro e u7 ⟨rfl, hb7⟩
      have q7 := hid (q6.out.stay hb7)
      have k7 := hid (k6.out.stay hb7)
      have s1_7 := hid (s1_6.out.stay hb7)
      have s2_7 := hid (s2_6.out.stay hb7)
      have s3_7 := hid (s3.out.stay hb7)
      clear hb7
      go_wp2
      go_ret
      exact ⟨rfl, k7.out.1⟩
  · have HM : Hid (1048576 < n) := hid (by omega)
    have hneg : 1048576 - (n : Int) < 0 := by omega
    clear hn
    go_enter Try.func25, Try.ntmps25
    go_wp2_with fail
    refine (szLevels_no p n cap HM.out hm _).mono ?_
    rintro e u ⟨rfl, rfl⟩
    go_wp2
    go_ret
    exact ⟨rfl, Below.refl _ _⟩

theorem lawAirAt (n : Nat) (x : Nat → Nat) (s : Value) (hx : ∀ k, x k < 4294967296) {w : World} (hs : Rd w s n x) (hm : n ≤ maxLen) (h : Nat) (hl : h < 4294967296) :
    Calls Try.prog 25 #[s, .float .f32 h] w fun e w' => e = .returned (.bool true) ∧ Below w.heap.size w w' := by
  rcases hq : souB n x with _ | _
  · exact coreAirAt n x hx h 0 0 (by decide) (by decide) (by decide) (by decide) 1 (fun w s hs hn => sAirAt_bad n x hx hq h w s hs hn) (fun w s hs hn => iAirAt_bad n x hx hq h w s hs hn) s w hs hm
  · have F := souB_iff.1 hq
    have L := at_fin hx F hl
    rcases hr : atR n x h with ⟨rh, rv, c⟩
    rw [hr] at L
    exact coreAirAt n x hx h rh rv L.1 L.2.1 L.2.2.1 L.2.2.2 c (fun w s hs hn => sAirAt_ok n x hx hq h hl rh rv c hr w s hs hn) (fun w s hs hn => iAirAt n x hx hq h rh rv c hr (fun k hk g l => at_between hx F hl hk g l) w s hs hn) s w hs hm
end Go.Proofs.Ytlccmhkjfnmdiaa

namespace Go.Proofs.Ytlccmhkjfnmdiaa.fnExactAirAt
open Go.RowKit Go.Fl Go.ChangeShapes Go.WideShapes Go.ChangeAt

set_option maxHeartbeats 2000000 in
theorem closed : joinedFacts Try.prog 25 Try.f25 Rows.fnExactAirAtSpec Rows.fnExactAirAtRow = true := by
  unfold joinedFacts
  simp only [Bool.and_eq_true]
  exact ⟨⟨⟨⟨⟨⟨⟨⟨⟨⟨⟨⟨⟨⟨⟨⟨⟨⟨⟨⟨⟨⟨⟨⟨⟨⟨⟨⟨⟨⟨⟨(by as_aux_lemma => kernel_rfl),
    laid⟩,
    rowed⟩,
    (by as_aux_lemma => kernel_rfl)⟩,
    (by as_aux_lemma => kernel_rfl)⟩,
    (by as_aux_lemma => kernel_rfl)⟩,
    (by rw [no_stops]; rfl)⟩,
    (by as_aux_lemma => kernel_rfl)⟩,
    (by rw [no_knobs]; rfl)⟩,
    (by as_aux_lemma => kernel_rfl)⟩,
    (by as_aux_lemma => kernel_rfl)⟩,
    (by as_aux_lemma => kernel_rfl)⟩,
    (by as_aux_lemma => kernel_rfl)⟩,
    (by as_aux_lemma => kernel_rfl)⟩,
    (by as_aux_lemma => kernel_rfl)⟩,
    (by as_aux_lemma => kernel_rfl)⟩,
    (by as_aux_lemma => kernel_rfl)⟩,
    (by as_aux_lemma => kernel_rfl)⟩,
    (by as_aux_lemma => kernel_rfl)⟩,
    (by as_aux_lemma => kernel_rfl)⟩,
    (by as_aux_lemma => kernel_rfl)⟩,
    (by as_aux_lemma => kernel_rfl)⟩,
    (show (Rows.fnExactAirAtRow.plainKeys == Try.prog.plainKeys) = true by rw [plain_keys]; rfl)⟩,
    (by as_aux_lemma => kernel_rfl)⟩,
    stops_heard⟩,
    may_enter⟩,
    (show (Rows.fnExactAirAtRow.lifted == Try.prog.liftsFinal) = true by rw [lifts_final]; rfl)⟩,
    (show (Try.prog.make == some Rows.fnExactAirAtRow.make) = true by rw [made]; rfl)⟩,
    (by as_aux_lemma => kernel_rfl)⟩,
    (by as_aux_lemma => kernel_rfl)⟩,
    (by as_aux_lemma => kernel_rfl)⟩,
    (by as_aux_lemma => kernel_rfl)⟩

set_option maxRecDepth 100000 in
theorem lifted (os : Os) (started : os.Started) (H : Type) (enc : TypeId × Value → H) :
    ReturnsInHanded {} Try.checked os 25 .any (Rows.fnExactAirAtSpec.pre6 enc Try.prog Try.f25 Rows.fnExactAirAtRow.domain false) (Rows.fnExactAirAtSpec.post enc Try.prog Try.f25 false true false false) := by
  refine LawFrame.lifted (C := Try.checked) (fn := Try.f25) (n := 2) (tb := 4) started own (by kernel_rfl) Try.func25 laid ?_ rfl rfl ?_ rfl Try.underlying4
    (ChangeSpec.witness6 (enc := enc) (C := Try.checked) false ⟨#[], #[.slice none 0 0, .float .f32 0], []⟩ 8 (by kernel_rfl) (by kernel_rfl) (by kernel_rfl) (by kernel_rfl)) ?_
  · intro t ht
    simp only [Try.params25, List.mem_cons, List.not_mem_nil, or_false] at ht
    rcases ht with rfl | rfl <;> first | exact rda | exact rdf | exact rdi | exact rdA | exact rdb | exact rdp | exact rdk | exact rdq | exact rds
  · intro ds hd
    match ds, hd with
    | [_, _], _ => rfl
  · intro W base args ds ps hval hn hT
    obtain ⟨v0, v1, rfl⟩ : ∃ v0 v1, args = #[v0, v1] := arr2 hn
    simp only [Try.params25] at hT
    obtain ⟨d0, p0, t0⟩ := trodAll_head hT
    obtain ⟨n0, x0, R0, M0, X0⟩ := open_level Try.underlying102 Try.underlying213 Try.underlying37 Try.underlying22 ⟨rfl, rfl⟩ ⟨rfl, rfl⟩ ⟨rfl, rfl⟩ ⟨rfl, rfl⟩ cellsL cells2 cellsF t0 (open_sl Try.underlying102 (hval 0 102 v0 rfl rfl))
    obtain ⟨ds0, ps0, T0⟩ := trodAll_tail hT
    obtain ⟨c1, rfl, hb1⟩ := open_f32 Try.underlying22 (hval 1 22 v1 rfl rfl)
    exact lawAirAt n0 x0 v0 X0 R0 M0 c1 hb1

theorem over : Rows.fnExactAirAtRow.holds Try.pinned (OpenSpec.ofChange Rows.fnExactAirAtSpec) :=
  OpenClaim.holds_of_wide 25 Try.f25 rfl rfl rfl rfl rfl rfl rfl ⟨rfl, rfl, rfl, rfl, rfl⟩ rfl rfl rfl rfl rfl (by kernel_rfl) Try.func25 closed
    (of_decide_eq_true (by kernel_rfl)) (by unfold Func.isWrapper; rw [if_neg (by decide +kernel)]; exact ⟨rfl, rfl⟩)
    (fun os started H enc _ => lifted os started H enc)

theorem proved : Rows.FnExactAirAtSaid := over
#print axioms proved
end Go.Proofs.Ytlccmhkjfnmdiaa.fnExactAirAt
