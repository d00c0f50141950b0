import Derived.Test.YthpimindkmmkjaaTRiseIn
import Derived.Test.YthpimindkmmkjaaCRiseIn
import Derived.Test.YthpimindkmmkjaaChecked
import Derived.Test.YthpimindkmmkjaaRows
import Derived.Laws.FloatArith
import Derived.ProofKit
import Derived.WalkKit
import Derived.WalkLawsBesides
import Derived.WalkSpells
import Derived.Deep.QuietTactic
import Derived.BigQuiet
import Derived.Deep.RegionHeld3
import Derived.ChangeKeysEq
import Derived.Laws.BitsAllLaws
import Derived.Deep.MidRow
import Derived.Deep.WholeRow
import Derived.StillTailTactics
import Derived.Deep.Slices
import Derived.ChangeSame
import Derived.OrdersIn
import Derived.ControlIn
import Derived.RangeFuncSeq
import Derived.RangeFuncNested
import Derived.RangeFuncLeaves
import Derived.RangeFuncBox
import Derived.OwnWalkIn
import Derived.TacticsInMore
import Derived.LoopNIn
import Derived.LoopIn
import Derived.Shelf.Abstract
import Derived.ArgAppend
import Derived.Lib.SliceRun
import Derived.OpenShut
import Derived.Below
import Derived.Laws.AppendOwn
import Derived.MapKept
import Derived.StillTail
import Derived.ScopeJumps
/- The law FnExactRiseIn of chapter 1: at every argument the call returns true, and what was there before it is as it was. -/
namespace Go.Proofs.Ythpimindkmmkjaa
open Go.RowKit Go.Fl

theorem vls54 (u : Nat → Value) : vls 54 u = #[u 0, u 1, u 2, u 3, u 4, u 5, u 6, u 7, u 8, u 9, u 10, u 11, u 12, u 13, u 14, u 15, u 16, u 17, u 18, u 19, u 20, u 21, u 22, u 23, u 24, u 25, u 26, u 27, u 28, u 29, u 30, u 31, u 32, u 33, u 34, u 35, u 36, u 37, u 38, u 39, u 40, u 41, u 42, u 43, u 44, u 45, u 46, u 47, u 48, u 49, u 50, u 51, u 52, u 53] := by kernel_rfl

def JF (a : Act) (p1 p2 p5 : Value) : Prop := ∃ u : Nat → Value, a = { tmps := vls 54 u, defers := [] } ∧ u 1 = p1 ∧ u 2 = p2 ∧ u 5 = p5

def JF5 (a : Act) (p1 p2 p3 p4 p5 : Value) : Prop := ∃ u : Nat → Value, a = { tmps := vls 54 u, defers := [] } ∧ u 1 = p1 ∧ u 2 = p2 ∧ u 3 = p3 ∧ u 4 = p4 ∧ u 5 = p5

theorem JF.of {t : Array Value} {p1 p2 p5 : Value} (hs : t.size = 54) (h1 : t[1]?.getD undef = p1) (h2 : t[2]?.getD undef = p2) (h5 : t[5]?.getD undef = p5) : JF { tmps := t, defers := [] } p1 p2 p5 := ⟨fun i => t[i]?.getD undef, by rw [← vls_of_array hs], h1, h2, h5⟩

theorem JF5.of {t : Array Value} {p1 p2 p3 p4 p5 : Value} (hs : t.size = 54) (h1 : t[1]?.getD undef = p1) (h2 : t[2]?.getD undef = p2) (h3 : t[3]?.getD undef = p3) (h4 : t[4]?.getD undef = p4) (h5 : t[5]?.getD undef = p5) : JF5 { tmps := t, defers := [] } p1 p2 p3 p4 p5 := ⟨fun i => t[i]?.getD undef, by rw [← vls_of_array hs], h1, h2, h3, h4, h5⟩

theorem look_at {P : Program} {c : Code} {Q : Exit → Act → World → Prop} {a : Act} {w : World} {J : Act → World → Prop} (h : J a w) (hn : ∀ a w, J a w → c.wp P Q a w) : c.wp P Q a w := hn a w h

theorem j_meas {M k : Nat} {v v' : World} {g i : Nat} {a b : Nat} (hv : v.cell? ⟨g, 8, none⟩ = some (.int .i64 (a : Int))) (hv' : v'.cell? ⟨g, 8, none⟩ = some (.int .i64 (b : Int))) (h : 2 * (M + 1 - b) + i < 2 * (M + 1 - a) + k) : 2 * (M + 1 - (intOf ((v'.cell? ⟨g, 8, none⟩).getD undef)).toNat) + i < 2 * (M + 1 - (intOf ((v.cell? ⟨g, 8, none⟩).getD undef)).toNat) + k := by
  rw [hv, hv']
  simpa [intOf] using h

set_option maxRecDepth 100000 in
set_option maxHeartbeats 4000000 in
theorem iEnd (n : Nat) (x : Nat → Nat) (hx : W32 x) (hq : souB n x = true) (st sh M : Nat) (hst : st < INF) (hsh : Share sh) (hM2 : M ≤ 200) (s0 : RSt) (V0 : RVal s0) (K b o cap : Nat)
    (hM : ∀ j, j < K → okR n x st sh (x ((n - 1) * 3)) M j (rsR n x st sh s0 j)) (hN : ¬ okR n x st sh (x ((n - 1) * 3)) M K (rsR n x st sh s0 K)) (hKM : K ≤ M) (E : Ending)
    (h1 : (atR n x (rsR n x st sh s0 K).a).2.2 ≠ 0 → E = .panicked [{ v := .iface 241 (.int .i64 (atR n x (rsR n x st sh s0 K).a).2.2), recovered := false }])
    (h2 : (atR n x (rsR n x st sh s0 K).a).2.2 = 0 → ¬ goR n x st (x ((n - 1) * 3)) M K (rsR n x st sh s0 K) → E = .returned (.agg #[.slice (some ⟨b, o, none⟩) n cap, .float .f32 (st), .float .f32 (sh), .int .i64 (M : Int), .float .f32 ((rsR n x st sh s0 K).a), .float .f32 ((rsR n x st sh s0 K).h), .float .f32 ((rsR n x st sh s0 K).v), .float .f32 ((rsR n x st sh s0 K).e), .int .i64 (K : Int)]))
    (h3 : (atR n x (rsR n x st sh s0 K).a).2.2 = 0 → goR n x st (x ((n - 1) * 3)) M K (rsR n x st sh s0 K) → E = .panicked [{ v := .iface 241 (.int .i64 (upR n x st sh (rsR n x st sh s0 K))), recovered := false }])
    (w : World) (hs : Rd w (.slice (some ⟨b, o, none⟩) n cap) n x) (hn : n ≤ 1048576) :
    Calls Try.prog 107 #[.agg #[.slice (some ⟨b, o, none⟩) n cap, .float .f32 (st), .float .f32 (sh), .int .i64 (M : Int), .float .f32 (s0.a), .float .f32 (s0.h), .float .f32 (s0.v), .float .f32 (s0.e), .int .i64 0]] w fun e w' => e = E ∧ Below w.heap.size w w' := by
  have k0 : Hid (Kept w [(w.heap.size + 1, #[.slice none 0 0, .float .f32 (0), .float .f32 (0), .int .i64 0, .float .f32 (0), .float .f32 (0), .float .f32 (0), .float .f32 (0), .int .i64 0], 168), (w.heap.size, #[.slice (some ⟨b, o, none⟩) n cap, .float .f32 (st), .float .f32 (sh), .int .i64 (M : Int), .float .f32 (s0.a), .float .f32 (s0.h), .float .f32 (s0.v), .float .f32 (s0.e), .int .i64 0], 168)] ((w.alloc (.cells #[.slice (some ⟨b, o, none⟩) n cap, .float .f32 (st), .float .f32 (sh), .int .i64 (M : Int), .float .f32 (s0.a), .float .f32 (s0.h), .float .f32 (s0.v), .float .f32 (s0.e), .int .i64 0] 168)).alloc (.cells #[.slice none 0 0, .float .f32 (0), .float .f32 (0), .int .i64 0, .float .f32 (0), .float .f32 (0), .float .f32 (0), .float .f32 (0), .int .i64 0] 168))) := hid ((((Kept.nil w).push _ _).push _ _).sub (by simp))
  have F := souB_iff.1 hq
  have HTOP : Hid (Hgt (x ((n - 1) * 3))) := hid (hgt_lv (F.lv (n - 1) (by have := F.lo; omega)))
  have HV := hid (fun k (hk : k ≤ K) => r_val hx F (M := M) hst hsh HTOP.out V0 (K := k) (fun j hj => hM j (by omega)))
  have HX := hid hx
  have HQ := hid hq
  have HST := hid hst
  have HSH := hid hsh
  have HM := hid hM
  have HN := hid hN
  have H1 := hid h1
  have H2 := hid h2
  have H3 := hid h3
  have HNN := hid hn
  have HR := hid (fun u (hu : Below w.heap.size w u) => hs.stay hu)
  obtain ⟨_, _, e, hc⟩ := id hs
  cases e
  obtain ⟨_, _, e, hcell⟩ := hc (by have := F.lo; omega)
  cases e
  have h2n : 2 ≤ n := F.lo
  have hn32 : n ≤ 32 := F.hi
  have hct : World.cell? w ⟨b, o + (n - 1) * 3, none⟩ = some (.float .f32 (x ((n - 1) * 3))) := hcell _ (by omega)
  have hct1 : World.cell? ((w.alloc (.cells #[.slice (some ⟨b, o, none⟩) n cap, .float .f32 (st), .float .f32 (sh), .int .i64 (M : Int), .float .f32 (s0.a), .float .f32 (s0.h), .float .f32 (s0.v), .float .f32 (s0.e), .int .i64 0] 168)).alloc (.cells #[.slice none 0 0, .float .f32 (0), .float .f32 (0), .int .i64 0, .float .f32 (0), .float .f32 (0), .float .f32 (0), .float .f32 (0), .int .i64 0] 168)) ⟨b, o + (n - 1) * 3, none⟩ = some (.float .f32 (x ((n - 1) * 3))) := (k0.out.1.cell (block_lt_of_cell hct)).trans hct
  have ixl := fun w => run_indexAt (P := Try.prog) (t := 78) (e := 153) Try.underlying78 info_lev (b := b) (o := o) (n := n) (cap := cap) (k := n - 1) (by omega) w
  have hcast : (((n - 1 : Nat)) : Int) = (n : Int) - 1 := by omega
  rw [hcast] at ixl
  clear hx hq hst hsh hM hN h1 h2 h3 hn hs hc hcell hct V0 hcast F
  go_enter Try.func107, Try.ntmps107
  go_wp2_with fail
  refine wp_scope_jumps3 (fun a' w' => ∃ k : Nat, k ≤ K ∧ JF a' (.pointer (some ⟨w.heap.size, 0, none⟩)) (.pointer (some ⟨w.heap.size + 1, 0, none⟩)) (.float .f32 (x ((n - 1) * 3))) ∧ Kept w [(w.heap.size + 1, #[.slice none 0 0, .float .f32 (0), .float .f32 (0), .int .i64 0, .float .f32 (0), .float .f32 (0), .float .f32 (0), .float .f32 (0), .int .i64 0], 168), (w.heap.size, #[.slice (some ⟨b, o, none⟩) n cap, .float .f32 (st), .float .f32 (sh), .int .i64 (M : Int), .float .f32 ((rsR n x st sh s0 k).a), .float .f32 ((rsR n x st sh s0 k).h), .float .f32 ((rsR n x st sh s0 k).v), .float .f32 ((rsR n x st sh s0 k).e), .int .i64 (k : Int)], 168)] w') (fun a' w' => ∃ k : Nat, (k ≤ K ∧ (atR n x (rsR n x st sh s0 k).a).2.2 = 0 ∧ goR n x st (x ((n - 1) * 3)) M k (rsR n x st sh s0 k)) ∧ JF5 a' (.pointer (some ⟨w.heap.size, 0, none⟩)) (.pointer (some ⟨w.heap.size + 1, 0, none⟩)) (.float .f32 (liR n x (rsR n x st sh s0 k))) (.float .f32 (zR st (rsR n x st sh s0 k))) (.float .f32 (x ((n - 1) * 3))) ∧ Kept w [(w.heap.size + 1, #[.slice none 0 0, .float .f32 (0), .float .f32 (0), .int .i64 0, .float .f32 (0), .float .f32 (0), .float .f32 (0), .float .f32 (0), .int .i64 0], 168), (w.heap.size, #[.slice (some ⟨b, o, none⟩) n cap, .float .f32 (st), .float .f32 (sh), .int .i64 (M : Int), .float .f32 ((rsR n x st sh s0 k).a), .float .f32 ((rsR n x st sh s0 k).h), .float .f32 ((rsR n x st sh s0 k).v), .float .f32 ((rsR n x st sh s0 k).e), .int .i64 (k : Int)], 168)] w') (fun _ w' => 2 * (M + 1 - (intOf ((w'.cell? ⟨w.heap.size, 8, none⟩).getD undef)).toNat) + 1) (fun _ w' => 2 * (M + 1 - (intOf ((w'.cell? ⟨w.heap.size, 8, none⟩).getD undef)).toNat) + 0) rfl rfl ?first ?pass0 ?pass1
  case first =>
    intro _
    go_wp2_with fail
    rename_i hK
    go_step3
    refine hK _ _ ?_
    refine look_at (J := (fun a' w' => ∃ k : Nat, k ≤ K ∧ JF a' (.pointer (some ⟨w.heap.size, 0, none⟩)) (.pointer (some ⟨w.heap.size + 1, 0, none⟩)) (.float .f32 (x ((n - 1) * 3))) ∧ Kept w [(w.heap.size + 1, #[.slice none 0 0, .float .f32 (0), .float .f32 (0), .int .i64 0, .float .f32 (0), .float .f32 (0), .float .f32 (0), .float .f32 (0), .int .i64 0], 168), (w.heap.size, #[.slice (some ⟨b, o, none⟩) n cap, .float .f32 (st), .float .f32 (sh), .int .i64 (M : Int), .float .f32 ((rsR n x st sh s0 k).a), .float .f32 ((rsR n x st sh s0 k).h), .float .f32 ((rsR n x st sh s0 k).v), .float .f32 ((rsR n x st sh s0 k).e), .int .i64 (k : Int)], 168)] w')) ?_ ?_
    · refine ⟨0, Nat.zero_le _, ?_, k0.out⟩
      exact JF.of rfl rfl rfl rfl
    clear k0 hct1 ixl hK
    rintro a1 wr ⟨k, hk, ⟨u, rfl, e1, e2, e5⟩, k0⟩
    have k0 := hid k0
    have V := HV.out k hk
    have hkk : k < K ∨ k = K := by omega
    rw [vls54, e1, e2, e5]
    clear e1 e2 e5
    by_cases hc : (atR n x (rsR n x st sh s0 k).a).2.2 = 0
    · have hr : atR n x (rsR n x st sh s0 k).a = ((atR n x (rsR n x st sh s0 k).a).1, (atR n x (rsR n x st sh s0 k).a).2.1, 0) := by rw [← hc]
      have L := r_lift HX.out (souB_iff.1 HQ.out) V hc
      have Z := r_z HST.out V
      have CL := hid (iJLift_ok (.slice (some ⟨b, o, none⟩) n cap) st sh M _ _ _ (rsR n x st sh s0 k).e k (liR n x (rsR n x st sh s0 k)) wr (fun u2 hu2 => iLift_ok n x HX.out HQ.out (rsR n x st sh s0 k).a (rsR n x st sh s0 k).h (rsR n x st sh s0 k).v V.al V.hl V.vl V.p _ _ hr _ L.1 u2 _ (HR.out u2 (k0.out.stay hu2).1) HNN.out))
      have ra := fun w => run_float_arith (P := Try.prog) w .add 22 .f32 _ _ _ Z.1
      have HC := hid hc
      have HKK := hid hkk
      have HK := hid hk
      clear V hr L Z hc hkk hk H1 H3
      by_cases hgo : goR n x st (x ((n - 1) * 3)) M k (rsR n x st sh s0 k)
      · have HGO := hid hgo
        have g1 : (FloatKind.f32.format.order (liR n x (rsR n x st sh s0 k)) 0 == some .gt) = true := hgo.1
        have g2 : (FloatKind.f32.format.order (zR st (rsR n x st sh s0 k)) (x ((n - 1) * 3)) == some .lt || FloatKind.f32.format.order (zR st (rsR n x st sh s0 k)) (x ((n - 1) * 3)) == some .eq) = true := hgo.2.2
        have hlt : (k : Int) < (M : Int) := by have := hgo.2.1; omega
        clear hgo H2
        rcases g3 : (FloatKind.f32.format.order (zR st (rsR n x st sh s0 k)) (x ((n - 1) * 3)) == some .lt) with _ | _
        · have g4 : (FloatKind.f32.format.order (zR st (rsR n x st sh s0 k)) (x ((n - 1) * 3)) == some .eq) = true := by rw [g3, Bool.false_or] at g2; exact g2
          clear g2
          have tok1 : True := trivial
          go_wp2_with (have _t := tok1; clear tok1; refine wpList_load_row (by rfl) 168 _ (by rfl) (w.heap.size) (by rfl) 168 (#[.slice (some ⟨b, o, none⟩) n cap, .float .f32 (st), .float .f32 (sh), .int .i64 (M : Int), .float .f32 ((rsR n x st sh s0 k).a), .float .f32 ((rsR n x st sh s0 k).h), .float .f32 ((rsR n x st sh s0 k).v), .float .f32 ((rsR n x st sh s0 k).e), .int .i64 (k : Int)]) (0, 0) _ (k0.out.at (x := (w.heap.size, #[.slice (some ⟨b, o, none⟩) n cap, .float .f32 (st), .float .f32 (sh), .int .i64 (M : Int), .float .f32 ((rsR n x st sh s0 k).a), .float .f32 ((rsR n x st sh s0 k).h), .float .f32 ((rsR n x st sh s0 k).v), .float .f32 ((rsR n x st sh s0 k).e), .int .i64 (k : Int)], 168)) in1) Try.underlying168 (by rfl) info_jou ?_)
          refine CL.out.mono ?_
          rintro e w2 ⟨rfl, hb2⟩
          have k2 := hid (k0.out.stay hb2)
          have c1 : World.cell? w2 ⟨w.heap.size, 1, none⟩ = some (.float .f32 (st)) := (cell_of_row _ (w.heap.size) 1 _ _ _ (k2.out.at (x := (w.heap.size, #[.slice (some ⟨b, o, none⟩) n cap, .float .f32 (st), .float .f32 (sh), .int .i64 (M : Int), .float .f32 ((rsR n x st sh s0 k).a), .float .f32 ((rsR n x st sh s0 k).h), .float .f32 ((rsR n x st sh s0 k).v), .float .f32 ((rsR n x st sh s0 k).e), .int .i64 (k : Int)], 168)) in1)).trans rfl
          have c3 : World.cell? w2 ⟨w.heap.size, 3, none⟩ = some (.int .i64 (M : Int)) := (cell_of_row _ (w.heap.size) 3 _ _ _ (k2.out.at (x := (w.heap.size, #[.slice (some ⟨b, o, none⟩) n cap, .float .f32 (st), .float .f32 (sh), .int .i64 (M : Int), .float .f32 ((rsR n x st sh s0 k).a), .float .f32 ((rsR n x st sh s0 k).h), .float .f32 ((rsR n x st sh s0 k).v), .float .f32 ((rsR n x st sh s0 k).e), .int .i64 (k : Int)], 168)) in1)).trans rfl
          have c4 : World.cell? w2 ⟨w.heap.size, 4, none⟩ = some (.float .f32 ((rsR n x st sh s0 k).a)) := (cell_of_row _ (w.heap.size) 4 _ _ _ (k2.out.at (x := (w.heap.size, #[.slice (some ⟨b, o, none⟩) n cap, .float .f32 (st), .float .f32 (sh), .int .i64 (M : Int), .float .f32 ((rsR n x st sh s0 k).a), .float .f32 ((rsR n x st sh s0 k).h), .float .f32 ((rsR n x st sh s0 k).v), .float .f32 ((rsR n x st sh s0 k).e), .int .i64 (k : Int)], 168)) in1)).trans rfl
          have c8 : World.cell? w2 ⟨w.heap.size, 8, none⟩ = some (.int .i64 (k : Int)) := (cell_of_row _ (w.heap.size) 8 _ _ _ (k2.out.at (x := (w.heap.size, #[.slice (some ⟨b, o, none⟩) n cap, .float .f32 (st), .float .f32 (sh), .int .i64 (M : Int), .float .f32 ((rsR n x st sh s0 k).a), .float .f32 ((rsR n x st sh s0 k).h), .float .f32 ((rsR n x st sh s0 k).v), .float .f32 ((rsR n x st sh s0 k).e), .int .i64 (k : Int)], 168)) in1)).trans rfl
          clear hb2 CL
          go_wp2_with fail
          go_step3
          refine ⟨k, ⟨HK.out, HC.out, HGO.out⟩, ?_, k2.out⟩
          exact JF5.of rfl rfl rfl rfl rfl rfl
        · clear g2
          have tok1 : True := trivial
          go_wp2_with (have _t := tok1; clear tok1; refine wpList_load_row (by rfl) 168 _ (by rfl) (w.heap.size) (by rfl) 168 (#[.slice (some ⟨b, o, none⟩) n cap, .float .f32 (st), .float .f32 (sh), .int .i64 (M : Int), .float .f32 ((rsR n x st sh s0 k).a), .float .f32 ((rsR n x st sh s0 k).h), .float .f32 ((rsR n x st sh s0 k).v), .float .f32 ((rsR n x st sh s0 k).e), .int .i64 (k : Int)]) (0, 0) _ (k0.out.at (x := (w.heap.size, #[.slice (some ⟨b, o, none⟩) n cap, .float .f32 (st), .float .f32 (sh), .int .i64 (M : Int), .float .f32 ((rsR n x st sh s0 k).a), .float .f32 ((rsR n x st sh s0 k).h), .float .f32 ((rsR n x st sh s0 k).v), .float .f32 ((rsR n x st sh s0 k).e), .int .i64 (k : Int)], 168)) in1) Try.underlying168 (by rfl) info_jou ?_)
          refine CL.out.mono ?_
          rintro e w2 ⟨rfl, hb2⟩
          have k2 := hid (k0.out.stay hb2)
          have c1 : World.cell? w2 ⟨w.heap.size, 1, none⟩ = some (.float .f32 (st)) := (cell_of_row _ (w.heap.size) 1 _ _ _ (k2.out.at (x := (w.heap.size, #[.slice (some ⟨b, o, none⟩) n cap, .float .f32 (st), .float .f32 (sh), .int .i64 (M : Int), .float .f32 ((rsR n x st sh s0 k).a), .float .f32 ((rsR n x st sh s0 k).h), .float .f32 ((rsR n x st sh s0 k).v), .float .f32 ((rsR n x st sh s0 k).e), .int .i64 (k : Int)], 168)) in1)).trans rfl
          have c3 : World.cell? w2 ⟨w.heap.size, 3, none⟩ = some (.int .i64 (M : Int)) := (cell_of_row _ (w.heap.size) 3 _ _ _ (k2.out.at (x := (w.heap.size, #[.slice (some ⟨b, o, none⟩) n cap, .float .f32 (st), .float .f32 (sh), .int .i64 (M : Int), .float .f32 ((rsR n x st sh s0 k).a), .float .f32 ((rsR n x st sh s0 k).h), .float .f32 ((rsR n x st sh s0 k).v), .float .f32 ((rsR n x st sh s0 k).e), .int .i64 (k : Int)], 168)) in1)).trans rfl
          have c4 : World.cell? w2 ⟨w.heap.size, 4, none⟩ = some (.float .f32 ((rsR n x st sh s0 k).a)) := (cell_of_row _ (w.heap.size) 4 _ _ _ (k2.out.at (x := (w.heap.size, #[.slice (some ⟨b, o, none⟩) n cap, .float .f32 (st), .float .f32 (sh), .int .i64 (M : Int), .float .f32 ((rsR n x st sh s0 k).a), .float .f32 ((rsR n x st sh s0 k).h), .float .f32 ((rsR n x st sh s0 k).v), .float .f32 ((rsR n x st sh s0 k).e), .int .i64 (k : Int)], 168)) in1)).trans rfl
          have c8 : World.cell? w2 ⟨w.heap.size, 8, none⟩ = some (.int .i64 (k : Int)) := (cell_of_row _ (w.heap.size) 8 _ _ _ (k2.out.at (x := (w.heap.size, #[.slice (some ⟨b, o, none⟩) n cap, .float .f32 (st), .float .f32 (sh), .int .i64 (M : Int), .float .f32 ((rsR n x st sh s0 k).a), .float .f32 ((rsR n x st sh s0 k).h), .float .f32 ((rsR n x st sh s0 k).v), .float .f32 ((rsR n x st sh s0 k).e), .int .i64 (k : Int)], 168)) in1)).trans rfl
          clear hb2 CL
          go_wp2_with fail
          go_step3
          refine ⟨k, ⟨HK.out, HC.out, HGO.out⟩, ?_, k2.out⟩
          exact JF5.of rfl rfl rfl rfl rfl rfl
      · obtain rfl : k = K := by
          rcases HKK.out with h | h
          · exact absurd (HM.out k h).2.1 hgo
          · exact h
        have EE := hid (H2.out HC.out hgo)
        have hcs : gtZ (liR n x (rsR n x st sh s0 k)) = false ∨ (gtZ (liR n x (rsR n x st sh s0 k)) = true ∧ ¬ (k < M)) ∨ (gtZ (liR n x (rsR n x st sh s0 k)) = true ∧ k < M ∧ leW (zR st (rsR n x st sh s0 k)) (x ((n - 1) * 3)) = false) := by
          rcases h1 : gtZ (liR n x (rsR n x st sh s0 k)) with _ | _
          · exact .inl rfl
          · by_cases h2 : k < M
            · rcases h3 : leW (zR st (rsR n x st sh s0 k)) (x ((n - 1) * 3)) with _ | _
              · exact .inr (.inr ⟨rfl, h2, rfl⟩)
              · exact absurd ⟨h1, h2, h3⟩ hgo
            · exact .inr (.inl ⟨rfl, h2⟩)
        clear hgo
        rcases hcs with h1 | ⟨h1, h2⟩ | ⟨h1, h2, h3⟩
        · have g1 : (FloatKind.f32.format.order (liR n x (rsR n x st sh s0 k)) 0 == some .gt) = false := h1
          clear h1
          have tok1 : True := trivial
          go_wp2_with (have _t := tok1; clear tok1; refine wpList_load_row (by rfl) 168 _ (by rfl) (w.heap.size) (by rfl) 168 (#[.slice (some ⟨b, o, none⟩) n cap, .float .f32 (st), .float .f32 (sh), .int .i64 (M : Int), .float .f32 ((rsR n x st sh s0 k).a), .float .f32 ((rsR n x st sh s0 k).h), .float .f32 ((rsR n x st sh s0 k).v), .float .f32 ((rsR n x st sh s0 k).e), .int .i64 (k : Int)]) (0, 0) _ (k0.out.at (x := (w.heap.size, #[.slice (some ⟨b, o, none⟩) n cap, .float .f32 (st), .float .f32 (sh), .int .i64 (M : Int), .float .f32 ((rsR n x st sh s0 k).a), .float .f32 ((rsR n x st sh s0 k).h), .float .f32 ((rsR n x st sh s0 k).v), .float .f32 ((rsR n x st sh s0 k).e), .int .i64 (k : Int)], 168)) in1) Try.underlying168 (by rfl) info_jou ?_)
          refine CL.out.mono ?_
          rintro e w2 ⟨rfl, hb2⟩
          have k2 := hid (k0.out.stay hb2)
          have c1 : World.cell? w2 ⟨w.heap.size, 1, none⟩ = some (.float .f32 (st)) := (cell_of_row _ (w.heap.size) 1 _ _ _ (k2.out.at (x := (w.heap.size, #[.slice (some ⟨b, o, none⟩) n cap, .float .f32 (st), .float .f32 (sh), .int .i64 (M : Int), .float .f32 ((rsR n x st sh s0 k).a), .float .f32 ((rsR n x st sh s0 k).h), .float .f32 ((rsR n x st sh s0 k).v), .float .f32 ((rsR n x st sh s0 k).e), .int .i64 (k : Int)], 168)) in1)).trans rfl
          have c3 : World.cell? w2 ⟨w.heap.size, 3, none⟩ = some (.int .i64 (M : Int)) := (cell_of_row _ (w.heap.size) 3 _ _ _ (k2.out.at (x := (w.heap.size, #[.slice (some ⟨b, o, none⟩) n cap, .float .f32 (st), .float .f32 (sh), .int .i64 (M : Int), .float .f32 ((rsR n x st sh s0 k).a), .float .f32 ((rsR n x st sh s0 k).h), .float .f32 ((rsR n x st sh s0 k).v), .float .f32 ((rsR n x st sh s0 k).e), .int .i64 (k : Int)], 168)) in1)).trans rfl
          have c4 : World.cell? w2 ⟨w.heap.size, 4, none⟩ = some (.float .f32 ((rsR n x st sh s0 k).a)) := (cell_of_row _ (w.heap.size) 4 _ _ _ (k2.out.at (x := (w.heap.size, #[.slice (some ⟨b, o, none⟩) n cap, .float .f32 (st), .float .f32 (sh), .int .i64 (M : Int), .float .f32 ((rsR n x st sh s0 k).a), .float .f32 ((rsR n x st sh s0 k).h), .float .f32 ((rsR n x st sh s0 k).v), .float .f32 ((rsR n x st sh s0 k).e), .int .i64 (k : Int)], 168)) in1)).trans rfl
          have c8 : World.cell? w2 ⟨w.heap.size, 8, none⟩ = some (.int .i64 (k : Int)) := (cell_of_row _ (w.heap.size) 8 _ _ _ (k2.out.at (x := (w.heap.size, #[.slice (some ⟨b, o, none⟩) n cap, .float .f32 (st), .float .f32 (sh), .int .i64 (M : Int), .float .f32 ((rsR n x st sh s0 k).a), .float .f32 ((rsR n x st sh s0 k).h), .float .f32 ((rsR n x st sh s0 k).v), .float .f32 ((rsR n x st sh s0 k).e), .int .i64 (k : Int)], 168)) in1)).trans rfl
          have tok5 : True := trivial
          clear hb2 CL
          go_wp2_with (first | (have _t := tok5; clear tok5; refine wpList_load_row (by rfl) 168 _ (by rfl) (w.heap.size) (by rfl) 168 (#[.slice (some ⟨b, o, none⟩) n cap, .float .f32 (st), .float .f32 (sh), .int .i64 (M : Int), .float .f32 ((rsR n x st sh s0 k).a), .float .f32 ((rsR n x st sh s0 k).h), .float .f32 ((rsR n x st sh s0 k).v), .float .f32 ((rsR n x st sh s0 k).e), .int .i64 (k : Int)]) (0, 0) _ (k2.out.at (x := (w.heap.size, #[.slice (some ⟨b, o, none⟩) n cap, .float .f32 (st), .float .f32 (sh), .int .i64 (M : Int), .float .f32 ((rsR n x st sh s0 k).a), .float .f32 ((rsR n x st sh s0 k).h), .float .f32 ((rsR n x st sh s0 k).v), .float .f32 ((rsR n x st sh s0 k).e), .int .i64 (k : Int)], 168)) in1) Try.underlying168 (by rfl) info_jou ?_; have tok6 : True := trivial) | (have _t := tok6; clear tok6; refine store_row (by rfl) 168 _ _ (by rfl) (w.heap.size + 1) (#[.slice (some ⟨b, o, none⟩) n cap, .float .f32 (st), .float .f32 (sh), .int .i64 (M : Int), .float .f32 ((rsR n x st sh s0 k).a), .float .f32 ((rsR n x st sh s0 k).h), .float .f32 ((rsR n x st sh s0 k).v), .float .f32 ((rsR n x st sh s0 k).e), .int .i64 (k : Int)]) (#[.slice none 0 0, .float .f32 (0), .float .f32 (0), .int .i64 0, .float .f32 (0), .float .f32 (0), .float .f32 (0), .float .f32 (0), .int .i64 0]) (by rfl) (by rfl) k2.out info_jou (by simp) (by simp [Value.oneCell']) (by omega) (neC (by omega) ne0) ?_; intro w3 k3; replace k3 := hid k3))
          simp only [Exit.jumps]
          exact bodyPost_ret (results_cell_row rfl _ _ (w.heap.size + 1) 168 (#[.slice (some ⟨b, o, none⟩) n cap, .float .f32 (st), .float .f32 (sh), .int .i64 (M : Int), .float .f32 ((rsR n x st sh s0 k).a), .float .f32 ((rsR n x st sh s0 k).h), .float .f32 ((rsR n x st sh s0 k).v), .float .f32 ((rsR n x st sh s0 k).e), .int .i64 (k : Int)]) (0, 0) _ rfl (k3.out.at (x := (w.heap.size + 1, #[.slice (some ⟨b, o, none⟩) n cap, .float .f32 (st), .float .f32 (sh), .int .i64 (M : Int), .float .f32 ((rsR n x st sh s0 k).a), .float .f32 ((rsR n x st sh s0 k).h), .float .f32 ((rsR n x st sh s0 k).v), .float .f32 ((rsR n x st sh s0 k).e), .int .i64 (k : Int)], 168)) in0) Try.underlying168 rfl info_jou) rfl ⟨EE.out.symm, k3.out.1⟩
        · have g1 : (FloatKind.f32.format.order (liR n x (rsR n x st sh s0 k)) 0 == some .gt) = true := h1
          have hlt : ¬ (k : Int) < (M : Int) := by omega
          clear h1 h2
          have tok1 : True := trivial
          go_wp2_with (have _t := tok1; clear tok1; refine wpList_load_row (by rfl) 168 _ (by rfl) (w.heap.size) (by rfl) 168 (#[.slice (some ⟨b, o, none⟩) n cap, .float .f32 (st), .float .f32 (sh), .int .i64 (M : Int), .float .f32 ((rsR n x st sh s0 k).a), .float .f32 ((rsR n x st sh s0 k).h), .float .f32 ((rsR n x st sh s0 k).v), .float .f32 ((rsR n x st sh s0 k).e), .int .i64 (k : Int)]) (0, 0) _ (k0.out.at (x := (w.heap.size, #[.slice (some ⟨b, o, none⟩) n cap, .float .f32 (st), .float .f32 (sh), .int .i64 (M : Int), .float .f32 ((rsR n x st sh s0 k).a), .float .f32 ((rsR n x st sh s0 k).h), .float .f32 ((rsR n x st sh s0 k).v), .float .f32 ((rsR n x st sh s0 k).e), .int .i64 (k : Int)], 168)) in1) Try.underlying168 (by rfl) info_jou ?_)
          refine CL.out.mono ?_
          rintro e w2 ⟨rfl, hb2⟩
          have k2 := hid (k0.out.stay hb2)
          have c1 : World.cell? w2 ⟨w.heap.size, 1, none⟩ = some (.float .f32 (st)) := (cell_of_row _ (w.heap.size) 1 _ _ _ (k2.out.at (x := (w.heap.size, #[.slice (some ⟨b, o, none⟩) n cap, .float .f32 (st), .float .f32 (sh), .int .i64 (M : Int), .float .f32 ((rsR n x st sh s0 k).a), .float .f32 ((rsR n x st sh s0 k).h), .float .f32 ((rsR n x st sh s0 k).v), .float .f32 ((rsR n x st sh s0 k).e), .int .i64 (k : Int)], 168)) in1)).trans rfl
          have c3 : World.cell? w2 ⟨w.heap.size, 3, none⟩ = some (.int .i64 (M : Int)) := (cell_of_row _ (w.heap.size) 3 _ _ _ (k2.out.at (x := (w.heap.size, #[.slice (some ⟨b, o, none⟩) n cap, .float .f32 (st), .float .f32 (sh), .int .i64 (M : Int), .float .f32 ((rsR n x st sh s0 k).a), .float .f32 ((rsR n x st sh s0 k).h), .float .f32 ((rsR n x st sh s0 k).v), .float .f32 ((rsR n x st sh s0 k).e), .int .i64 (k : Int)], 168)) in1)).trans rfl
          have c4 : World.cell? w2 ⟨w.heap.size, 4, none⟩ = some (.float .f32 ((rsR n x st sh s0 k).a)) := (cell_of_row _ (w.heap.size) 4 _ _ _ (k2.out.at (x := (w.heap.size, #[.slice (some ⟨b, o, none⟩) n cap, .float .f32 (st), .float .f32 (sh), .int .i64 (M : Int), .float .f32 ((rsR n x st sh s0 k).a), .float .f32 ((rsR n x st sh s0 k).h), .float .f32 ((rsR n x st sh s0 k).v), .float .f32 ((rsR n x st sh s0 k).e), .int .i64 (k : Int)], 168)) in1)).trans rfl
          have c8 : World.cell? w2 ⟨w.heap.size, 8, none⟩ = some (.int .i64 (k : Int)) := (cell_of_row _ (w.heap.size) 8 _ _ _ (k2.out.at (x := (w.heap.size, #[.slice (some ⟨b, o, none⟩) n cap, .float .f32 (st), .float .f32 (sh), .int .i64 (M : Int), .float .f32 ((rsR n x st sh s0 k).a), .float .f32 ((rsR n x st sh s0 k).h), .float .f32 ((rsR n x st sh s0 k).v), .float .f32 ((rsR n x st sh s0 k).e), .int .i64 (k : Int)], 168)) in1)).trans rfl
          have tok5 : True := trivial
          clear hb2 CL
          go_wp2_with (first | (have _t := tok5; clear tok5; refine wpList_load_row (by rfl) 168 _ (by rfl) (w.heap.size) (by rfl) 168 (#[.slice (some ⟨b, o, none⟩) n cap, .float .f32 (st), .float .f32 (sh), .int .i64 (M : Int), .float .f32 ((rsR n x st sh s0 k).a), .float .f32 ((rsR n x st sh s0 k).h), .float .f32 ((rsR n x st sh s0 k).v), .float .f32 ((rsR n x st sh s0 k).e), .int .i64 (k : Int)]) (0, 0) _ (k2.out.at (x := (w.heap.size, #[.slice (some ⟨b, o, none⟩) n cap, .float .f32 (st), .float .f32 (sh), .int .i64 (M : Int), .float .f32 ((rsR n x st sh s0 k).a), .float .f32 ((rsR n x st sh s0 k).h), .float .f32 ((rsR n x st sh s0 k).v), .float .f32 ((rsR n x st sh s0 k).e), .int .i64 (k : Int)], 168)) in1) Try.underlying168 (by rfl) info_jou ?_; have tok6 : True := trivial) | (have _t := tok6; clear tok6; refine store_row (by rfl) 168 _ _ (by rfl) (w.heap.size + 1) (#[.slice (some ⟨b, o, none⟩) n cap, .float .f32 (st), .float .f32 (sh), .int .i64 (M : Int), .float .f32 ((rsR n x st sh s0 k).a), .float .f32 ((rsR n x st sh s0 k).h), .float .f32 ((rsR n x st sh s0 k).v), .float .f32 ((rsR n x st sh s0 k).e), .int .i64 (k : Int)]) (#[.slice none 0 0, .float .f32 (0), .float .f32 (0), .int .i64 0, .float .f32 (0), .float .f32 (0), .float .f32 (0), .float .f32 (0), .int .i64 0]) (by rfl) (by rfl) k2.out info_jou (by simp) (by simp [Value.oneCell']) (by omega) (neC (by omega) ne0) ?_; intro w3 k3; replace k3 := hid k3))
          simp only [Exit.jumps]
          exact bodyPost_ret (results_cell_row rfl _ _ (w.heap.size + 1) 168 (#[.slice (some ⟨b, o, none⟩) n cap, .float .f32 (st), .float .f32 (sh), .int .i64 (M : Int), .float .f32 ((rsR n x st sh s0 k).a), .float .f32 ((rsR n x st sh s0 k).h), .float .f32 ((rsR n x st sh s0 k).v), .float .f32 ((rsR n x st sh s0 k).e), .int .i64 (k : Int)]) (0, 0) _ rfl (k3.out.at (x := (w.heap.size + 1, #[.slice (some ⟨b, o, none⟩) n cap, .float .f32 (st), .float .f32 (sh), .int .i64 (M : Int), .float .f32 ((rsR n x st sh s0 k).a), .float .f32 ((rsR n x st sh s0 k).h), .float .f32 ((rsR n x st sh s0 k).v), .float .f32 ((rsR n x st sh s0 k).e), .int .i64 (k : Int)], 168)) in0) Try.underlying168 rfl info_jou) rfl ⟨EE.out.symm, k3.out.1⟩
        · have g1 : (FloatKind.f32.format.order (liR n x (rsR n x st sh s0 k)) 0 == some .gt) = true := h1
          have g2 : (FloatKind.f32.format.order (zR st (rsR n x st sh s0 k)) (x ((n - 1) * 3)) == some .lt || FloatKind.f32.format.order (zR st (rsR n x st sh s0 k)) (x ((n - 1) * 3)) == some .eq) = false := h3
          rw [Bool.or_eq_false_iff] at g2
          have g3 := g2.1
          have g4 := g2.2
          have hlt : (k : Int) < (M : Int) := by omega
          clear h1 h2 h3 g2
          have tok1 : True := trivial
          go_wp2_with (have _t := tok1; clear tok1; refine wpList_load_row (by rfl) 168 _ (by rfl) (w.heap.size) (by rfl) 168 (#[.slice (some ⟨b, o, none⟩) n cap, .float .f32 (st), .float .f32 (sh), .int .i64 (M : Int), .float .f32 ((rsR n x st sh s0 k).a), .float .f32 ((rsR n x st sh s0 k).h), .float .f32 ((rsR n x st sh s0 k).v), .float .f32 ((rsR n x st sh s0 k).e), .int .i64 (k : Int)]) (0, 0) _ (k0.out.at (x := (w.heap.size, #[.slice (some ⟨b, o, none⟩) n cap, .float .f32 (st), .float .f32 (sh), .int .i64 (M : Int), .float .f32 ((rsR n x st sh s0 k).a), .float .f32 ((rsR n x st sh s0 k).h), .float .f32 ((rsR n x st sh s0 k).v), .float .f32 ((rsR n x st sh s0 k).e), .int .i64 (k : Int)], 168)) in1) Try.underlying168 (by rfl) info_jou ?_)
          refine CL.out.mono ?_
          rintro e w2 ⟨rfl, hb2⟩
          have k2 := hid (k0.out.stay hb2)
          have c1 : World.cell? w2 ⟨w.heap.size, 1, none⟩ = some (.float .f32 (st)) := (cell_of_row _ (w.heap.size) 1 _ _ _ (k2.out.at (x := (w.heap.size, #[.slice (some ⟨b, o, none⟩) n cap, .float .f32 (st), .float .f32 (sh), .int .i64 (M : Int), .float .f32 ((rsR n x st sh s0 k).a), .float .f32 ((rsR n x st sh s0 k).h), .float .f32 ((rsR n x st sh s0 k).v), .float .f32 ((rsR n x st sh s0 k).e), .int .i64 (k : Int)], 168)) in1)).trans rfl
          have c3 : World.cell? w2 ⟨w.heap.size, 3, none⟩ = some (.int .i64 (M : Int)) := (cell_of_row _ (w.heap.size) 3 _ _ _ (k2.out.at (x := (w.heap.size, #[.slice (some ⟨b, o, none⟩) n cap, .float .f32 (st), .float .f32 (sh), .int .i64 (M : Int), .float .f32 ((rsR n x st sh s0 k).a), .float .f32 ((rsR n x st sh s0 k).h), .float .f32 ((rsR n x st sh s0 k).v), .float .f32 ((rsR n x st sh s0 k).e), .int .i64 (k : Int)], 168)) in1)).trans rfl
          have c4 : World.cell? w2 ⟨w.heap.size, 4, none⟩ = some (.float .f32 ((rsR n x st sh s0 k).a)) := (cell_of_row _ (w.heap.size) 4 _ _ _ (k2.out.at (x := (w.heap.size, #[.slice (some ⟨b, o, none⟩) n cap, .float .f32 (st), .float .f32 (sh), .int .i64 (M : Int), .float .f32 ((rsR n x st sh s0 k).a), .float .f32 ((rsR n x st sh s0 k).h), .float .f32 ((rsR n x st sh s0 k).v), .float .f32 ((rsR n x st sh s0 k).e), .int .i64 (k : Int)], 168)) in1)).trans rfl
          have c8 : World.cell? w2 ⟨w.heap.size, 8, none⟩ = some (.int .i64 (k : Int)) := (cell_of_row _ (w.heap.size) 8 _ _ _ (k2.out.at (x := (w.heap.size, #[.slice (some ⟨b, o, none⟩) n cap, .float .f32 (st), .float .f32 (sh), .int .i64 (M : Int), .float .f32 ((rsR n x st sh s0 k).a), .float .f32 ((rsR n x st sh s0 k).h), .float .f32 ((rsR n x st sh s0 k).v), .float .f32 ((rsR n x st sh s0 k).e), .int .i64 (k : Int)], 168)) in1)).trans rfl
          have tok5 : True := trivial
          clear hb2 CL
          go_wp2_with (first | (have _t := tok5; clear tok5; refine wpList_load_row (by rfl) 168 _ (by rfl) (w.heap.size) (by rfl) 168 (#[.slice (some ⟨b, o, none⟩) n cap, .float .f32 (st), .float .f32 (sh), .int .i64 (M : Int), .float .f32 ((rsR n x st sh s0 k).a), .float .f32 ((rsR n x st sh s0 k).h), .float .f32 ((rsR n x st sh s0 k).v), .float .f32 ((rsR n x st sh s0 k).e), .int .i64 (k : Int)]) (0, 0) _ (k2.out.at (x := (w.heap.size, #[.slice (some ⟨b, o, none⟩) n cap, .float .f32 (st), .float .f32 (sh), .int .i64 (M : Int), .float .f32 ((rsR n x st sh s0 k).a), .float .f32 ((rsR n x st sh s0 k).h), .float .f32 ((rsR n x st sh s0 k).v), .float .f32 ((rsR n x st sh s0 k).e), .int .i64 (k : Int)], 168)) in1) Try.underlying168 (by rfl) info_jou ?_; have tok6 : True := trivial) | (have _t := tok6; clear tok6; refine store_row (by rfl) 168 _ _ (by rfl) (w.heap.size + 1) (#[.slice (some ⟨b, o, none⟩) n cap, .float .f32 (st), .float .f32 (sh), .int .i64 (M : Int), .float .f32 ((rsR n x st sh s0 k).a), .float .f32 ((rsR n x st sh s0 k).h), .float .f32 ((rsR n x st sh s0 k).v), .float .f32 ((rsR n x st sh s0 k).e), .int .i64 (k : Int)]) (#[.slice none 0 0, .float .f32 (0), .float .f32 (0), .int .i64 0, .float .f32 (0), .float .f32 (0), .float .f32 (0), .float .f32 (0), .int .i64 0]) (by rfl) (by rfl) k2.out info_jou (by simp) (by simp [Value.oneCell']) (by omega) (neC (by omega) ne0) ?_; intro w3 k3; replace k3 := hid k3))
          simp only [Exit.jumps]
          exact bodyPost_ret (results_cell_row rfl _ _ (w.heap.size + 1) 168 (#[.slice (some ⟨b, o, none⟩) n cap, .float .f32 (st), .float .f32 (sh), .int .i64 (M : Int), .float .f32 ((rsR n x st sh s0 k).a), .float .f32 ((rsR n x st sh s0 k).h), .float .f32 ((rsR n x st sh s0 k).v), .float .f32 ((rsR n x st sh s0 k).e), .int .i64 (k : Int)]) (0, 0) _ rfl (k3.out.at (x := (w.heap.size + 1, #[.slice (some ⟨b, o, none⟩) n cap, .float .f32 (st), .float .f32 (sh), .int .i64 (M : Int), .float .f32 ((rsR n x st sh s0 k).a), .float .f32 ((rsR n x st sh s0 k).h), .float .f32 ((rsR n x st sh s0 k).v), .float .f32 ((rsR n x st sh s0 k).e), .int .i64 (k : Int)], 168)) in0) Try.underlying168 rfl info_jou) rfl ⟨EE.out.symm, k3.out.1⟩
    · obtain rfl : k = K := by
        rcases hkk with h | h
        · exact absurd (HM.out k h).1 hc
        · exact h
      have EE := hid (H1.out hc)
      have hr : atR n x (rsR n x st sh s0 k).a = ((atR n x (rsR n x st sh s0 k).a).1, (atR n x (rsR n x st sh s0 k).a).2.1, (atR n x (rsR n x st sh s0 k).a).2.2) := rfl
      have CL := hid (iJLift_f (.slice (some ⟨b, o, none⟩) n cap) st sh M _ _ _ (rsR n x st sh s0 k).e k _ hc wr (fun u2 hu2 => iLift_none n x HX.out HQ.out (rsR n x st sh s0 k).a (rsR n x st sh s0 k).h (rsR n x st sh s0 k).v V.al V.hl V.vl V.p _ _ _ hr hc u2 _ (HR.out u2 (k0.out.stay hu2).1) HNN.out))
      have tok1 : True := trivial
      clear V hr hc hkk H1 H2 H3
      go_wp2_with (have _t := tok1; clear tok1; refine wpList_load_row (by rfl) 168 _ (by rfl) (w.heap.size) (by rfl) 168 (#[.slice (some ⟨b, o, none⟩) n cap, .float .f32 (st), .float .f32 (sh), .int .i64 (M : Int), .float .f32 ((rsR n x st sh s0 k).a), .float .f32 ((rsR n x st sh s0 k).h), .float .f32 ((rsR n x st sh s0 k).v), .float .f32 ((rsR n x st sh s0 k).e), .int .i64 (k : Int)]) (0, 0) _ (k0.out.at (x := (w.heap.size, #[.slice (some ⟨b, o, none⟩) n cap, .float .f32 (st), .float .f32 (sh), .int .i64 (M : Int), .float .f32 ((rsR n x st sh s0 k).a), .float .f32 ((rsR n x st sh s0 k).h), .float .f32 ((rsR n x st sh s0 k).v), .float .f32 ((rsR n x st sh s0 k).e), .int .i64 (k : Int)], 168)) in1) Try.underlying168 (by rfl) info_jou ?_)
      refine CL.out.mono ?_
      rintro e w2 ⟨rfl, hb2⟩
      exact ⟨rfl, EE.out.symm, (k0.out.stay hb2).1⟩
  case pass0 =>
    clear k0 hct1 ixl
    rintro a1 wr ⟨k, hk, ⟨u, rfl, e1, e2, e5⟩, k0⟩
    have k0 := hid k0
    have V := HV.out k hk
    have hkk : k < K ∨ k = K := by omega
    have cW8 := hid (((cell_of_row _ (w.heap.size) 8 _ _ _ (k0.out.at (x := (w.heap.size, #[.slice (some ⟨b, o, none⟩) n cap, .float .f32 (st), .float .f32 (sh), .int .i64 (M : Int), .float .f32 ((rsR n x st sh s0 k).a), .float .f32 ((rsR n x st sh s0 k).h), .float .f32 ((rsR n x st sh s0 k).v), .float .f32 ((rsR n x st sh s0 k).e), .int .i64 (k : Int)], 168)) in1)).trans rfl : World.cell? wr ⟨w.heap.size, 8, none⟩ = some (.int .i64 (k : Int))))
    rw [vls54, e1, e2, e5]
    clear e1 e2 e5
    by_cases hc : (atR n x (rsR n x st sh s0 k).a).2.2 = 0
    · have hr : atR n x (rsR n x st sh s0 k).a = ((atR n x (rsR n x st sh s0 k).a).1, (atR n x (rsR n x st sh s0 k).a).2.1, 0) := by rw [← hc]
      have L := r_lift HX.out (souB_iff.1 HQ.out) V hc
      have Z := r_z HST.out V
      have CL := hid (iJLift_ok (.slice (some ⟨b, o, none⟩) n cap) st sh M _ _ _ (rsR n x st sh s0 k).e k (liR n x (rsR n x st sh s0 k)) wr (fun u2 hu2 => iLift_ok n x HX.out HQ.out (rsR n x st sh s0 k).a (rsR n x st sh s0 k).h (rsR n x st sh s0 k).v V.al V.hl V.vl V.p _ _ hr _ L.1 u2 _ (HR.out u2 (k0.out.stay hu2).1) HNN.out))
      have ra := fun w => run_float_arith (P := Try.prog) w .add 22 .f32 _ _ _ Z.1
      have HC := hid hc
      have HKK := hid hkk
      have HK := hid hk
      clear V hr L Z hc hkk hk H1 H3
      by_cases hgo : goR n x st (x ((n - 1) * 3)) M k (rsR n x st sh s0 k)
      · have HGO := hid hgo
        have g1 : (FloatKind.f32.format.order (liR n x (rsR n x st sh s0 k)) 0 == some .gt) = true := hgo.1
        have g2 : (FloatKind.f32.format.order (zR st (rsR n x st sh s0 k)) (x ((n - 1) * 3)) == some .lt || FloatKind.f32.format.order (zR st (rsR n x st sh s0 k)) (x ((n - 1) * 3)) == some .eq) = true := hgo.2.2
        have hlt : (k : Int) < (M : Int) := by have := hgo.2.1; omega
        clear hgo H2
        rcases g3 : (FloatKind.f32.format.order (zR st (rsR n x st sh s0 k)) (x ((n - 1) * 3)) == some .lt) with _ | _
        · have g4 : (FloatKind.f32.format.order (zR st (rsR n x st sh s0 k)) (x ((n - 1) * 3)) == some .eq) = true := by rw [g3, Bool.false_or] at g2; exact g2
          clear g2
          have tok1 : True := trivial
          go_wp2_with (have _t := tok1; clear tok1; refine wpList_load_row (by rfl) 168 _ (by rfl) (w.heap.size) (by rfl) 168 (#[.slice (some ⟨b, o, none⟩) n cap, .float .f32 (st), .float .f32 (sh), .int .i64 (M : Int), .float .f32 ((rsR n x st sh s0 k).a), .float .f32 ((rsR n x st sh s0 k).h), .float .f32 ((rsR n x st sh s0 k).v), .float .f32 ((rsR n x st sh s0 k).e), .int .i64 (k : Int)]) (0, 0) _ (k0.out.at (x := (w.heap.size, #[.slice (some ⟨b, o, none⟩) n cap, .float .f32 (st), .float .f32 (sh), .int .i64 (M : Int), .float .f32 ((rsR n x st sh s0 k).a), .float .f32 ((rsR n x st sh s0 k).h), .float .f32 ((rsR n x st sh s0 k).v), .float .f32 ((rsR n x st sh s0 k).e), .int .i64 (k : Int)], 168)) in1) Try.underlying168 (by rfl) info_jou ?_)
          refine CL.out.mono ?_
          rintro e w2 ⟨rfl, hb2⟩
          have k2 := hid (k0.out.stay hb2)
          have c1 : World.cell? w2 ⟨w.heap.size, 1, none⟩ = some (.float .f32 (st)) := (cell_of_row _ (w.heap.size) 1 _ _ _ (k2.out.at (x := (w.heap.size, #[.slice (some ⟨b, o, none⟩) n cap, .float .f32 (st), .float .f32 (sh), .int .i64 (M : Int), .float .f32 ((rsR n x st sh s0 k).a), .float .f32 ((rsR n x st sh s0 k).h), .float .f32 ((rsR n x st sh s0 k).v), .float .f32 ((rsR n x st sh s0 k).e), .int .i64 (k : Int)], 168)) in1)).trans rfl
          have c3 : World.cell? w2 ⟨w.heap.size, 3, none⟩ = some (.int .i64 (M : Int)) := (cell_of_row _ (w.heap.size) 3 _ _ _ (k2.out.at (x := (w.heap.size, #[.slice (some ⟨b, o, none⟩) n cap, .float .f32 (st), .float .f32 (sh), .int .i64 (M : Int), .float .f32 ((rsR n x st sh s0 k).a), .float .f32 ((rsR n x st sh s0 k).h), .float .f32 ((rsR n x st sh s0 k).v), .float .f32 ((rsR n x st sh s0 k).e), .int .i64 (k : Int)], 168)) in1)).trans rfl
          have c4 : World.cell? w2 ⟨w.heap.size, 4, none⟩ = some (.float .f32 ((rsR n x st sh s0 k).a)) := (cell_of_row _ (w.heap.size) 4 _ _ _ (k2.out.at (x := (w.heap.size, #[.slice (some ⟨b, o, none⟩) n cap, .float .f32 (st), .float .f32 (sh), .int .i64 (M : Int), .float .f32 ((rsR n x st sh s0 k).a), .float .f32 ((rsR n x st sh s0 k).h), .float .f32 ((rsR n x st sh s0 k).v), .float .f32 ((rsR n x st sh s0 k).e), .int .i64 (k : Int)], 168)) in1)).trans rfl
          have c8 : World.cell? w2 ⟨w.heap.size, 8, none⟩ = some (.int .i64 (k : Int)) := (cell_of_row _ (w.heap.size) 8 _ _ _ (k2.out.at (x := (w.heap.size, #[.slice (some ⟨b, o, none⟩) n cap, .float .f32 (st), .float .f32 (sh), .int .i64 (M : Int), .float .f32 ((rsR n x st sh s0 k).a), .float .f32 ((rsR n x st sh s0 k).h), .float .f32 ((rsR n x st sh s0 k).v), .float .f32 ((rsR n x st sh s0 k).e), .int .i64 (k : Int)], 168)) in1)).trans rfl
          clear hb2 CL
          go_wp2_with fail
          go_step3
          have cX8 := hid c8
          refine ⟨⟨k, ⟨HK.out, HC.out, HGO.out⟩, ?_, k2.out⟩, j_meas cW8.out cX8.out (by omega)⟩
          exact JF5.of rfl rfl rfl rfl rfl rfl
        · clear g2
          have tok1 : True := trivial
          go_wp2_with (have _t := tok1; clear tok1; refine wpList_load_row (by rfl) 168 _ (by rfl) (w.heap.size) (by rfl) 168 (#[.slice (some ⟨b, o, none⟩) n cap, .float .f32 (st), .float .f32 (sh), .int .i64 (M : Int), .float .f32 ((rsR n x st sh s0 k).a), .float .f32 ((rsR n x st sh s0 k).h), .float .f32 ((rsR n x st sh s0 k).v), .float .f32 ((rsR n x st sh s0 k).e), .int .i64 (k : Int)]) (0, 0) _ (k0.out.at (x := (w.heap.size, #[.slice (some ⟨b, o, none⟩) n cap, .float .f32 (st), .float .f32 (sh), .int .i64 (M : Int), .float .f32 ((rsR n x st sh s0 k).a), .float .f32 ((rsR n x st sh s0 k).h), .float .f32 ((rsR n x st sh s0 k).v), .float .f32 ((rsR n x st sh s0 k).e), .int .i64 (k : Int)], 168)) in1) Try.underlying168 (by rfl) info_jou ?_)
          refine CL.out.mono ?_
          rintro e w2 ⟨rfl, hb2⟩
          have k2 := hid (k0.out.stay hb2)
          have c1 : World.cell? w2 ⟨w.heap.size, 1, none⟩ = some (.float .f32 (st)) := (cell_of_row _ (w.heap.size) 1 _ _ _ (k2.out.at (x := (w.heap.size, #[.slice (some ⟨b, o, none⟩) n cap, .float .f32 (st), .float .f32 (sh), .int .i64 (M : Int), .float .f32 ((rsR n x st sh s0 k).a), .float .f32 ((rsR n x st sh s0 k).h), .float .f32 ((rsR n x st sh s0 k).v), .float .f32 ((rsR n x st sh s0 k).e), .int .i64 (k : Int)], 168)) in1)).trans rfl
          have c3 : World.cell? w2 ⟨w.heap.size, 3, none⟩ = some (.int .i64 (M : Int)) := (cell_of_row _ (w.heap.size) 3 _ _ _ (k2.out.at (x := (w.heap.size, #[.slice (some ⟨b, o, none⟩) n cap, .float .f32 (st), .float .f32 (sh), .int .i64 (M : Int), .float .f32 ((rsR n x st sh s0 k).a), .float .f32 ((rsR n x st sh s0 k).h), .float .f32 ((rsR n x st sh s0 k).v), .float .f32 ((rsR n x st sh s0 k).e), .int .i64 (k : Int)], 168)) in1)).trans rfl
          have c4 : World.cell? w2 ⟨w.heap.size, 4, none⟩ = some (.float .f32 ((rsR n x st sh s0 k).a)) := (cell_of_row _ (w.heap.size) 4 _ _ _ (k2.out.at (x := (w.heap.size, #[.slice (some ⟨b, o, none⟩) n cap, .float .f32 (st), .float .f32 (sh), .int .i64 (M : Int), .float .f32 ((rsR n x st sh s0 k).a), .float .f32 ((rsR n x st sh s0 k).h), .float .f32 ((rsR n x st sh s0 k).v), .float .f32 ((rsR n x st sh s0 k).e), .int .i64 (k : Int)], 168)) in1)).trans rfl
          have c8 : World.cell? w2 ⟨w.heap.size, 8, none⟩ = some (.int .i64 (k : Int)) := (cell_of_row _ (w.heap.size) 8 _ _ _ (k2.out.at (x := (w.heap.size, #[.slice (some ⟨b, o, none⟩) n cap, .float .f32 (st), .float .f32 (sh), .int .i64 (M : Int), .float .f32 ((rsR n x st sh s0 k).a), .float .f32 ((rsR n x st sh s0 k).h), .float .f32 ((rsR n x st sh s0 k).v), .float .f32 ((rsR n x st sh s0 k).e), .int .i64 (k : Int)], 168)) in1)).trans rfl
          clear hb2 CL
          go_wp2_with fail
          go_step3
          have cX8 := hid c8
          refine ⟨⟨k, ⟨HK.out, HC.out, HGO.out⟩, ?_, k2.out⟩, j_meas cW8.out cX8.out (by omega)⟩
          exact JF5.of rfl rfl rfl rfl rfl rfl
      · obtain rfl : k = K := by
          rcases HKK.out with h | h
          · exact absurd (HM.out k h).2.1 hgo
          · exact h
        have EE := hid (H2.out HC.out hgo)
        have hcs : gtZ (liR n x (rsR n x st sh s0 k)) = false ∨ (gtZ (liR n x (rsR n x st sh s0 k)) = true ∧ ¬ (k < M)) ∨ (gtZ (liR n x (rsR n x st sh s0 k)) = true ∧ k < M ∧ leW (zR st (rsR n x st sh s0 k)) (x ((n - 1) * 3)) = false) := by
          rcases h1 : gtZ (liR n x (rsR n x st sh s0 k)) with _ | _
          · exact .inl rfl
          · by_cases h2 : k < M
            · rcases h3 : leW (zR st (rsR n x st sh s0 k)) (x ((n - 1) * 3)) with _ | _
              · exact .inr (.inr ⟨rfl, h2, rfl⟩)
              · exact absurd ⟨h1, h2, h3⟩ hgo
            · exact .inr (.inl ⟨rfl, h2⟩)
        clear hgo
        rcases hcs with h1 | ⟨h1, h2⟩ | ⟨h1, h2, h3⟩
        · have g1 : (FloatKind.f32.format.order (liR n x (rsR n x st sh s0 k)) 0 == some .gt) = false := h1
          clear h1
          have tok1 : True := trivial
          go_wp2_with (have _t := tok1; clear tok1; refine wpList_load_row (by rfl) 168 _ (by rfl) (w.heap.size) (by rfl) 168 (#[.slice (some ⟨b, o, none⟩) n cap, .float .f32 (st), .float .f32 (sh), .int .i64 (M : Int), .float .f32 ((rsR n x st sh s0 k).a), .float .f32 ((rsR n x st sh s0 k).h), .float .f32 ((rsR n x st sh s0 k).v), .float .f32 ((rsR n x st sh s0 k).e), .int .i64 (k : Int)]) (0, 0) _ (k0.out.at (x := (w.heap.size, #[.slice (some ⟨b, o, none⟩) n cap, .float .f32 (st), .float .f32 (sh), .int .i64 (M : Int), .float .f32 ((rsR n x st sh s0 k).a), .float .f32 ((rsR n x st sh s0 k).h), .float .f32 ((rsR n x st sh s0 k).v), .float .f32 ((rsR n x st sh s0 k).e), .int .i64 (k : Int)], 168)) in1) Try.underlying168 (by rfl) info_jou ?_)
          refine CL.out.mono ?_
          rintro e w2 ⟨rfl, hb2⟩
          have k2 := hid (k0.out.stay hb2)
          have c1 : World.cell? w2 ⟨w.heap.size, 1, none⟩ = some (.float .f32 (st)) := (cell_of_row _ (w.heap.size) 1 _ _ _ (k2.out.at (x := (w.heap.size, #[.slice (some ⟨b, o, none⟩) n cap, .float .f32 (st), .float .f32 (sh), .int .i64 (M : Int), .float .f32 ((rsR n x st sh s0 k).a), .float .f32 ((rsR n x st sh s0 k).h), .float .f32 ((rsR n x st sh s0 k).v), .float .f32 ((rsR n x st sh s0 k).e), .int .i64 (k : Int)], 168)) in1)).trans rfl
          have c3 : World.cell? w2 ⟨w.heap.size, 3, none⟩ = some (.int .i64 (M : Int)) := (cell_of_row _ (w.heap.size) 3 _ _ _ (k2.out.at (x := (w.heap.size, #[.slice (some ⟨b, o, none⟩) n cap, .float .f32 (st), .float .f32 (sh), .int .i64 (M : Int), .float .f32 ((rsR n x st sh s0 k).a), .float .f32 ((rsR n x st sh s0 k).h), .float .f32 ((rsR n x st sh s0 k).v), .float .f32 ((rsR n x st sh s0 k).e), .int .i64 (k : Int)], 168)) in1)).trans rfl
          have c4 : World.cell? w2 ⟨w.heap.size, 4, none⟩ = some (.float .f32 ((rsR n x st sh s0 k).a)) := (cell_of_row _ (w.heap.size) 4 _ _ _ (k2.out.at (x := (w.heap.size, #[.slice (some ⟨b, o, none⟩) n cap, .float .f32 (st), .float .f32 (sh), .int .i64 (M : Int), .float .f32 ((rsR n x st sh s0 k).a), .float .f32 ((rsR n x st sh s0 k).h), .float .f32 ((rsR n x st sh s0 k).v), .float .f32 ((rsR n x st sh s0 k).e), .int .i64 (k : Int)], 168)) in1)).trans rfl
          have c8 : World.cell? w2 ⟨w.heap.size, 8, none⟩ = some (.int .i64 (k : Int)) := (cell_of_row _ (w.heap.size) 8 _ _ _ (k2.out.at (x := (w.heap.size, #[.slice (some ⟨b, o, none⟩) n cap, .float .f32 (st), .float .f32 (sh), .int .i64 (M : Int), .float .f32 ((rsR n x st sh s0 k).a), .float .f32 ((rsR n x st sh s0 k).h), .float .f32 ((rsR n x st sh s0 k).v), .float .f32 ((rsR n x st sh s0 k).e), .int .i64 (k : Int)], 168)) in1)).trans rfl
          have tok5 : True := trivial
          clear hb2 CL
          go_wp2_with (first | (have _t := tok5; clear tok5; refine wpList_load_row (by rfl) 168 _ (by rfl) (w.heap.size) (by rfl) 168 (#[.slice (some ⟨b, o, none⟩) n cap, .float .f32 (st), .float .f32 (sh), .int .i64 (M : Int), .float .f32 ((rsR n x st sh s0 k).a), .float .f32 ((rsR n x st sh s0 k).h), .float .f32 ((rsR n x st sh s0 k).v), .float .f32 ((rsR n x st sh s0 k).e), .int .i64 (k : Int)]) (0, 0) _ (k2.out.at (x := (w.heap.size, #[.slice (some ⟨b, o, none⟩) n cap, .float .f32 (st), .float .f32 (sh), .int .i64 (M : Int), .float .f32 ((rsR n x st sh s0 k).a), .float .f32 ((rsR n x st sh s0 k).h), .float .f32 ((rsR n x st sh s0 k).v), .float .f32 ((rsR n x st sh s0 k).e), .int .i64 (k : Int)], 168)) in1) Try.underlying168 (by rfl) info_jou ?_; have tok6 : True := trivial) | (have _t := tok6; clear tok6; refine store_row (by rfl) 168 _ _ (by rfl) (w.heap.size + 1) (#[.slice (some ⟨b, o, none⟩) n cap, .float .f32 (st), .float .f32 (sh), .int .i64 (M : Int), .float .f32 ((rsR n x st sh s0 k).a), .float .f32 ((rsR n x st sh s0 k).h), .float .f32 ((rsR n x st sh s0 k).v), .float .f32 ((rsR n x st sh s0 k).e), .int .i64 (k : Int)]) (#[.slice none 0 0, .float .f32 (0), .float .f32 (0), .int .i64 0, .float .f32 (0), .float .f32 (0), .float .f32 (0), .float .f32 (0), .int .i64 0]) (by rfl) (by rfl) k2.out info_jou (by simp) (by simp [Value.oneCell']) (by omega) (neC (by omega) ne0) ?_; intro w3 k3; replace k3 := hid k3))
          simp only [Exit.jumps]
          exact bodyPost_ret (results_cell_row rfl _ _ (w.heap.size + 1) 168 (#[.slice (some ⟨b, o, none⟩) n cap, .float .f32 (st), .float .f32 (sh), .int .i64 (M : Int), .float .f32 ((rsR n x st sh s0 k).a), .float .f32 ((rsR n x st sh s0 k).h), .float .f32 ((rsR n x st sh s0 k).v), .float .f32 ((rsR n x st sh s0 k).e), .int .i64 (k : Int)]) (0, 0) _ rfl (k3.out.at (x := (w.heap.size + 1, #[.slice (some ⟨b, o, none⟩) n cap, .float .f32 (st), .float .f32 (sh), .int .i64 (M : Int), .float .f32 ((rsR n x st sh s0 k).a), .float .f32 ((rsR n x st sh s0 k).h), .float .f32 ((rsR n x st sh s0 k).v), .float .f32 ((rsR n x st sh s0 k).e), .int .i64 (k : Int)], 168)) in0) Try.underlying168 rfl info_jou) rfl ⟨EE.out.symm, k3.out.1⟩
        · have g1 : (FloatKind.f32.format.order (liR n x (rsR n x st sh s0 k)) 0 == some .gt) = true := h1
          have hlt : ¬ (k : Int) < (M : Int) := by omega
          clear h1 h2
          have tok1 : True := trivial
          go_wp2_with (have _t := tok1; clear tok1; refine wpList_load_row (by rfl) 168 _ (by rfl) (w.heap.size) (by rfl) 168 (#[.slice (some ⟨b, o, none⟩) n cap, .float .f32 (st), .float .f32 (sh), .int .i64 (M : Int), .float .f32 ((rsR n x st sh s0 k).a), .float .f32 ((rsR n x st sh s0 k).h), .float .f32 ((rsR n x st sh s0 k).v), .float .f32 ((rsR n x st sh s0 k).e), .int .i64 (k : Int)]) (0, 0) _ (k0.out.at (x := (w.heap.size, #[.slice (some ⟨b, o, none⟩) n cap, .float .f32 (st), .float .f32 (sh), .int .i64 (M : Int), .float .f32 ((rsR n x st sh s0 k).a), .float .f32 ((rsR n x st sh s0 k).h), .float .f32 ((rsR n x st sh s0 k).v), .float .f32 ((rsR n x st sh s0 k).e), .int .i64 (k : Int)], 168)) in1) Try.underlying168 (by rfl) info_jou ?_)
          refine CL.out.mono ?_
          rintro e w2 ⟨rfl, hb2⟩
          have k2 := hid (k0.out.stay hb2)
          have c1 : World.cell? w2 ⟨w.heap.size, 1, none⟩ = some (.float .f32 (st)) := (cell_of_row _ (w.heap.size) 1 _ _ _ (k2.out.at (x := (w.heap.size, #[.slice (some ⟨b, o, none⟩) n cap, .float .f32 (st), .float .f32 (sh), .int .i64 (M : Int), .float .f32 ((rsR n x st sh s0 k).a), .float .f32 ((rsR n x st sh s0 k).h), .float .f32 ((rsR n x st sh s0 k).v), .float .f32 ((rsR n x st sh s0 k).e), .int .i64 (k : Int)], 168)) in1)).trans rfl
          have c3 : World.cell? w2 ⟨w.heap.size, 3, none⟩ = some (.int .i64 (M : Int)) := (cell_of_row _ (w.heap.size) 3 _ _ _ (k2.out.at (x := (w.heap.size, #[.slice (some ⟨b, o, none⟩) n cap, .float .f32 (st), .float .f32 (sh), .int .i64 (M : Int), .float .f32 ((rsR n x st sh s0 k).a), .float .f32 ((rsR n x st sh s0 k).h), .float .f32 ((rsR n x st sh s0 k).v), .float .f32 ((rsR n x st sh s0 k).e), .int .i64 (k : Int)], 168)) in1)).trans rfl
          have c4 : World.cell? w2 ⟨w.heap.size, 4, none⟩ = some (.float .f32 ((rsR n x st sh s0 k).a)) := (cell_of_row _ (w.heap.size) 4 _ _ _ (k2.out.at (x := (w.heap.size, #[.slice (some ⟨b, o, none⟩) n cap, .float .f32 (st), .float .f32 (sh), .int .i64 (M : Int), .float .f32 ((rsR n x st sh s0 k).a), .float .f32 ((rsR n x st sh s0 k).h), .float .f32 ((rsR n x st sh s0 k).v), .float .f32 ((rsR n x st sh s0 k).e), .int .i64 (k : Int)], 168)) in1)).trans rfl
          have c8 : World.cell? w2 ⟨w.heap.size, 8, none⟩ = some (.int .i64 (k : Int)) := (cell_of_row _ (w.heap.size) 8 _ _ _ (k2.out.at (x := (w.heap.size, #[.slice (some ⟨b, o, none⟩) n cap, .float .f32 (st), .float .f32 (sh), .int .i64 (M : Int), .float .f32 ((rsR n x st sh s0 k).a), .float .f32 ((rsR n x st sh s0 k).h), .float .f32 ((rsR n x st sh s0 k).v), .float .f32 ((rsR n x st sh s0 k).e), .int .i64 (k : Int)], 168)) in1)).trans rfl
          have tok5 : True := trivial
          clear hb2 CL
          go_wp2_with (first | (have _t := tok5; clear tok5; refine wpList_load_row (by rfl) 168 _ (by rfl) (w.heap.size) (by rfl) 168 (#[.slice (some ⟨b, o, none⟩) n cap, .float .f32 (st), .float .f32 (sh), .int .i64 (M : Int), .float .f32 ((rsR n x st sh s0 k).a), .float .f32 ((rsR n x st sh s0 k).h), .float .f32 ((rsR n x st sh s0 k).v), .float .f32 ((rsR n x st sh s0 k).e), .int .i64 (k : Int)]) (0, 0) _ (k2.out.at (x := (w.heap.size, #[.slice (some ⟨b, o, none⟩) n cap, .float .f32 (st), .float .f32 (sh), .int .i64 (M : Int), .float .f32 ((rsR n x st sh s0 k).a), .float .f32 ((rsR n x st sh s0 k).h), .float .f32 ((rsR n x st sh s0 k).v), .float .f32 ((rsR n x st sh s0 k).e), .int .i64 (k : Int)], 168)) in1) Try.underlying168 (by rfl) info_jou ?_; have tok6 : True := trivial) | (have _t := tok6; clear tok6; refine store_row (by rfl) 168 _ _ (by rfl) (w.heap.size + 1) (#[.slice (some ⟨b, o, none⟩) n cap, .float .f32 (st), .float .f32 (sh), .int .i64 (M : Int), .float .f32 ((rsR n x st sh s0 k).a), .float .f32 ((rsR n x st sh s0 k).h), .float .f32 ((rsR n x st sh s0 k).v), .float .f32 ((rsR n x st sh s0 k).e), .int .i64 (k : Int)]) (#[.slice none 0 0, .float .f32 (0), .float .f32 (0), .int .i64 0, .float .f32 (0), .float .f32 (0), .float .f32 (0), .float .f32 (0), .int .i64 0]) (by rfl) (by rfl) k2.out info_jou (by simp) (by simp [Value.oneCell']) (by omega) (neC (by omega) ne0) ?_; intro w3 k3; replace k3 := hid k3))
          simp only [Exit.jumps]
          exact bodyPost_ret (results_cell_row rfl _ _ (w.heap.size + 1) 168 (#[.slice (some ⟨b, o, none⟩) n cap, .float .f32 (st), .float .f32 (sh), .int .i64 (M : Int), .float .f32 ((rsR n x st sh s0 k).a), .float .f32 ((rsR n x st sh s0 k).h), .float .f32 ((rsR n x st sh s0 k).v), .float .f32 ((rsR n x st sh s0 k).e), .int .i64 (k : Int)]) (0, 0) _ rfl (k3.out.at (x := (w.heap.size + 1, #[.slice (some ⟨b, o, none⟩) n cap, .float .f32 (st), .float .f32 (sh), .int .i64 (M : Int), .float .f32 ((rsR n x st sh s0 k).a), .float .f32 ((rsR n x st sh s0 k).h), .float .f32 ((rsR n x st sh s0 k).v), .float .f32 ((rsR n x st sh s0 k).e), .int .i64 (k : Int)], 168)) in0) Try.underlying168 rfl info_jou) rfl ⟨EE.out.symm, k3.out.1⟩
        · have g1 : (FloatKind.f32.format.order (liR n x (rsR n x st sh s0 k)) 0 == some .gt) = true := h1
          have g2 : (FloatKind.f32.format.order (zR st (rsR n x st sh s0 k)) (x ((n - 1) * 3)) == some .lt || FloatKind.f32.format.order (zR st (rsR n x st sh s0 k)) (x ((n - 1) * 3)) == some .eq) = false := h3
          rw [Bool.or_eq_false_iff] at g2
          have g3 := g2.1
          have g4 := g2.2
          have hlt : (k : Int) < (M : Int) := by omega
          clear h1 h2 h3 g2
          have tok1 : True := trivial
          go_wp2_with (have _t := tok1; clear tok1; refine wpList_load_row (by rfl) 168 _ (by rfl) (w.heap.size) (by rfl) 168 (#[.slice (some ⟨b, o, none⟩) n cap, .float .f32 (st), .float .f32 (sh), .int .i64 (M : Int), .float .f32 ((rsR n x st sh s0 k).a), .float .f32 ((rsR n x st sh s0 k).h), .float .f32 ((rsR n x st sh s0 k).v), .float .f32 ((rsR n x st sh s0 k).e), .int .i64 (k : Int)]) (0, 0) _ (k0.out.at (x := (w.heap.size, #[.slice (some ⟨b, o, none⟩) n cap, .float .f32 (st), .float .f32 (sh), .int .i64 (M : Int), .float .f32 ((rsR n x st sh s0 k).a), .float .f32 ((rsR n x st sh s0 k).h), .float .f32 ((rsR n x st sh s0 k).v), .float .f32 ((rsR n x st sh s0 k).e), .int .i64 (k : Int)], 168)) in1) Try.underlying168 (by rfl) info_jou ?_)
          refine CL.out.mono ?_
          rintro e w2 ⟨rfl, hb2⟩
          have k2 := hid (k0.out.stay hb2)
          have c1 : World.cell? w2 ⟨w.heap.size, 1, none⟩ = some (.float .f32 (st)) := (cell_of_row _ (w.heap.size) 1 _ _ _ (k2.out.at (x := (w.heap.size, #[.slice (some ⟨b, o, none⟩) n cap, .float .f32 (st), .float .f32 (sh), .int .i64 (M : Int), .float .f32 ((rsR n x st sh s0 k).a), .float .f32 ((rsR n x st sh s0 k).h), .float .f32 ((rsR n x st sh s0 k).v), .float .f32 ((rsR n x st sh s0 k).e), .int .i64 (k : Int)], 168)) in1)).trans rfl
          have c3 : World.cell? w2 ⟨w.heap.size, 3, none⟩ = some (.int .i64 (M : Int)) := (cell_of_row _ (w.heap.size) 3 _ _ _ (k2.out.at (x := (w.heap.size, #[.slice (some ⟨b, o, none⟩) n cap, .float .f32 (st), .float .f32 (sh), .int .i64 (M : Int), .float .f32 ((rsR n x st sh s0 k).a), .float .f32 ((rsR n x st sh s0 k).h), .float .f32 ((rsR n x st sh s0 k).v), .float .f32 ((rsR n x st sh s0 k).e), .int .i64 (k : Int)], 168)) in1)).trans rfl
          have c4 : World.cell? w2 ⟨w.heap.size, 4, none⟩ = some (.float .f32 ((rsR n x st sh s0 k).a)) := (cell_of_row _ (w.heap.size) 4 _ _ _ (k2.out.at (x := (w.heap.size, #[.slice (some ⟨b, o, none⟩) n cap, .float .f32 (st), .float .f32 (sh), .int .i64 (M : Int), .float .f32 ((rsR n x st sh s0 k).a), .float .f32 ((rsR n x st sh s0 k).h), .float .f32 ((rsR n x st sh s0 k).v), .float .f32 ((rsR n x st sh s0 k).e), .int .i64 (k : Int)], 168)) in1)).trans rfl
          have c8 : World.cell? w2 ⟨w.heap.size, 8, none⟩ = some (.int .i64 (k : Int)) := (cell_of_row _ (w.heap.size) 8 _ _ _ (k2.out.at (x := (w.heap.size, #[.slice (some ⟨b, o, none⟩) n cap, .float .f32 (st), .float .f32 (sh), .int .i64 (M : Int), .float .f32 ((rsR n x st sh s0 k).a), .float .f32 ((rsR n x st sh s0 k).h), .float .f32 ((rsR n x st sh s0 k).v), .float .f32 ((rsR n x st sh s0 k).e), .int .i64 (k : Int)], 168)) in1)).trans rfl
          have tok5 : True := trivial
          clear hb2 CL
          go_wp2_with (first | (have _t := tok5; clear tok5; refine wpList_load_row (by rfl) 168 _ (by rfl) (w.heap.size) (by rfl) 168 (#[.slice (some ⟨b, o, none⟩) n cap, .float .f32 (st), .float .f32 (sh), .int .i64 (M : Int), .float .f32 ((rsR n x st sh s0 k).a), .float .f32 ((rsR n x st sh s0 k).h), .float .f32 ((rsR n x st sh s0 k).v), .float .f32 ((rsR n x st sh s0 k).e), .int .i64 (k : Int)]) (0, 0) _ (k2.out.at (x := (w.heap.size, #[.slice (some ⟨b, o, none⟩) n cap, .float .f32 (st), .float .f32 (sh), .int .i64 (M : Int), .float .f32 ((rsR n x st sh s0 k).a), .float .f32 ((rsR n x st sh s0 k).h), .float .f32 ((rsR n x st sh s0 k).v), .float .f32 ((rsR n x st sh s0 k).e), .int .i64 (k : Int)], 168)) in1) Try.underlying168 (by rfl) info_jou ?_; have tok6 : True := trivial) | (have _t := tok6; clear tok6; refine store_row (by rfl) 168 _ _ (by rfl) (w.heap.size + 1) (#[.slice (some ⟨b, o, none⟩) n cap, .float .f32 (st), .float .f32 (sh), .int .i64 (M : Int), .float .f32 ((rsR n x st sh s0 k).a), .float .f32 ((rsR n x st sh s0 k).h), .float .f32 ((rsR n x st sh s0 k).v), .float .f32 ((rsR n x st sh s0 k).e), .int .i64 (k : Int)]) (#[.slice none 0 0, .float .f32 (0), .float .f32 (0), .int .i64 0, .float .f32 (0), .float .f32 (0), .float .f32 (0), .float .f32 (0), .int .i64 0]) (by rfl) (by rfl) k2.out info_jou (by simp) (by simp [Value.oneCell']) (by omega) (neC (by omega) ne0) ?_; intro w3 k3; replace k3 := hid k3))
          simp only [Exit.jumps]
          exact bodyPost_ret (results_cell_row rfl _ _ (w.heap.size + 1) 168 (#[.slice (some ⟨b, o, none⟩) n cap, .float .f32 (st), .float .f32 (sh), .int .i64 (M : Int), .float .f32 ((rsR n x st sh s0 k).a), .float .f32 ((rsR n x st sh s0 k).h), .float .f32 ((rsR n x st sh s0 k).v), .float .f32 ((rsR n x st sh s0 k).e), .int .i64 (k : Int)]) (0, 0) _ rfl (k3.out.at (x := (w.heap.size + 1, #[.slice (some ⟨b, o, none⟩) n cap, .float .f32 (st), .float .f32 (sh), .int .i64 (M : Int), .float .f32 ((rsR n x st sh s0 k).a), .float .f32 ((rsR n x st sh s0 k).h), .float .f32 ((rsR n x st sh s0 k).v), .float .f32 ((rsR n x st sh s0 k).e), .int .i64 (k : Int)], 168)) in0) Try.underlying168 rfl info_jou) rfl ⟨EE.out.symm, k3.out.1⟩
    · obtain rfl : k = K := by
        rcases hkk with h | h
        · exact absurd (HM.out k h).1 hc
        · exact h
      have EE := hid (H1.out hc)
      have hr : atR n x (rsR n x st sh s0 k).a = ((atR n x (rsR n x st sh s0 k).a).1, (atR n x (rsR n x st sh s0 k).a).2.1, (atR n x (rsR n x st sh s0 k).a).2.2) := rfl
      have CL := hid (iJLift_f (.slice (some ⟨b, o, none⟩) n cap) st sh M _ _ _ (rsR n x st sh s0 k).e k _ hc wr (fun u2 hu2 => iLift_none n x HX.out HQ.out (rsR n x st sh s0 k).a (rsR n x st sh s0 k).h (rsR n x st sh s0 k).v V.al V.hl V.vl V.p _ _ _ hr hc u2 _ (HR.out u2 (k0.out.stay hu2).1) HNN.out))
      have tok1 : True := trivial
      clear V hr hc hkk H1 H2 H3
      go_wp2_with (have _t := tok1; clear tok1; refine wpList_load_row (by rfl) 168 _ (by rfl) (w.heap.size) (by rfl) 168 (#[.slice (some ⟨b, o, none⟩) n cap, .float .f32 (st), .float .f32 (sh), .int .i64 (M : Int), .float .f32 ((rsR n x st sh s0 k).a), .float .f32 ((rsR n x st sh s0 k).h), .float .f32 ((rsR n x st sh s0 k).v), .float .f32 ((rsR n x st sh s0 k).e), .int .i64 (k : Int)]) (0, 0) _ (k0.out.at (x := (w.heap.size, #[.slice (some ⟨b, o, none⟩) n cap, .float .f32 (st), .float .f32 (sh), .int .i64 (M : Int), .float .f32 ((rsR n x st sh s0 k).a), .float .f32 ((rsR n x st sh s0 k).h), .float .f32 ((rsR n x st sh s0 k).v), .float .f32 ((rsR n x st sh s0 k).e), .int .i64 (k : Int)], 168)) in1) Try.underlying168 (by rfl) info_jou ?_)
      refine CL.out.mono ?_
      rintro e w2 ⟨rfl, hb2⟩
      exact ⟨rfl, EE.out.symm, (k0.out.stay hb2).1⟩
  case pass1 =>
    clear k0 hct1 ixl
    rintro a1 wr ⟨k, ⟨hk, hc, hgo⟩, ⟨u, rfl, e1, e2, e3, e4, e5⟩, k0⟩
    have k0 := hid k0
    have V := HV.out k hk
    have hkk : k < K ∨ k = K := by omega
    have cW8 := hid (((cell_of_row _ (w.heap.size) 8 _ _ _ (k0.out.at (x := (w.heap.size, #[.slice (some ⟨b, o, none⟩) n cap, .float .f32 (st), .float .f32 (sh), .int .i64 (M : Int), .float .f32 ((rsR n x st sh s0 k).a), .float .f32 ((rsR n x st sh s0 k).h), .float .f32 ((rsR n x st sh s0 k).v), .float .f32 ((rsR n x st sh s0 k).e), .int .i64 (k : Int)], 168)) in1)).trans rfl : World.cell? wr ⟨w.heap.size, 8, none⟩ = some (.int .i64 (k : Int))))
    have hz := r_hgt HST.out HTOP.out V hgo.2.2
    have RS := r_step HX.out (souB_iff.1 HQ.out) HST.out V hc hgo.1
    have hkM : k < 200 := by have := hgo.2.1; omega
    have hkM2 : Hid (k < M) := hid hgo.2.1
    have hlz := zR_lt hz
    rw [vls54, e1, e2, e3, e4, e5]
    clear e1 e2 e3 e4 e5
    have tok1 : True := trivial
    rcases hm : moB (rsR n x st sh s0 k).a (zR st (rsR n x st sh s0 k)) 1 (rsR n x st sh s0 k).h (rsR n x st sh s0 k).v 0 with _ | _
    · have hu : upR n x st sh (rsR n x st sh s0 k) = 4 := by unfold upR; rw [if_neg (by rw [hm]; decide)]
      obtain rfl : k = K := by
        rcases hkk with h | h
        · have := (HM.out k h).2.2
          rw [hu] at this; exact absurd this (by decide)
        · exact h
      have EE := hid (H3.out hc hgo)
      rw [hu] at EE
      have CL := hid (iRaised_f1 (.slice (some ⟨b, o, none⟩) n cap) st sh M (rsR n x st sh s0 k).a (rsR n x st sh s0 k).h (rsR n x st sh s0 k).v (rsR n x st sh s0 k).e k (zR st (rsR n x st sh s0 k)) 4 (by decide) wr (fun u2 _ => iRaiseMoist_f (rsR n x st sh s0 k).a (rsR n x st sh s0 k).h (rsR n x st sh s0 k).v (zR st (rsR n x st sh s0 k)) 1 V.hl V.vl V.p hz (by omega) (by omega) 0 (by omega) (fun j hj => absurd hj (Nat.not_lt_zero j)) hm u2))
      clear V hz RS hlz hm hu hkk hc hgo H1 H2 H3
      go_wp2_with (have _t := tok1; clear tok1; refine wpList_load_row (by rfl) 168 _ (by rfl) (w.heap.size) (by rfl) 168 (#[.slice (some ⟨b, o, none⟩) n cap, .float .f32 (st), .float .f32 (sh), .int .i64 (M : Int), .float .f32 ((rsR n x st sh s0 k).a), .float .f32 ((rsR n x st sh s0 k).h), .float .f32 ((rsR n x st sh s0 k).v), .float .f32 ((rsR n x st sh s0 k).e), .int .i64 (k : Int)]) (0, 0) _ (k0.out.at (x := (w.heap.size, #[.slice (some ⟨b, o, none⟩) n cap, .float .f32 (st), .float .f32 (sh), .int .i64 (M : Int), .float .f32 ((rsR n x st sh s0 k).a), .float .f32 ((rsR n x st sh s0 k).h), .float .f32 ((rsR n x st sh s0 k).v), .float .f32 ((rsR n x st sh s0 k).e), .int .i64 (k : Int)], 168)) in1) Try.underlying168 (by rfl) info_jou ?_)
      refine CL.out.mono ?_
      rintro e w2 ⟨rfl, hb2⟩
      exact ⟨rfl, EE.out.symm, (k0.out.stay hb2).1⟩
    · have MM := r_mo (n := n) (x := x) (sh := sh) V hz hm
      have X := r_mix HX.out (souB_iff.1 HQ.out) HSH.out hz MM
      have A := at_fin HX.out (souB_iff.1 HQ.out) hlz
      have C1 := fun u2 => iRaiseMoist_ok (rsR n x st sh s0 k).a (rsR n x st sh s0 k).h (rsR n x st sh s0 k).v (zR st (rsR n x st sh s0 k)) 1 V.hl V.vl V.p hz (by omega) (by omega) (fun j hj => by obtain rfl : j = 0 := (by omega); exact hm) u2
      have C2 := fun (u2 : World) (hu2 : Below wr.heap.size wr u2) => iAirAt n x HX.out HQ.out (zR st (rsR n x st sh s0 k)) (atR n x (zR st (rsR n x st sh s0 k))).1 (atR n x (zR st (rsR n x st sh s0 k))).2.1 (atR n x (zR st (rsR n x st sh s0 k))).2.2 rfl (fun k hk g l => at_between HX.out (souB_iff.1 HQ.out) hlz hk g l) u2 _ (HR.out u2 (k0.out.stay hu2).1) HNN.out
      by_cases h2 : (atR n x (zR st (rsR n x st sh s0 k))).2.2 = 0
      · have AA := at_air (souB_iff.1 HQ.out) h2
        rw [h2] at C2
        rcases h3 : airB (mhR n x st sh (rsR n x st sh s0 k)) (mvR n x st sh (rsR n x st sh s0 k)) with _ | _
        · have hu : upR n x st sh (rsR n x st sh s0 k) = 4 := by unfold upR; rw [if_pos hm, if_pos h2, if_neg (by rw [h3]; decide)]
          obtain rfl : k = K := by
            rcases hkk with h | h
            · have := (HM.out k h).2.2
              rw [hu] at this; exact absurd this (by decide)
            · exact h
          have EE := hid (H3.out hc hgo)
          rw [hu] at EE
          have CL := hid (iRaised_f3 (.slice (some ⟨b, o, none⟩) n cap) st sh M (rsR n x st sh s0 k).a (rsR n x st sh s0 k).h (rsR n x st sh s0 k).v (rsR n x st sh s0 k).e k (zR st (rsR n x st sh s0 k)) (moRs st (rsR n x st sh s0 k)).h (moRs st (rsR n x st sh s0 k)).v _ (atR n x (zR st (rsR n x st sh s0 k))).1 (atR n x (zR st (rsR n x st sh s0 k))).2.1 4 (by decide) wr (fun u2 _ => C1 u2) C2
            (fun u2 _ => iMixParcels_state _ _ _ _ _ _ sh hlz MM.vl hlz A.2.1 MM.par (parB_iff.2 ⟨hz, AA⟩) HSH.out X.1 X.2 h3 u2))
          clear V hz RS hlz hm hu hkk hc hgo H1 H2 H3 MM X A C1 C2 AA h2 h3
          go_wp2_with (have _t := tok1; clear tok1; refine wpList_load_row (by rfl) 168 _ (by rfl) (w.heap.size) (by rfl) 168 (#[.slice (some ⟨b, o, none⟩) n cap, .float .f32 (st), .float .f32 (sh), .int .i64 (M : Int), .float .f32 ((rsR n x st sh s0 k).a), .float .f32 ((rsR n x st sh s0 k).h), .float .f32 ((rsR n x st sh s0 k).v), .float .f32 ((rsR n x st sh s0 k).e), .int .i64 (k : Int)]) (0, 0) _ (k0.out.at (x := (w.heap.size, #[.slice (some ⟨b, o, none⟩) n cap, .float .f32 (st), .float .f32 (sh), .int .i64 (M : Int), .float .f32 ((rsR n x st sh s0 k).a), .float .f32 ((rsR n x st sh s0 k).h), .float .f32 ((rsR n x st sh s0 k).v), .float .f32 ((rsR n x st sh s0 k).e), .int .i64 (k : Int)], 168)) in1) Try.underlying168 (by rfl) info_jou ?_)
          refine CL.out.mono ?_
          rintro e w2 ⟨rfl, hb2⟩
          exact ⟨rfl, EE.out.symm, (k0.out.stay hb2).1⟩
        · have hu : upR n x st sh (rsR n x st sh s0 k) = 0 := by unfold upR; rw [if_pos hm, if_pos h2, if_pos h3]
          have HLT : Hid (k < K) := hid (by
            rcases hkk with h | h
            · exact h
            · subst h; exact absurd ⟨hc, hgo, hu⟩ HN.out)
          have CL := hid (iRaised_ok (.slice (some ⟨b, o, none⟩) n cap) st sh M (rsR n x st sh s0 k).a (rsR n x st sh s0 k).h (rsR n x st sh s0 k).v (rsR n x st sh s0 k).e k (zR st (rsR n x st sh s0 k)) (moRs st (rsR n x st sh s0 k)).h (moRs st (rsR n x st sh s0 k)).v _ (atR n x (zR st (rsR n x st sh s0 k))).1 (atR n x (zR st (rsR n x st sh s0 k))).2.1 (mhR n x st sh (rsR n x st sh s0 k)) (mvR n x st sh (rsR n x st sh s0 k)) wr (fun u2 _ => C1 u2) C2
            (fun u2 _ => iMixParcels_ok _ _ _ _ _ _ sh hlz MM.vl hlz A.2.1 MM.par (parB_iff.2 ⟨hz, AA⟩) HSH.out X.1 X.2 h3 u2))
          have rm := fun w => run_float_arith (P := Try.prog) w .mul 22 .f32 _ _ _ RS.m
          have rd := fun w => run_float_arith (P := Try.prog) w .add 22 .f32 _ _ _ RS.d
          clear V hz RS hlz hm hu hkk hc hgo H1 H2 H3 MM X A C1 C2 AA h2 h3
          go_wp2_with (have _t := tok1; clear tok1; refine wpList_load_row (by rfl) 168 _ (by rfl) (w.heap.size) (by rfl) 168 (#[.slice (some ⟨b, o, none⟩) n cap, .float .f32 (st), .float .f32 (sh), .int .i64 (M : Int), .float .f32 ((rsR n x st sh s0 k).a), .float .f32 ((rsR n x st sh s0 k).h), .float .f32 ((rsR n x st sh s0 k).v), .float .f32 ((rsR n x st sh s0 k).e), .int .i64 (k : Int)]) (0, 0) _ (k0.out.at (x := (w.heap.size, #[.slice (some ⟨b, o, none⟩) n cap, .float .f32 (st), .float .f32 (sh), .int .i64 (M : Int), .float .f32 ((rsR n x st sh s0 k).a), .float .f32 ((rsR n x st sh s0 k).h), .float .f32 ((rsR n x st sh s0 k).v), .float .f32 ((rsR n x st sh s0 k).e), .int .i64 (k : Int)], 168)) in1) Try.underlying168 (by rfl) info_jou ?_)
          refine CL.out.mono ?_
          rintro e w2 ⟨rfl, hb2⟩
          have k2 := hid (k0.out.stay hb2).swap
          have tok5 : True := trivial
          clear hb2 CL
          go_wp2_with (first | (have _t := tok5; clear tok5; refine store_part (w0 := w) (l := [(w.heap.size + 1, #[.slice none 0 0, .float .f32 (0), .float .f32 (0), .int .i64 0, .float .f32 (0), .float .f32 (0), .float .f32 (0), .float .f32 (0), .int .i64 0], 168)]) rfl 88 _ _ rfl (w.heap.size) 4 rfl #[.float .f32 (zR st (rsR n x st sh s0 k)), .float .f32 (mhR n x st sh (rsR n x st sh s0 k)), .float .f32 (mvR n x st sh (rsR n x st sh s0 k))] rfl (#[.slice (some ⟨b, o, none⟩) n cap, .float .f32 (st), .float .f32 (sh), .int .i64 (M : Int), .float .f32 ((rsR n x st sh s0 k).a), .float .f32 ((rsR n x st sh s0 k).h), .float .f32 ((rsR n x st sh s0 k).v), .float .f32 ((rsR n x st sh s0 k).e), .int .i64 (k : Int)]) #[.slice (some ⟨b, o, none⟩) n cap, .float .f32 (st), .float .f32 (sh), .int .i64 (M : Int), .float .f32 (zR st (rsR n x st sh s0 k)), .float .f32 (mhR n x st sh (rsR n x st sh s0 k)), .float .f32 (mvR n x st sh (rsR n x st sh s0 k)), .float .f32 ((rsR n x st sh s0 k).e), .int .i64 (k : Int)] 168 k2.out (Nat.le_refl _) (neC (by omega) ne0) (by simp) info_par (by simp [Value.oneCell']) rfl (fun w5 k5 => ?_); replace k5 := hid k5; clear k2; have c7 : World.cell? w5 ⟨w.heap.size, 7, none⟩ = some (.float .f32 ((rsR n x st sh s0 k).e)) := (cell_of_row _ (w.heap.size) 7 _ _ _ (k5.out.at (x := (w.heap.size, #[.slice (some ⟨b, o, none⟩) n cap, .float .f32 (st), .float .f32 (sh), .int .i64 (M : Int), .float .f32 (zR st (rsR n x st sh s0 k)), .float .f32 (mhR n x st sh (rsR n x st sh s0 k)), .float .f32 (mvR n x st sh (rsR n x st sh s0 k)), .float .f32 ((rsR n x st sh s0 k).e), .int .i64 (k : Int)], 168)) in0)).trans rfl; have c1 : World.cell? w5 ⟨w.heap.size, 1, none⟩ = some (.float .f32 (st)) := (cell_of_row _ (w.heap.size) 1 _ _ _ (k5.out.at (x := (w.heap.size, #[.slice (some ⟨b, o, none⟩) n cap, .float .f32 (st), .float .f32 (sh), .int .i64 (M : Int), .float .f32 (zR st (rsR n x st sh s0 k)), .float .f32 (mhR n x st sh (rsR n x st sh s0 k)), .float .f32 (mvR n x st sh (rsR n x st sh s0 k)), .float .f32 ((rsR n x st sh s0 k).e), .int .i64 (k : Int)], 168)) in0)).trans rfl; have tok6 : True := trivial) | (have _t := tok6; clear tok6; refine store_at rfl 22 _ _ rfl (by kernel_rfl) (w.heap.size) 7 (.float .f32 (enR n x st (rsR n x st sh s0 k))) (.float .f32 ((rsR n x st sh s0 k).e)) #[.slice (some ⟨b, o, none⟩) n cap, .float .f32 (st), .float .f32 (sh), .int .i64 (M : Int), .float .f32 (zR st (rsR n x st sh s0 k)), .float .f32 (mhR n x st sh (rsR n x st sh s0 k)), .float .f32 (mvR n x st sh (rsR n x st sh s0 k)), .float .f32 ((rsR n x st sh s0 k).e), .int .i64 (k : Int)] #[.slice (some ⟨b, o, none⟩) n cap, .float .f32 (st), .float .f32 (sh), .int .i64 (M : Int), .float .f32 (zR st (rsR n x st sh s0 k)), .float .f32 (mhR n x st sh (rsR n x st sh s0 k)), .float .f32 (mvR n x st sh (rsR n x st sh s0 k)), .float .f32 (enR n x st (rsR n x st sh s0 k)), .int .i64 (k : Int)] rfl rfl rfl rfl k5.out rfl rfl (Nat.le_refl _) (neC (by omega) ne0) (fun w7 k7 => ?_); replace k7 := hid k7; clear k5; have c8 : World.cell? w7 ⟨w.heap.size, 8, none⟩ = some (.int .i64 (k : Int)) := (cell_of_row _ (w.heap.size) 8 _ _ _ (k7.out.at (x := (w.heap.size, #[.slice (some ⟨b, o, none⟩) n cap, .float .f32 (st), .float .f32 (sh), .int .i64 (M : Int), .float .f32 (zR st (rsR n x st sh s0 k)), .float .f32 (mhR n x st sh (rsR n x st sh s0 k)), .float .f32 (mvR n x st sh (rsR n x st sh s0 k)), .float .f32 (enR n x st (rsR n x st sh s0 k)), .int .i64 (k : Int)], 168)) in0)).trans rfl; have tok7 : True := trivial) | (have _t := tok7; clear tok7; refine store_at rfl 2 _ _ rfl (by kernel_rfl) (w.heap.size) 8 (.int .i64 ((k : Int) + 1)) (.int .i64 (k : Int)) #[.slice (some ⟨b, o, none⟩) n cap, .float .f32 (st), .float .f32 (sh), .int .i64 (M : Int), .float .f32 (zR st (rsR n x st sh s0 k)), .float .f32 (mhR n x st sh (rsR n x st sh s0 k)), .float .f32 (mvR n x st sh (rsR n x st sh s0 k)), .float .f32 (enR n x st (rsR n x st sh s0 k)), .int .i64 (k : Int)] #[.slice (some ⟨b, o, none⟩) n cap, .float .f32 (st), .float .f32 (sh), .int .i64 (M : Int), .float .f32 (zR st (rsR n x st sh s0 k)), .float .f32 (mhR n x st sh (rsR n x st sh s0 k)), .float .f32 (mvR n x st sh (rsR n x st sh s0 k)), .float .f32 (enR n x st (rsR n x st sh s0 k)), .int .i64 ((k : Int) + 1)] rfl rfl rfl rfl k7.out rfl rfl (Nat.le_refl _) (neC (by omega) ne0) (fun w9 k9 => ?_); replace k9 := hid k9; clear k7))
          go_step3
          have cX8 : World.cell? w9 ⟨w.heap.size, 8, none⟩ = some (.int .i64 ((k + 1 : Nat) : Int)) := (cell_of_row _ (w.heap.size) 8 _ _ _ (k9.out.at (x := (w.heap.size, #[.slice (some ⟨b, o, none⟩) n cap, .float .f32 (st), .float .f32 (sh), .int .i64 (M : Int), .float .f32 (zR st (rsR n x st sh s0 k)), .float .f32 (mhR n x st sh (rsR n x st sh s0 k)), .float .f32 (mvR n x st sh (rsR n x st sh s0 k)), .float .f32 (enR n x st (rsR n x st sh s0 k)), .int .i64 ((k : Int) + 1)], 168)) in0)).trans rfl
          clear rm rd
          refine ⟨⟨k + 1, HLT.out, ?_, k9.out.swap⟩, j_meas cW8.out cX8 (by have := hkM2.out; omega)⟩
          exact JF.of rfl rfl rfl rfl
      · have hu : upR n x st sh (rsR n x st sh s0 k) = (atR n x (zR st (rsR n x st sh s0 k))).2.2 := by unfold upR; rw [if_pos hm, if_neg h2]
        obtain rfl : k = K := by
          rcases hkk with h | h
          · have := (HM.out k h).2.2
            rw [hu] at this; exact absurd this h2
          · exact h
        have EE := hid (H3.out hc hgo)
        rw [hu] at EE
        have CL := hid (iRaised_f2 (.slice (some ⟨b, o, none⟩) n cap) st sh M (rsR n x st sh s0 k).a (rsR n x st sh s0 k).h (rsR n x st sh s0 k).v (rsR n x st sh s0 k).e k (zR st (rsR n x st sh s0 k)) (moRs st (rsR n x st sh s0 k)).h (moRs st (rsR n x st sh s0 k)).v _ (atR n x (zR st (rsR n x st sh s0 k))).1 (atR n x (zR st (rsR n x st sh s0 k))).2.1 (atR n x (zR st (rsR n x st sh s0 k))).2.2 h2 wr (fun u2 _ => C1 u2) C2)
        clear V hz RS hlz hm hu hkk hc hgo H1 H2 H3 MM X A C1 C2 h2
        go_wp2_with (have _t := tok1; clear tok1; refine wpList_load_row (by rfl) 168 _ (by rfl) (w.heap.size) (by rfl) 168 (#[.slice (some ⟨b, o, none⟩) n cap, .float .f32 (st), .float .f32 (sh), .int .i64 (M : Int), .float .f32 ((rsR n x st sh s0 k).a), .float .f32 ((rsR n x st sh s0 k).h), .float .f32 ((rsR n x st sh s0 k).v), .float .f32 ((rsR n x st sh s0 k).e), .int .i64 (k : Int)]) (0, 0) _ (k0.out.at (x := (w.heap.size, #[.slice (some ⟨b, o, none⟩) n cap, .float .f32 (st), .float .f32 (sh), .int .i64 (M : Int), .float .f32 ((rsR n x st sh s0 k).a), .float .f32 ((rsR n x st sh s0 k).h), .float .f32 ((rsR n x st sh s0 k).v), .float .f32 ((rsR n x st sh s0 k).e), .int .i64 (k : Int)], 168)) in1) Try.underlying168 (by rfl) info_jou ?_)
        refine CL.out.mono ?_
        rintro e w2 ⟨rfl, hb2⟩
        exact ⟨rfl, EE.out.symm, (k0.out.stay hb2).1⟩

theorem one_f (x : Nat) : (Value.float .f32 x).oneCell' = true := rfl

theorem one_i (x : Int) : (Value.int .i64 x).oneCell' = true := rfl

theorem results_row_tmp3 {P : Program} {fn : Func} {p u v z : Tmp} {ty : TypeId} (h : fn.results = #[.cell p ty, .tmp u, .tmp v, .tmp z]) (tmps : Array Value) (w : World) (g : Nat) (t : TypeId) (cs : Array Value) (fr : Nat × Nat) (d : TypeDesc)
    (hp : tmps.getD p undef = .pointer (some ⟨g, 0, none⟩)) (hg : w.heap[g]? = some (.cells cs t fr))
    (hu : P.underlying ty = some d) (hd : (match d with | .struct _ | .array _ _ => true | _ => false) = true) (hi : (P.info? ty).map (·.size) = some cs.size) :
    (results fn tmps).run P w = .ok (.tuple #[.agg cs, tmps.getD u undef, tmps.getD v undef, tmps.getD z undef]) w := by
  have hp' : tmps[p]?.getD undef = .pointer (some ⟨g, 0, none⟩) := by simpa using hp
  simp [results, h, hp', asAddr, run_loadVar_row w g t ty cs fr d hg hu hd hi]

set_option maxRecDepth 100000 in
theorem iCatchJ_panic (n : Int) (gc : Nat) (x : Value) (w : World) (hc : w.cell? ⟨gc, 0, none⟩ = some x) (hz : w.frozen? ⟨gc, 0, none⟩ = false) :
    CallsD Try.prog 151 #[.pointer (some ⟨gc, 0, none⟩)] (.panicking [{ v := .iface 241 (.int .i64 n), recovered := false }]) w fun e u' w' =>
      e = .returned (.tuple #[]) ∧ u' = .panicking [{ v := .iface 241 (.int .i64 n), recovered := true }] ∧ ∃ w1, Below w.heap.size w w1 ∧ w' = w1.setCell ⟨gc, 0, none⟩ (.int .i64 n) := by
  have hne : ∀ w : World, (binOp .neq 20 (.iface 241 (.int .i64 n)) .nilIface).run Try.prog w = .ok (.bool true) w := fun _ => by kernel_rfl
  refine callsD_of_wpS Try.func151 rfl fun c₀ cs hu => ?_
  apply wpS_seq
  apply wpS_region
  simp [wpOpsS, go_sem, recoverD, hu, Try.ntmps151, Exit.thenS]
  refine wpS_of_wp ?_
  simp only [Array.replicate, List.setIfInBounds_toArray, List.replicate, List.set_cons_zero, List.set_cons_succ, List.append_toArray, List.cons_append, List.nil_append]
  go_wp2_with fail
  refine (iCodeOfS n _).mono ?_
  rintro e w1 ⟨rfl, rfl⟩
  go_wp2
  exact ⟨rfl, _, rfl, .tuple #[], by simp [results, Try.results151], rfl, rfl, w, Below.refl _ _, rfl⟩

theorem iCatchJ_idle (gc : Nat) (w : World) :
    CallsD Try.prog 151 #[.pointer (some ⟨gc, 0, none⟩)] .returning w fun e u' w' => e = .returned (.tuple #[]) ∧ u' = .returning ∧ w' = w := by
  have hne : ∀ w : World, (binOp .neq 20 .nilIface .nilIface).run Try.prog w = .ok (.bool false) w := fun _ => by kernel_rfl
  refine callsD_of_wpS Try.func151 rfl fun c₀ cs hu => ?_
  apply wpS_seq
  apply wpS_region
  simp [wpOpsS, go_sem, recoverD, hu, Try.ntmps151, Exit.thenS]
  refine wpS_of_wp ?_
  simp only [Array.replicate, List.setIfInBounds_toArray, List.replicate, List.set_cons_zero, List.set_cons_succ, List.append_toArray, List.cons_append, List.nil_append]
  go_wp2
  exact ⟨rfl, .returning, by cases c₀; simp_all, .tuple #[], by simp [results, Try.results151], rfl, rfl, rfl⟩

set_option maxRecDepth 100000 in
set_option maxHeartbeats 1000000 in
theorem iAttemptJ_ok (cl : FuncId) (v0 : Value) (sl : Value) (hsl : sl.oneCell' = true) (st sh M a h v en k : Nat) (w : World)
    (hcl : ∀ u, Below w.heap.size w u → Calls Try.prog cl #[v0] u fun e u' => e = .returned (.agg #[sl, .float .f32 st, .float .f32 sh, .int .i64 (M : Int), .float .f32 a, .float .f32 h, .float .f32 v, .float .f32 en, .int .i64 (k : Int)]) ∧ Below u.heap.size u u') (hce : ∀ w : World, (callFunc cl #[v0]).run Try.prog w = .ok (.enter cl #[v0]) w) :
    Calls Try.prog 106 #[.func (.func cl) #[v0] #[]] w fun e w' => e = .returned (.tuple #[.agg #[sl, .float .f32 st, .float .f32 sh, .int .i64 (M : Int), .float .f32 a, .float .f32 h, .float .f32 v, .float .f32 en, .int .i64 (k : Int)], .int .i64 0]) ∧ Below w.heap.size w w' := by
  have hmf : ∀ (fn : Fn) (first cap : Array Value) (w : World), (Instr.makeFunc fn first cap).run Try.prog w = .ok (.func fn first cap) w := fun _ _ _ _ => rfl
  have k0 : Hid (Kept w [(w.heap.size, #[.slice none 0 0, .float .f32 (0), .float .f32 (0), .int .i64 0, .float .f32 (0), .float .f32 (0), .float .f32 (0), .float .f32 (0), .int .i64 0], 168), (w.heap.size + 1, #[.int .i64 0], 2)] ((w.alloc (.cells #[.slice none 0 0, .float .f32 (0), .float .f32 (0), .int .i64 0, .float .f32 (0), .float .f32 (0), .float .f32 (0), .float .f32 (0), .int .i64 0] 168)).alloc (.cells #[.int .i64 0] 2))) := hid ((((Kept.nil w).push _ _).push _ _).sub (by simp))
  have HSL := hid hsl
  have HC := hid hcl
  clear hcl
  go_enter_defers Try.func106, Try.ntmps106
  go_wp2_with fail
  refine (HC.out _ k0.out.1).mono ?_
  rintro e w1 ⟨rfl, hb1⟩
  have k1 := hid (k0.out.stay hb1)
  go_wp2_with (refine store_kept (w0 := w) (l := [(w.heap.size + 1, #[.int .i64 0], 2)]) rfl 168 _ _ rfl (w.heap.size) (#[sl, .float .f32 st, .float .f32 sh, .int .i64 (M : Int), .float .f32 a, .float .f32 h, .float .f32 v, .float .f32 en, .int .i64 (k : Int)]) rfl rfl 168 (#[.slice none 0 0, .float .f32 (0), .float .f32 (0), .int .i64 0, .float .f32 (0), .float .f32 (0), .float .f32 (0), .float .f32 (0), .int .i64 0]) (k1.out) (Nat.le_refl _) (by simp) info_jou rfl (by simp [HSL.out, one_f, one_i]) (fun w6 k6 => ?_); replace k6 := hid k6; have c6 : World.cell? w6 ⟨w.heap.size + 1, 0, none⟩ = some (.int .i64 0) := k6.out.c in1; have z6 : World.frozen? w6 ⟨w.heap.size + 1, 0, none⟩ = false := frozen_of_row w6 (w.heap.size + 1) 0 _ _ (k6.out.at (x := (w.heap.size + 1, #[.int .i64 0], 2)) in1))
  refine leaves_cons (f := 151) (args := #[.pointer (some ⟨w.heap.size + 1, 0, none⟩)]) (by simp) (by simp [go_sem]) ?_
  refine (iCatchJ_idle (w.heap.size + 1) _).mono ?_
  rintro e u' w'' ⟨rfl, rfl, rfl⟩
  have k7 := hid ((k6.out.swap.lcell (by omega) (neC (by omega) ne0) 0 (.int .i64 0)).swap)
  clear c6 z6 k6 k1 k0 hb1
  generalize World.setCell w6 _ _ = w7 at k7 ⊢
  have e1 : (loadVar 168 ⟨w.heap.size, 0, none⟩).run Try.prog w7 = .ok (.agg #[sl, .float .f32 st, .float .f32 sh, .int .i64 (M : Int), .float .f32 a, .float .f32 h, .float .f32 v, .float .f32 en, .int .i64 (k : Int)]) w7 := run_loadVar_row _ w.heap.size 168 168 (#[sl, .float .f32 st, .float .f32 sh, .int .i64 (M : Int), .float .f32 a, .float .f32 h, .float .f32 v, .float .f32 en, .int .i64 (k : Int)]) (0, 0) _ (k7.out.at (x := (w.heap.size, #[sl, .float .f32 st, .float .f32 sh, .int .i64 (M : Int), .float .f32 a, .float .f32 h, .float .f32 v, .float .f32 en, .int .i64 (k : Int)], 168)) in0) Try.underlying168 rfl info_jou
  have e2 : (loadVar 2 ⟨w.heap.size + 1, 0, none⟩).run Try.prog w7 = .ok (.int .i64 0) w7 := by
    have c7 : World.cell? w7 ⟨w.heap.size + 1, 0, none⟩ = some (.int .i64 0) := (cell_of_row _ (w.heap.size + 1) 0 _ _ _ (k7.out.at (x := (w.heap.size + 1, #[.int .i64 0], 2)) in1)).trans rfl
    clear e1 k7
    simp [go_sem, c7]
  refine ⟨.tuple #[.agg #[sl, .float .f32 st, .float .f32 sh, .int .i64 (M : Int), .float .f32 a, .float .f32 h, .float .f32 v, .float .f32 en, .int .i64 (k : Int)], .int .i64 0], ?_, rfl, k7.out.1⟩
  simp [results, Try.results106, asAddr, e1, e2, Sem.run_bind, Result.andThen_ok]

set_option maxRecDepth 100000 in
set_option maxHeartbeats 1000000 in
theorem iAttemptJ_f (cl : FuncId) (v0 : Value) (n : Int) (w : World)
    (hcl : ∀ u, Below w.heap.size w u → Calls Try.prog cl #[v0] u fun e u' => e = .panicked [{ v := .iface 241 (.int .i64 n), recovered := false }] ∧ Below u.heap.size u u') (hce : ∀ w : World, (callFunc cl #[v0]).run Try.prog w = .ok (.enter cl #[v0]) w) :
    Calls Try.prog 106 #[.func (.func cl) #[v0] #[]] w fun e w' => e = .returned (.tuple #[.agg #[.slice none 0 0, .float .f32 (0), .float .f32 (0), .int .i64 0, .float .f32 (0), .float .f32 (0), .float .f32 (0), .float .f32 (0), .int .i64 0], .int .i64 n]) ∧ Below w.heap.size w w' := by
  have hmf : ∀ (fn : Fn) (first cap : Array Value) (w : World), (Instr.makeFunc fn first cap).run Try.prog w = .ok (.func fn first cap) w := fun _ _ _ _ => rfl
  have k0 : Hid (Kept w [(w.heap.size, #[.slice none 0 0, .float .f32 (0), .float .f32 (0), .int .i64 0, .float .f32 (0), .float .f32 (0), .float .f32 (0), .float .f32 (0), .int .i64 0], 168), (w.heap.size + 1, #[.int .i64 0], 2)] ((w.alloc (.cells #[.slice none 0 0, .float .f32 (0), .float .f32 (0), .int .i64 0, .float .f32 (0), .float .f32 (0), .float .f32 (0), .float .f32 (0), .int .i64 0] 168)).alloc (.cells #[.int .i64 0] 2))) := hid ((((Kept.nil w).push _ _).push _ _).sub (by simp))
  have HC := hid hcl
  clear hcl
  go_enter_defers Try.func106, Try.ntmps106
  go_wp2_with fail
  refine (HC.out _ k0.out.1).mono ?_
  rintro e w1 ⟨rfl, hb1⟩
  have k1 := hid (k0.out.stay hb1)
  have c6 : World.cell? w1 ⟨w.heap.size + 1, 0, none⟩ = some (.int .i64 0) := k1.out.c in1
  have z6 : World.frozen? w1 ⟨w.heap.size + 1, 0, none⟩ = false := frozen_of_row w1 (w.heap.size + 1) 0 _ _ (k1.out.at (x := (w.heap.size + 1, #[.int .i64 0], 2)) in1)
  refine leaves_cons (f := 151) (args := #[.pointer (some ⟨w.heap.size + 1, 0, none⟩)]) (by simp) (by simp [go_sem]) ?_
  refine (iCatchJ_panic n (w.heap.size + 1) _ _ c6 z6).mono ?_
  rintro e u' w'' ⟨rfl, rfl, w2, hb2, rfl⟩
  have k7 := hid (((k1.out.stay hb2).swap.lcell (by omega) (neC (by omega) ne0) 0 (.int .i64 n)).swap)
  clear c6 z6 k1 k0 hb1 hb2
  generalize World.setCell w2 _ _ = w7 at k7 ⊢
  have e1 : (loadVar 168 ⟨w.heap.size, 0, none⟩).run Try.prog w7 = .ok (.agg #[.slice none 0 0, .float .f32 (0), .float .f32 (0), .int .i64 0, .float .f32 (0), .float .f32 (0), .float .f32 (0), .float .f32 (0), .int .i64 0]) w7 := run_loadVar_row _ w.heap.size 168 168 (#[.slice none 0 0, .float .f32 (0), .float .f32 (0), .int .i64 0, .float .f32 (0), .float .f32 (0), .float .f32 (0), .float .f32 (0), .int .i64 0]) (0, 0) _ (k7.out.at (x := (w.heap.size, #[.slice none 0 0, .float .f32 (0), .float .f32 (0), .int .i64 0, .float .f32 (0), .float .f32 (0), .float .f32 (0), .float .f32 (0), .int .i64 0], 168)) in0) Try.underlying168 rfl info_jou
  have e2 : (loadVar 2 ⟨w.heap.size + 1, 0, none⟩).run Try.prog w7 = .ok (.int .i64 n) w7 := by
    have c7 : World.cell? w7 ⟨w.heap.size + 1, 0, none⟩ = some (.int .i64 n) := (cell_of_row _ (w.heap.size + 1) 0 _ _ _ (k7.out.at (x := (w.heap.size + 1, #[.int .i64 n], 2)) in1)).trans rfl
    clear e1 k7
    simp [go_sem, c7]
  refine ⟨.tuple #[.agg #[.slice none 0 0, .float .f32 (0), .float .f32 (0), .int .i64 0, .float .f32 (0), .float .f32 (0), .float .f32 (0), .float .f32 (0), .int .i64 0], .int .i64 n], ?_, rfl, k7.out.1⟩
  simp [results, Try.results106, asAddr, e1, e2, Sem.run_bind, Result.andThen_ok]

set_option maxRecDepth 100000 in
set_option maxHeartbeats 1000000 in
theorem iRise_bad1 (n : Nat) (x : Nat → Nat) (hx : W32 x) (hq : souB n x = false) (a h v st sh : Nat) (m : Int) (w : World) (s : Value) (hs : Rd w s n x) (hn : n ≤ 1048576) :
    Calls Try.prog 48 #[s, .agg #[.float .f32 (a), .float .f32 (h), .float .f32 (v)], .float .f32 st, .float .f32 sh, .int .i64 m] w fun e w' => e = .returned (.tuple #[.agg #[.float .f32 (0), .float .f32 (0), .float .f32 (0)], .float .f32 0, .int .i64 0, .int .i64 1]) ∧ Below w.heap.size w w' := by
  have k0 : Hid (Kept w [(w.heap.size + 1, #[.float .f32 (0), .float .f32 (0), .float .f32 (0)], 88), (w.heap.size, #[.float .f32 (a), .float .f32 (h), .float .f32 (v)], 88)] ((w.alloc (.cells #[.float .f32 (a), .float .f32 (h), .float .f32 (v)] 88)).alloc (.cells #[.float .f32 (0), .float .f32 (0), .float .f32 (0)] 88))) := hid ((((Kept.nil w).push _ _).push _ _).sub (by simp))
  obtain ⟨p, cap, rfl, hc⟩ := id hs
  have HV := hid (iValidSounding _ n x hn hx _ (hs.stay k0.out.1) false hq)
  clear hc hx hq hs hn
  go_enter Try.func48, Try.ntmps48
  go_wp2_with fail
  refine HV.out.mono ?_
  rintro e w1 ⟨rfl, hb1⟩
  have k1 := hid (k0.out.stay hb1)
  clear k0 hb1
  go_wp2_with (refine store_row (by rfl) 88 _ _ (by rfl) (w.heap.size + 1) (#[.float .f32 (0), .float .f32 (0), .float .f32 (0)]) (#[.float .f32 (0), .float .f32 (0), .float .f32 (0)]) (by rfl) (by rfl) k1.out info_par (by simp) (by simp [Value.oneCell']) (by omega) (neC (by omega) ne0) ?_; intro wz kz; replace kz := hid kz)
  exact bodyPost_ret (results_row_tmp3 rfl _ _ (w.heap.size + 1) 88 (#[.float .f32 (0), .float .f32 (0), .float .f32 (0)]) (0, 0) _ rfl (kz.out.at (x := (w.heap.size + 1, #[.float .f32 (0), .float .f32 (0), .float .f32 (0)], 88)) in0) Try.underlying88 rfl info_par) rfl ⟨rfl, kz.out.1⟩

set_option maxRecDepth 100000 in
set_option maxHeartbeats 1000000 in
theorem iRise_bad2 (n : Nat) (x : Nat → Nat) (hx : W32 x) (hq : souB n x = true) (a h v st sh : Nat) (ha : a < 4294967296) (hv : v < 4294967296) (m : Int) (hp : parB a h v = false) (w : World) (s : Value) (hs : Rd w s n x) (hn : n ≤ 1048576) :
    Calls Try.prog 48 #[s, .agg #[.float .f32 (a), .float .f32 (h), .float .f32 (v)], .float .f32 st, .float .f32 sh, .int .i64 m] w fun e w' => e = .returned (.tuple #[.agg #[.float .f32 (0), .float .f32 (0), .float .f32 (0)], .float .f32 0, .int .i64 0, .int .i64 1]) ∧ Below w.heap.size w w' := by
  have k0 : Hid (Kept w [(w.heap.size + 1, #[.float .f32 (0), .float .f32 (0), .float .f32 (0)], 88), (w.heap.size, #[.float .f32 (a), .float .f32 (h), .float .f32 (v)], 88)] ((w.alloc (.cells #[.float .f32 (a), .float .f32 (h), .float .f32 (v)] 88)).alloc (.cells #[.float .f32 (0), .float .f32 (0), .float .f32 (0)] 88))) := hid ((((Kept.nil w).push _ _).push _ _).sub (by simp))
  obtain ⟨p, cap, rfl, hc⟩ := id hs
  have HV := hid (iValidSounding _ n x hn hx _ (hs.stay k0.out.1) true hq)
  have HP := hid (fun u => iValidParcel a h v ha hv false hp u)
  clear hc hx hq hs hn hp ha hv
  go_enter Try.func48, Try.ntmps48
  go_wp2_with fail
  refine HV.out.mono ?_
  rintro e w1 ⟨rfl, hb1⟩
  have k1 := hid (k0.out.stay hb1)
  clear k0 hb1
  go_wp2_with (refine wpList_load_g (by rfl) 88 _ rfl (w.heap.size) rfl 88 (#[.float .f32 (a), .float .f32 (h), .float .f32 (v)]) (0, 0) _ (k1.out.at (x := (w.heap.size, #[.float .f32 (a), .float .f32 (h), .float .f32 (v)], 88)) in1) Try.underlying88 rfl info_par ?_)
  refine (HP.out _).mono ?_
  rintro e w2 ⟨rfl, hb2⟩
  have k2 := hid (k1.out.stay hb2)
  clear k1 hb2
  go_wp2_with (refine store_row (by rfl) 88 _ _ (by rfl) (w.heap.size + 1) (#[.float .f32 (0), .float .f32 (0), .float .f32 (0)]) (#[.float .f32 (0), .float .f32 (0), .float .f32 (0)]) (by rfl) (by rfl) k2.out info_par (by simp) (by simp [Value.oneCell']) (by omega) (neC (by omega) ne0) ?_; intro wz kz; replace kz := hid kz)
  exact bodyPost_ret (results_row_tmp3 rfl _ _ (w.heap.size + 1) 88 (#[.float .f32 (0), .float .f32 (0), .float .f32 (0)]) (0, 0) _ rfl (kz.out.at (x := (w.heap.size + 1, #[.float .f32 (0), .float .f32 (0), .float .f32 (0)], 88)) in0) Try.underlying88 rfl info_par) rfl ⟨rfl, kz.out.1⟩

set_option maxRecDepth 100000 in
set_option maxHeartbeats 1000000 in
theorem iRise_r1 (n : Nat) (x : Nat → Nat) (hx : W32 x) (hq : souB n x = true) (a h v st sh : Nat) (ha : a < 4294967296) (hv : v < 4294967296) (m : Int) (hp : parB a h v = true) (hl : st < 4294967296) (hf : finB st = false) (w : World) (s : Value) (hs : Rd w s n x) (hn : n ≤ 1048576) :
    Calls Try.prog 48 #[s, .agg #[.float .f32 (a), .float .f32 (h), .float .f32 (v)], .float .f32 st, .float .f32 sh, .int .i64 m] w fun e w' => e = .returned (.tuple #[.agg #[.float .f32 (0), .float .f32 (0), .float .f32 (0)], .float .f32 0, .int .i64 0, .int .i64 2]) ∧ Below w.heap.size w w' := by
  have k0 : Hid (Kept w [(w.heap.size + 1, #[.float .f32 (0), .float .f32 (0), .float .f32 (0)], 88), (w.heap.size, #[.float .f32 (a), .float .f32 (h), .float .f32 (v)], 88)] ((w.alloc (.cells #[.float .f32 (a), .float .f32 (h), .float .f32 (v)] 88)).alloc (.cells #[.float .f32 (0), .float .f32 (0), .float .f32 (0)] 88))) := hid ((((Kept.nil w).push _ _).push _ _).sub (by simp))
  obtain ⟨p, cap, rfl, hc⟩ := id hs
  have HV := hid (iValidSounding _ n x hn hx _ (hs.stay k0.out.1) true hq)
  have HP := hid (fun u => iValidParcel a h v ha hv true hp u)
  have HF := hid (fun u => isFinite_f st hl hf u)
  clear hc hx hq hs hn hl hf hp ha hv
  go_enter Try.func48, Try.ntmps48
  go_wp2_with fail
  refine HV.out.mono ?_
  rintro e w1 ⟨rfl, hb1⟩
  have k1 := hid (k0.out.stay hb1)
  clear k0 hb1
  go_wp2_with (refine wpList_load_g (by rfl) 88 _ rfl (w.heap.size) rfl 88 (#[.float .f32 (a), .float .f32 (h), .float .f32 (v)]) (0, 0) _ (k1.out.at (x := (w.heap.size, #[.float .f32 (a), .float .f32 (h), .float .f32 (v)], 88)) in1) Try.underlying88 rfl info_par ?_)
  refine (HP.out _).mono ?_
  rintro e w2 ⟨rfl, hb2⟩
  have k2 := hid (k1.out.stay hb2)
  clear k1 hb2
  go_wp2_with fail
  refine (HF.out _).mono ?_
  rintro e x0 ⟨rfl, hbx0⟩
  have kx0 := hid (k2.out.stay hbx0)
  go_wp2_with (refine store_row (by rfl) 88 _ _ (by rfl) (w.heap.size + 1) (#[.float .f32 (0), .float .f32 (0), .float .f32 (0)]) (#[.float .f32 (0), .float .f32 (0), .float .f32 (0)]) (by rfl) (by rfl) kx0.out info_par (by simp) (by simp [Value.oneCell']) (by omega) (neC (by omega) ne0) ?_; intro wz kz; replace kz := hid kz)
  exact bodyPost_ret (results_row_tmp3 rfl _ _ (w.heap.size + 1) 88 (#[.float .f32 (0), .float .f32 (0), .float .f32 (0)]) (0, 0) _ rfl (kz.out.at (x := (w.heap.size + 1, #[.float .f32 (0), .float .f32 (0), .float .f32 (0)], 88)) in0) Try.underlying88 rfl info_par) rfl ⟨rfl, kz.out.1⟩

set_option maxRecDepth 100000 in
set_option maxHeartbeats 1000000 in
theorem iRise_r2a (n : Nat) (x : Nat → Nat) (hx : W32 x) (hq : souB n x = true) (a h v st sh : Nat) (ha : a < 4294967296) (hv : v < 4294967296) (m : Int) (hp : parB a h v = true) (hl : st < 4294967296) (hf : finB st = true) (g1 : (FloatKind.f32.format.order st 0 == some .lt) = true) (w : World) (s : Value) (hs : Rd w s n x) (hn : n ≤ 1048576) :
    Calls Try.prog 48 #[s, .agg #[.float .f32 (a), .float .f32 (h), .float .f32 (v)], .float .f32 st, .float .f32 sh, .int .i64 m] w fun e w' => e = .returned (.tuple #[.agg #[.float .f32 (0), .float .f32 (0), .float .f32 (0)], .float .f32 0, .int .i64 0, .int .i64 2]) ∧ Below w.heap.size w w' := by
  have k0 : Hid (Kept w [(w.heap.size + 1, #[.float .f32 (0), .float .f32 (0), .float .f32 (0)], 88), (w.heap.size, #[.float .f32 (a), .float .f32 (h), .float .f32 (v)], 88)] ((w.alloc (.cells #[.float .f32 (a), .float .f32 (h), .float .f32 (v)] 88)).alloc (.cells #[.float .f32 (0), .float .f32 (0), .float .f32 (0)] 88))) := hid ((((Kept.nil w).push _ _).push _ _).sub (by simp))
  obtain ⟨p, cap, rfl, hc⟩ := id hs
  have HV := hid (iValidSounding _ n x hn hx _ (hs.stay k0.out.1) true hq)
  have HP := hid (fun u => iValidParcel a h v ha hv true hp u)
  have HF := hid (fun u => isFinite_t st hl hf u)
  clear hc hx hq hs hn hl hf hp ha hv
  go_enter Try.func48, Try.ntmps48
  go_wp2_with fail
  refine HV.out.mono ?_
  rintro e w1 ⟨rfl, hb1⟩
  have k1 := hid (k0.out.stay hb1)
  clear k0 hb1
  go_wp2_with (refine wpList_load_g (by rfl) 88 _ rfl (w.heap.size) rfl 88 (#[.float .f32 (a), .float .f32 (h), .float .f32 (v)]) (0, 0) _ (k1.out.at (x := (w.heap.size, #[.float .f32 (a), .float .f32 (h), .float .f32 (v)], 88)) in1) Try.underlying88 rfl info_par ?_)
  refine (HP.out _).mono ?_
  rintro e w2 ⟨rfl, hb2⟩
  have k2 := hid (k1.out.stay hb2)
  clear k1 hb2
  go_wp2_with fail
  refine (HF.out _).mono ?_
  rintro e x0 ⟨rfl, rfl⟩
  go_wp2_with (refine store_row (by rfl) 88 _ _ (by rfl) (w.heap.size + 1) (#[.float .f32 (0), .float .f32 (0), .float .f32 (0)]) (#[.float .f32 (0), .float .f32 (0), .float .f32 (0)]) (by rfl) (by rfl) k2.out info_par (by simp) (by simp [Value.oneCell']) (by omega) (neC (by omega) ne0) ?_; intro wz kz; replace kz := hid kz)
  exact bodyPost_ret (results_row_tmp3 rfl _ _ (w.heap.size + 1) 88 (#[.float .f32 (0), .float .f32 (0), .float .f32 (0)]) (0, 0) _ rfl (kz.out.at (x := (w.heap.size + 1, #[.float .f32 (0), .float .f32 (0), .float .f32 (0)], 88)) in0) Try.underlying88 rfl info_par) rfl ⟨rfl, kz.out.1⟩

set_option maxRecDepth 100000 in
set_option maxHeartbeats 1000000 in
theorem iRise_r2b (n : Nat) (x : Nat → Nat) (hx : W32 x) (hq : souB n x = true) (a h v st sh : Nat) (ha : a < 4294967296) (hv : v < 4294967296) (m : Int) (hp : parB a h v = true) (hl : st < 4294967296) (hf : finB st = true) (g1 : (FloatKind.f32.format.order st 0 == some .lt) = false) (g2 : (FloatKind.f32.format.order st 0 == some .eq) = true) (w : World) (s : Value) (hs : Rd w s n x) (hn : n ≤ 1048576) :
    Calls Try.prog 48 #[s, .agg #[.float .f32 (a), .float .f32 (h), .float .f32 (v)], .float .f32 st, .float .f32 sh, .int .i64 m] w fun e w' => e = .returned (.tuple #[.agg #[.float .f32 (0), .float .f32 (0), .float .f32 (0)], .float .f32 0, .int .i64 0, .int .i64 2]) ∧ Below w.heap.size w w' := by
  have k0 : Hid (Kept w [(w.heap.size + 1, #[.float .f32 (0), .float .f32 (0), .float .f32 (0)], 88), (w.heap.size, #[.float .f32 (a), .float .f32 (h), .float .f32 (v)], 88)] ((w.alloc (.cells #[.float .f32 (a), .float .f32 (h), .float .f32 (v)] 88)).alloc (.cells #[.float .f32 (0), .float .f32 (0), .float .f32 (0)] 88))) := hid ((((Kept.nil w).push _ _).push _ _).sub (by simp))
  obtain ⟨p, cap, rfl, hc⟩ := id hs
  have HV := hid (iValidSounding _ n x hn hx _ (hs.stay k0.out.1) true hq)
  have HP := hid (fun u => iValidParcel a h v ha hv true hp u)
  have HF := hid (fun u => isFinite_t st hl hf u)
  clear hc hx hq hs hn hl hf hp ha hv
  go_enter Try.func48, Try.ntmps48
  go_wp2_with fail
  refine HV.out.mono ?_
  rintro e w1 ⟨rfl, hb1⟩
  have k1 := hid (k0.out.stay hb1)
  clear k0 hb1
  go_wp2_with (refine wpList_load_g (by rfl) 88 _ rfl (w.heap.size) rfl 88 (#[.float .f32 (a), .float .f32 (h), .float .f32 (v)]) (0, 0) _ (k1.out.at (x := (w.heap.size, #[.float .f32 (a), .float .f32 (h), .float .f32 (v)], 88)) in1) Try.underlying88 rfl info_par ?_)
  refine (HP.out _).mono ?_
  rintro e w2 ⟨rfl, hb2⟩
  have k2 := hid (k1.out.stay hb2)
  clear k1 hb2
  go_wp2_with fail
  refine (HF.out _).mono ?_
  rintro e x0 ⟨rfl, rfl⟩
  go_wp2_with (refine store_row (by rfl) 88 _ _ (by rfl) (w.heap.size + 1) (#[.float .f32 (0), .float .f32 (0), .float .f32 (0)]) (#[.float .f32 (0), .float .f32 (0), .float .f32 (0)]) (by rfl) (by rfl) k2.out info_par (by simp) (by simp [Value.oneCell']) (by omega) (neC (by omega) ne0) ?_; intro wz kz; replace kz := hid kz)
  exact bodyPost_ret (results_row_tmp3 rfl _ _ (w.heap.size + 1) 88 (#[.float .f32 (0), .float .f32 (0), .float .f32 (0)]) (0, 0) _ rfl (kz.out.at (x := (w.heap.size + 1, #[.float .f32 (0), .float .f32 (0), .float .f32 (0)], 88)) in0) Try.underlying88 rfl info_par) rfl ⟨rfl, kz.out.1⟩

set_option maxRecDepth 100000 in
set_option maxHeartbeats 1000000 in
theorem iRise_r3 (n : Nat) (x : Nat → Nat) (hx : W32 x) (hq : souB n x = true) (a h v st sh : Nat) (ha : a < 4294967296) (hv : v < 4294967296) (m : Int) (hp : parB a h v = true) (hl : st < 4294967296) (hf : finB st = true) (g1 : (FloatKind.f32.format.order st 0 == some .lt) = false) (g2 : (FloatKind.f32.format.order st 0 == some .eq) = false) (hl2 : sh < 4294967296) (hs2 : ¬ Share sh) (w : World) (s : Value) (hs : Rd w s n x) (hn : n ≤ 1048576) :
    Calls Try.prog 48 #[s, .agg #[.float .f32 (a), .float .f32 (h), .float .f32 (v)], .float .f32 st, .float .f32 sh, .int .i64 m] w fun e w' => e = .returned (.tuple #[.agg #[.float .f32 (0), .float .f32 (0), .float .f32 (0)], .float .f32 0, .int .i64 0, .int .i64 2]) ∧ Below w.heap.size w w' := by
  have k0 : Hid (Kept w [(w.heap.size + 1, #[.float .f32 (0), .float .f32 (0), .float .f32 (0)], 88), (w.heap.size, #[.float .f32 (a), .float .f32 (h), .float .f32 (v)], 88)] ((w.alloc (.cells #[.float .f32 (a), .float .f32 (h), .float .f32 (v)] 88)).alloc (.cells #[.float .f32 (0), .float .f32 (0), .float .f32 (0)] 88))) := hid ((((Kept.nil w).push _ _).push _ _).sub (by simp))
  obtain ⟨p, cap, rfl, hc⟩ := id hs
  have HV := hid (iValidSounding _ n x hn hx _ (hs.stay k0.out.1) true hq)
  have HP := hid (fun u => iValidParcel a h v ha hv true hp u)
  have HF := hid (fun u => isFinite_t st hl hf u)
  have HS := hid (fun u => iShare_f sh hl2 hs2 u)
  clear hc hx hq hs hn hl hf hp ha hv
  go_enter Try.func48, Try.ntmps48
  go_wp2_with fail
  refine HV.out.mono ?_
  rintro e w1 ⟨rfl, hb1⟩
  have k1 := hid (k0.out.stay hb1)
  clear k0 hb1
  go_wp2_with (refine wpList_load_g (by rfl) 88 _ rfl (w.heap.size) rfl 88 (#[.float .f32 (a), .float .f32 (h), .float .f32 (v)]) (0, 0) _ (k1.out.at (x := (w.heap.size, #[.float .f32 (a), .float .f32 (h), .float .f32 (v)], 88)) in1) Try.underlying88 rfl info_par ?_)
  refine (HP.out _).mono ?_
  rintro e w2 ⟨rfl, hb2⟩
  have k2 := hid (k1.out.stay hb2)
  clear k1 hb2
  go_wp2_with fail
  refine (HF.out _).mono ?_
  rintro e x0 ⟨rfl, rfl⟩
  go_wp2_with fail
  refine (HS.out _).mono ?_
  rintro e x1 ⟨rfl, hbx1⟩
  have kx1 := hid (k2.out.stay hbx1)
  go_wp2_with (refine store_row (by rfl) 88 _ _ (by rfl) (w.heap.size + 1) (#[.float .f32 (0), .float .f32 (0), .float .f32 (0)]) (#[.float .f32 (0), .float .f32 (0), .float .f32 (0)]) (by rfl) (by rfl) kx1.out info_par (by simp) (by simp [Value.oneCell']) (by omega) (neC (by omega) ne0) ?_; intro wz kz; replace kz := hid kz)
  exact bodyPost_ret (results_row_tmp3 rfl _ _ (w.heap.size + 1) 88 (#[.float .f32 (0), .float .f32 (0), .float .f32 (0)]) (0, 0) _ rfl (kz.out.at (x := (w.heap.size + 1, #[.float .f32 (0), .float .f32 (0), .float .f32 (0)], 88)) in0) Try.underlying88 rfl info_par) rfl ⟨rfl, kz.out.1⟩

set_option maxRecDepth 100000 in
set_option maxHeartbeats 1000000 in
theorem iRise_r4 (n : Nat) (x : Nat → Nat) (hx : W32 x) (hq : souB n x = true) (a h v st sh : Nat) (ha : a < 4294967296) (hv : v < 4294967296) (m : Int) (hp : parB a h v = true) (hl : st < 4294967296) (hf : finB st = true) (g1 : (FloatKind.f32.format.order st 0 == some .lt) = false) (g2 : (FloatKind.f32.format.order st 0 == some .eq) = false) (hs2 : Share sh) (hm : m < 0) (w : World) (s : Value) (hs : Rd w s n x) (hn : n ≤ 1048576) :
    Calls Try.prog 48 #[s, .agg #[.float .f32 (a), .float .f32 (h), .float .f32 (v)], .float .f32 st, .float .f32 sh, .int .i64 m] w fun e w' => e = .returned (.tuple #[.agg #[.float .f32 (0), .float .f32 (0), .float .f32 (0)], .float .f32 0, .int .i64 0, .int .i64 2]) ∧ Below w.heap.size w w' := by
  have k0 : Hid (Kept w [(w.heap.size + 1, #[.float .f32 (0), .float .f32 (0), .float .f32 (0)], 88), (w.heap.size, #[.float .f32 (a), .float .f32 (h), .float .f32 (v)], 88)] ((w.alloc (.cells #[.float .f32 (a), .float .f32 (h), .float .f32 (v)] 88)).alloc (.cells #[.float .f32 (0), .float .f32 (0), .float .f32 (0)] 88))) := hid ((((Kept.nil w).push _ _).push _ _).sub (by simp))
  obtain ⟨p, cap, rfl, hc⟩ := id hs
  have HV := hid (iValidSounding _ n x hn hx _ (hs.stay k0.out.1) true hq)
  have HP := hid (fun u => iValidParcel a h v ha hv true hp u)
  have HF := hid (fun u => isFinite_t st hl hf u)
  have HS := hid (fun u => iShare_t sh hs2 u)
  clear hc hx hq hs hn hl hf hp ha hv
  go_enter Try.func48, Try.ntmps48
  go_wp2_with fail
  refine HV.out.mono ?_
  rintro e w1 ⟨rfl, hb1⟩
  have k1 := hid (k0.out.stay hb1)
  clear k0 hb1
  go_wp2_with (refine wpList_load_g (by rfl) 88 _ rfl (w.heap.size) rfl 88 (#[.float .f32 (a), .float .f32 (h), .float .f32 (v)]) (0, 0) _ (k1.out.at (x := (w.heap.size, #[.float .f32 (a), .float .f32 (h), .float .f32 (v)], 88)) in1) Try.underlying88 rfl info_par ?_)
  refine (HP.out _).mono ?_
  rintro e w2 ⟨rfl, hb2⟩
  have k2 := hid (k1.out.stay hb2)
  clear k1 hb2
  go_wp2_with fail
  refine (HF.out _).mono ?_
  rintro e x0 ⟨rfl, rfl⟩
  go_wp2_with fail
  refine (HS.out _).mono ?_
  rintro e x1 ⟨rfl, rfl⟩
  go_wp2_with (refine store_row (by rfl) 88 _ _ (by rfl) (w.heap.size + 1) (#[.float .f32 (0), .float .f32 (0), .float .f32 (0)]) (#[.float .f32 (0), .float .f32 (0), .float .f32 (0)]) (by rfl) (by rfl) k2.out info_par (by simp) (by simp [Value.oneCell']) (by omega) (neC (by omega) ne0) ?_; intro wz kz; replace kz := hid kz)
  exact bodyPost_ret (results_row_tmp3 rfl _ _ (w.heap.size + 1) 88 (#[.float .f32 (0), .float .f32 (0), .float .f32 (0)]) (0, 0) _ rfl (kz.out.at (x := (w.heap.size + 1, #[.float .f32 (0), .float .f32 (0), .float .f32 (0)], 88)) in0) Try.underlying88 rfl info_par) rfl ⟨rfl, kz.out.1⟩

set_option maxRecDepth 100000 in
set_option maxHeartbeats 1000000 in
theorem iRise_r5 (n : Nat) (x : Nat → Nat) (hx : W32 x) (hq : souB n x = true) (a h v st sh : Nat) (ha : a < 4294967296) (hv : v < 4294967296) (m : Int) (hp : parB a h v = true) (hl : st < 4294967296) (hf : finB st = true) (g1 : (FloatKind.f32.format.order st 0 == some .lt) = false) (g2 : (FloatKind.f32.format.order st 0 == some .eq) = false) (hs2 : Share sh) (hm0 : ¬ m < 0) (hm : 200 < m) (w : World) (s : Value) (hs : Rd w s n x) (hn : n ≤ 1048576) :
    Calls Try.prog 48 #[s, .agg #[.float .f32 (a), .float .f32 (h), .float .f32 (v)], .float .f32 st, .float .f32 sh, .int .i64 m] w fun e w' => e = .returned (.tuple #[.agg #[.float .f32 (0), .float .f32 (0), .float .f32 (0)], .float .f32 0, .int .i64 0, .int .i64 2]) ∧ Below w.heap.size w w' := by
  have k0 : Hid (Kept w [(w.heap.size + 1, #[.float .f32 (0), .float .f32 (0), .float .f32 (0)], 88), (w.heap.size, #[.float .f32 (a), .float .f32 (h), .float .f32 (v)], 88)] ((w.alloc (.cells #[.float .f32 (a), .float .f32 (h), .float .f32 (v)] 88)).alloc (.cells #[.float .f32 (0), .float .f32 (0), .float .f32 (0)] 88))) := hid ((((Kept.nil w).push _ _).push _ _).sub (by simp))
  obtain ⟨p, cap, rfl, hc⟩ := id hs
  have HV := hid (iValidSounding _ n x hn hx _ (hs.stay k0.out.1) true hq)
  have HP := hid (fun u => iValidParcel a h v ha hv true hp u)
  have HF := hid (fun u => isFinite_t st hl hf u)
  have HS := hid (fun u => iShare_t sh hs2 u)
  clear hc hx hq hs hn hl hf hp ha hv
  go_enter Try.func48, Try.ntmps48
  go_wp2_with fail
  refine HV.out.mono ?_
  rintro e w1 ⟨rfl, hb1⟩
  have k1 := hid (k0.out.stay hb1)
  clear k0 hb1
  go_wp2_with (refine wpList_load_g (by rfl) 88 _ rfl (w.heap.size) rfl 88 (#[.float .f32 (a), .float .f32 (h), .float .f32 (v)]) (0, 0) _ (k1.out.at (x := (w.heap.size, #[.float .f32 (a), .float .f32 (h), .float .f32 (v)], 88)) in1) Try.underlying88 rfl info_par ?_)
  refine (HP.out _).mono ?_
  rintro e w2 ⟨rfl, hb2⟩
  have k2 := hid (k1.out.stay hb2)
  clear k1 hb2
  go_wp2_with fail
  refine (HF.out _).mono ?_
  rintro e x0 ⟨rfl, rfl⟩
  go_wp2_with fail
  refine (HS.out _).mono ?_
  rintro e x1 ⟨rfl, rfl⟩
  go_wp2_with (refine store_row (by rfl) 88 _ _ (by rfl) (w.heap.size + 1) (#[.float .f32 (0), .float .f32 (0), .float .f32 (0)]) (#[.float .f32 (0), .float .f32 (0), .float .f32 (0)]) (by rfl) (by rfl) k2.out info_par (by simp) (by simp [Value.oneCell']) (by omega) (neC (by omega) ne0) ?_; intro wz kz; replace kz := hid kz)
  exact bodyPost_ret (results_row_tmp3 rfl _ _ (w.heap.size + 1) 88 (#[.float .f32 (0), .float .f32 (0), .float .f32 (0)]) (0, 0) _ rfl (kz.out.at (x := (w.heap.size + 1, #[.float .f32 (0), .float .f32 (0), .float .f32 (0)], 88)) in0) Try.underlying88 rfl info_par) rfl ⟨rfl, kz.out.1⟩

set_option maxRecDepth 100000 in
set_option maxHeartbeats 1000000 in
theorem iRise_main (n : Nat) (x : Nat → Nat) (hx : W32 x) (hq : souB n x = true) (a h v st sh : Nat) (ha : a < 4294967296) (hv : v < 4294967296) (M : Nat) (hM : M ≤ 200) (hp : parB a h v = true) (hl : st < 4294967296) (hf : finB st = true) (g1 : (FloatKind.f32.format.order st 0 == some .lt) = false) (g2 : (FloatKind.f32.format.order st 0 == some .eq) = false) (hs2 : Share sh) (q0 q1 q2 q3 : Value) (o0 : q0.oneCell' = true) (o1 : q1.oneCell' = true) (o2 : q2.oneCell' = true) (o3 : q3.oneCell' = true) (ra rh rv re : Nat) (rk c : Int) (w : World) (s : Value) (hs : Rd w s n x) (hn : n ≤ 1048576)
    (hA : ∀ u, Below w.heap.size w u → Calls Try.prog 106 #[.func (.func 107) #[.agg #[s, .float .f32 st, .float .f32 sh, .int .i64 (M : Int), .float .f32 a, .float .f32 h, .float .f32 v, .float .f32 0, .int .i64 0]] #[]] u fun e u' => e = .returned (.tuple #[.agg #[q0, q1, q2, q3, .float .f32 ra, .float .f32 rh, .float .f32 rv, .float .f32 re, .int .i64 rk], .int .i64 c]) ∧ Below u.heap.size u u') :
    Calls Try.prog 48 #[s, .agg #[.float .f32 (a), .float .f32 (h), .float .f32 (v)], .float .f32 st, .float .f32 sh, .int .i64 (M : Int)] w fun e w' => e = .returned (.tuple #[.agg #[.float .f32 ra, .float .f32 rh, .float .f32 rv], .float .f32 re, .int .i64 rk, .int .i64 c]) ∧ Below w.heap.size w w' := by
  have k0 : Hid (Kept w [(w.heap.size + 1, #[.float .f32 (0), .float .f32 (0), .float .f32 (0)], 88), (w.heap.size, #[.float .f32 (a), .float .f32 (h), .float .f32 (v)], 88)] ((w.alloc (.cells #[.float .f32 (a), .float .f32 (h), .float .f32 (v)] 88)).alloc (.cells #[.float .f32 (0), .float .f32 (0), .float .f32 (0)] 88))) := hid ((((Kept.nil w).push _ _).push _ _).sub (by simp))
  have hmf : ∀ (fn : Fn) (first cap : Array Value) (w : World), (Instr.makeFunc fn first cap).run Try.prog w = .ok (.func fn first cap) w := fun _ _ _ _ => rfl
  obtain ⟨p, cap, rfl, hc⟩ := id hs
  have HV := hid (iValidSounding _ n x hn hx _ (hs.stay k0.out.1) true hq)
  have HP := hid (fun u => iValidParcel a h v ha hv true hp u)
  have HF := hid (fun u => isFinite_t st hl hf u)
  have HS := hid (fun u => iShare_t sh hs2 u)
  have HA := hid hA
  have O0 := hid o0
  have O1 := hid o1
  have O2 := hid o2
  have O3 := hid o3
  have hm0 : ¬ ((M : Int) < 0) := by omega
  have hm1 : ¬ (200 < (M : Int)) := by omega
  clear hc hx hq hs hn hl hf hs2 hA o0 o1 o2 o3 hp ha hv
  go_enter Try.func48, Try.ntmps48
  go_wp2_with fail
  refine HV.out.mono ?_
  rintro e w1 ⟨rfl, hb1⟩
  have k1 := hid (k0.out.stay hb1)
  clear k0 hb1
  go_wp2_with (refine wpList_load_g (by rfl) 88 _ rfl (w.heap.size) rfl 88 (#[.float .f32 (a), .float .f32 (h), .float .f32 (v)]) (0, 0) _ (k1.out.at (x := (w.heap.size, #[.float .f32 (a), .float .f32 (h), .float .f32 (v)], 88)) in1) Try.underlying88 rfl info_par ?_)
  refine (HP.out _).mono ?_
  rintro e w2 ⟨rfl, hb2⟩
  have k2 := hid (k1.out.stay hb2)
  clear k1 hb2
  go_wp2_with fail
  refine (HF.out _).mono ?_
  rintro e x0 ⟨rfl, rfl⟩
  go_wp2_with fail
  refine (HS.out _).mono ?_
  rintro e x1 ⟨rfl, rfl⟩
  clear g1 g2 HF HS HP HV
  have hw2 : w.heap.size + 1 < w2.heap.size := k2.out.lt in0
  have k3 := hid (k2.out.push #[.slice p n cap, .float .f32 st, .float .f32 sh, .int .i64 (M : Int), .float .f32 a, .float .f32 h, .float .f32 v, .float .f32 0, .int .i64 0] 168)
  go_wp2_with (refine wpList_load_row (by rfl) 88 _ (by rfl) (w.heap.size) (by rfl) 88 (#[.float .f32 (a), .float .f32 (h), .float .f32 (v)]) (0, 0) _ (k2.out.at (x := (w.heap.size, #[.float .f32 (a), .float .f32 (h), .float .f32 (v)], 88)) in1) Try.underlying88 (by rfl) info_par ?_)
  refine (HA.out _ k3.out.1).mono ?_
  rintro e w4 ⟨rfl, hb4⟩
  have k4 := hid (k3.out.stay hb4)
  have f4 := k4.out.fresh
  have k5 := hid (k4.out.push #[.slice none 0 0, .float .f32 (0), .float .f32 (0), .int .i64 0, .float .f32 (0), .float .f32 (0), .float .f32 (0), .float .f32 (0), .int .i64 0] 168)
  have hw4 : w2.heap.size < w4.heap.size := k4.out.lt in0
  have tok1 : True := trivial
  clear k3 hb4 HA k2
  go_wp2_with (have _t := tok1; clear tok1; refine store_row (by rfl) 168 _ _ (by rfl) (w4.heap.size) (#[q0, q1, q2, q3, .float .f32 ra, .float .f32 rh, .float .f32 rv, .float .f32 re, .int .i64 rk]) (#[.slice none 0 0, .float .f32 (0), .float .f32 (0), .int .i64 0, .float .f32 (0), .float .f32 (0), .float .f32 (0), .float .f32 (0), .int .i64 0]) (by rfl) (by rfl) k5.out info_jou (by simp) (by simp [O0.out, O1.out, O2.out, O3.out, one_f, one_i]) (by omega) f4 ?_; intro w6 k6; replace k6 := hid k6; clear k5 f4)
  have k7 : Hid (Kept w [(w.heap.size + 1, #[.float .f32 (0), .float .f32 (0), .float .f32 (0)], 88), (w4.heap.size, #[q0, q1, q2, q3, .float .f32 ra, .float .f32 rh, .float .f32 rv, .float .f32 re, .int .i64 rk], 168)] w6) := hid (k6.out.sub (fun y hy => by simp only [List.mem_cons, List.not_mem_nil, or_false] at hy ⊢; rcases hy with h | h <;> simp [h]))
  refine region_act (w0 := w) (lk := [(w4.heap.size, #[q0, q1, q2, q3, .float .f32 ra, .float .f32 rh, .float .f32 rv, .float .f32 re, .int .i64 rk], 168)]) (fun a0 a1 wq => a1 = ((((((((((a0.put (some 59) (.pointer (some ⟨w4.heap.size, 4, none⟩))).put (some 60) (.agg #[.float .f32 ra, .float .f32 rh, .float .f32 rv])).put (some 61) (.pointer (some ⟨w4.heap.size, 7, none⟩))).put (some 62) (.float .f32 (re))).put (some 63) (.pointer (some ⟨w4.heap.size, 8, none⟩))).put (some 64) (.int .i64 rk)).put (some 65) (.int .i64 c)).put (some 11) (.float .f32 (re))).put (some 12) (.int .i64 rk)).put (some 13) (.int .i64 c)) ∧ Kept w [(w.heap.size + 1, #[.float .f32 ra, .float .f32 rh, .float .f32 rv], 88), (w4.heap.size, #[q0, q1, q2, q3, .float .f32 ra, .float .f32 rh, .float .f32 rv, .float .f32 re, .int .i64 rk], 168)] wq) 11 #[false, false, false, false, false, false, false, false, false, false, false] (by kernel_rfl) rfl rfl ?_ ?_
  · have kd := k7.out.drew
    generalize World.drew _ = wd at kd ⊢
    refine take_val 0 _ _ (.pointer (some ⟨w4.heap.size, 4, none⟩)) rfl (by rfl) (by kernel_rfl) (by kernel_rfl) (by kernel_rfl) (fun w => by unfold execOp; go_simp) rfl rfl kd.tail ?_
    simp only [Act.put, List.setIfInBounds_toArray, List.set_cons_zero, List.set_cons_succ]
    refine take_cell 1 _ _ (.agg #[.float .f32 ra, .float .f32 rh, .float .f32 rv]) rfl (by rfl) (by kernel_rfl) (by kernel_rfl) (by kernel_rfl) (fun wq hS => run_load_cut 88 _ (w4.heap.size) 4 rfl (#[q0, q1, q2, q3, .float .f32 ra, .float .f32 rh, .float .f32 rv, .float .f32 re, .int .i64 rk]) 168 (hS.at (x := (w4.heap.size, #[q0, q1, q2, q3, .float .f32 ra, .float .f32 rh, .float .f32 rv, .float .f32 re, .int .i64 rk], 168)) in0) [.float .f32 ra, .float .f32 rh, .float .f32 rv] rfl _ Try.underlying88 rfl info_par) rfl rfl kd.tail ?_
    simp only [Act.put, List.setIfInBounds_toArray, List.set_cons_zero, List.set_cons_succ]
    refine take_val 2 _ _ (.pointer (some ⟨w4.heap.size, 7, none⟩)) rfl (by rfl) (by kernel_rfl) (by kernel_rfl) (by kernel_rfl) (fun w => by unfold execOp; go_simp) rfl rfl kd.tail ?_
    simp only [Act.put, List.setIfInBounds_toArray, List.set_cons_zero, List.set_cons_succ]
    refine take_cell 3 _ _ (.float .f32 (re)) rfl (by rfl) (by kernel_rfl) (by kernel_rfl) (by kernel_rfl) (fun wq hS => by have hcell : wq.cell? ⟨w4.heap.size, 7, none⟩ = some (.float .f32 (re)) := (cell_of_row _ (w4.heap.size) 7 _ _ _ (hS.at (x := (w4.heap.size, #[q0, q1, q2, q3, .float .f32 ra, .float .f32 rh, .float .f32 rv, .float .f32 re, .int .i64 rk], 168)) in0)).trans rfl; clear hS; unfold execOp; go_simp) rfl rfl kd.tail ?_
    simp only [Act.put, List.setIfInBounds_toArray, List.set_cons_zero, List.set_cons_succ]
    refine take_val 4 _ _ (.pointer (some ⟨w4.heap.size, 8, none⟩)) rfl (by rfl) (by kernel_rfl) (by kernel_rfl) (by kernel_rfl) (fun w => by unfold execOp; go_simp) rfl rfl kd.tail ?_
    simp only [Act.put, List.setIfInBounds_toArray, List.set_cons_zero, List.set_cons_succ]
    refine take_cell 5 _ _ (.int .i64 rk) rfl (by rfl) (by kernel_rfl) (by kernel_rfl) (by kernel_rfl) (fun wq hS => by have hcell : wq.cell? ⟨w4.heap.size, 8, none⟩ = some (.int .i64 rk) := (cell_of_row _ (w4.heap.size) 8 _ _ _ (hS.at (x := (w4.heap.size, #[q0, q1, q2, q3, .float .f32 ra, .float .f32 rh, .float .f32 rv, .float .f32 re, .int .i64 rk], 168)) in0)).trans rfl; clear hS; unfold execOp; go_simp) rfl rfl kd.tail ?_
    simp only [Act.put, List.setIfInBounds_toArray, List.set_cons_zero, List.set_cons_succ]
    refine take_val 6 _ _ (.int .i64 c) rfl (by rfl) (by kernel_rfl) (by kernel_rfl) (by kernel_rfl) (fun w => by rfl) rfl rfl kd.tail ?_
    simp only [Act.put, List.setIfInBounds_toArray, List.set_cons_zero, List.set_cons_succ]
    refine wpAnyH_ready (rs := [7]) (by kernel_rfl) (by simp) ?_
    refine storeK 7 _ _ kd (by omega) (neC (by omega) ne0) rfl (by rfl) 88 _ _ rfl #[.float .f32 ra, .float .f32 rh, .float .f32 rv] rfl rfl info_par (by simp) (by simp [Value.oneCell']) rfl rfl (fun w8 k8 => ?_) AllReadyH.nil
    refine ⟨k8.tail, ?_⟩
    simp only [Act.put, List.setIfInBounds_toArray, List.set_cons_zero, List.set_cons_succ]
    refine take_val 8 _ _ (.float .f32 (re)) rfl (by rfl) (by kernel_rfl) (by kernel_rfl) (by kernel_rfl) (fun w => by rfl) rfl rfl k8.tail ?_
    simp only [Act.put, List.setIfInBounds_toArray, List.set_cons_zero, List.set_cons_succ]
    refine take_val 9 _ _ (.int .i64 rk) rfl (by rfl) (by kernel_rfl) (by kernel_rfl) (by kernel_rfl) (fun w => by rfl) rfl rfl k8.tail ?_
    simp only [Act.put, List.setIfInBounds_toArray, List.set_cons_zero, List.set_cons_succ]
    refine take_val 10 _ _ (.int .i64 c) rfl (by rfl) (by kernel_rfl) (by kernel_rfl) (by kernel_rfl) (fun w => by rfl) rfl rfl k8.tail ?_
    simp only [Act.put, List.setIfInBounds_toArray, List.set_cons_zero, List.set_cons_succ]
    refine wpAnyH_done (by kernel_rfl) ?_ _
    exact ⟨rfl, rfl, k8⟩
  rintro a1 wx ⟨rfl, k9⟩
  have k9 := hid k9
  simp only [Act.put, List.setIfInBounds_toArray, List.set_cons_zero, List.set_cons_succ]
  go_wp2
  exact bodyPost_ret (results_row_tmp3 rfl _ _ (w.heap.size + 1) 88 (#[.float .f32 ra, .float .f32 rh, .float .f32 rv]) (0, 0) _ rfl (k9.out.at (x := (w.heap.size + 1, #[.float .f32 ra, .float .f32 rh, .float .f32 rv], 88)) in0) Try.underlying88 rfl info_par) rfl ⟨rfl, k9.out.1⟩

set_option maxRecDepth 100000 in
set_option maxHeartbeats 16000000 in
theorem sRise_bad1 (n : Nat) (x : Nat → Nat) (hx : W32 x) (hq : souB n x = false) (a h v st sh : Nat) (m : Int) (w : World) (s : Value) (hs : Rd w s n x) (hn : n ≤ 1048576) :
    Calls Try.prog 46 #[s, .agg #[.float .f32 (a), .float .f32 (h), .float .f32 (v)], .float .f32 st, .float .f32 sh, .int .i64 m] w fun e w' => e = .returned (.tuple #[.agg #[.float .f32 (0), .float .f32 (0), .float .f32 (0)], .float .f32 0, .int .i64 0, .int .i64 1]) ∧ Below w.heap.size w w' := by
  have k0 : Hid (Kept w [(w.heap.size + 1, #[.float .f32 (0), .float .f32 (0), .float .f32 (0)], 88), (w.heap.size, #[.float .f32 (a), .float .f32 (h), .float .f32 (v)], 88)] ((w.alloc (.cells #[.float .f32 (a), .float .f32 (h), .float .f32 (v)] 88)).alloc (.cells #[.float .f32 (0), .float .f32 (0), .float .f32 (0)] 88))) := hid ((((Kept.nil w).push _ _).push _ _).sub (by simp))
  obtain ⟨p, cap, rfl, hc⟩ := id hs
  have HV := hid (sSounding _ n x hn hx _ (hs.stay k0.out.1) false hq)
  clear hc hx hq hs hn
  go_enter Try.func46, Try.ntmps46
  go_wp2_with fail
  refine HV.out.mono ?_
  rintro e w1 ⟨rfl, hb1⟩
  have k1 := hid (k0.out.stay hb1)
  clear k0 hb1
  go_wp2_with (refine store_row (by rfl) 88 _ _ (by rfl) (w.heap.size + 1) (#[.float .f32 (0), .float .f32 (0), .float .f32 (0)]) (#[.float .f32 (0), .float .f32 (0), .float .f32 (0)]) (by rfl) (by rfl) k1.out info_par (by simp) (by simp [Value.oneCell']) (by omega) (neC (by omega) ne0) ?_; intro wz kz; replace kz := hid kz)
  exact bodyPost_ret (results_row_tmp3 rfl _ _ (w.heap.size + 1) 88 (#[.float .f32 (0), .float .f32 (0), .float .f32 (0)]) (0, 0) _ rfl (kz.out.at (x := (w.heap.size + 1, #[.float .f32 (0), .float .f32 (0), .float .f32 (0)], 88)) in0) Try.underlying88 rfl info_par) rfl ⟨rfl, kz.out.1⟩

set_option maxRecDepth 100000 in
set_option maxHeartbeats 16000000 in
theorem sRise_bad2 (n : Nat) (x : Nat → Nat) (hx : W32 x) (hq : souB n x = true) (a h v st sh : Nat) (ha : a < 4294967296) (hv : v < 4294967296) (m : Int) (hp : parB a h v = false) (w : World) (s : Value) (hs : Rd w s n x) (hn : n ≤ 1048576) :
    Calls Try.prog 46 #[s, .agg #[.float .f32 (a), .float .f32 (h), .float .f32 (v)], .float .f32 st, .float .f32 sh, .int .i64 m] w fun e w' => e = .returned (.tuple #[.agg #[.float .f32 (0), .float .f32 (0), .float .f32 (0)], .float .f32 0, .int .i64 0, .int .i64 1]) ∧ Below w.heap.size w w' := by
  have k0 : Hid (Kept w [(w.heap.size + 1, #[.float .f32 (0), .float .f32 (0), .float .f32 (0)], 88), (w.heap.size, #[.float .f32 (a), .float .f32 (h), .float .f32 (v)], 88)] ((w.alloc (.cells #[.float .f32 (a), .float .f32 (h), .float .f32 (v)] 88)).alloc (.cells #[.float .f32 (0), .float .f32 (0), .float .f32 (0)] 88))) := hid ((((Kept.nil w).push _ _).push _ _).sub (by simp))
  obtain ⟨p, cap, rfl, hc⟩ := id hs
  have HV := hid (sSounding _ n x hn hx _ (hs.stay k0.out.1) true hq)
  have HP := hid (fun u g T (hg : parAt u g a h v T) => sParOk a h v ha hv false hp u g T hg)
  clear hc hx hq hs hn hp ha hv
  go_enter Try.func46, Try.ntmps46
  go_wp2_with fail
  refine HV.out.mono ?_
  rintro e w1 ⟨rfl, hb1⟩
  have k1 := hid (k0.out.stay hb1)
  clear k0 hb1
  go_wp2_with fail
  refine (HP.out _ (w.heap.size) 88 (k1.out.at (x := (w.heap.size, #[.float .f32 (a), .float .f32 (h), .float .f32 (v)], 88)) in1)).mono ?_
  rintro e w2 ⟨rfl, hb2⟩
  have k2 := hid (k1.out.stay hb2)
  clear k1 hb2
  go_wp2_with (refine store_row (by rfl) 88 _ _ (by rfl) (w.heap.size + 1) (#[.float .f32 (0), .float .f32 (0), .float .f32 (0)]) (#[.float .f32 (0), .float .f32 (0), .float .f32 (0)]) (by rfl) (by rfl) k2.out info_par (by simp) (by simp [Value.oneCell']) (by omega) (neC (by omega) ne0) ?_; intro wz kz; replace kz := hid kz)
  exact bodyPost_ret (results_row_tmp3 rfl _ _ (w.heap.size + 1) 88 (#[.float .f32 (0), .float .f32 (0), .float .f32 (0)]) (0, 0) _ rfl (kz.out.at (x := (w.heap.size + 1, #[.float .f32 (0), .float .f32 (0), .float .f32 (0)], 88)) in0) Try.underlying88 rfl info_par) rfl ⟨rfl, kz.out.1⟩

set_option maxRecDepth 100000 in
set_option maxHeartbeats 16000000 in
theorem sRise_r1 (n : Nat) (x : Nat → Nat) (hx : W32 x) (hq : souB n x = true) (a h v st sh : Nat) (ha : a < 4294967296) (hv : v < 4294967296) (m : Int) (hp : parB a h v = true) (hl : st < 4294967296) (hf : finB st = false) (w : World) (s : Value) (hs : Rd w s n x) (hn : n ≤ 1048576) :
    Calls Try.prog 46 #[s, .agg #[.float .f32 (a), .float .f32 (h), .float .f32 (v)], .float .f32 st, .float .f32 sh, .int .i64 m] w fun e w' => e = .returned (.tuple #[.agg #[.float .f32 (0), .float .f32 (0), .float .f32 (0)], .float .f32 0, .int .i64 0, .int .i64 2]) ∧ Below w.heap.size w w' := by
  have k0 : Hid (Kept w [(w.heap.size + 1, #[.float .f32 (0), .float .f32 (0), .float .f32 (0)], 88), (w.heap.size, #[.float .f32 (a), .float .f32 (h), .float .f32 (v)], 88)] ((w.alloc (.cells #[.float .f32 (a), .float .f32 (h), .float .f32 (v)] 88)).alloc (.cells #[.float .f32 (0), .float .f32 (0), .float .f32 (0)] 88))) := hid ((((Kept.nil w).push _ _).push _ _).sub (by simp))
  obtain ⟨p, cap, rfl, hc⟩ := id hs
  have HV := hid (sSounding _ n x hn hx _ (hs.stay k0.out.1) true hq)
  have HP := hid (fun u g T (hg : parAt u g a h v T) => sParOk a h v ha hv true hp u g T hg)
  have HF := hid (fun u => sFinite_f st hl hf u)
  clear hc hx hq hs hn hp ha hv hl hf
  go_enter Try.func46, Try.ntmps46
  go_wp2_with fail
  refine HV.out.mono ?_
  rintro e w1 ⟨rfl, hb1⟩
  have k1 := hid (k0.out.stay hb1)
  clear k0 hb1
  go_wp2_with fail
  refine (HP.out _ (w.heap.size) 88 (k1.out.at (x := (w.heap.size, #[.float .f32 (a), .float .f32 (h), .float .f32 (v)], 88)) in1)).mono ?_
  rintro e w2 ⟨rfl, hb2⟩
  have k2 := hid (k1.out.stay hb2)
  clear k1 hb2
  go_wp2_with fail
  refine (HF.out _).mono ?_
  rintro e x0 ⟨rfl, hbx0⟩
  have kx0 := hid (k2.out.stay hbx0)
  go_wp2_with (refine store_row (by rfl) 88 _ _ (by rfl) (w.heap.size + 1) (#[.float .f32 (0), .float .f32 (0), .float .f32 (0)]) (#[.float .f32 (0), .float .f32 (0), .float .f32 (0)]) (by rfl) (by rfl) kx0.out info_par (by simp) (by simp [Value.oneCell']) (by omega) (neC (by omega) ne0) ?_; intro wz kz; replace kz := hid kz)
  exact bodyPost_ret (results_row_tmp3 rfl _ _ (w.heap.size + 1) 88 (#[.float .f32 (0), .float .f32 (0), .float .f32 (0)]) (0, 0) _ rfl (kz.out.at (x := (w.heap.size + 1, #[.float .f32 (0), .float .f32 (0), .float .f32 (0)], 88)) in0) Try.underlying88 rfl info_par) rfl ⟨rfl, kz.out.1⟩

set_option maxRecDepth 100000 in
set_option maxHeartbeats 16000000 in
theorem sRise_r2 (n : Nat) (x : Nat → Nat) (hx : W32 x) (hq : souB n x = true) (a h v st sh : Nat) (ha : a < 4294967296) (hv : v < 4294967296) (m : Int) (hp : parB a h v = true) (hl : st < 4294967296) (hf : finB st = true) (g1 : (FloatKind.f32.format.order st 0 == some .gt) = false) (w : World) (s : Value) (hs : Rd w s n x) (hn : n ≤ 1048576) :
    Calls Try.prog 46 #[s, .agg #[.float .f32 (a), .float .f32 (h), .float .f32 (v)], .float .f32 st, .float .f32 sh, .int .i64 m] w fun e w' => e = .returned (.tuple #[.agg #[.float .f32 (0), .float .f32 (0), .float .f32 (0)], .float .f32 0, .int .i64 0, .int .i64 2]) ∧ Below w.heap.size w w' := by
  have k0 : Hid (Kept w [(w.heap.size + 1, #[.float .f32 (0), .float .f32 (0), .float .f32 (0)], 88), (w.heap.size, #[.float .f32 (a), .float .f32 (h), .float .f32 (v)], 88)] ((w.alloc (.cells #[.float .f32 (a), .float .f32 (h), .float .f32 (v)] 88)).alloc (.cells #[.float .f32 (0), .float .f32 (0), .float .f32 (0)] 88))) := hid ((((Kept.nil w).push _ _).push _ _).sub (by simp))
  obtain ⟨p, cap, rfl, hc⟩ := id hs
  have HV := hid (sSounding _ n x hn hx _ (hs.stay k0.out.1) true hq)
  have HP := hid (fun u g T (hg : parAt u g a h v T) => sParOk a h v ha hv true hp u g T hg)
  have HF := hid (fun u => sFinite_t st hl hf u)
  clear hc hx hq hs hn hp ha hv hl hf
  go_enter Try.func46, Try.ntmps46
  go_wp2_with fail
  refine HV.out.mono ?_
  rintro e w1 ⟨rfl, hb1⟩
  have k1 := hid (k0.out.stay hb1)
  clear k0 hb1
  go_wp2_with fail
  refine (HP.out _ (w.heap.size) 88 (k1.out.at (x := (w.heap.size, #[.float .f32 (a), .float .f32 (h), .float .f32 (v)], 88)) in1)).mono ?_
  rintro e w2 ⟨rfl, hb2⟩
  have k2 := hid (k1.out.stay hb2)
  clear k1 hb2
  go_wp2_with fail
  refine (HF.out _).mono ?_
  rintro e x0 ⟨rfl, rfl⟩
  go_wp2_with (refine store_row (by rfl) 88 _ _ (by rfl) (w.heap.size + 1) (#[.float .f32 (0), .float .f32 (0), .float .f32 (0)]) (#[.float .f32 (0), .float .f32 (0), .float .f32 (0)]) (by rfl) (by rfl) k2.out info_par (by simp) (by simp [Value.oneCell']) (by omega) (neC (by omega) ne0) ?_; intro wz kz; replace kz := hid kz)
  exact bodyPost_ret (results_row_tmp3 rfl _ _ (w.heap.size + 1) 88 (#[.float .f32 (0), .float .f32 (0), .float .f32 (0)]) (0, 0) _ rfl (kz.out.at (x := (w.heap.size + 1, #[.float .f32 (0), .float .f32 (0), .float .f32 (0)], 88)) in0) Try.underlying88 rfl info_par) rfl ⟨rfl, kz.out.1⟩

set_option maxRecDepth 100000 in
set_option maxHeartbeats 16000000 in
theorem sRise_r3 (n : Nat) (x : Nat → Nat) (hx : W32 x) (hq : souB n x = true) (a h v st sh : Nat) (ha : a < 4294967296) (hv : v < 4294967296) (m : Int) (hp : parB a h v = true) (hl : st < 4294967296) (hf : finB st = true) (g1 : (FloatKind.f32.format.order st 0 == some .gt) = true) (hl2 : sh < 4294967296) (hs2 : ¬ Share sh) (w : World) (s : Value) (hs : Rd w s n x) (hn : n ≤ 1048576) :
    Calls Try.prog 46 #[s, .agg #[.float .f32 (a), .float .f32 (h), .float .f32 (v)], .float .f32 st, .float .f32 sh, .int .i64 m] w fun e w' => e = .returned (.tuple #[.agg #[.float .f32 (0), .float .f32 (0), .float .f32 (0)], .float .f32 0, .int .i64 0, .int .i64 2]) ∧ Below w.heap.size w w' := by
  have k0 : Hid (Kept w [(w.heap.size + 1, #[.float .f32 (0), .float .f32 (0), .float .f32 (0)], 88), (w.heap.size, #[.float .f32 (a), .float .f32 (h), .float .f32 (v)], 88)] ((w.alloc (.cells #[.float .f32 (a), .float .f32 (h), .float .f32 (v)] 88)).alloc (.cells #[.float .f32 (0), .float .f32 (0), .float .f32 (0)] 88))) := hid ((((Kept.nil w).push _ _).push _ _).sub (by simp))
  obtain ⟨p, cap, rfl, hc⟩ := id hs
  have HV := hid (sSounding _ n x hn hx _ (hs.stay k0.out.1) true hq)
  have HP := hid (fun u g T (hg : parAt u g a h v T) => sParOk a h v ha hv true hp u g T hg)
  have HF := hid (fun u => sFinite_t st hl hf u)
  have HS := hid (fun u => sShare_f sh hl2 hs2 u)
  clear hc hx hq hs hn hp ha hv hl hf
  go_enter Try.func46, Try.ntmps46
  go_wp2_with fail
  refine HV.out.mono ?_
  rintro e w1 ⟨rfl, hb1⟩
  have k1 := hid (k0.out.stay hb1)
  clear k0 hb1
  go_wp2_with fail
  refine (HP.out _ (w.heap.size) 88 (k1.out.at (x := (w.heap.size, #[.float .f32 (a), .float .f32 (h), .float .f32 (v)], 88)) in1)).mono ?_
  rintro e w2 ⟨rfl, hb2⟩
  have k2 := hid (k1.out.stay hb2)
  clear k1 hb2
  go_wp2_with fail
  refine (HF.out _).mono ?_
  rintro e x0 ⟨rfl, rfl⟩
  go_wp2_with fail
  refine (HS.out _).mono ?_
  rintro e x1 ⟨rfl, hbx1⟩
  have kx1 := hid (k2.out.stay hbx1)
  go_wp2_with (refine store_row (by rfl) 88 _ _ (by rfl) (w.heap.size + 1) (#[.float .f32 (0), .float .f32 (0), .float .f32 (0)]) (#[.float .f32 (0), .float .f32 (0), .float .f32 (0)]) (by rfl) (by rfl) kx1.out info_par (by simp) (by simp [Value.oneCell']) (by omega) (neC (by omega) ne0) ?_; intro wz kz; replace kz := hid kz)
  exact bodyPost_ret (results_row_tmp3 rfl _ _ (w.heap.size + 1) 88 (#[.float .f32 (0), .float .f32 (0), .float .f32 (0)]) (0, 0) _ rfl (kz.out.at (x := (w.heap.size + 1, #[.float .f32 (0), .float .f32 (0), .float .f32 (0)], 88)) in0) Try.underlying88 rfl info_par) rfl ⟨rfl, kz.out.1⟩

set_option maxRecDepth 100000 in
set_option maxHeartbeats 16000000 in
theorem sRise_r4 (n : Nat) (x : Nat → Nat) (hx : W32 x) (hq : souB n x = true) (a h v st sh : Nat) (ha : a < 4294967296) (hv : v < 4294967296) (m : Int) (hp : parB a h v = true) (hl : st < 4294967296) (hf : finB st = true) (g1 : (FloatKind.f32.format.order st 0 == some .gt) = true) (hs2 : Share sh) (hm : ¬ (0 ≤ m ∧ m ≤ 200)) (w : World) (s : Value) (hs : Rd w s n x) (hn : n ≤ 1048576) :
    Calls Try.prog 46 #[s, .agg #[.float .f32 (a), .float .f32 (h), .float .f32 (v)], .float .f32 st, .float .f32 sh, .int .i64 m] w fun e w' => e = .returned (.tuple #[.agg #[.float .f32 (0), .float .f32 (0), .float .f32 (0)], .float .f32 0, .int .i64 0, .int .i64 2]) ∧ Below w.heap.size w w' := by
  have k0 : Hid (Kept w [(w.heap.size + 1, #[.float .f32 (0), .float .f32 (0), .float .f32 (0)], 88), (w.heap.size, #[.float .f32 (a), .float .f32 (h), .float .f32 (v)], 88)] ((w.alloc (.cells #[.float .f32 (a), .float .f32 (h), .float .f32 (v)] 88)).alloc (.cells #[.float .f32 (0), .float .f32 (0), .float .f32 (0)] 88))) := hid ((((Kept.nil w).push _ _).push _ _).sub (by simp))
  obtain ⟨p, cap, rfl, hc⟩ := id hs
  have HV := hid (sSounding _ n x hn hx _ (hs.stay k0.out.1) true hq)
  have HP := hid (fun u g T (hg : parAt u g a h v T) => sParOk a h v ha hv true hp u g T hg)
  have HF := hid (fun u => sFinite_t st hl hf u)
  have HS := hid (fun u => sShare_t sh hs2 u)
  have HI := hid (fun u => l00In_f m 0 200 hm u)
  clear hc hx hq hs hn hp ha hv hl hf
  go_enter Try.func46, Try.ntmps46
  go_wp2_with fail
  refine HV.out.mono ?_
  rintro e w1 ⟨rfl, hb1⟩
  have k1 := hid (k0.out.stay hb1)
  clear k0 hb1
  go_wp2_with fail
  refine (HP.out _ (w.heap.size) 88 (k1.out.at (x := (w.heap.size, #[.float .f32 (a), .float .f32 (h), .float .f32 (v)], 88)) in1)).mono ?_
  rintro e w2 ⟨rfl, hb2⟩
  have k2 := hid (k1.out.stay hb2)
  clear k1 hb2
  go_wp2_with fail
  refine (HF.out _).mono ?_
  rintro e x0 ⟨rfl, rfl⟩
  go_wp2_with fail
  refine (HS.out _).mono ?_
  rintro e x1 ⟨rfl, rfl⟩
  go_wp2_with fail
  refine (HI.out _).mono ?_
  rintro e x2 ⟨rfl, rfl⟩
  go_wp2_with (refine store_row (by rfl) 88 _ _ (by rfl) (w.heap.size + 1) (#[.float .f32 (0), .float .f32 (0), .float .f32 (0)]) (#[.float .f32 (0), .float .f32 (0), .float .f32 (0)]) (by rfl) (by rfl) k2.out info_par (by simp) (by simp [Value.oneCell']) (by omega) (neC (by omega) ne0) ?_; intro wz kz; replace kz := hid kz)
  exact bodyPost_ret (results_row_tmp3 rfl _ _ (w.heap.size + 1) 88 (#[.float .f32 (0), .float .f32 (0), .float .f32 (0)]) (0, 0) _ rfl (kz.out.at (x := (w.heap.size + 1, #[.float .f32 (0), .float .f32 (0), .float .f32 (0)], 88)) in0) Try.underlying88 rfl info_par) rfl ⟨rfl, kz.out.1⟩

set_option maxRecDepth 100000 in
set_option maxHeartbeats 16000000 in
theorem sRise_main (n : Nat) (x : Nat → Nat) (hx : W32 x) (hq : souB n x = true) (a h v st sh : Nat) (hh : h < 4294967296) (ha : a < 4294967296) (hv : v < 4294967296) (M : Nat) (hM2 : M ≤ 200) (hp : parB a h v = true) (hl : st < 4294967296) (hf : finB st = true) (g1 : (FloatKind.f32.format.order st 0 == some .gt) = true) (hst : st < INF) (hs2 : Share sh) (K : Nat) (hKM : K ≤ M) (hM : ∀ j, j < K → okR n x st sh (x ((n - 1) * 3)) M j (rsR n x st sh ⟨a, h, v, 0⟩ j)) (hN : ¬ okR n x st sh (x ((n - 1) * 3)) M K (rsR n x st sh ⟨a, h, v, 0⟩ K)) (ra rh rv re : Nat) (rk c : Int)
    (h1 : (atR n x (rsR n x st sh ⟨a, h, v, 0⟩ K).a).2.2 ≠ 0 → ra = 0 ∧ rh = 0 ∧ rv = 0 ∧ re = 0 ∧ rk = 0 ∧ c = (atR n x (rsR n x st sh ⟨a, h, v, 0⟩ K).a).2.2)
    (h2 : (atR n x (rsR n x st sh ⟨a, h, v, 0⟩ K).a).2.2 = 0 → ¬ goR n x st (x ((n - 1) * 3)) M K (rsR n x st sh ⟨a, h, v, 0⟩ K) → ra = (rsR n x st sh ⟨a, h, v, 0⟩ K).a ∧ rh = (rsR n x st sh ⟨a, h, v, 0⟩ K).h ∧ rv = (rsR n x st sh ⟨a, h, v, 0⟩ K).v ∧ re = (rsR n x st sh ⟨a, h, v, 0⟩ K).e ∧ rk = (K : Int) ∧ c = 0)
    (h3 : (atR n x (rsR n x st sh ⟨a, h, v, 0⟩ K).a).2.2 = 0 → goR n x st (x ((n - 1) * 3)) M K (rsR n x st sh ⟨a, h, v, 0⟩ K) → ra = 0 ∧ rh = 0 ∧ rv = 0 ∧ re = 0 ∧ rk = 0 ∧ c = upR n x st sh (rsR n x st sh ⟨a, h, v, 0⟩ K)) (w : World) (s : Value) (hs : Rd w s n x) (hn : n ≤ 1048576) :
    Calls Try.prog 46 #[s, .agg #[.float .f32 (a), .float .f32 (h), .float .f32 (v)], .float .f32 st, .float .f32 sh, .int .i64 (M : Int)] w fun e w' => e = .returned (.tuple #[.agg #[.float .f32 (ra), .float .f32 (rh), .float .f32 (rv)], .float .f32 re, .int .i64 rk, .int .i64 c]) ∧ Below w.heap.size w w' := by
  have k0 : Hid (Kept w [(w.heap.size + 1, #[.float .f32 (0), .float .f32 (0), .float .f32 (0)], 88), (w.heap.size, #[.float .f32 (a), .float .f32 (h), .float .f32 (v)], 88)] ((w.alloc (.cells #[.float .f32 (a), .float .f32 (h), .float .f32 (v)] 88)).alloc (.cells #[.float .f32 (0), .float .f32 (0), .float .f32 (0)] 88))) := hid ((((Kept.nil w).push _ _).push _ _).sub (by simp))
  have HV := hid (sSounding _ n x hn hx _ (hs.stay k0.out.1) true hq)
  have HP := hid (fun u g T (hg : parAt u g a h v T) => sParOk a h v ha hv true hp u g T hg)
  have F := souB_iff.1 hq
  have HTOP : Hid (Hgt (x ((n - 1) * 3))) := hid (hgt_lv (F.lv (n - 1) (by have := F.lo; omega)))
  have V0 : RVal ⟨a, h, v, 0⟩ := ⟨hp, hh, (by decide : nnB 0 = true)⟩
  have HVL := hid (fun k (hk : k ≤ K) => r_val hx F (M := M) hst hs2 HTOP.out V0 (K := k) (fun j hj => hM j (by omega)))
  have HX := hid hx
  have HQ := hid hq
  have HST := hid hst
  have HSH := hid hs2
  have HM := hid hM
  have HN := hid hN
  have H1 := hid h1
  have H2 := hid h2
  have H3 := hid h3
  have HR := hid (fun u (hu : Below w.heap.size w u) => hs.stay hu)
  have HF := hid (fun u => sFinite_t st hl hf u)
  have HS := hid (fun u => sShare_t sh hs2 u)
  have HI := hid (fun u => l00In_t (M : Int) 0 200 (by omega) (by omega) u)
  have h2n : 2 ≤ n := F.lo
  have hn32 : n ≤ 32 := F.hi
  obtain ⟨p, cap, rfl, hc⟩ := hs
  obtain ⟨b, o, rfl, hcell⟩ := hc (by have := F.lo; omega)
  have hct : World.cell? w ⟨b, o + (n - 1) * 3, none⟩ = some (.float .f32 (x ((n - 1) * 3))) := hcell _ (by omega)
  have ixl := fun w => run_indexAt (P := Try.prog) (t := 78) (e := 153) Try.underlying78 info_lev (b := b) (o := o) (n := n) (cap := cap) (k := n - 1) (by omega) w
  have hcast : (((n - 1 : Nat)) : Int) = (n : Int) - 1 := by omega
  rw [hcast] at ixl
  clear hc hcell hcast F V0 hx hq hn hp ha hv hh hl hf hst hs2 hM hN h1 h2 h3
  go_enter Try.func46, Try.ntmps46
  go_wp2_with fail
  refine HV.out.mono ?_
  rintro e w1 ⟨rfl, hb1⟩
  have k1 := hid (k0.out.stay hb1)
  clear k0 hb1
  go_wp2_with fail
  refine (HP.out _ (w.heap.size) 88 (k1.out.at (x := (w.heap.size, #[.float .f32 (a), .float .f32 (h), .float .f32 (v)], 88)) in1)).mono ?_
  rintro e w2 ⟨rfl, hb2⟩
  have k2 := hid (k1.out.stay hb2)
  clear k1 hb2
  go_wp2_with fail
  refine (HF.out _).mono ?_
  rintro e x0 ⟨rfl, rfl⟩
  go_wp2_with fail
  refine (HS.out _).mono ?_
  rintro e x1 ⟨rfl, rfl⟩
  go_wp2_with fail
  refine (HI.out _).mono ?_
  rintro e x2 ⟨rfl, rfl⟩
  have hct2 : World.cell? w2 ⟨b, o + (n - 1) * 3, none⟩ = some (.float .f32 (x ((n - 1) * 3))) := (k2.out.1.cell (block_lt_of_cell hct)).trans hct
  clear g1 HF HS HI HP HV hct
  go_wp2_with fail
  go_loopw [14, 15] (fun en dn wr => ∃ k : Nat, k ≤ K ∧ en = .float .f32 (rsR n x st sh ⟨a, h, v, 0⟩ k).e ∧ dn = .int .i64 (k : Int) ∧ Hid (Kept w [(w.heap.size + 1, #[.float .f32 (0), .float .f32 (0), .float .f32 (0)], 88), (w.heap.size, #[.float .f32 ((rsR n x st sh ⟨a, h, v, 0⟩ k).a), .float .f32 ((rsR n x st sh ⟨a, h, v, 0⟩ k).h), .float .f32 ((rsR n x st sh ⟨a, h, v, 0⟩ k).v)], 88)] wr)) (fun _ dn _ => M + 1 - (intOf dn).toNat)
  case atStart => exact ⟨0, Nat.zero_le _, rfl, rfl, k2⟩
  case round =>
    clear k2 hct2 ixl
    obtain ⟨k, hk, rfl, rfl, h0⟩ := hrel
    have V := HVL.out k hk
    have hkk : k < K ∨ k = K := by omega
    have PA : parAt wr w.heap.size (rsR n x st sh ⟨a, h, v, 0⟩ k).a (rsR n x st sh ⟨a, h, v, 0⟩ k).h (rsR n x st sh ⟨a, h, v, 0⟩ k).v 88 := h0.out.at (x := (w.heap.size, #[.float .f32 ((rsR n x st sh ⟨a, h, v, 0⟩ k).a), .float .f32 ((rsR n x st sh ⟨a, h, v, 0⟩ k).h), .float .f32 ((rsR n x st sh ⟨a, h, v, 0⟩ k).v)], 88)) in1
    by_cases hc : (atR n x (rsR n x st sh ⟨a, h, v, 0⟩ k).a).2.2 = 0
    · have hr : atR n x (rsR n x st sh ⟨a, h, v, 0⟩ k).a = ((atR n x (rsR n x st sh ⟨a, h, v, 0⟩ k).a).1, (atR n x (rsR n x st sh ⟨a, h, v, 0⟩ k).a).2.1, 0) := by rw [← hc]
      have L := r_lift HX.out (souB_iff.1 HQ.out) V hc
      have Z := r_z HST.out V
      have CL := hid (sLift_ok n x HX.out HQ.out (rsR n x st sh ⟨a, h, v, 0⟩ k).a (rsR n x st sh ⟨a, h, v, 0⟩ k).h (rsR n x st sh ⟨a, h, v, 0⟩ k).v V.al V.hl V.vl _ _ hr (liR n x (rsR n x st sh ⟨a, h, v, 0⟩ k)) L.1 wr _ (HR.out wr h0.out.1) w.heap.size 88 PA)
      have rz := fun w => run_float_arith (P := Try.prog) w .add 22 .f32 _ _ _ Z.1
      clear hr L Z PA H1
      go_wp2_with fail
      refine CL.out.mono ?_
      rintro e w3 ⟨rfl, hb3⟩
      have k3 := hid (h0.out.stay hb3)
      have c0 : World.cell? w3 ⟨w.heap.size, 0, none⟩ = some (.float .f32 (rsR n x st sh ⟨a, h, v, 0⟩ k).a) := (cell_of_row _ (w.heap.size) 0 _ _ _ (k3.out.at (x := (w.heap.size, #[.float .f32 ((rsR n x st sh ⟨a, h, v, 0⟩ k).a), .float .f32 ((rsR n x st sh ⟨a, h, v, 0⟩ k).h), .float .f32 ((rsR n x st sh ⟨a, h, v, 0⟩ k).v)], 88)) in1)).trans rfl
      clear h0 hb3 CL
      by_cases hgo : goR n x st (x ((n - 1) * 3)) M k (rsR n x st sh ⟨a, h, v, 0⟩ k)
      · have hz := r_hgt HST.out HTOP.out V hgo.2.2
        have RS := r_step HX.out (souB_iff.1 HQ.out) HST.out V hc hgo.1
        have hlz := zR_lt hz
        have gg1 : (FloatKind.f32.format.order (liR n x (rsR n x st sh ⟨a, h, v, 0⟩ k)) 0 == some .gt) = true := hgo.1
        have gg2 : (FloatKind.f32.format.order (zR st (rsR n x st sh ⟨a, h, v, 0⟩ k)) (x ((n - 1) * 3)) == some .lt || FloatKind.f32.format.order (zR st (rsR n x st sh ⟨a, h, v, 0⟩ k)) (x ((n - 1) * 3)) == some .eq) = true := hgo.2.2
        have hkM : k < 200 := by have := hgo.2.1; omega
        have hne : ¬ (k : Int) = (M : Int) := by have := hgo.2.1; omega
        have hkM2 : Hid (k < M) := hid hgo.2.1
        have lot : ∀ C : Prop, ((FloatKind.f32.format.order (zR st (rsR n x st sh ⟨a, h, v, 0⟩ k)) (x ((n - 1) * 3)) == some .lt) = true → C) → ((FloatKind.f32.format.order (zR st (rsR n x st sh ⟨a, h, v, 0⟩ k)) (x ((n - 1) * 3)) == some .lt) = false → (FloatKind.f32.format.order (zR st (rsR n x st sh ⟨a, h, v, 0⟩ k)) (x ((n - 1) * 3)) == some .eq) = true → C) → C := fun C q1 q2 => by
          rcases g3 : (FloatKind.f32.format.order (zR st (rsR n x st sh ⟨a, h, v, 0⟩ k)) (x ((n - 1) * 3)) == some .lt) with _ | _
          · exact q2 g3 (by rw [g3, Bool.false_or] at gg2; exact gg2)
          · exact q1 g3
        clear gg2
        rcases hm : moB (rsR n x st sh ⟨a, h, v, 0⟩ k).a (zR st (rsR n x st sh ⟨a, h, v, 0⟩ k)) 1 (rsR n x st sh ⟨a, h, v, 0⟩ k).h (rsR n x st sh ⟨a, h, v, 0⟩ k).v 0 with _ | _
        · have hu : upR n x st sh (rsR n x st sh ⟨a, h, v, 0⟩ k) = 4 := by unfold upR; rw [if_neg (by rw [hm]; decide)]
          obtain rfl : k = K := by
            rcases hkk with h | h
            · have := (HM.out k h).2.2
              rw [hu] at this; exact absurd this (by decide)
            · exact h
          obtain ⟨rfl, rfl, rfl, rfl, rfl, hc6⟩ := H3.out hc hgo
          rw [hu] at hc6
          subst hc6
          have CU := hid (sUp_f1 (.slice (some ⟨b, o, none⟩) n cap) (rsR n x st sh ⟨a, h, v, 0⟩ k).a (rsR n x st sh ⟨a, h, v, 0⟩ k).h (rsR n x st sh ⟨a, h, v, 0⟩ k).v sh (zR st (rsR n x st sh ⟨a, h, v, 0⟩ k)) 4 (by decide) w3 (fun u2 _ => sMoist_f (rsR n x st sh ⟨a, h, v, 0⟩ k).a (rsR n x st sh ⟨a, h, v, 0⟩ k).h (rsR n x st sh ⟨a, h, v, 0⟩ k).v (zR st (rsR n x st sh ⟨a, h, v, 0⟩ k)) 1 V.hl V.p hz (by omega) (by omega) 0 (by omega) (fun j hj => absurd hj (Nat.not_lt_zero j)) hm u2))
          clear V hz RS hlz hm hu hkk hc hgo H2 H3
          refine lot _ (fun g3 => ?_) (fun g3 g4 => ?_)
          · clear lot
            have tok1 : True := trivial
            go_wp2_with (have _t := tok1; clear tok1; refine wpList_load_row (by rfl) 88 _ (by rfl) (w.heap.size) (by rfl) 88 (#[.float .f32 ((rsR n x st sh ⟨a, h, v, 0⟩ k).a), .float .f32 ((rsR n x st sh ⟨a, h, v, 0⟩ k).h), .float .f32 ((rsR n x st sh ⟨a, h, v, 0⟩ k).v)]) (0, 0) _ (k3.out.at (x := (w.heap.size, #[.float .f32 ((rsR n x st sh ⟨a, h, v, 0⟩ k).a), .float .f32 ((rsR n x st sh ⟨a, h, v, 0⟩ k).h), .float .f32 ((rsR n x st sh ⟨a, h, v, 0⟩ k).v)], 88)) in1) Try.underlying88 (by rfl) info_par ?_)
            refine CU.out.mono ?_
            rintro e w4 ⟨rfl, hb4⟩
            have k4 := hid (k3.out.stay hb4)
            have f4 := k4.out.fresh
            have k5 := hid (k4.out.push #[.float .f32 (0), .float .f32 (0), .float .f32 (0)] 88)
            have hs4 : w.heap.size + 1 < w4.heap.size := k4.out.lt in0
            have tok2 : True := trivial
            clear k3 hb4 CU c0
            go_wp2_with (first | (have _t := tok2; clear tok2; refine store_row (by rfl) 88 _ _ (by rfl) (w4.heap.size) (#[.float .f32 (0), .float .f32 (0), .float .f32 (0)]) (#[.float .f32 (0), .float .f32 (0), .float .f32 (0)]) (by rfl) (by rfl) k5.out info_par (by simp) (by simp [Value.oneCell']) (by omega) f4 ?_; intro w6 k6; replace k6 := hid k6.tail; clear k5 f4; have tok3 : True := trivial) | (have _t := tok3; clear tok3; refine store_row (by rfl) 88 _ _ (by rfl) (w.heap.size + 1) (#[.float .f32 (0), .float .f32 (0), .float .f32 (0)]) (#[.float .f32 (0), .float .f32 (0), .float .f32 (0)]) (by rfl) (by rfl) k6.out info_par (by simp) (by simp [Value.oneCell']) (by omega) (neC (by omega) ne0) ?_; intro wz kz; replace kz := hid kz))
            exact bodyPost_ret (results_row_tmp3 rfl _ _ (w.heap.size + 1) 88 (#[.float .f32 (0), .float .f32 (0), .float .f32 (0)]) (0, 0) _ rfl (kz.out.at (x := (w.heap.size + 1, #[.float .f32 (0), .float .f32 (0), .float .f32 (0)], 88)) in0) Try.underlying88 rfl info_par) rfl ⟨rfl, kz.out.1⟩
          · clear lot
            have tok1 : True := trivial
            go_wp2_with (have _t := tok1; clear tok1; refine wpList_load_row (by rfl) 88 _ (by rfl) (w.heap.size) (by rfl) 88 (#[.float .f32 ((rsR n x st sh ⟨a, h, v, 0⟩ k).a), .float .f32 ((rsR n x st sh ⟨a, h, v, 0⟩ k).h), .float .f32 ((rsR n x st sh ⟨a, h, v, 0⟩ k).v)]) (0, 0) _ (k3.out.at (x := (w.heap.size, #[.float .f32 ((rsR n x st sh ⟨a, h, v, 0⟩ k).a), .float .f32 ((rsR n x st sh ⟨a, h, v, 0⟩ k).h), .float .f32 ((rsR n x st sh ⟨a, h, v, 0⟩ k).v)], 88)) in1) Try.underlying88 (by rfl) info_par ?_)
            refine CU.out.mono ?_
            rintro e w4 ⟨rfl, hb4⟩
            have k4 := hid (k3.out.stay hb4)
            have f4 := k4.out.fresh
            have k5 := hid (k4.out.push #[.float .f32 (0), .float .f32 (0), .float .f32 (0)] 88)
            have hs4 : w.heap.size + 1 < w4.heap.size := k4.out.lt in0
            have tok2 : True := trivial
            clear k3 hb4 CU c0
            go_wp2_with (first | (have _t := tok2; clear tok2; refine store_row (by rfl) 88 _ _ (by rfl) (w4.heap.size) (#[.float .f32 (0), .float .f32 (0), .float .f32 (0)]) (#[.float .f32 (0), .float .f32 (0), .float .f32 (0)]) (by rfl) (by rfl) k5.out info_par (by simp) (by simp [Value.oneCell']) (by omega) f4 ?_; intro w6 k6; replace k6 := hid k6.tail; clear k5 f4; have tok3 : True := trivial) | (have _t := tok3; clear tok3; refine store_row (by rfl) 88 _ _ (by rfl) (w.heap.size + 1) (#[.float .f32 (0), .float .f32 (0), .float .f32 (0)]) (#[.float .f32 (0), .float .f32 (0), .float .f32 (0)]) (by rfl) (by rfl) k6.out info_par (by simp) (by simp [Value.oneCell']) (by omega) (neC (by omega) ne0) ?_; intro wz kz; replace kz := hid kz))
            exact bodyPost_ret (results_row_tmp3 rfl _ _ (w.heap.size + 1) 88 (#[.float .f32 (0), .float .f32 (0), .float .f32 (0)]) (0, 0) _ rfl (kz.out.at (x := (w.heap.size + 1, #[.float .f32 (0), .float .f32 (0), .float .f32 (0)], 88)) in0) Try.underlying88 rfl info_par) rfl ⟨rfl, kz.out.1⟩
        · have MM := r_mo (n := n) (x := x) (sh := sh) V hz hm
          have X := r_mix HX.out (souB_iff.1 HQ.out) HSH.out hz MM
          have C1 := fun u2 => sMoist_ok (rsR n x st sh ⟨a, h, v, 0⟩ k).a (rsR n x st sh ⟨a, h, v, 0⟩ k).h (rsR n x st sh ⟨a, h, v, 0⟩ k).v (zR st (rsR n x st sh ⟨a, h, v, 0⟩ k)) 1 V.hl V.p hz (by omega) (by omega) (fun j hj => by obtain rfl : j = 0 := (by omega); exact hm) u2
          have C2 := fun (u2 : World) (hu2 : Below w3.heap.size w3 u2) => sAt n x HX.out HQ.out (zR st (rsR n x st sh ⟨a, h, v, 0⟩ k)) hlz u2 _ (HR.out u2 (k3.out.stay hu2).1) (atR n x (zR st (rsR n x st sh ⟨a, h, v, 0⟩ k))).1 (atR n x (zR st (rsR n x st sh ⟨a, h, v, 0⟩ k))).2.1 (atR n x (zR st (rsR n x st sh ⟨a, h, v, 0⟩ k))).2.2 rfl
          by_cases h2 : (atR n x (zR st (rsR n x st sh ⟨a, h, v, 0⟩ k))).2.2 = 0
          · rw [h2] at C2
            rcases h3 : airB (mhR n x st sh (rsR n x st sh ⟨a, h, v, 0⟩ k)) (mvR n x st sh (rsR n x st sh ⟨a, h, v, 0⟩ k)) with _ | _
            · have hu : upR n x st sh (rsR n x st sh ⟨a, h, v, 0⟩ k) = 4 := by unfold upR; rw [if_pos hm, if_pos h2, if_neg (by rw [h3]; decide)]
              obtain rfl : k = K := by
                rcases hkk with h | h
                · have := (HM.out k h).2.2
                  rw [hu] at this; exact absurd this (by decide)
                · exact h
              obtain ⟨rfl, rfl, rfl, rfl, rfl, hc6⟩ := H3.out hc hgo
              rw [hu] at hc6
              subst hc6
              have CU := hid (sUp_f3 (.slice (some ⟨b, o, none⟩) n cap) (rsR n x st sh ⟨a, h, v, 0⟩ k).a (rsR n x st sh ⟨a, h, v, 0⟩ k).h (rsR n x st sh ⟨a, h, v, 0⟩ k).v sh (zR st (rsR n x st sh ⟨a, h, v, 0⟩ k)) (moRs st (rsR n x st sh ⟨a, h, v, 0⟩ k)).h (moRs st (rsR n x st sh ⟨a, h, v, 0⟩ k)).v _ (atR n x (zR st (rsR n x st sh ⟨a, h, v, 0⟩ k))).1 (atR n x (zR st (rsR n x st sh ⟨a, h, v, 0⟩ k))).2.1 4 w3 (fun u2 _ => C1 u2) C2 (fun u2 g2 hg2 => sMixed_state _ _ _ _ _ sh X.1 X.2 h3 u2 g2 0 hg2))
              clear V hz RS hlz hm hu hkk hc hgo H2 H3 MM X C1 C2 h2 h3
              refine lot _ (fun g3 => ?_) (fun g3 g4 => ?_)
              · clear lot
                have tok1 : True := trivial
                go_wp2_with (have _t := tok1; clear tok1; refine wpList_load_row (by rfl) 88 _ (by rfl) (w.heap.size) (by rfl) 88 (#[.float .f32 ((rsR n x st sh ⟨a, h, v, 0⟩ k).a), .float .f32 ((rsR n x st sh ⟨a, h, v, 0⟩ k).h), .float .f32 ((rsR n x st sh ⟨a, h, v, 0⟩ k).v)]) (0, 0) _ (k3.out.at (x := (w.heap.size, #[.float .f32 ((rsR n x st sh ⟨a, h, v, 0⟩ k).a), .float .f32 ((rsR n x st sh ⟨a, h, v, 0⟩ k).h), .float .f32 ((rsR n x st sh ⟨a, h, v, 0⟩ k).v)], 88)) in1) Try.underlying88 (by rfl) info_par ?_)
                refine CU.out.mono ?_
                rintro e w4 ⟨rfl, hb4⟩
                have k4 := hid (k3.out.stay hb4)
                have f4 := k4.out.fresh
                have k5 := hid (k4.out.push #[.float .f32 (0), .float .f32 (0), .float .f32 (0)] 88)
                have hs4 : w.heap.size + 1 < w4.heap.size := k4.out.lt in0
                have tok2 : True := trivial
                clear k3 hb4 CU c0
                go_wp2_with (first | (have _t := tok2; clear tok2; refine store_row (by rfl) 88 _ _ (by rfl) (w4.heap.size) (#[.float .f32 (0), .float .f32 (0), .float .f32 (0)]) (#[.float .f32 (0), .float .f32 (0), .float .f32 (0)]) (by rfl) (by rfl) k5.out info_par (by simp) (by simp [Value.oneCell']) (by omega) f4 ?_; intro w6 k6; replace k6 := hid k6.tail; clear k5 f4; have tok3 : True := trivial) | (have _t := tok3; clear tok3; refine store_row (by rfl) 88 _ _ (by rfl) (w.heap.size + 1) (#[.float .f32 (0), .float .f32 (0), .float .f32 (0)]) (#[.float .f32 (0), .float .f32 (0), .float .f32 (0)]) (by rfl) (by rfl) k6.out info_par (by simp) (by simp [Value.oneCell']) (by omega) (neC (by omega) ne0) ?_; intro wz kz; replace kz := hid kz))
                exact bodyPost_ret (results_row_tmp3 rfl _ _ (w.heap.size + 1) 88 (#[.float .f32 (0), .float .f32 (0), .float .f32 (0)]) (0, 0) _ rfl (kz.out.at (x := (w.heap.size + 1, #[.float .f32 (0), .float .f32 (0), .float .f32 (0)], 88)) in0) Try.underlying88 rfl info_par) rfl ⟨rfl, kz.out.1⟩
              · clear lot
                have tok1 : True := trivial
                go_wp2_with (have _t := tok1; clear tok1; refine wpList_load_row (by rfl) 88 _ (by rfl) (w.heap.size) (by rfl) 88 (#[.float .f32 ((rsR n x st sh ⟨a, h, v, 0⟩ k).a), .float .f32 ((rsR n x st sh ⟨a, h, v, 0⟩ k).h), .float .f32 ((rsR n x st sh ⟨a, h, v, 0⟩ k).v)]) (0, 0) _ (k3.out.at (x := (w.heap.size, #[.float .f32 ((rsR n x st sh ⟨a, h, v, 0⟩ k).a), .float .f32 ((rsR n x st sh ⟨a, h, v, 0⟩ k).h), .float .f32 ((rsR n x st sh ⟨a, h, v, 0⟩ k).v)], 88)) in1) Try.underlying88 (by rfl) info_par ?_)
                refine CU.out.mono ?_
                rintro e w4 ⟨rfl, hb4⟩
                have k4 := hid (k3.out.stay hb4)
                have f4 := k4.out.fresh
                have k5 := hid (k4.out.push #[.float .f32 (0), .float .f32 (0), .float .f32 (0)] 88)
                have hs4 : w.heap.size + 1 < w4.heap.size := k4.out.lt in0
                have tok2 : True := trivial
                clear k3 hb4 CU c0
                go_wp2_with (first | (have _t := tok2; clear tok2; refine store_row (by rfl) 88 _ _ (by rfl) (w4.heap.size) (#[.float .f32 (0), .float .f32 (0), .float .f32 (0)]) (#[.float .f32 (0), .float .f32 (0), .float .f32 (0)]) (by rfl) (by rfl) k5.out info_par (by simp) (by simp [Value.oneCell']) (by omega) f4 ?_; intro w6 k6; replace k6 := hid k6.tail; clear k5 f4; have tok3 : True := trivial) | (have _t := tok3; clear tok3; refine store_row (by rfl) 88 _ _ (by rfl) (w.heap.size + 1) (#[.float .f32 (0), .float .f32 (0), .float .f32 (0)]) (#[.float .f32 (0), .float .f32 (0), .float .f32 (0)]) (by rfl) (by rfl) k6.out info_par (by simp) (by simp [Value.oneCell']) (by omega) (neC (by omega) ne0) ?_; intro wz kz; replace kz := hid kz))
                exact bodyPost_ret (results_row_tmp3 rfl _ _ (w.heap.size + 1) 88 (#[.float .f32 (0), .float .f32 (0), .float .f32 (0)]) (0, 0) _ rfl (kz.out.at (x := (w.heap.size + 1, #[.float .f32 (0), .float .f32 (0), .float .f32 (0)], 88)) in0) Try.underlying88 rfl info_par) rfl ⟨rfl, kz.out.1⟩
            · have hu : upR n x st sh (rsR n x st sh ⟨a, h, v, 0⟩ k) = 0 := by unfold upR; rw [if_pos hm, if_pos h2, if_pos h3]
              have HLT : Hid (k < K) := hid (by
                rcases hkk with h | h
                · exact h
                · subst h; exact absurd ⟨hc, hgo, hu⟩ HN.out)
              have CU := hid (sUp_ok (.slice (some ⟨b, o, none⟩) n cap) (rsR n x st sh ⟨a, h, v, 0⟩ k).a (rsR n x st sh ⟨a, h, v, 0⟩ k).h (rsR n x st sh ⟨a, h, v, 0⟩ k).v sh (zR st (rsR n x st sh ⟨a, h, v, 0⟩ k)) (moRs st (rsR n x st sh ⟨a, h, v, 0⟩ k)).h (moRs st (rsR n x st sh ⟨a, h, v, 0⟩ k)).v _ (atR n x (zR st (rsR n x st sh ⟨a, h, v, 0⟩ k))).1 (atR n x (zR st (rsR n x st sh ⟨a, h, v, 0⟩ k))).2.1 (mhR n x st sh (rsR n x st sh ⟨a, h, v, 0⟩ k)) (mvR n x st sh (rsR n x st sh ⟨a, h, v, 0⟩ k)) w3 (fun u2 _ => C1 u2) C2 (fun u2 g2 hg2 => sMixed_ok _ _ _ _ _ sh X.1 X.2 h3 u2 g2 0 hg2))
              have rm := fun w => run_float_arith (P := Try.prog) w .mul 22 .f32 _ _ _ RS.m
              have rd := fun w => run_float_arith (P := Try.prog) w .add 22 .f32 _ _ _ RS.d
              clear V hz RS hlz hm hu hkk hc hgo H2 H3 MM X C1 C2 h2 h3
              refine lot _ (fun g3 => ?_) (fun g3 g4 => ?_)
              · clear lot
                have tok1 : True := trivial
                go_wp2_with (have _t := tok1; clear tok1; refine wpList_load_row (by rfl) 88 _ (by rfl) (w.heap.size) (by rfl) 88 (#[.float .f32 ((rsR n x st sh ⟨a, h, v, 0⟩ k).a), .float .f32 ((rsR n x st sh ⟨a, h, v, 0⟩ k).h), .float .f32 ((rsR n x st sh ⟨a, h, v, 0⟩ k).v)]) (0, 0) _ (k3.out.at (x := (w.heap.size, #[.float .f32 ((rsR n x st sh ⟨a, h, v, 0⟩ k).a), .float .f32 ((rsR n x st sh ⟨a, h, v, 0⟩ k).h), .float .f32 ((rsR n x st sh ⟨a, h, v, 0⟩ k).v)], 88)) in1) Try.underlying88 (by rfl) info_par ?_)
                refine CU.out.mono ?_
                rintro e w4 ⟨rfl, hb4⟩
                have k4 := hid (k3.out.stay hb4)
                have f4 := k4.out.fresh
                have k5 := hid (k4.out.push #[.float .f32 (0), .float .f32 (0), .float .f32 (0)] 88)
                have hs4 : w.heap.size + 1 < w4.heap.size := k4.out.lt in0
                have tok2 : True := trivial
                clear k3 hb4 CU c0
                go_wp2_with (first | (have _t := tok2; clear tok2; refine store_row (by rfl) 88 _ _ (by rfl) (w4.heap.size) (#[.float .f32 (zR st (rsR n x st sh ⟨a, h, v, 0⟩ k)), .float .f32 (mhR n x st sh (rsR n x st sh ⟨a, h, v, 0⟩ k)), .float .f32 (mvR n x st sh (rsR n x st sh ⟨a, h, v, 0⟩ k))]) (#[.float .f32 (0), .float .f32 (0), .float .f32 (0)]) (by rfl) (by rfl) k5.out info_par (by simp) (by simp [Value.oneCell']) (by omega) f4 ?_; intro w6 k6; replace k6 := hid k6; clear k5 f4; have tok3 : True := trivial) | (have _t := tok3; clear tok3; refine wpList_load_row (by rfl) 88 _ (by rfl) (w4.heap.size) (by rfl) 88 (#[.float .f32 (zR st (rsR n x st sh ⟨a, h, v, 0⟩ k)), .float .f32 (mhR n x st sh (rsR n x st sh ⟨a, h, v, 0⟩ k)), .float .f32 (mvR n x st sh (rsR n x st sh ⟨a, h, v, 0⟩ k))]) (0, 0) _ (k6.out.at (x := (w4.heap.size, #[.float .f32 (zR st (rsR n x st sh ⟨a, h, v, 0⟩ k)), .float .f32 (mhR n x st sh (rsR n x st sh ⟨a, h, v, 0⟩ k)), .float .f32 (mvR n x st sh (rsR n x st sh ⟨a, h, v, 0⟩ k))], 88)) in0) Try.underlying88 (by rfl) info_par ?_; have tok4 : True := trivial) | (have _t := tok4; clear tok4; refine store_row (by rfl) 88 _ _ (by rfl) (w.heap.size) (#[.float .f32 (zR st (rsR n x st sh ⟨a, h, v, 0⟩ k)), .float .f32 (mhR n x st sh (rsR n x st sh ⟨a, h, v, 0⟩ k)), .float .f32 (mvR n x st sh (rsR n x st sh ⟨a, h, v, 0⟩ k))]) (#[.float .f32 ((rsR n x st sh ⟨a, h, v, 0⟩ k).a), .float .f32 ((rsR n x st sh ⟨a, h, v, 0⟩ k).h), .float .f32 ((rsR n x st sh ⟨a, h, v, 0⟩ k).v)]) (by rfl) (by rfl) (k6.out.sub (l' := [(w.heap.size, #[.float .f32 ((rsR n x st sh ⟨a, h, v, 0⟩ k).a), .float .f32 ((rsR n x st sh ⟨a, h, v, 0⟩ k).h), .float .f32 ((rsR n x st sh ⟨a, h, v, 0⟩ k).v)], 88), (w.heap.size + 1, #[.float .f32 (0), .float .f32 (0), .float .f32 (0)], 88)]) (by intro y hy; simp only [List.mem_cons, List.not_mem_nil, or_false] at hy ⊢; rcases hy with h | h <;> simp [h])) info_par (by simp) (by simp [Value.oneCell']) (by omega) (neC (by omega) ne0) ?_; intro w7 k7; replace k7 := hid k7; clear k6))
                go_roundw
                case rel => exact ⟨k + 1, HLT.out, rfl, by go_num, hid k7.out.swap⟩
                case measure => have := hkM2.out; simp [intOf]; omega
              · clear lot
                have tok1 : True := trivial
                go_wp2_with (have _t := tok1; clear tok1; refine wpList_load_row (by rfl) 88 _ (by rfl) (w.heap.size) (by rfl) 88 (#[.float .f32 ((rsR n x st sh ⟨a, h, v, 0⟩ k).a), .float .f32 ((rsR n x st sh ⟨a, h, v, 0⟩ k).h), .float .f32 ((rsR n x st sh ⟨a, h, v, 0⟩ k).v)]) (0, 0) _ (k3.out.at (x := (w.heap.size, #[.float .f32 ((rsR n x st sh ⟨a, h, v, 0⟩ k).a), .float .f32 ((rsR n x st sh ⟨a, h, v, 0⟩ k).h), .float .f32 ((rsR n x st sh ⟨a, h, v, 0⟩ k).v)], 88)) in1) Try.underlying88 (by rfl) info_par ?_)
                refine CU.out.mono ?_
                rintro e w4 ⟨rfl, hb4⟩
                have k4 := hid (k3.out.stay hb4)
                have f4 := k4.out.fresh
                have k5 := hid (k4.out.push #[.float .f32 (0), .float .f32 (0), .float .f32 (0)] 88)
                have hs4 : w.heap.size + 1 < w4.heap.size := k4.out.lt in0
                have tok2 : True := trivial
                clear k3 hb4 CU c0
                go_wp2_with (first | (have _t := tok2; clear tok2; refine store_row (by rfl) 88 _ _ (by rfl) (w4.heap.size) (#[.float .f32 (zR st (rsR n x st sh ⟨a, h, v, 0⟩ k)), .float .f32 (mhR n x st sh (rsR n x st sh ⟨a, h, v, 0⟩ k)), .float .f32 (mvR n x st sh (rsR n x st sh ⟨a, h, v, 0⟩ k))]) (#[.float .f32 (0), .float .f32 (0), .float .f32 (0)]) (by rfl) (by rfl) k5.out info_par (by simp) (by simp [Value.oneCell']) (by omega) f4 ?_; intro w6 k6; replace k6 := hid k6; clear k5 f4; have tok3 : True := trivial) | (have _t := tok3; clear tok3; refine wpList_load_row (by rfl) 88 _ (by rfl) (w4.heap.size) (by rfl) 88 (#[.float .f32 (zR st (rsR n x st sh ⟨a, h, v, 0⟩ k)), .float .f32 (mhR n x st sh (rsR n x st sh ⟨a, h, v, 0⟩ k)), .float .f32 (mvR n x st sh (rsR n x st sh ⟨a, h, v, 0⟩ k))]) (0, 0) _ (k6.out.at (x := (w4.heap.size, #[.float .f32 (zR st (rsR n x st sh ⟨a, h, v, 0⟩ k)), .float .f32 (mhR n x st sh (rsR n x st sh ⟨a, h, v, 0⟩ k)), .float .f32 (mvR n x st sh (rsR n x st sh ⟨a, h, v, 0⟩ k))], 88)) in0) Try.underlying88 (by rfl) info_par ?_; have tok4 : True := trivial) | (have _t := tok4; clear tok4; refine store_row (by rfl) 88 _ _ (by rfl) (w.heap.size) (#[.float .f32 (zR st (rsR n x st sh ⟨a, h, v, 0⟩ k)), .float .f32 (mhR n x st sh (rsR n x st sh ⟨a, h, v, 0⟩ k)), .float .f32 (mvR n x st sh (rsR n x st sh ⟨a, h, v, 0⟩ k))]) (#[.float .f32 ((rsR n x st sh ⟨a, h, v, 0⟩ k).a), .float .f32 ((rsR n x st sh ⟨a, h, v, 0⟩ k).h), .float .f32 ((rsR n x st sh ⟨a, h, v, 0⟩ k).v)]) (by rfl) (by rfl) (k6.out.sub (l' := [(w.heap.size, #[.float .f32 ((rsR n x st sh ⟨a, h, v, 0⟩ k).a), .float .f32 ((rsR n x st sh ⟨a, h, v, 0⟩ k).h), .float .f32 ((rsR n x st sh ⟨a, h, v, 0⟩ k).v)], 88), (w.heap.size + 1, #[.float .f32 (0), .float .f32 (0), .float .f32 (0)], 88)]) (by intro y hy; simp only [List.mem_cons, List.not_mem_nil, or_false] at hy ⊢; rcases hy with h | h <;> simp [h])) info_par (by simp) (by simp [Value.oneCell']) (by omega) (neC (by omega) ne0) ?_; intro w7 k7; replace k7 := hid k7; clear k6))
                go_roundw
                case rel => exact ⟨k + 1, HLT.out, rfl, by go_num, hid k7.out.swap⟩
                case measure => have := hkM2.out; simp [intOf]; omega
          · have hu : upR n x st sh (rsR n x st sh ⟨a, h, v, 0⟩ k) = (atR n x (zR st (rsR n x st sh ⟨a, h, v, 0⟩ k))).2.2 := by unfold upR; rw [if_pos hm, if_neg h2]
            obtain rfl : k = K := by
              rcases hkk with h | h
              · have := (HM.out k h).2.2
                rw [hu] at this; exact absurd this h2
              · exact h
            obtain ⟨rfl, rfl, rfl, rfl, rfl, hc6⟩ := H3.out hc hgo
            rw [hu] at hc6
            subst hc6
            have CU := hid (sUp_f2 (.slice (some ⟨b, o, none⟩) n cap) (rsR n x st sh ⟨a, h, v, 0⟩ k).a (rsR n x st sh ⟨a, h, v, 0⟩ k).h (rsR n x st sh ⟨a, h, v, 0⟩ k).v sh (zR st (rsR n x st sh ⟨a, h, v, 0⟩ k)) (moRs st (rsR n x st sh ⟨a, h, v, 0⟩ k)).h (moRs st (rsR n x st sh ⟨a, h, v, 0⟩ k)).v _ (atR n x (zR st (rsR n x st sh ⟨a, h, v, 0⟩ k))).1 (atR n x (zR st (rsR n x st sh ⟨a, h, v, 0⟩ k))).2.1 (atR n x (zR st (rsR n x st sh ⟨a, h, v, 0⟩ k))).2.2 h2 w3 (fun u2 _ => C1 u2) C2)
            clear V hz RS hlz hm hu hkk hc hgo H2 H3 MM X C1 C2
            refine lot _ (fun g3 => ?_) (fun g3 g4 => ?_)
            · clear lot
              have tok1 : True := trivial
              go_wp2_with (have _t := tok1; clear tok1; refine wpList_load_row (by rfl) 88 _ (by rfl) (w.heap.size) (by rfl) 88 (#[.float .f32 ((rsR n x st sh ⟨a, h, v, 0⟩ k).a), .float .f32 ((rsR n x st sh ⟨a, h, v, 0⟩ k).h), .float .f32 ((rsR n x st sh ⟨a, h, v, 0⟩ k).v)]) (0, 0) _ (k3.out.at (x := (w.heap.size, #[.float .f32 ((rsR n x st sh ⟨a, h, v, 0⟩ k).a), .float .f32 ((rsR n x st sh ⟨a, h, v, 0⟩ k).h), .float .f32 ((rsR n x st sh ⟨a, h, v, 0⟩ k).v)], 88)) in1) Try.underlying88 (by rfl) info_par ?_)
              refine CU.out.mono ?_
              rintro e w4 ⟨rfl, hb4⟩
              have k4 := hid (k3.out.stay hb4)
              have f4 := k4.out.fresh
              have k5 := hid (k4.out.push #[.float .f32 (0), .float .f32 (0), .float .f32 (0)] 88)
              have hs4 : w.heap.size + 1 < w4.heap.size := k4.out.lt in0
              have tok2 : True := trivial
              clear k3 hb4 CU c0
              go_wp2_with (first | (have _t := tok2; clear tok2; refine store_row (by rfl) 88 _ _ (by rfl) (w4.heap.size) (#[.float .f32 (0), .float .f32 (0), .float .f32 (0)]) (#[.float .f32 (0), .float .f32 (0), .float .f32 (0)]) (by rfl) (by rfl) k5.out info_par (by simp) (by simp [Value.oneCell']) (by omega) f4 ?_; intro w6 k6; replace k6 := hid k6.tail; clear k5 f4; have tok3 : True := trivial) | (have _t := tok3; clear tok3; refine store_row (by rfl) 88 _ _ (by rfl) (w.heap.size + 1) (#[.float .f32 (0), .float .f32 (0), .float .f32 (0)]) (#[.float .f32 (0), .float .f32 (0), .float .f32 (0)]) (by rfl) (by rfl) k6.out info_par (by simp) (by simp [Value.oneCell']) (by omega) (neC (by omega) ne0) ?_; intro wz kz; replace kz := hid kz))
              exact bodyPost_ret (results_row_tmp3 rfl _ _ (w.heap.size + 1) 88 (#[.float .f32 (0), .float .f32 (0), .float .f32 (0)]) (0, 0) _ rfl (kz.out.at (x := (w.heap.size + 1, #[.float .f32 (0), .float .f32 (0), .float .f32 (0)], 88)) in0) Try.underlying88 rfl info_par) rfl ⟨rfl, kz.out.1⟩
            · clear lot
              have tok1 : True := trivial
              go_wp2_with (have _t := tok1; clear tok1; refine wpList_load_row (by rfl) 88 _ (by rfl) (w.heap.size) (by rfl) 88 (#[.float .f32 ((rsR n x st sh ⟨a, h, v, 0⟩ k).a), .float .f32 ((rsR n x st sh ⟨a, h, v, 0⟩ k).h), .float .f32 ((rsR n x st sh ⟨a, h, v, 0⟩ k).v)]) (0, 0) _ (k3.out.at (x := (w.heap.size, #[.float .f32 ((rsR n x st sh ⟨a, h, v, 0⟩ k).a), .float .f32 ((rsR n x st sh ⟨a, h, v, 0⟩ k).h), .float .f32 ((rsR n x st sh ⟨a, h, v, 0⟩ k).v)], 88)) in1) Try.underlying88 (by rfl) info_par ?_)
              refine CU.out.mono ?_
              rintro e w4 ⟨rfl, hb4⟩
              have k4 := hid (k3.out.stay hb4)
              have f4 := k4.out.fresh
              have k5 := hid (k4.out.push #[.float .f32 (0), .float .f32 (0), .float .f32 (0)] 88)
              have hs4 : w.heap.size + 1 < w4.heap.size := k4.out.lt in0
              have tok2 : True := trivial
              clear k3 hb4 CU c0
              go_wp2_with (first | (have _t := tok2; clear tok2; refine store_row (by rfl) 88 _ _ (by rfl) (w4.heap.size) (#[.float .f32 (0), .float .f32 (0), .float .f32 (0)]) (#[.float .f32 (0), .float .f32 (0), .float .f32 (0)]) (by rfl) (by rfl) k5.out info_par (by simp) (by simp [Value.oneCell']) (by omega) f4 ?_; intro w6 k6; replace k6 := hid k6.tail; clear k5 f4; have tok3 : True := trivial) | (have _t := tok3; clear tok3; refine store_row (by rfl) 88 _ _ (by rfl) (w.heap.size + 1) (#[.float .f32 (0), .float .f32 (0), .float .f32 (0)]) (#[.float .f32 (0), .float .f32 (0), .float .f32 (0)]) (by rfl) (by rfl) k6.out info_par (by simp) (by simp [Value.oneCell']) (by omega) (neC (by omega) ne0) ?_; intro wz kz; replace kz := hid kz))
              exact bodyPost_ret (results_row_tmp3 rfl _ _ (w.heap.size + 1) 88 (#[.float .f32 (0), .float .f32 (0), .float .f32 (0)]) (0, 0) _ rfl (kz.out.at (x := (w.heap.size + 1, #[.float .f32 (0), .float .f32 (0), .float .f32 (0)], 88)) in0) Try.underlying88 rfl info_par) rfl ⟨rfl, kz.out.1⟩
      · obtain rfl : k = K := by
          rcases hkk with h | h
          · exact absurd (HM.out k h).2.1 hgo
          · exact h
        obtain ⟨rfl, rfl, rfl, rfl, rfl, rfl⟩ := H2.out hc hgo
        have hcs : gtZ (liR n x (rsR n x st sh ⟨a, h, v, 0⟩ k)) = false ∨ (gtZ (liR n x (rsR n x st sh ⟨a, h, v, 0⟩ k)) = true ∧ ¬ (k < M)) ∨ (gtZ (liR n x (rsR n x st sh ⟨a, h, v, 0⟩ k)) = true ∧ k < M ∧ leW (zR st (rsR n x st sh ⟨a, h, v, 0⟩ k)) (x ((n - 1) * 3)) = false) := by
          rcases h1 : gtZ (liR n x (rsR n x st sh ⟨a, h, v, 0⟩ k)) with _ | _
          · exact .inl rfl
          · by_cases h2 : k < M
            · rcases h3 : leW (zR st (rsR n x st sh ⟨a, h, v, 0⟩ k)) (x ((n - 1) * 3)) with _ | _
              · exact .inr (.inr ⟨rfl, h2, rfl⟩)
              · exact absurd ⟨h1, h2, h3⟩ hgo
            · exact .inr (.inl ⟨rfl, h2⟩)
        clear V hgo hkk hc H2 H3
        have tok1 : True := trivial
        rcases hcs with h1 | ⟨h1, h2⟩ | ⟨h1, h2, h3⟩
        · have gg1 : (FloatKind.f32.format.order (liR n x (rsR n x st sh ⟨a, h, v, 0⟩ k)) 0 == some .gt) = false := h1
          clear h1
          go_wp2_with (first | (have _t := tok1; clear tok1; refine wpList_load_row (by rfl) 88 _ (by rfl) (w.heap.size) (by rfl) 88 (#[.float .f32 ((rsR n x st sh ⟨a, h, v, 0⟩ k).a), .float .f32 ((rsR n x st sh ⟨a, h, v, 0⟩ k).h), .float .f32 ((rsR n x st sh ⟨a, h, v, 0⟩ k).v)]) (0, 0) _ (k3.out.at (x := (w.heap.size, #[.float .f32 ((rsR n x st sh ⟨a, h, v, 0⟩ k).a), .float .f32 ((rsR n x st sh ⟨a, h, v, 0⟩ k).h), .float .f32 ((rsR n x st sh ⟨a, h, v, 0⟩ k).v)], 88)) in1) Try.underlying88 (by rfl) info_par ?_; have tok2 : True := trivial) | (have _t := tok2; clear tok2; refine store_row (by rfl) 88 _ _ (by rfl) (w.heap.size + 1) (#[.float .f32 ((rsR n x st sh ⟨a, h, v, 0⟩ k).a), .float .f32 ((rsR n x st sh ⟨a, h, v, 0⟩ k).h), .float .f32 ((rsR n x st sh ⟨a, h, v, 0⟩ k).v)]) (#[.float .f32 (0), .float .f32 (0), .float .f32 (0)]) (by rfl) (by rfl) k3.out info_par (by simp) (by simp [Value.oneCell']) (by omega) (neC (by omega) ne0) ?_; intro wz kz; replace kz := hid kz))
          exact bodyPost_ret (results_row_tmp3 rfl _ _ (w.heap.size + 1) 88 (#[.float .f32 ((rsR n x st sh ⟨a, h, v, 0⟩ k).a), .float .f32 ((rsR n x st sh ⟨a, h, v, 0⟩ k).h), .float .f32 ((rsR n x st sh ⟨a, h, v, 0⟩ k).v)]) (0, 0) _ rfl (kz.out.at (x := (w.heap.size + 1, #[.float .f32 ((rsR n x st sh ⟨a, h, v, 0⟩ k).a), .float .f32 ((rsR n x st sh ⟨a, h, v, 0⟩ k).h), .float .f32 ((rsR n x st sh ⟨a, h, v, 0⟩ k).v)], 88)) in0) Try.underlying88 rfl info_par) rfl ⟨rfl, kz.out.1⟩
        · have gg1 : (FloatKind.f32.format.order (liR n x (rsR n x st sh ⟨a, h, v, 0⟩ k)) 0 == some .gt) = true := h1
          obtain rfl : k = M := by omega
          clear h1 h2
          go_wp2_with (first | (have _t := tok1; clear tok1; refine wpList_load_row (by rfl) 88 _ (by rfl) (w.heap.size) (by rfl) 88 (#[.float .f32 ((rsR n x st sh ⟨a, h, v, 0⟩ k).a), .float .f32 ((rsR n x st sh ⟨a, h, v, 0⟩ k).h), .float .f32 ((rsR n x st sh ⟨a, h, v, 0⟩ k).v)]) (0, 0) _ (k3.out.at (x := (w.heap.size, #[.float .f32 ((rsR n x st sh ⟨a, h, v, 0⟩ k).a), .float .f32 ((rsR n x st sh ⟨a, h, v, 0⟩ k).h), .float .f32 ((rsR n x st sh ⟨a, h, v, 0⟩ k).v)], 88)) in1) Try.underlying88 (by rfl) info_par ?_; have tok2 : True := trivial) | (have _t := tok2; clear tok2; refine store_row (by rfl) 88 _ _ (by rfl) (w.heap.size + 1) (#[.float .f32 ((rsR n x st sh ⟨a, h, v, 0⟩ k).a), .float .f32 ((rsR n x st sh ⟨a, h, v, 0⟩ k).h), .float .f32 ((rsR n x st sh ⟨a, h, v, 0⟩ k).v)]) (#[.float .f32 (0), .float .f32 (0), .float .f32 (0)]) (by rfl) (by rfl) k3.out info_par (by simp) (by simp [Value.oneCell']) (by omega) (neC (by omega) ne0) ?_; intro wz kz; replace kz := hid kz))
          exact bodyPost_ret (results_row_tmp3 rfl _ _ (w.heap.size + 1) 88 (#[.float .f32 ((rsR n x st sh ⟨a, h, v, 0⟩ k).a), .float .f32 ((rsR n x st sh ⟨a, h, v, 0⟩ k).h), .float .f32 ((rsR n x st sh ⟨a, h, v, 0⟩ k).v)]) (0, 0) _ rfl (kz.out.at (x := (w.heap.size + 1, #[.float .f32 ((rsR n x st sh ⟨a, h, v, 0⟩ k).a), .float .f32 ((rsR n x st sh ⟨a, h, v, 0⟩ k).h), .float .f32 ((rsR n x st sh ⟨a, h, v, 0⟩ k).v)], 88)) in0) Try.underlying88 rfl info_par) rfl ⟨rfl, kz.out.1⟩
        · have gg1 : (FloatKind.f32.format.order (liR n x (rsR n x st sh ⟨a, h, v, 0⟩ k)) 0 == some .gt) = true := h1
          have gg2 : (FloatKind.f32.format.order (zR st (rsR n x st sh ⟨a, h, v, 0⟩ k)) (x ((n - 1) * 3)) == some .lt || FloatKind.f32.format.order (zR st (rsR n x st sh ⟨a, h, v, 0⟩ k)) (x ((n - 1) * 3)) == some .eq) = false := h3
          rw [Bool.or_eq_false_iff] at gg2
          have g3 := gg2.1
          have g4 := gg2.2
          have hne : ¬ (k : Int) = (M : Int) := by omega
          clear h1 h2 h3 gg2
          go_wp2_with (first | (have _t := tok1; clear tok1; refine wpList_load_row (by rfl) 88 _ (by rfl) (w.heap.size) (by rfl) 88 (#[.float .f32 ((rsR n x st sh ⟨a, h, v, 0⟩ k).a), .float .f32 ((rsR n x st sh ⟨a, h, v, 0⟩ k).h), .float .f32 ((rsR n x st sh ⟨a, h, v, 0⟩ k).v)]) (0, 0) _ (k3.out.at (x := (w.heap.size, #[.float .f32 ((rsR n x st sh ⟨a, h, v, 0⟩ k).a), .float .f32 ((rsR n x st sh ⟨a, h, v, 0⟩ k).h), .float .f32 ((rsR n x st sh ⟨a, h, v, 0⟩ k).v)], 88)) in1) Try.underlying88 (by rfl) info_par ?_; have tok2 : True := trivial) | (have _t := tok2; clear tok2; refine store_row (by rfl) 88 _ _ (by rfl) (w.heap.size + 1) (#[.float .f32 ((rsR n x st sh ⟨a, h, v, 0⟩ k).a), .float .f32 ((rsR n x st sh ⟨a, h, v, 0⟩ k).h), .float .f32 ((rsR n x st sh ⟨a, h, v, 0⟩ k).v)]) (#[.float .f32 (0), .float .f32 (0), .float .f32 (0)]) (by rfl) (by rfl) k3.out info_par (by simp) (by simp [Value.oneCell']) (by omega) (neC (by omega) ne0) ?_; intro wz kz; replace kz := hid kz))
          exact bodyPost_ret (results_row_tmp3 rfl _ _ (w.heap.size + 1) 88 (#[.float .f32 ((rsR n x st sh ⟨a, h, v, 0⟩ k).a), .float .f32 ((rsR n x st sh ⟨a, h, v, 0⟩ k).h), .float .f32 ((rsR n x st sh ⟨a, h, v, 0⟩ k).v)]) (0, 0) _ rfl (kz.out.at (x := (w.heap.size + 1, #[.float .f32 ((rsR n x st sh ⟨a, h, v, 0⟩ k).a), .float .f32 ((rsR n x st sh ⟨a, h, v, 0⟩ k).h), .float .f32 ((rsR n x st sh ⟨a, h, v, 0⟩ k).v)], 88)) in0) Try.underlying88 rfl info_par) rfl ⟨rfl, kz.out.1⟩
    · obtain rfl : k = K := by
        rcases hkk with h | h
        · exact absurd (HM.out k h).1 hc
        · exact h
      obtain ⟨rfl, rfl, rfl, rfl, rfl, rfl⟩ := H1.out hc
      have hr : atR n x (rsR n x st sh ⟨a, h, v, 0⟩ k).a = ((atR n x (rsR n x st sh ⟨a, h, v, 0⟩ k).a).1, (atR n x (rsR n x st sh ⟨a, h, v, 0⟩ k).a).2.1, (atR n x (rsR n x st sh ⟨a, h, v, 0⟩ k).a).2.2) := rfl
      have CL := hid (sLift_none n x HX.out HQ.out (rsR n x st sh ⟨a, h, v, 0⟩ k).a (rsR n x st sh ⟨a, h, v, 0⟩ k).h (rsR n x st sh ⟨a, h, v, 0⟩ k).v V.al V.hl V.vl _ _ _ hr hc wr _ (HR.out wr h0.out.1) w.heap.size 88 PA)
      clear V hr PA hkk H1 H2 H3
      go_wp2_with fail
      refine CL.out.mono ?_
      rintro e w3 ⟨rfl, hb3⟩
      have k3 := hid (h0.out.stay hb3)
      clear h0 hb3 CL
      go_wp2_with (refine store_row (by rfl) 88 _ _ (by rfl) (w.heap.size + 1) (#[.float .f32 (0), .float .f32 (0), .float .f32 (0)]) (#[.float .f32 (0), .float .f32 (0), .float .f32 (0)]) (by rfl) (by rfl) k3.out info_par (by simp) (by simp [Value.oneCell']) (by omega) (neC (by omega) ne0) ?_; intro wz kz; replace kz := hid kz)
      exact bodyPost_ret (results_row_tmp3 rfl _ _ (w.heap.size + 1) 88 (#[.float .f32 (0), .float .f32 (0), .float .f32 (0)]) (0, 0) _ rfl (kz.out.at (x := (w.heap.size + 1, #[.float .f32 (0), .float .f32 (0), .float .f32 (0)], 88)) in0) Try.underlying88 rfl info_par) rfl ⟨rfl, kz.out.1⟩
end Go.Proofs.Ythpimindkmmkjaa
