import Derived.Test.YthpimindkmmkjaaURiseIn
import Derived.Test.YthpimindkmmkjaaCRiseIn
import Derived.Test.YthpimindkmmkjaaChecked
import Derived.Test.YthpimindkmmkjaaRows
import Derived.Laws.FloatArith
import Derived.ProofKit
import Derived.WalkKit
import Derived.WalkLawsBesides
import Derived.WalkSpells
import Derived.Deep.QuietTactic
import Derived.BigQuiet
import Derived.Deep.RegionHeld3
import Derived.ChangeKeysEq
import Derived.Laws.BitsAllLaws
import Derived.Deep.MidRow
import Derived.Deep.WholeRow
import Derived.StillTailTactics
import Derived.Deep.Slices
import Derived.ChangeSame
import Derived.OrdersIn
import Derived.ControlIn
import Derived.RangeFuncSeq
import Derived.RangeFuncNested
import Derived.RangeFuncLeaves
import Derived.RangeFuncBox
import Derived.OwnWalkIn
import Derived.TacticsInMore
import Derived.LoopNIn
import Derived.LoopIn
import Derived.Shelf.Abstract
import Derived.ArgAppend
import Derived.Lib.SliceRun
import Derived.OpenShut
import Derived.Below
import Derived.Laws.AppendOwn
import Derived.MapKept
import Derived.StillTail
import Derived.ScopeJumps
/- The law FnExactRiseIn of chapter 1: at every argument the call returns true, and what was there before it is as it was. -/
namespace Go.Proofs.Ythpimindkmmkjaa
open Go.RowKit Go.Fl

theorem info_ris : (Try.prog.info? 258).map (·.size) = some 4 := by kernel_rfl

/-- What a raised parcel's heat would be. -/
def rdW (a h y : Nat) : Nat := fsb h (fmul 1092616192 (fsb y a))

structure RdF (a h y : Nat) : Prop where
  s1 : S.sub y a = some (fsb y a)
  s2 : S.mul 1092616192 (fsb y a) = some (fmul 1092616192 (fsb y a))
  s3 : S.sub h (fmul 1092616192 (fsb y a)) = some (rdW a h y)
  lt : rdW a h y < 4294967296

theorem rd_facts {a h y : Nat} (fa : FW a) (fh : FW h) (fy : FW y) : RdF a h y := by
  have d := sub_nw fy fa
  have m := mul_nw (x := 1092616192) (by exact ⟨by decide, by decide⟩) (by decide +kernel) d.2
  have s := sub_nw2 fh m.2
  exact ⟨d.1, m.1, s.1, s.2.1⟩

set_option maxRecDepth 100000 in
set_option maxHeartbeats 1000000 in
theorem iFitAir_t (h v : Nat) (hv : v < 4294967296) (hq : airB h v = true) (w : World) :
    Calls Try.prog 173 #[.agg #[.float .f32 h, .float .f32 v]] w fun e w' => e = .returned (.agg #[.float .f32 h, .float .f32 v]) ∧ Below w.heap.size w w' := by
  have k0 : Hid (Kept w [(w.heap.size, #[.float .f32 h, .float .f32 v], 32), (w.heap.size + 1, #[.float .f32 0, .float .f32 0], 32)] ((w.alloc (.cells #[.float .f32 h, .float .f32 v] 32)).alloc (.cells #[.float .f32 0, .float .f32 0] 32))) := hid ((((Kept.nil w).push _ _).push _ _).sub (by simp))
  have HV := hid (fun u => iValidAir h v hv true hq u)
  clear hv hq
  go_enter Try.func173, Try.ntmps173
  go_wp2_with fail
  refine (HV.out _).mono ?_
  rintro e w1 ⟨rfl, hb1⟩
  have k1 := hid (k0.out.stay hb1)
  have tok1 : True := trivial
  go_wp2_with (first | (refine wpList_load_row rfl 32 _ rfl (w.heap.size) rfl 32 (#[.float .f32 h, .float .f32 v]) (0, 0) _ (k1.out.at (x := (w.heap.size, #[.float .f32 h, .float .f32 v], 32)) (by simp)) Try.underlying32 rfl info_air ?_) | (have _t := tok1; (refine store_kept (w0 := w) (l := [(w.heap.size, #[.float .f32 h, .float .f32 v], 32)]) rfl 32 _ _ rfl (w.heap.size + 1) (#[.float .f32 h, .float .f32 v]) rfl rfl 32 (#[.float .f32 0, .float .f32 0]) (k1.out.swap) (by omega) (by first | (simp; done) | (simp; omega)) info_air rfl (by simp [Value.oneCell']) (fun w7 k7 => ?_); replace k7 := hid k7); clear tok1))
  exact bodyPost_ret (results_cell_row rfl _ _ (w.heap.size + 1) 32 (#[.float .f32 h, .float .f32 v]) (0, 0) _ rfl (k7.out.at (x := (w.heap.size + 1, #[.float .f32 h, .float .f32 v], 32)) (by simp)) Try.underlying32 rfl info_air) rfl ⟨rfl, k7.out.1⟩

set_option maxRecDepth 100000 in
set_option maxHeartbeats 1000000 in
theorem iFitAir_f (h v : Nat) (hv : v < 4294967296) (hq : airB h v = false) (w : World) :
    Calls Try.prog 173 #[.agg #[.float .f32 h, .float .f32 v]] w fun e w' => e = .panicked [{ v := .iface 255 (.agg #[.float .f32 h, .float .f32 v]), recovered := false }] ∧ Below w.heap.size w w' := by
  have k0 : Hid (Kept w [(w.heap.size, #[.float .f32 h, .float .f32 v], 32), (w.heap.size + 1, #[.float .f32 0, .float .f32 0], 32)] ((w.alloc (.cells #[.float .f32 h, .float .f32 v] 32)).alloc (.cells #[.float .f32 0, .float .f32 0] 32))) := hid ((((Kept.nil w).push _ _).push _ _).sub (by simp))
  have HV := hid (fun u => iValidAir h v hv false hq u)
  clear hv hq
  have hcon : Try.prog.concrete 255 = true := by kernel_rfl
  go_enter Try.func173, Try.ntmps173
  go_wp2_with fail
  refine (HV.out _).mono ?_
  rintro e w1 ⟨rfl, hb1⟩
  have k1 := hid (k0.out.stay hb1)
  go_wp2_with (refine wpList_load_row rfl 32 _ rfl (w.heap.size) rfl 32 (#[.float .f32 h, .float .f32 v]) (0, 0) _ (k1.out.at (x := (w.heap.size, #[.float .f32 h, .float .f32 v], 32)) (by simp)) Try.underlying32 rfl info_air ?_)
  exact ⟨rfl, rfl, k1.out.1⟩

set_option maxRecDepth 100000 in
set_option maxHeartbeats 1000000 in
theorem iDry_f (a h v f y : Nat) (D : RdF a h y) (hv : v < 4294967296) (hq : airB (rdW a h y) v = false) (w : World) :
    Calls Try.prog 196 #[.agg #[.float .f32 a, .float .f32 h, .float .f32 v, .float .f32 f], .float .f32 y] w fun e w' => e = .panicked [{ v := .iface 255 (.agg #[.float .f32 (rdW a h y), .float .f32 v]), recovered := false }] ∧ Below w.heap.size w w' := by
  have k0 : Hid (Kept w [(w.heap.size, #[.float .f32 a, .float .f32 h, .float .f32 v, .float .f32 f], 258), (w.heap.size + 1, #[.float .f32 0, .float .f32 0, .float .f32 0, .float .f32 0], 258), (w.heap.size + 1 + 1, #[.float .f32 (rdW a h y), .float .f32 v], 32)] (((w.alloc (.cells #[.float .f32 a, .float .f32 h, .float .f32 v, .float .f32 f] 258)).alloc (.cells #[.float .f32 0, .float .f32 0, .float .f32 0, .float .f32 0] 258)).alloc (.cells #[.float .f32 (rdW a h y), .float .f32 v] 32))) := hid (((((Kept.nil w).push _ _).push _ _).push _ _).sub (by simp))
  have HF := hid (fun u => iFitAir_f (rdW a h y) v hv hq u)
  have r1 := fun w => run_float_arith (P := Try.prog) w .sub 22 .f32 _ _ _ D.s1
  have r2 := fun w => run_float_arith (P := Try.prog) w .mul 22 .f32 _ _ _ D.s2
  have r3 := fun w => run_float_arith (P := Try.prog) w .sub 22 .f32 _ _ _ D.s3
  clear D hv hq
  go_enter Try.func196, Try.ntmps196
  go_wp2_with fail
  refine (HF.out _).mono ?_
  rintro e w1 ⟨rfl, hb1⟩
  have k1 := hid (k0.out.stay hb1)
  exact ⟨rfl, rfl, k1.out.1⟩

set_option maxRecDepth 100000 in
set_option maxHeartbeats 1000000 in
theorem iDry_t (a h v f y : Nat) (D : RdF a h y) (hv : v < 4294967296) (hq : airB (rdW a h y) v = true) (w : World) :
    Calls Try.prog 196 #[.agg #[.float .f32 a, .float .f32 h, .float .f32 v, .float .f32 f], .float .f32 y] w fun e w' => e = .returned (.agg #[.float .f32 y, .float .f32 (rdW a h y), .float .f32 v, .float .f32 f]) ∧ Below w.heap.size w w' := by
  have k0 : Hid (Kept w [(w.heap.size, #[.float .f32 a, .float .f32 h, .float .f32 v, .float .f32 f], 258), (w.heap.size + 1, #[.float .f32 0, .float .f32 0, .float .f32 0, .float .f32 0], 258), (w.heap.size + 1 + 1, #[.float .f32 (rdW a h y), .float .f32 v], 32)] (((w.alloc (.cells #[.float .f32 a, .float .f32 h, .float .f32 v, .float .f32 f] 258)).alloc (.cells #[.float .f32 0, .float .f32 0, .float .f32 0, .float .f32 0] 258)).alloc (.cells #[.float .f32 (rdW a h y), .float .f32 v] 32))) := hid (((((Kept.nil w).push _ _).push _ _).push _ _).sub (by simp))
  have HF := hid (fun u => iFitAir_t (rdW a h y) v hv hq u)
  have r1 := fun w => run_float_arith (P := Try.prog) w .sub 22 .f32 _ _ _ D.s1
  have r2 := fun w => run_float_arith (P := Try.prog) w .mul 22 .f32 _ _ _ D.s2
  have r3 := fun w => run_float_arith (P := Try.prog) w .sub 22 .f32 _ _ _ D.s3
  clear D hv hq
  go_enter Try.func196, Try.ntmps196
  go_wp2_with fail
  refine (HF.out _).mono ?_
  rintro e w1 ⟨rfl, hb1⟩
  have k1 := hid (k0.out.stay hb1)
  have tok1 : True := trivial
  go_wp2_with (first | (have _t := tok1; refine store_part (w0 := w) (l := [(w.heap.size + 1, #[.float .f32 0, .float .f32 0, .float .f32 0, .float .f32 0], 258), (w.heap.size + 1 + 1, #[.float .f32 (rdW a h y), .float .f32 v], 32)]) rfl 88 _ _ rfl (w.heap.size) 0 rfl #[.float .f32 y, .float .f32 (rdW a h y), .float .f32 v] rfl #[.float .f32 a, .float .f32 h, .float .f32 v, .float .f32 f] #[.float .f32 y, .float .f32 (rdW a h y), .float .f32 v, .float .f32 f] 258 k1.out (Nat.le_refl _) (by first | (simp; done) | (simp; omega)) (by simp) info_par (by simp [Value.oneCell']) rfl (fun w6 k6 => ?_); replace k6 := hid k6; clear tok1) | (have _t := k6; (refine store_kept (w0 := w) (l := [(w.heap.size, #[.float .f32 y, .float .f32 (rdW a h y), .float .f32 v, .float .f32 f], 258)]) rfl 258 _ _ rfl (w.heap.size + 1) (#[.float .f32 y, .float .f32 (rdW a h y), .float .f32 v, .float .f32 f]) rfl rfl 258 (#[.float .f32 0, .float .f32 0, .float .f32 0, .float .f32 0]) ((k6.out.sub (l' := [(w.heap.size + 1, #[.float .f32 0, .float .f32 0, .float .f32 0, .float .f32 0], 258), (w.heap.size, #[.float .f32 y, .float .f32 (rdW a h y), .float .f32 v, .float .f32 f], 258)]) (by simp))) (by omega) (by first | (simp; done) | (simp; omega)) info_ris rfl (by simp [Value.oneCell']) (fun w7 k7 => ?_); replace k7 := hid k7)) | (have _t := k6; (refine wpList_load_row rfl 258 _ rfl (w.heap.size) rfl 258 (#[.float .f32 y, .float .f32 (rdW a h y), .float .f32 v, .float .f32 f]) (0, 0) _ (k6.out.at (x := (w.heap.size, #[.float .f32 y, .float .f32 (rdW a h y), .float .f32 v, .float .f32 f], 258)) (by simp)) Try.underlying258 rfl info_ris ?_)))
  exact bodyPost_ret (results_cell_row rfl _ _ (w.heap.size + 1) 258 (#[.float .f32 y, .float .f32 (rdW a h y), .float .f32 v, .float .f32 f]) (0, 0) _ rfl (k7.out.at (x := (w.heap.size + 1, #[.float .f32 y, .float .f32 (rdW a h y), .float .f32 v, .float .f32 f], 258)) (by simp)) Try.underlying258 rfl info_ris) rfl ⟨rfl, k7.out.1⟩

theorem iFault (h v : Nat) (w : World) : Calls Try.prog 233 #[.agg #[.float .f32 h, .float .f32 v]] w fun e w' => e = .returned (.int .i64 4) ∧ Below w.heap.size w w' := by
  have b0 := boxed w (.cells #[.float .f32 h, .float .f32 v] 255)
  go_enter Try.func233, Try.ntmps233
  go_wp2
  go_ret
  exact ⟨rfl, b0⟩

@[go_sem] theorem as_unfit (v : Value) (w : World) : (Instr.typeAssert (.iface 255 v) 20 193 true).run Try.prog w = .ok (.tuple #[.iface 255 v, .bool true]) w := by kernel_rfl

theorem cm_unfit (v : Value) (w : World) : (callMethod (.iface 255 v) "loop.example/g01224/impl.fault" #[]).run Try.prog w = .ok (.enter 233 #[v]) w := by kernel_rfl

set_option maxRecDepth 100000 in
theorem iCodeOf (h v : Nat) (w : World) : Calls Try.prog 71 #[.iface 255 (.agg #[.float .f32 h, .float .f32 v])] w fun e w' => e = .returned (.int .i64 4) ∧ Below w.heap.size w w' := by
  have hm := cm_unfit
  go_enter Try.func71, Try.ntmps71
  go_wp2_with fail
  refine (iFault h v _).mono ?_
  rintro e w1 ⟨rfl, hb1⟩
  go_wp2
  go_ret
  exact ⟨rfl, hb1⟩

set_option maxRecDepth 100000 in
theorem iCatch_panic (h v gc : Nat) (x : Value) (w : World) (hc : w.cell? ⟨gc, 0, none⟩ = some x) (hz : w.frozen? ⟨gc, 0, none⟩ = false) :
    CallsD Try.prog 206 #[.pointer (some ⟨gc, 0, none⟩)] (.panicking [{ v := .iface 255 (.agg #[.float .f32 h, .float .f32 v]), recovered := false }]) w fun e u' w' =>
      e = .returned (.tuple #[]) ∧ u' = .panicking [{ v := .iface 255 (.agg #[.float .f32 h, .float .f32 v]), recovered := true }] ∧ ∃ w1, Below w.heap.size w w1 ∧ w' = w1.setCell ⟨gc, 0, none⟩ (.int .i64 4) := by
  have hne : ∀ w : World, (binOp .neq 20 (.iface 255 (.agg #[.float .f32 h, .float .f32 v])) .nilIface).run Try.prog w = .ok (.bool true) w := fun _ => by kernel_rfl
  refine callsD_of_wpS Try.func206 rfl fun c₀ cs hu => ?_
  apply wpS_seq
  apply wpS_region
  simp [wpOpsS, go_sem, recoverD, hu, Try.ntmps206, Exit.thenS]
  refine wpS_of_wp ?_
  simp only [Array.replicate, List.setIfInBounds_toArray, List.replicate, List.set_cons_zero, List.set_cons_succ, List.append_toArray, List.cons_append, List.nil_append]
  go_wp2_with fail
  refine (iCodeOf h v _).mono ?_
  rintro e w1 ⟨rfl, hb1⟩
  have hc1 := (hb1.cell (block_lt_of_cell hc)).trans hc
  have hz1 : w1.frozen? ⟨gc, 0, none⟩ = false := (hb1.frozen (block_lt_of_cell hc)).trans hz
  clear hc hz
  go_wp2
  exact ⟨rfl, _, rfl, .tuple #[], by simp [results, Try.results206], rfl, rfl, w1, hb1, rfl⟩

theorem iCatch_idle (gc : Nat) (w : World) :
    CallsD Try.prog 206 #[.pointer (some ⟨gc, 0, none⟩)] .returning w fun e u' w' => e = .returned (.tuple #[]) ∧ u' = .returning ∧ w' = w := by
  have hne : ∀ w : World, (binOp .neq 20 .nilIface .nilIface).run Try.prog w = .ok (.bool false) w := fun _ => by kernel_rfl
  refine callsD_of_wpS Try.func206 rfl fun c₀ cs hu => ?_
  apply wpS_seq
  apply wpS_region
  simp [wpOpsS, go_sem, recoverD, hu, Try.ntmps206, Exit.thenS]
  refine wpS_of_wp ?_
  simp only [Array.replicate, List.setIfInBounds_toArray, List.replicate, List.set_cons_zero, List.set_cons_succ, List.append_toArray, List.cons_append, List.nil_append]
  go_wp2
  exact ⟨rfl, .returning, by cases c₀; simp_all, .tuple #[], by simp [results, Try.results206], rfl, rfl, rfl⟩

/-- What the closure of raise has at hand. -/
structure Way (w : World) (gp gh gw gi gs n cap : Nat) (a h v : Nat) (ys : Nat → Nat) (way : Int) (TW : TypeId) : Prop where
  par : parAt w gp a h v 88
  hts : w.cell? ⟨gh, 0, none⟩ = some (.slice (some ⟨gs, 0, none⟩) n cap)
  one : ∀ k, k < n → w.cell? ⟨gs, k, none⟩ = some (.float .f32 (ys k))
  fns : w.heap[gw]? = some (.cells #[.func (.func 196) #[] #[], .func (.func 197) #[] #[]] TW (0, 0))
  way : w.cell? ⟨gi, 0, none⟩ = some (.int .i64 way)

theorem Way.stay {w w' : World} {gp gh gw gi gs n cap a h v : Nat} {ys : Nat → Nat} {way : Int} {TW : TypeId} (k : Way w gp gh gw gi gs n cap a h v ys way TW) (hb : Below w.heap.size w w') : Way w' gp gh gw gi gs n cap a h v ys way TW := by
  refine ⟨k.par.stay hb, (hb.cell (block_lt_of_cell k.hts)).trans k.hts, fun i hi => (hb.cell (block_lt_of_cell (k.one i hi))).trans (k.one i hi), ?_, (hb.cell (block_lt_of_cell k.way)).trans k.way⟩
  rw [hb.block gw (lt_of_block k.fns)]; exact k.fns

set_option maxRecDepth 100000 in
set_option maxHeartbeats 2000000 in
theorem iWay1_ok (n : Nat) (hn : n ≤ 1048576) (cap : Nat) (ys sa sh sv sf : Nat → Nat) (hf0 : sf 0 = 0)
    (hcall : ∀ k, k < n → ∀ u, Calls Try.prog 197 #[.agg #[.float .f32 (sa k), .float .f32 (sh k), .float .f32 (sv k), .float .f32 (sf k)], .float .f32 (ys k)] u fun e u' => e = .returned (.agg #[.float .f32 (sa (k + 1)), .float .f32 (sh (k + 1)), .float .f32 (sv (k + 1)), .float .f32 (sf (k + 1))]) ∧ Below u.heap.size u u')
    (w : World) (gp gh gw gi gs : Nat) (TW : TypeId) (hW : Way w gp gh gw gi gs n cap (sa 0) (sh 0) (sv 0) ys 1 TW) :
    Calls Try.prog 199 #[.pointer (some ⟨gp, 0, none⟩), .pointer (some ⟨gh, 0, none⟩), .pointer (some ⟨gw, 0, none⟩), .pointer (some ⟨gi, 0, none⟩)] w fun e w' => e = .returned (.agg #[.float .f32 (sa n), .float .f32 (sh n), .float .f32 (sv n), .float .f32 (sf n)]) ∧ Below w.heap.size w w' := by
  have HW := hid hW
  have HC := hid hcall
  have HF0 := hid hf0
  have G1 := hid (hW.par.stay ((Below.refl w.heap.size w).alloc (Nat.le_refl _) (.cells #[.float .f32 0, .float .f32 0, .float .f32 0, .float .f32 0] 258)))
  have c1 := (hW.stay ((Below.refl w.heap.size w).alloc (Nat.le_refl _) (.cells #[.float .f32 0, .float .f32 0, .float .f32 0, .float .f32 0] 258))).hts
  have k0 : Hid (Kept w [(w.heap.size + 1, #[.float .f32 (sa 0), .float .f32 (sh 0), .float .f32 (sv 0), .float .f32 0], 258), (w.heap.size, #[.float .f32 0, .float .f32 0, .float .f32 0, .float .f32 0], 258)] ((w.alloc (.cells #[.float .f32 0, .float .f32 0, .float .f32 0, .float .f32 0] 258)).alloc (.cells #[.float .f32 (sa 0), .float .f32 (sh 0), .float .f32 (sv 0), .float .f32 0] 258))) := hid ((((Kept.nil w).push _ _).push _ _).sub (by simp))
  have c2 : World.cell? ((w.alloc (.cells #[.float .f32 0, .float .f32 0, .float .f32 0, .float .f32 0] 258)).alloc (.cells #[.float .f32 (sa 0), .float .f32 (sh 0), .float .f32 (sv 0), .float .f32 0] 258)) ⟨gh, 0, none⟩ = some (.slice (some ⟨gs, 0, none⟩) n cap) := (hW.stay k0.out.1).hts
  clear hW hcall hf0
  have hneg : ¬ ((n : Int) < 0) := by omega
  have HN := hid hn
  clear hn
  go_enter Try.func199, Try.ntmps199
  go_wp2_with (refine wpList_load_row rfl 88 _ rfl gp rfl 88 #[.float .f32 (sa 0), .float .f32 (sh 0), .float .f32 (sv 0)] (0, 0) _ G1.out Try.underlying88 rfl info_par ?_)
  clear c1 c2 G1
  go_loopw [12] (fun i wr => ∃ k : Nat, k ≤ n ∧ i = .int .i64 k ∧ Hid (Kept w [(w.heap.size + 1, #[.float .f32 (sa k), .float .f32 (sh k), .float .f32 (sv k), .float .f32 (sf k)], 258), (w.heap.size, #[.float .f32 0, .float .f32 0, .float .f32 0, .float .f32 0], 258)] wr)) (fun i _ => n - (intOf i).toNat)
  case atStart => exact ⟨0, by omega, rfl, by rw [HF0.out]; exact k0⟩
  case round =>
    obtain ⟨k, hk, rfl, hK⟩ := hrel
    clear k0
    by_cases hlt : k < n
    · have hkn : k < n := hlt
      have hk3 : (k : Int) < (n : Int) := by omega
      have Hk := hid hlt
      have y1 := (HW.out.stay hK.out.1).one k hkn
      have ix : ∀ w, (Instr.indexAt 261 (.slice (some ⟨gs, 0, none⟩) n cap) (.int .i64 (k : Int))).run Try.prog w = .ok (.pointer (some ⟨gs, k, none⟩)) w := fun w => by
        have := run_indexAt (P := Try.prog) (t := 261) (e := 22) (m := 1) Try.underlying261 (by kernel_rfl) (b := gs) (o := 0) (n := n) (cap := cap) (k := k) hkn w
        simpa using this
      clear hlt hk hkn
      go_wp2_with fail
      refine region_kept (w0 := w) (l := [(w.heap.size, #[.float .f32 0, .float .f32 0, .float .f32 0, .float .f32 0], 258)]) 7 #[false, false, false, false, false, false, false] (by kernel_rfl) rfl rfl ?_
      have kd := hK.out.drew
      clear hK
      generalize wr.drew = wd at kd ⊢
      refine take_cell 0 _ _ (.int .i64 1) rfl (by rfl) (by kernel_rfl) (by kernel_rfl) (by kernel_rfl) (fun wq hS => by have hcell : wq.cell? ⟨gi, 0, none⟩ = some (.int .i64 1) := (HW.out.stay hS.1).way; clear hS; unfold execOp; go_simp) rfl rfl kd.tail ?_
      simp only [Act.put, List.setIfInBounds_toArray, List.set_cons_zero, List.set_cons_succ]
      refine take_val 1 _ _ (.pointer (some ⟨gw, 1, none⟩)) rfl (by rfl) (by kernel_rfl) (by kernel_rfl) (by kernel_rfl) (fun w => by unfold execOp; go_simp) rfl rfl kd.tail ?_
      simp only [Act.put, List.setIfInBounds_toArray, List.set_cons_zero, List.set_cons_succ]
      refine take_cell 2 _ _ (.func (.func 197) #[] #[]) rfl (by rfl) (by kernel_rfl) (by kernel_rfl) (by kernel_rfl) (fun wq hS => by have hcell : wq.cell? ⟨gw, 1, none⟩ = some (.func (.func 197) #[] #[]) := (cell_of_row wq gw 1 _ _ _ (HW.out.stay hS.1).fns).trans rfl; clear hS; unfold execOp; go_simp) rfl rfl kd.tail ?_
      simp only [Act.put, List.setIfInBounds_toArray, List.set_cons_zero, List.set_cons_succ]
      refine take_val 4 _ _ (.float .f32 (ys k)) rfl (by rfl) (by kernel_rfl) (by kernel_rfl) (by kernel_rfl) (fun w => by rfl) rfl rfl kd.tail ?_
      simp only [Act.put, List.setIfInBounds_toArray, List.set_cons_zero, List.set_cons_succ]
      refine wpAnyH_ready (rs := [3]) (by kernel_rfl) (by simp) ?_
      refine loadR 3 kd.tail rfl (by rfl) 258 _ rfl (w.heap.size + 1) (#[.float .f32 (sa k), .float .f32 (sh k), .float .f32 (sv k), .float .f32 (sf k)]) 258 rfl (kd.at (x := (w.heap.size + 1, #[.float .f32 (sa k), .float .f32 (sh k), .float .f32 (sv k), .float .f32 (sf k)], 258)) (by simp)) _ Try.underlying258 rfl (info_ris) ?_ AllReadyH.nil
      simp only [Act.put, List.setIfInBounds_toArray, List.set_cons_zero, List.set_cons_succ]
      refine wpAnyH_ready (rs := [5]) (by kernel_rfl) (by simp) ?_
      refine callK 5 _ _ (.agg #[.float .f32 (sa (k + 1)), .float .f32 (sh (k + 1)), .float .f32 (sv (k + 1)), .float .f32 (sf (k + 1))]) kd rfl (by rfl) 197 #[.agg #[.float .f32 (sa k), .float .f32 (sh k), .float .f32 (sv k), .float .f32 (sf k)], .float .f32 (ys k)] (fun w => by unfold execOp; go_simp) rfl rfl ?hc5 (fun w5 k5 => ?_) AllReadyH.nil
      case hc5 => exact HC.out k Hk.out _
      refine ⟨k5.tail, ?_⟩
      simp only [Act.put, List.setIfInBounds_toArray, List.set_cons_zero, List.set_cons_succ]
      refine wpAnyH_ready (rs := [6]) (by kernel_rfl) (by simp) ?_
      refine storeK 6 _ _ k5 (by omega) (by simp) rfl (by rfl) 258 _ _ rfl (#[.float .f32 (sa (k + 1)), .float .f32 (sh (k + 1)), .float .f32 (sv (k + 1)), .float .f32 (sf (k + 1))]) rfl rfl (info_ris) (by simp) (by simp [Value.oneCell']) rfl rfl (fun w6 k6 => ?_) AllReadyH.nil
      refine ⟨k6.tail, ?_⟩
      simp only [Act.put, List.setIfInBounds_toArray, List.set_cons_zero, List.set_cons_succ]
      refine wpAnyH_done (by kernel_rfl) (NoPanic.normal ?_) _
      have K1 := hid k6
      clear kd k5 k6
      have hn9 := HN.out
      have hk9 := Hk.out
      clear ix y1
      go_wp2_with fail
      go_roundw
      case rel => exact ⟨k + 1, by omega, by go_num, K1⟩
      case measure => simp [intOf]; omega
    · obtain rfl : k = n := by omega
      have hlt3 : ¬ ((k : Int) < (k : Int)) := by omega
      clear hlt
      go_wp2_with (first | (refine wpList_load_row rfl 258 _ rfl (w.heap.size + 1) rfl 258 (#[.float .f32 (sa k), .float .f32 (sh k), .float .f32 (sv k), .float .f32 (sf k)]) (0, 0) _ (hK.out.at (x := (w.heap.size + 1, #[.float .f32 (sa k), .float .f32 (sh k), .float .f32 (sv k), .float .f32 (sf k)], 258)) (by simp)) Try.underlying258 rfl info_ris ?_) | (refine store_kept (w0 := w) (l := [(w.heap.size + 1, #[.float .f32 (sa k), .float .f32 (sh k), .float .f32 (sv k), .float .f32 (sf k)], 258)]) rfl 258 _ _ rfl (w.heap.size) (#[.float .f32 (sa k), .float .f32 (sh k), .float .f32 (sv k), .float .f32 (sf k)]) rfl rfl 258 (#[.float .f32 0, .float .f32 0, .float .f32 0, .float .f32 0]) (hK.out.swap) (Nat.le_refl _) (by simp) info_ris rfl (by simp [Value.oneCell']) (fun w7 k7 => ?_); replace k7 := hid k7))
      exact bodyPost_ret (results_cell_row rfl _ _ (w.heap.size) 258 (#[.float .f32 (sa k), .float .f32 (sh k), .float .f32 (sv k), .float .f32 (sf k)]) (0, 0) _ rfl (k7.out.at (x := (w.heap.size, #[.float .f32 (sa k), .float .f32 (sh k), .float .f32 (sv k), .float .f32 (sf k)], 258)) (by simp)) Try.underlying258 rfl info_ris) rfl ⟨rfl, k7.out.1⟩

set_option maxRecDepth 100000 in
set_option maxHeartbeats 2000000 in
theorem iWay1_f (n : Nat) (hn : n ≤ 1048576) (cap : Nat) (ys sa sh sv sf : Nat → Nat) (hf0 : sf 0 = 0) (m : Nat) (hm : m < n) (chain : List PanicEntry) (hpan : ∀ u, Calls Try.prog 197 #[.agg #[.float .f32 (sa m), .float .f32 (sh m), .float .f32 (sv m), .float .f32 (sf m)], .float .f32 (ys m)] u fun e u' => e = .panicked chain ∧ Below u.heap.size u u')
    (hcall : ∀ k, k < m → ∀ u, Calls Try.prog 197 #[.agg #[.float .f32 (sa k), .float .f32 (sh k), .float .f32 (sv k), .float .f32 (sf k)], .float .f32 (ys k)] u fun e u' => e = .returned (.agg #[.float .f32 (sa (k + 1)), .float .f32 (sh (k + 1)), .float .f32 (sv (k + 1)), .float .f32 (sf (k + 1))]) ∧ Below u.heap.size u u')
    (w : World) (gp gh gw gi gs : Nat) (TW : TypeId) (hW : Way w gp gh gw gi gs n cap (sa 0) (sh 0) (sv 0) ys 1 TW) :
    Calls Try.prog 199 #[.pointer (some ⟨gp, 0, none⟩), .pointer (some ⟨gh, 0, none⟩), .pointer (some ⟨gw, 0, none⟩), .pointer (some ⟨gi, 0, none⟩)] w fun e w' => e = .panicked chain ∧ Below w.heap.size w w' := by
  have HW := hid hW
  have HC := hid hcall
  have HF0 := hid hf0
  have G1 := hid (hW.par.stay ((Below.refl w.heap.size w).alloc (Nat.le_refl _) (.cells #[.float .f32 0, .float .f32 0, .float .f32 0, .float .f32 0] 258)))
  have c1 := (hW.stay ((Below.refl w.heap.size w).alloc (Nat.le_refl _) (.cells #[.float .f32 0, .float .f32 0, .float .f32 0, .float .f32 0] 258))).hts
  have k0 : Hid (Kept w [(w.heap.size + 1, #[.float .f32 (sa 0), .float .f32 (sh 0), .float .f32 (sv 0), .float .f32 0], 258), (w.heap.size, #[.float .f32 0, .float .f32 0, .float .f32 0, .float .f32 0], 258)] ((w.alloc (.cells #[.float .f32 0, .float .f32 0, .float .f32 0, .float .f32 0] 258)).alloc (.cells #[.float .f32 (sa 0), .float .f32 (sh 0), .float .f32 (sv 0), .float .f32 0] 258))) := hid ((((Kept.nil w).push _ _).push _ _).sub (by simp))
  have c2 : World.cell? ((w.alloc (.cells #[.float .f32 0, .float .f32 0, .float .f32 0, .float .f32 0] 258)).alloc (.cells #[.float .f32 (sa 0), .float .f32 (sh 0), .float .f32 (sv 0), .float .f32 0] 258)) ⟨gh, 0, none⟩ = some (.slice (some ⟨gs, 0, none⟩) n cap) := (hW.stay k0.out.1).hts
  have HP := hid hpan
  have HM := hid hm
  clear hpan hm
  clear hW hcall hf0
  have hneg : ¬ ((n : Int) < 0) := by omega
  have HN := hid hn
  clear hn
  go_enter Try.func199, Try.ntmps199
  go_wp2_with (refine wpList_load_row rfl 88 _ rfl gp rfl 88 #[.float .f32 (sa 0), .float .f32 (sh 0), .float .f32 (sv 0)] (0, 0) _ G1.out Try.underlying88 rfl info_par ?_)
  clear c1 c2 G1
  go_loopw [12] (fun i wr => ∃ k : Nat, k ≤ m ∧ i = .int .i64 k ∧ Hid (Kept w [(w.heap.size + 1, #[.float .f32 (sa k), .float .f32 (sh k), .float .f32 (sv k), .float .f32 (sf k)], 258), (w.heap.size, #[.float .f32 0, .float .f32 0, .float .f32 0, .float .f32 0], 258)] wr)) (fun i _ => n - (intOf i).toNat)
  case atStart => exact ⟨0, by omega, rfl, by rw [HF0.out]; exact k0⟩
  case round =>
    obtain ⟨k, hk, rfl, hK⟩ := hrel
    clear k0
    by_cases hlt : k < m
    · have hkn : k < n := (by have := HM.out; omega)
      have hk3 : (k : Int) < (n : Int) := by omega
      have Hk := hid hlt
      have y1 := (HW.out.stay hK.out.1).one k hkn
      have ix : ∀ w, (Instr.indexAt 261 (.slice (some ⟨gs, 0, none⟩) n cap) (.int .i64 (k : Int))).run Try.prog w = .ok (.pointer (some ⟨gs, k, none⟩)) w := fun w => by
        have := run_indexAt (P := Try.prog) (t := 261) (e := 22) (m := 1) Try.underlying261 (by kernel_rfl) (b := gs) (o := 0) (n := n) (cap := cap) (k := k) hkn w
        simpa using this
      clear hlt hk hkn
      go_wp2_with fail
      refine region_kept (w0 := w) (l := [(w.heap.size, #[.float .f32 0, .float .f32 0, .float .f32 0, .float .f32 0], 258)]) 7 #[false, false, false, false, false, false, false] (by kernel_rfl) rfl rfl ?_
      have kd := hK.out.drew
      clear hK
      generalize wr.drew = wd at kd ⊢
      refine take_cell 0 _ _ (.int .i64 1) rfl (by rfl) (by kernel_rfl) (by kernel_rfl) (by kernel_rfl) (fun wq hS => by have hcell : wq.cell? ⟨gi, 0, none⟩ = some (.int .i64 1) := (HW.out.stay hS.1).way; clear hS; unfold execOp; go_simp) rfl rfl kd.tail ?_
      simp only [Act.put, List.setIfInBounds_toArray, List.set_cons_zero, List.set_cons_succ]
      refine take_val 1 _ _ (.pointer (some ⟨gw, 1, none⟩)) rfl (by rfl) (by kernel_rfl) (by kernel_rfl) (by kernel_rfl) (fun w => by unfold execOp; go_simp) rfl rfl kd.tail ?_
      simp only [Act.put, List.setIfInBounds_toArray, List.set_cons_zero, List.set_cons_succ]
      refine take_cell 2 _ _ (.func (.func 197) #[] #[]) rfl (by rfl) (by kernel_rfl) (by kernel_rfl) (by kernel_rfl) (fun wq hS => by have hcell : wq.cell? ⟨gw, 1, none⟩ = some (.func (.func 197) #[] #[]) := (cell_of_row wq gw 1 _ _ _ (HW.out.stay hS.1).fns).trans rfl; clear hS; unfold execOp; go_simp) rfl rfl kd.tail ?_
      simp only [Act.put, List.setIfInBounds_toArray, List.set_cons_zero, List.set_cons_succ]
      refine take_val 4 _ _ (.float .f32 (ys k)) rfl (by rfl) (by kernel_rfl) (by kernel_rfl) (by kernel_rfl) (fun w => by rfl) rfl rfl kd.tail ?_
      simp only [Act.put, List.setIfInBounds_toArray, List.set_cons_zero, List.set_cons_succ]
      refine wpAnyH_ready (rs := [3]) (by kernel_rfl) (by simp) ?_
      refine loadR 3 kd.tail rfl (by rfl) 258 _ rfl (w.heap.size + 1) (#[.float .f32 (sa k), .float .f32 (sh k), .float .f32 (sv k), .float .f32 (sf k)]) 258 rfl (kd.at (x := (w.heap.size + 1, #[.float .f32 (sa k), .float .f32 (sh k), .float .f32 (sv k), .float .f32 (sf k)], 258)) (by simp)) _ Try.underlying258 rfl (info_ris) ?_ AllReadyH.nil
      simp only [Act.put, List.setIfInBounds_toArray, List.set_cons_zero, List.set_cons_succ]
      refine wpAnyH_ready (rs := [5]) (by kernel_rfl) (by simp) ?_
      refine callK 5 _ _ (.agg #[.float .f32 (sa (k + 1)), .float .f32 (sh (k + 1)), .float .f32 (sv (k + 1)), .float .f32 (sf (k + 1))]) kd rfl (by rfl) 197 #[.agg #[.float .f32 (sa k), .float .f32 (sh k), .float .f32 (sv k), .float .f32 (sf k)], .float .f32 (ys k)] (fun w => by unfold execOp; go_simp) rfl rfl ?hc5 (fun w5 k5 => ?_) AllReadyH.nil
      case hc5 => exact HC.out k Hk.out _
      refine ⟨k5.tail, ?_⟩
      simp only [Act.put, List.setIfInBounds_toArray, List.set_cons_zero, List.set_cons_succ]
      refine wpAnyH_ready (rs := [6]) (by kernel_rfl) (by simp) ?_
      refine storeK 6 _ _ k5 (by omega) (by simp) rfl (by rfl) 258 _ _ rfl (#[.float .f32 (sa (k + 1)), .float .f32 (sh (k + 1)), .float .f32 (sv (k + 1)), .float .f32 (sf (k + 1))]) rfl rfl (info_ris) (by simp) (by simp [Value.oneCell']) rfl rfl (fun w6 k6 => ?_) AllReadyH.nil
      refine ⟨k6.tail, ?_⟩
      simp only [Act.put, List.setIfInBounds_toArray, List.set_cons_zero, List.set_cons_succ]
      refine wpAnyH_done (by kernel_rfl) (NoPanic.normal ?_) _
      have K1 := hid k6
      clear kd k5 k6
      have hn9 := HN.out
      have hk9 := Hk.out
      have hm9 := HM.out
      clear ix y1
      go_wp2_with fail
      go_roundw
      case rel => exact ⟨k + 1, by omega, by go_num, K1⟩
      case measure => simp [intOf]; omega
    · obtain rfl : k = m := by omega
      have hk3 : (k : Int) < (n : Int) := by have := HM.out; omega
      have y1 := (HW.out.stay hK.out.1).one k HM.out
      have ix : ∀ w, (Instr.indexAt 261 (.slice (some ⟨gs, 0, none⟩) n cap) (.int .i64 (k : Int))).run Try.prog w = .ok (.pointer (some ⟨gs, k, none⟩)) w := fun w => by
        have := run_indexAt (P := Try.prog) (t := 261) (e := 22) (m := 1) Try.underlying261 (by kernel_rfl) (b := gs) (o := 0) (n := n) (cap := cap) (k := k) HM.out w
        simpa using this
      clear hlt hk
      go_wp2_with fail
      refine wp_region_held (S := Kept w [(w.heap.size, #[.float .f32 0, .float .f32 0, .float .f32 0, .float .f32 0], 258)]) (by kernel_rfl) ?_
      have kd := hK.out.drew
      clear hK
      change wpAnyH _ _ _ _ _ 7 #[false, false, false, false, false, false, false] _ wr.drew
      generalize wr.drew = wd at kd ⊢
      refine takeP_cell (by intro c a d v w h; cases d <;> exact h) 0 (.int .i64 1) rfl (by rfl) (by kernel_rfl) (by kernel_rfl) (by kernel_rfl) (fun wq hS => by have hcell : wq.cell? ⟨gi, 0, none⟩ = some (.int .i64 1) := (HW.out.stay hS.1).way; clear hS; unfold execOp; go_simp) kd.tail ?_
      simp only [Act.put, List.setIfInBounds_toArray, List.set_cons_zero, List.set_cons_succ]
      refine takeP_val (by intro c a d v w h; cases d <;> exact h) 1 (.pointer (some ⟨gw, 1, none⟩)) rfl (by rfl) (by kernel_rfl) (by kernel_rfl) (by kernel_rfl) (fun w => by unfold execOp; go_simp) kd.tail ?_
      simp only [Act.put, List.setIfInBounds_toArray, List.set_cons_zero, List.set_cons_succ]
      refine takeP_cell (by intro c a d v w h; cases d <;> exact h) 2 (.func (.func 197) #[] #[]) rfl (by rfl) (by kernel_rfl) (by kernel_rfl) (by kernel_rfl) (fun wq hS => by have hcell : wq.cell? ⟨gw, 1, none⟩ = some (.func (.func 197) #[] #[]) := (cell_of_row wq gw 1 _ _ _ (HW.out.stay hS.1).fns).trans rfl; clear hS; unfold execOp; go_simp) kd.tail ?_
      simp only [Act.put, List.setIfInBounds_toArray, List.set_cons_zero, List.set_cons_succ]
      refine takeP_val (by intro c a d v w h; cases d <;> exact h) 4 (.float .f32 (ys k)) rfl (by rfl) (by kernel_rfl) (by kernel_rfl) (by kernel_rfl) (fun w => by rfl) kd.tail ?_
      simp only [Act.put, List.setIfInBounds_toArray, List.set_cons_zero, List.set_cons_succ]
      refine wpAnyH_ready (rs := [3]) (by kernel_rfl) (by simp) ?_
      refine loadR 3 kd.tail rfl (by rfl) 258 _ rfl (w.heap.size + 1) (#[.float .f32 (sa k), .float .f32 (sh k), .float .f32 (sv k), .float .f32 (sf k)]) 258 rfl (kd.at (x := (w.heap.size + 1, #[.float .f32 (sa k), .float .f32 (sh k), .float .f32 (sv k), .float .f32 (sf k)], 258)) (by simp)) _ Try.underlying258 rfl (info_ris) ?_ AllReadyH.nil
      simp only [Act.put, List.setIfInBounds_toArray, List.set_cons_zero, List.set_cons_succ]
      refine wpAnyH_ready (rs := [5]) (by kernel_rfl) (by simp) ?_
      refine callP 5 chain kd rfl (by rfl) 197 #[.agg #[.float .f32 (sa k), .float .f32 (sh k), .float .f32 (sv k), .float .f32 (sf k)], .float .f32 (ys k)] (fun w => by unfold execOp; go_simp) (HP.out _) (fun w5 k5 => ?_) AllReadyH.nil
      exact ⟨rfl, rfl, k5.1⟩

set_option maxRecDepth 100000 in
set_option maxHeartbeats 1000000 in
theorem iAttempt_ok (cl : FuncId) (caps : Array Value) (a h v f : Nat) (w : World)
    (hcl : ∀ u, Below w.heap.size w u → Calls Try.prog cl caps u fun e u' => e = .returned (.agg #[.float .f32 a, .float .f32 h, .float .f32 v, .float .f32 f]) ∧ Below u.heap.size u u') (hce : ∀ w : World, (callFunc cl caps).run Try.prog w = .ok (.enter cl caps) w) :
    Calls Try.prog 198 #[.func (.func cl) #[] caps] w fun e w' => e = .returned (.tuple #[.agg #[.float .f32 a, .float .f32 h, .float .f32 v, .float .f32 f], .int .i64 0]) ∧ Below w.heap.size w w' := by
  have hmf : ∀ (fn : Fn) (first cap : Array Value) (w : World), (Instr.makeFunc fn first cap).run Try.prog w = .ok (.func fn first cap) w := fun _ _ _ _ => rfl
  have k0 : Hid (Kept w [(w.heap.size, #[.float .f32 0, .float .f32 0, .float .f32 0, .float .f32 0], 258), (w.heap.size + 1, #[.int .i64 0], 2)] ((w.alloc (.cells #[.float .f32 0, .float .f32 0, .float .f32 0, .float .f32 0] 258)).alloc (.cells #[.int .i64 0] 2))) := hid ((((Kept.nil w).push _ _).push _ _).sub (by simp))
  have HC := hid hcl
  clear hcl
  go_enter_defers Try.func198, Try.ntmps198
  go_wp2_with fail
  refine (HC.out _ k0.out.1).mono ?_
  rintro e w1 ⟨rfl, hb1⟩
  have k1 := hid (k0.out.stay hb1)
  go_wp2_with (refine store_kept (w0 := w) (l := [(w.heap.size + 1, #[.int .i64 0], 2)]) rfl 258 _ _ rfl (w.heap.size) (#[.float .f32 a, .float .f32 h, .float .f32 v, .float .f32 f]) rfl rfl 258 (#[.float .f32 0, .float .f32 0, .float .f32 0, .float .f32 0]) (k1.out) (Nat.le_refl _) (by simp) info_ris rfl (by simp [Value.oneCell']) (fun w6 k6 => ?_); replace k6 := hid k6; have c6 : World.cell? w6 ⟨w.heap.size + 1, 0, none⟩ = some (.int .i64 0) := (cell_of_row w6 (w.heap.size + 1) 0 _ _ _ (k6.out.at (x := (w.heap.size + 1, #[.int .i64 0], 2)) (by simp))).trans rfl; have z6 : World.frozen? w6 ⟨w.heap.size + 1, 0, none⟩ = false := frozen_of_row w6 (w.heap.size + 1) 0 _ _ (k6.out.at (x := (w.heap.size + 1, #[.int .i64 0], 2)) (by simp)))
  refine leaves_cons (f := 206) (args := #[.pointer (some ⟨w.heap.size + 1, 0, none⟩)]) (by simp) (by simp [go_sem]) ?_
  refine (iCatch_idle (w.heap.size + 1) _).mono ?_
  rintro e u' w'' ⟨rfl, rfl, rfl⟩
  have k7 := hid ((k6.out.swap.lcell (by omega) (by simp) 0 (.int .i64 0)).swap)
  clear c6 z6 k6 k1 k0 hb1
  generalize World.setCell w6 _ _ = w7 at k7 ⊢
  have e1 : (loadVar 258 ⟨w.heap.size, 0, none⟩).run Try.prog w7 = .ok (.agg #[.float .f32 a, .float .f32 h, .float .f32 v, .float .f32 f]) w7 := run_loadVar_row _ w.heap.size 258 258 #[.float .f32 a, .float .f32 h, .float .f32 v, .float .f32 f] (0, 0) _ (k7.out.at (x := (w.heap.size, #[.float .f32 a, .float .f32 h, .float .f32 v, .float .f32 f], 258)) (by simp)) Try.underlying258 rfl info_ris
  have e2 : (loadVar 2 ⟨w.heap.size + 1, 0, none⟩).run Try.prog w7 = .ok (.int .i64 0) w7 := by
    have c7 : World.cell? w7 ⟨w.heap.size + 1, 0, none⟩ = some (.int .i64 0) := (cell_of_row _ (w.heap.size + 1) 0 _ _ _ (k7.out.at (x := (w.heap.size + 1, #[.int .i64 0], 2)) (by simp))).trans rfl
    clear e1 k7
    simp [go_sem, c7]
  refine ⟨.tuple #[.agg #[.float .f32 a, .float .f32 h, .float .f32 v, .float .f32 f], .int .i64 0], ?_, rfl, k7.out.1⟩
  simp [results, Try.results198, asAddr, e1, e2, Sem.run_bind, Result.andThen_ok]

set_option maxRecDepth 100000 in
set_option maxHeartbeats 1000000 in
theorem iAttempt_f (cl : FuncId) (caps : Array Value) (p q : Nat) (w : World)
    (hcl : ∀ u, Below w.heap.size w u → Calls Try.prog cl caps u fun e u' => e = .panicked [{ v := .iface 255 (.agg #[.float .f32 p, .float .f32 q]), recovered := false }] ∧ Below u.heap.size u u') (hce : ∀ w : World, (callFunc cl caps).run Try.prog w = .ok (.enter cl caps) w) :
    Calls Try.prog 198 #[.func (.func cl) #[] caps] w fun e w' => e = .returned (.tuple #[.agg #[.float .f32 0, .float .f32 0, .float .f32 0, .float .f32 0], .int .i64 4]) ∧ Below w.heap.size w w' := by
  have hmf : ∀ (fn : Fn) (first cap : Array Value) (w : World), (Instr.makeFunc fn first cap).run Try.prog w = .ok (.func fn first cap) w := fun _ _ _ _ => rfl
  have k0 : Hid (Kept w [(w.heap.size, #[.float .f32 0, .float .f32 0, .float .f32 0, .float .f32 0], 258), (w.heap.size + 1, #[.int .i64 0], 2)] ((w.alloc (.cells #[.float .f32 0, .float .f32 0, .float .f32 0, .float .f32 0] 258)).alloc (.cells #[.int .i64 0] 2))) := hid ((((Kept.nil w).push _ _).push _ _).sub (by simp))
  have HC := hid hcl
  clear hcl
  go_enter_defers Try.func198, Try.ntmps198
  go_wp2_with fail
  refine (HC.out _ k0.out.1).mono ?_
  rintro e w1 ⟨rfl, hb1⟩
  have k1 := hid (k0.out.stay hb1)
  have c6 : World.cell? w1 ⟨w.heap.size + 1, 0, none⟩ = some (.int .i64 0) := (cell_of_row w1 (w.heap.size + 1) 0 _ _ _ (k1.out.at (x := (w.heap.size + 1, #[.int .i64 0], 2)) (by simp))).trans rfl
  have z6 : World.frozen? w1 ⟨w.heap.size + 1, 0, none⟩ = false := frozen_of_row w1 (w.heap.size + 1) 0 _ _ (k1.out.at (x := (w.heap.size + 1, #[.int .i64 0], 2)) (by simp))
  refine leaves_cons (f := 206) (args := #[.pointer (some ⟨w.heap.size + 1, 0, none⟩)]) (by simp) (by simp [go_sem]) ?_
  refine (iCatch_panic p q (w.heap.size + 1) _ _ c6 z6).mono ?_
  rintro e u' w'' ⟨rfl, rfl, w2, hb2, rfl⟩
  have k7 := hid (((k1.out.stay hb2).swap.lcell (by omega) (by simp) 0 (.int .i64 4)).swap)
  clear c6 z6 k1 k0 hb1 hb2
  generalize World.setCell w2 _ _ = w7 at k7 ⊢
  have e1 : (loadVar 258 ⟨w.heap.size, 0, none⟩).run Try.prog w7 = .ok (.agg #[.float .f32 0, .float .f32 0, .float .f32 0, .float .f32 0]) w7 := run_loadVar_row _ w.heap.size 258 258 #[.float .f32 0, .float .f32 0, .float .f32 0, .float .f32 0] (0, 0) _ (k7.out.at (x := (w.heap.size, #[.float .f32 0, .float .f32 0, .float .f32 0, .float .f32 0], 258)) (by simp)) Try.underlying258 rfl info_ris
  have e2 : (loadVar 2 ⟨w.heap.size + 1, 0, none⟩).run Try.prog w7 = .ok (.int .i64 4) w7 := by
    have c7 : World.cell? w7 ⟨w.heap.size + 1, 0, none⟩ = some (.int .i64 4) := (cell_of_row _ (w.heap.size + 1) 0 _ _ _ (k7.out.at (x := (w.heap.size + 1, #[.int .i64 4], 2)) (by simp))).trans rfl
    clear e1 k7
    simp [go_sem, c7]
  refine ⟨.tuple #[.agg #[.float .f32 0, .float .f32 0, .float .f32 0, .float .f32 0], .int .i64 4], ?_, rfl, k7.out.1⟩
  simp [results, Try.results198, asAddr, e1, e2, Sem.run_bind, Result.andThen_ok]

@[go_sem] theorem run_store_func (P : Program) (w : World) (a : Addr) (m : Mode) (fn : Fn) (x y : Array Value) : (store a (.func fn x y) m).run P w = stored P w a (.func fn x y) m := run_store P w a _ m rfl

set_option maxRecDepth 100000 in
set_option maxHeartbeats 2000000 in
theorem iRaise1_ok (n : Nat) (hn : n ≤ 1048576) (cap : Nat) (ys sa sh sv sf : Nat → Nat) (hf0 : sf 0 = 0)
    (hcall : ∀ k, k < n → ∀ u, Calls Try.prog 197 #[.agg #[.float .f32 (sa k), .float .f32 (sh k), .float .f32 (sv k), .float .f32 (sf k)], .float .f32 (ys k)] u fun e u' => e = .returned (.agg #[.float .f32 (sa (k + 1)), .float .f32 (sh (k + 1)), .float .f32 (sv (k + 1)), .float .f32 (sf (k + 1))]) ∧ Below u.heap.size u u')
    (w : World) (gs : Nat) (hy : ∀ k, k < n → w.cell? ⟨gs, k, none⟩ = some (.float .f32 (ys k))) :
    Calls Try.prog 189 #[.agg #[.float .f32 (sa 0), .float .f32 (sh 0), .float .f32 (sv 0)], .int .i64 1, .slice (some ⟨gs, 0, none⟩) n cap] w fun e w' => e = .returned (.tuple #[.agg #[.float .f32 (sa n), .float .f32 (sh n), .float .f32 (sv n), .float .f32 (sf n)], .int .i64 0]) ∧ Below w.heap.size w w' := by
  have k0 : Hid (Kept w [(w.heap.size, #[.float .f32 (sa 0), .float .f32 (sh 0), .float .f32 (sv 0)], 88), (w.heap.size + 1, #[.int .i64 1], 3), (w.heap.size + 1 + 1, #[.slice (some ⟨gs, 0, none⟩) n cap], 261), (w.heap.size + 1 + 1 + 1, #[.float .f32 0, .float .f32 0, .float .f32 0, .float .f32 0], 258), (w.heap.size + 1 + 1 + 1 + 1, #[.func (.func 196) #[] #[], .func (.func 197) #[] #[]], 267)] (((((w.alloc (.cells #[.float .f32 (sa 0), .float .f32 (sh 0), .float .f32 (sv 0)] 88)).alloc (.cells #[.int .i64 1] 3)).alloc (.cells #[.slice (some ⟨gs, 0, none⟩) n cap] 261)).alloc (.cells #[.float .f32 0, .float .f32 0, .float .f32 0, .float .f32 0] 258)).alloc (.cells #[.func (.func 196) #[] #[], .func (.func 197) #[] #[]] 267))) := hid (((((((Kept.nil w).push _ _).push _ _).push _ _).push _ _).push _ _).sub (by simp))
  have HW : Hid (Way (((((w.alloc (.cells #[.float .f32 (sa 0), .float .f32 (sh 0), .float .f32 (sv 0)] 88)).alloc (.cells #[.int .i64 1] 3)).alloc (.cells #[.slice (some ⟨gs, 0, none⟩) n cap] 261)).alloc (.cells #[.float .f32 0, .float .f32 0, .float .f32 0, .float .f32 0] 258)).alloc (.cells #[.func (.func 196) #[] #[], .func (.func 197) #[] #[]] 267)) w.heap.size (w.heap.size + 1 + 1) (w.heap.size + 1 + 1 + 1 + 1) (w.heap.size + 1) gs n cap (sa 0) (sh 0) (sv 0) ys 1 267) := hid
    { par := k0.out.at (x := (w.heap.size, #[.float .f32 (sa 0), .float .f32 (sh 0), .float .f32 (sv 0)], 88)) (by simp)
      hts := (cell_of_row _ (w.heap.size + 1 + 1) 0 _ _ _ (k0.out.at (x := (w.heap.size + 1 + 1, #[.slice (some ⟨gs, 0, none⟩) n cap], 261)) (by simp))).trans rfl
      one := fun k hk => (k0.out.1.cell (block_lt_of_cell (hy k hk))).trans (hy k hk)
      fns := k0.out.at (x := (w.heap.size + 1 + 1 + 1 + 1, #[.func (.func 196) #[] #[], .func (.func 197) #[] #[]], 267)) (by simp)
      way := (cell_of_row _ (w.heap.size + 1) 0 _ _ _ (k0.out.at (x := (w.heap.size + 1, #[.int .i64 1], 3)) (by simp))).trans rfl }
  have HC : Hid (∀ u, Below ((((((w.alloc (.cells #[.float .f32 (sa 0), .float .f32 (sh 0), .float .f32 (sv 0)] 88)).alloc (.cells #[.int .i64 1] 3)).alloc (.cells #[.slice (some ⟨gs, 0, none⟩) n cap] 261)).alloc (.cells #[.float .f32 0, .float .f32 0, .float .f32 0, .float .f32 0] 258)).alloc (.cells #[.func (.func 196) #[] #[], .func (.func 197) #[] #[]] 267))).heap.size (((((w.alloc (.cells #[.float .f32 (sa 0), .float .f32 (sh 0), .float .f32 (sv 0)] 88)).alloc (.cells #[.int .i64 1] 3)).alloc (.cells #[.slice (some ⟨gs, 0, none⟩) n cap] 261)).alloc (.cells #[.float .f32 0, .float .f32 0, .float .f32 0, .float .f32 0] 258)).alloc (.cells #[.func (.func 196) #[] #[], .func (.func 197) #[] #[]] 267)) u → Calls Try.prog 199 #[.pointer (some ⟨w.heap.size, 0, none⟩), .pointer (some ⟨w.heap.size + 1 + 1, 0, none⟩), .pointer (some ⟨w.heap.size + 1 + 1 + 1 + 1, 0, none⟩), .pointer (some ⟨w.heap.size + 1, 0, none⟩)] u fun e u' => e = .returned (.agg #[.float .f32 (sa n), .float .f32 (sh n), .float .f32 (sv n), .float .f32 (sf n)]) ∧ Below u.heap.size u u') := hid fun u hu => iWay1_ok n hn cap ys sa sh sv sf hf0 hcall u _ _ _ _ _ _ (HW.out.stay hu)
  have hmf : ∀ (fn : Fn) (first cap : Array Value) (w : World), (Instr.makeFunc fn first cap).run Try.prog w = .ok (.func fn first cap) w := fun _ _ _ _ => rfl
  clear hcall hy hf0 hn HW
  go_enter Try.func189, Try.ntmps189
  go_wp2_with fail
  refine (iAttempt_ok 199 #[.pointer (some ⟨w.heap.size, 0, none⟩), .pointer (some ⟨w.heap.size + 1 + 1, 0, none⟩), .pointer (some ⟨w.heap.size + 1 + 1 + 1 + 1, 0, none⟩), .pointer (some ⟨w.heap.size + 1, 0, none⟩)] (sa n) (sh n) (sv n) (sf n) _ HC.out (fun w => by simp [go_sem])).mono ?_
  rintro e w1 ⟨rfl, hb1⟩
  have k1 := hid ((k0.out.stay hb1).sub (l' := [(w.heap.size + 1 + 1 + 1, #[.float .f32 0, .float .f32 0, .float .f32 0, .float .f32 0], 258), (w.heap.size + 1 + 1 + 1 + 1, #[.func (.func 196) #[] #[], .func (.func 197) #[] #[]], 267)]) (by simp))
  have hlt : w.heap.size ≤ w.heap.size + 1 + 1 + 1 := by omega
  clear k0 hb1
  go_wp2_with (refine store_kept (w0 := w) (l := [(w.heap.size + 1 + 1 + 1 + 1, #[.func (.func 196) #[] #[], .func (.func 197) #[] #[]], 267)]) rfl 258 _ _ rfl (w.heap.size + 1 + 1 + 1) (#[.float .f32 (sa n), .float .f32 (sh n), .float .f32 (sv n), .float .f32 (sf n)]) rfl rfl 258 (#[.float .f32 0, .float .f32 0, .float .f32 0, .float .f32 0]) (k1.out) hlt (by simp) info_ris rfl (by simp [Value.oneCell']) (fun w6 k6 => ?_); replace k6 := hid k6)
  exact bodyPost_ret (results_row_tmp rfl _ _ (w.heap.size + 1 + 1 + 1) 258 (#[.float .f32 (sa n), .float .f32 (sh n), .float .f32 (sv n), .float .f32 (sf n)]) (0, 0) _ rfl (k6.out.at (x := (w.heap.size + 1 + 1 + 1, #[.float .f32 (sa n), .float .f32 (sh n), .float .f32 (sv n), .float .f32 (sf n)], 258)) (by simp)) Try.underlying258 rfl info_ris) rfl ⟨rfl, k6.out.1⟩

set_option maxRecDepth 100000 in
set_option maxHeartbeats 2000000 in
theorem iRaise1_f (n : Nat) (hn : n ≤ 1048576) (cap : Nat) (ys sa sh sv sf : Nat → Nat) (hf0 : sf 0 = 0) (m : Nat) (hm : m < n) (p q : Nat) (hpan : ∀ u, Calls Try.prog 197 #[.agg #[.float .f32 (sa m), .float .f32 (sh m), .float .f32 (sv m), .float .f32 (sf m)], .float .f32 (ys m)] u fun e u' => e = .panicked [{ v := .iface 255 (.agg #[.float .f32 p, .float .f32 q]), recovered := false }] ∧ Below u.heap.size u u')
    (hcall : ∀ k, k < m → ∀ u, Calls Try.prog 197 #[.agg #[.float .f32 (sa k), .float .f32 (sh k), .float .f32 (sv k), .float .f32 (sf k)], .float .f32 (ys k)] u fun e u' => e = .returned (.agg #[.float .f32 (sa (k + 1)), .float .f32 (sh (k + 1)), .float .f32 (sv (k + 1)), .float .f32 (sf (k + 1))]) ∧ Below u.heap.size u u')
    (w : World) (gs : Nat) (hy : ∀ k, k < n → w.cell? ⟨gs, k, none⟩ = some (.float .f32 (ys k))) :
    Calls Try.prog 189 #[.agg #[.float .f32 (sa 0), .float .f32 (sh 0), .float .f32 (sv 0)], .int .i64 1, .slice (some ⟨gs, 0, none⟩) n cap] w fun e w' => e = .returned (.tuple #[.agg #[.float .f32 0, .float .f32 0, .float .f32 0, .float .f32 0], .int .i64 4]) ∧ Below w.heap.size w w' := by
  have k0 : Hid (Kept w [(w.heap.size, #[.float .f32 (sa 0), .float .f32 (sh 0), .float .f32 (sv 0)], 88), (w.heap.size + 1, #[.int .i64 1], 3), (w.heap.size + 1 + 1, #[.slice (some ⟨gs, 0, none⟩) n cap], 261), (w.heap.size + 1 + 1 + 1, #[.float .f32 0, .float .f32 0, .float .f32 0, .float .f32 0], 258), (w.heap.size + 1 + 1 + 1 + 1, #[.func (.func 196) #[] #[], .func (.func 197) #[] #[]], 267)] (((((w.alloc (.cells #[.float .f32 (sa 0), .float .f32 (sh 0), .float .f32 (sv 0)] 88)).alloc (.cells #[.int .i64 1] 3)).alloc (.cells #[.slice (some ⟨gs, 0, none⟩) n cap] 261)).alloc (.cells #[.float .f32 0, .float .f32 0, .float .f32 0, .float .f32 0] 258)).alloc (.cells #[.func (.func 196) #[] #[], .func (.func 197) #[] #[]] 267))) := hid (((((((Kept.nil w).push _ _).push _ _).push _ _).push _ _).push _ _).sub (by simp))
  have HW : Hid (Way (((((w.alloc (.cells #[.float .f32 (sa 0), .float .f32 (sh 0), .float .f32 (sv 0)] 88)).alloc (.cells #[.int .i64 1] 3)).alloc (.cells #[.slice (some ⟨gs, 0, none⟩) n cap] 261)).alloc (.cells #[.float .f32 0, .float .f32 0, .float .f32 0, .float .f32 0] 258)).alloc (.cells #[.func (.func 196) #[] #[], .func (.func 197) #[] #[]] 267)) w.heap.size (w.heap.size + 1 + 1) (w.heap.size + 1 + 1 + 1 + 1) (w.heap.size + 1) gs n cap (sa 0) (sh 0) (sv 0) ys 1 267) := hid
    { par := k0.out.at (x := (w.heap.size, #[.float .f32 (sa 0), .float .f32 (sh 0), .float .f32 (sv 0)], 88)) (by simp)
      hts := (cell_of_row _ (w.heap.size + 1 + 1) 0 _ _ _ (k0.out.at (x := (w.heap.size + 1 + 1, #[.slice (some ⟨gs, 0, none⟩) n cap], 261)) (by simp))).trans rfl
      one := fun k hk => (k0.out.1.cell (block_lt_of_cell (hy k hk))).trans (hy k hk)
      fns := k0.out.at (x := (w.heap.size + 1 + 1 + 1 + 1, #[.func (.func 196) #[] #[], .func (.func 197) #[] #[]], 267)) (by simp)
      way := (cell_of_row _ (w.heap.size + 1) 0 _ _ _ (k0.out.at (x := (w.heap.size + 1, #[.int .i64 1], 3)) (by simp))).trans rfl }
  have HC : Hid (∀ u, Below ((((((w.alloc (.cells #[.float .f32 (sa 0), .float .f32 (sh 0), .float .f32 (sv 0)] 88)).alloc (.cells #[.int .i64 1] 3)).alloc (.cells #[.slice (some ⟨gs, 0, none⟩) n cap] 261)).alloc (.cells #[.float .f32 0, .float .f32 0, .float .f32 0, .float .f32 0] 258)).alloc (.cells #[.func (.func 196) #[] #[], .func (.func 197) #[] #[]] 267))).heap.size (((((w.alloc (.cells #[.float .f32 (sa 0), .float .f32 (sh 0), .float .f32 (sv 0)] 88)).alloc (.cells #[.int .i64 1] 3)).alloc (.cells #[.slice (some ⟨gs, 0, none⟩) n cap] 261)).alloc (.cells #[.float .f32 0, .float .f32 0, .float .f32 0, .float .f32 0] 258)).alloc (.cells #[.func (.func 196) #[] #[], .func (.func 197) #[] #[]] 267)) u → Calls Try.prog 199 #[.pointer (some ⟨w.heap.size, 0, none⟩), .pointer (some ⟨w.heap.size + 1 + 1, 0, none⟩), .pointer (some ⟨w.heap.size + 1 + 1 + 1 + 1, 0, none⟩), .pointer (some ⟨w.heap.size + 1, 0, none⟩)] u fun e u' => e = .panicked [{ v := .iface 255 (.agg #[.float .f32 p, .float .f32 q]), recovered := false }] ∧ Below u.heap.size u u') := hid fun u hu => iWay1_f n hn cap ys sa sh sv sf hf0 m hm [{ v := .iface 255 (.agg #[.float .f32 p, .float .f32 q]), recovered := false }] hpan hcall u _ _ _ _ _ _ (HW.out.stay hu)
  have hmf : ∀ (fn : Fn) (first cap : Array Value) (w : World), (Instr.makeFunc fn first cap).run Try.prog w = .ok (.func fn first cap) w := fun _ _ _ _ => rfl
  clear hcall hy hf0 hn HW hm hpan
  go_enter Try.func189, Try.ntmps189
  go_wp2_with fail
  refine (iAttempt_f 199 #[.pointer (some ⟨w.heap.size, 0, none⟩), .pointer (some ⟨w.heap.size + 1 + 1, 0, none⟩), .pointer (some ⟨w.heap.size + 1 + 1 + 1 + 1, 0, none⟩), .pointer (some ⟨w.heap.size + 1, 0, none⟩)] p q _ HC.out (fun w => by simp [go_sem])).mono ?_
  rintro e w1 ⟨rfl, hb1⟩
  have k1 := hid ((k0.out.stay hb1).sub (l' := [(w.heap.size + 1 + 1 + 1, #[.float .f32 0, .float .f32 0, .float .f32 0, .float .f32 0], 258), (w.heap.size + 1 + 1 + 1 + 1, #[.func (.func 196) #[] #[], .func (.func 197) #[] #[]], 267)]) (by simp))
  have hlt : w.heap.size ≤ w.heap.size + 1 + 1 + 1 := by omega
  clear k0 hb1
  go_wp2_with (refine store_kept (w0 := w) (l := [(w.heap.size + 1 + 1 + 1 + 1, #[.func (.func 196) #[] #[], .func (.func 197) #[] #[]], 267)]) rfl 258 _ _ rfl (w.heap.size + 1 + 1 + 1) (#[.float .f32 0, .float .f32 0, .float .f32 0, .float .f32 0]) rfl rfl 258 (#[.float .f32 0, .float .f32 0, .float .f32 0, .float .f32 0]) (k1.out) hlt (by simp) info_ris rfl (by simp [Value.oneCell']) (fun w6 k6 => ?_); replace k6 := hid k6)
  exact bodyPost_ret (results_row_tmp rfl _ _ (w.heap.size + 1 + 1 + 1) 258 (#[.float .f32 0, .float .f32 0, .float .f32 0, .float .f32 0]) (0, 0) _ rfl (k6.out.at (x := (w.heap.size + 1 + 1 + 1, #[.float .f32 0, .float .f32 0, .float .f32 0, .float .f32 0], 258)) (by simp)) Try.underlying258 rfl info_ris) rfl ⟨rfl, k6.out.1⟩

set_option maxRecDepth 100000 in
set_option maxHeartbeats 2000000 in
theorem sRaise_ok (a h v y : Nat) (hv : v < 4294967296) (D : RdF a h y) (hr : airB (rdW a h y) v = true) (w : World) :
    Calls Try.prog 174 #[.agg #[.float .f32 a, .float .f32 h, .float .f32 v], .float .f32 y] w fun e w' => e = .returned (.tuple #[.agg #[.float .f32 y, .float .f32 (rdW a h y), .float .f32 v], .int .i64 0]) ∧ Below w.heap.size w w' := by
  have k0 : Hid (Kept w [(w.heap.size, #[.float .f32 y, .float .f32 (rdW a h y), .float .f32 v], 88), (w.heap.size + 1, #[.float .f32 0, .float .f32 0, .float .f32 0], 88)] ((w.alloc (.cells #[.float .f32 y, .float .f32 (rdW a h y), .float .f32 v] 88)).alloc (.cells #[.float .f32 0, .float .f32 0, .float .f32 0] 88))) := hid ((((Kept.nil w).push _ _).push _ _).sub (by simp))
  have A0 : Hid (parAt ((w.alloc (.cells #[.float .f32 y, .float .f32 (rdW a h y), .float .f32 v] 88)).alloc (.cells #[.float .f32 0, .float .f32 0, .float .f32 0] 88)) w.heap.size y (rdW a h y) v 88) := hid (k0.out.at (x := (w.heap.size, #[.float .f32 y, .float .f32 (rdW a h y), .float .f32 v], 88)) (by simp))
  have HA := hid (fun u g o c0 c1 => sAirAt (rdW a h y) v hv true hr u g o c0 c1)
  have r1 := fun w => run_float_arith (P := Try.prog) w .sub 22 .f32 _ _ _ D.s1
  have r2 := fun w => run_float_arith (P := Try.prog) w .mul 22 .f32 _ _ _ D.s2
  have r3 := fun w => run_float_arith (P := Try.prog) w .sub 22 .f32 _ _ _ D.s3
  clear D hv hr
  go_enter Try.func174, Try.ntmps174
  go_wp2_with fail
  refine (HA.out _ w.heap.size 1 A0.out.c1 A0.out.c2).mono ?_
  rintro e w1 ⟨rfl, hb1⟩
  have k1 := hid (k0.out.stay hb1)
  clear A0
  have tok1 : True := trivial
  go_wp2_with (first | (refine wpList_load_row rfl 88 _ rfl (w.heap.size) rfl 88 (#[.float .f32 y, .float .f32 (rdW a h y), .float .f32 v]) (0, 0) _ (k1.out.at (x := (w.heap.size, #[.float .f32 y, .float .f32 (rdW a h y), .float .f32 v], 88)) (by simp)) Try.underlying88 rfl info_par ?_) | (have _t := tok1; (refine store_kept (w0 := w) (l := [(w.heap.size, #[.float .f32 y, .float .f32 (rdW a h y), .float .f32 v], 88)]) rfl 88 _ _ rfl (w.heap.size + 1) (#[.float .f32 y, .float .f32 (rdW a h y), .float .f32 v]) rfl rfl 88 (#[.float .f32 0, .float .f32 0, .float .f32 0]) (k1.out.swap) (by omega) (by first | (simp; done) | (simp; omega)) info_par rfl (by simp [Value.oneCell']) (fun w7 k7 => ?_); replace k7 := hid k7); clear tok1))
  exact bodyPost_ret (results_row_tmp rfl _ _ (w.heap.size + 1) 88 (#[.float .f32 y, .float .f32 (rdW a h y), .float .f32 v]) (0, 0) _ rfl (k7.out.at (x := (w.heap.size + 1, #[.float .f32 y, .float .f32 (rdW a h y), .float .f32 v], 88)) (by simp)) Try.underlying88 rfl info_par) rfl ⟨rfl, k7.out.1⟩

set_option maxRecDepth 100000 in
set_option maxHeartbeats 2000000 in
theorem sRaise_f (a h v y : Nat) (hv : v < 4294967296) (D : RdF a h y) (hr : airB (rdW a h y) v = false) (w : World) :
    Calls Try.prog 174 #[.agg #[.float .f32 a, .float .f32 h, .float .f32 v], .float .f32 y] w fun e w' => e = .returned (.tuple #[.agg #[.float .f32 0, .float .f32 0, .float .f32 0], .int .i64 4]) ∧ Below w.heap.size w w' := by
  have k0 : Hid (Kept w [(w.heap.size, #[.float .f32 y, .float .f32 (rdW a h y), .float .f32 v], 88), (w.heap.size + 1, #[.float .f32 0, .float .f32 0, .float .f32 0], 88)] ((w.alloc (.cells #[.float .f32 y, .float .f32 (rdW a h y), .float .f32 v] 88)).alloc (.cells #[.float .f32 0, .float .f32 0, .float .f32 0] 88))) := hid ((((Kept.nil w).push _ _).push _ _).sub (by simp))
  have A0 : Hid (parAt ((w.alloc (.cells #[.float .f32 y, .float .f32 (rdW a h y), .float .f32 v] 88)).alloc (.cells #[.float .f32 0, .float .f32 0, .float .f32 0] 88)) w.heap.size y (rdW a h y) v 88) := hid (k0.out.at (x := (w.heap.size, #[.float .f32 y, .float .f32 (rdW a h y), .float .f32 v], 88)) (by simp))
  have HA := hid (fun u g o c0 c1 => sAirAt (rdW a h y) v hv false hr u g o c0 c1)
  have r1 := fun w => run_float_arith (P := Try.prog) w .sub 22 .f32 _ _ _ D.s1
  have r2 := fun w => run_float_arith (P := Try.prog) w .mul 22 .f32 _ _ _ D.s2
  have r3 := fun w => run_float_arith (P := Try.prog) w .sub 22 .f32 _ _ _ D.s3
  clear D hv hr
  go_enter Try.func174, Try.ntmps174
  go_wp2_with fail
  refine (HA.out _ w.heap.size 1 A0.out.c1 A0.out.c2).mono ?_
  rintro e w1 ⟨rfl, hb1⟩
  have k1 := hid (k0.out.stay hb1)
  clear A0
  have tok1 : True := trivial
  go_wp2_with (first | (refine wpList_load_row rfl 88 _ rfl (w.heap.size) rfl 88 (#[.float .f32 y, .float .f32 (rdW a h y), .float .f32 v]) (0, 0) _ (k1.out.at (x := (w.heap.size, #[.float .f32 y, .float .f32 (rdW a h y), .float .f32 v], 88)) (by simp)) Try.underlying88 rfl info_par ?_) | (have _t := tok1; (refine store_kept (w0 := w) (l := [(w.heap.size, #[.float .f32 y, .float .f32 (rdW a h y), .float .f32 v], 88)]) rfl 88 _ _ rfl (w.heap.size + 1) (#[.float .f32 0, .float .f32 0, .float .f32 0]) rfl rfl 88 (#[.float .f32 0, .float .f32 0, .float .f32 0]) (k1.out.swap) (by omega) (by first | (simp; done) | (simp; omega)) info_par rfl (by simp [Value.oneCell']) (fun w7 k7 => ?_); replace k7 := hid k7); clear tok1))
  exact bodyPost_ret (results_row_tmp rfl _ _ (w.heap.size + 1) 88 (#[.float .f32 0, .float .f32 0, .float .f32 0]) (0, 0) _ rfl (k7.out.at (x := (w.heap.size + 1, #[.float .f32 0, .float .f32 0, .float .f32 0], 88)) (by simp)) Try.underlying88 rfl info_par) rfl ⟨rfl, k7.out.1⟩

theorem iDemand0 (w : World) : Calls Try.prog 144 #[.int .i64 0] w fun e w' => e = .returned (.tuple #[]) ∧ w = w' := by
  go_enter Try.func144, Try.ntmps144
  go_wp2
  go_end0
  exact ⟨rfl, rfl⟩

set_option maxRecDepth 100000 in
set_option maxHeartbeats 2000000 in
theorem iMoist_f (a h v f y : Nat) (D : RdF a h y) (hv : v < 4294967296) (hq : airB (rdW a h y) v = false) (w : World) :
    Calls Try.prog 197 #[.agg #[.float .f32 a, .float .f32 h, .float .f32 v, .float .f32 f], .float .f32 y] w fun e w' => e = .panicked [{ v := .iface 255 (.agg #[.float .f32 (rdW a h y), .float .f32 v]), recovered := false }] ∧ Below w.heap.size w w' := by
  have k0 : Hid (Kept w [(w.heap.size, #[.float .f32 a, .float .f32 h, .float .f32 v, .float .f32 f], 258), (w.heap.size + 1, #[.float .f32 0, .float .f32 0, .float .f32 0, .float .f32 0], 258)] ((w.alloc (.cells #[.float .f32 a, .float .f32 h, .float .f32 v, .float .f32 f] 258)).alloc (.cells #[.float .f32 0, .float .f32 0, .float .f32 0, .float .f32 0] 258))) := hid ((((Kept.nil w).push _ _).push _ _).sub (by simp))
  have HDr := hid (fun u => iDry_f a h v f y D hv hq u)
  clear D hv hq
  go_enter Try.func197, Try.ntmps197
  go_wp2_with fail
  refine (HDr.out _).mono ?_
  rintro e w1 ⟨rfl, hb1⟩
  exact ⟨rfl, rfl, (k0.out.stay hb1).1⟩

set_option maxRecDepth 100000 in
set_option maxHeartbeats 2000000 in
theorem iMoist_t (a h v f y : Nat) (D : RdF a h y) (hv : v < 4294967296) (hq : airB (rdW a h y) v = true) (H V G f1 : Nat) (hs : sett 30 (rdW a h y) v 0 = (H, V, G)) (hadd : S.add f G = some f1) (w : World) :
    Calls Try.prog 197 #[.agg #[.float .f32 a, .float .f32 h, .float .f32 v, .float .f32 f], .float .f32 y] w fun e w' => e = .returned (.agg #[.float .f32 y, .float .f32 H, .float .f32 V, .float .f32 f1]) ∧ Below w.heap.size w w' := by
  have k0 : Hid (Kept w [(w.heap.size, #[.float .f32 a, .float .f32 h, .float .f32 v, .float .f32 f], 258), (w.heap.size + 1, #[.float .f32 0, .float .f32 0, .float .f32 0, .float .f32 0], 258)] ((w.alloc (.cells #[.float .f32 a, .float .f32 h, .float .f32 v, .float .f32 f] 258)).alloc (.cells #[.float .f32 0, .float .f32 0, .float .f32 0, .float .f32 0] 258))) := hid ((((Kept.nil w).push _ _).push _ _).sub (by simp))
  have HDr := hid (fun u => iDry_t a h v f y D hv hq u)
  have HSt := hid (fun u => iSettle_ok (rdW a h y) v D.lt hq H V G hs u)
  have r1 := hid (fun w => run_float_arith (P := Try.prog) w .add 22 .f32 _ _ _ hadd)
  clear D hv hq hs hadd
  go_enter Try.func197, Try.ntmps197
  go_wp2_with fail
  refine (HDr.out _).mono ?_
  rintro e w1 ⟨rfl, hb1⟩
  have k1 := hid (k0.out.stay hb1)
  clear k0 hb1
  go_wp2_with (first | (have _t := k2; refine wpList_load_cut (by rfl) 32 _ rfl (w.heap.size) 1 rfl #[.float .f32 y, .float .f32 (rdW a h y), .float .f32 v, .float .f32 f] 258 (k2.out.at (x := (w.heap.size, #[.float .f32 y, .float .f32 (rdW a h y), .float .f32 v, .float .f32 f], 258)) (by simp)) [.float .f32 (rdW a h y), .float .f32 v] rfl _ Try.underlying32 rfl info_air ?_) | (refine store_kept (w0 := w) (l := [(w.heap.size + 1, #[.float .f32 0, .float .f32 0, .float .f32 0, .float .f32 0], 258)]) rfl 258 _ _ rfl (w.heap.size) (#[.float .f32 y, .float .f32 (rdW a h y), .float .f32 v, .float .f32 f]) rfl rfl 258 (#[.float .f32 a, .float .f32 h, .float .f32 v, .float .f32 f]) (k1.out) (Nat.le_refl _) (by first | (simp; done) | (simp; omega)) info_ris rfl (by simp [Value.oneCell']) (fun w2 k2 => ?_); replace k2 := hid k2))
  refine (HSt.out _).mono ?_
  rintro e w3 ⟨rfl, hb3⟩
  have k3 := hid (k2.out.stay hb3)
  have hlt := k3.out.lt (x := (w.heap.size + 1, #[.float .f32 0, .float .f32 0, .float .f32 0, .float .f32 0], 258)) (by simp)
  have hge : w.heap.size ≤ w3.heap.size := by simp at hlt; omega
  have hn1 : w3.heap.size ≠ w.heap.size := by simp at hlt; omega
  have hn2 : w3.heap.size ≠ w.heap.size + 1 := by simp at hlt; omega
  have k4 : Hid (Kept w [(w3.heap.size, #[.float .f32 H, .float .f32 V], 32), (w.heap.size, #[.float .f32 y, .float .f32 (rdW a h y), .float .f32 v, .float .f32 f], 258), (w.heap.size + 1, #[.float .f32 0, .float .f32 0, .float .f32 0, .float .f32 0], 258)] (w3.alloc (.cells #[.float .f32 H, .float .f32 V] 32))) := hid (k3.out.push _ _)
  clear k1 k2 k3 hb3
  go_wp2_with fail
  refine (iDemand0 _).mono ?_
  rintro e w4 ⟨rfl, rfl⟩
  generalize World.alloc w3 (.cells #[.float .f32 H, .float .f32 V] 32) = w4 at k4 ⊢
  go_wp2_with (first | (have _t := k7; fail) | (have _t := k6; first | (refine wpList_load_row rfl 258 _ rfl (w.heap.size) rfl 258 (#[.float .f32 y, .float .f32 H, .float .f32 V, .float .f32 f1]) (0, 0) _ (k6.out.at (x := (w.heap.size, #[.float .f32 y, .float .f32 H, .float .f32 V, .float .f32 f1], 258)) (by simp)) Try.underlying258 rfl info_ris ?_) | (refine store_kept (w0 := w) (l := [(w.heap.size, #[.float .f32 y, .float .f32 H, .float .f32 V, .float .f32 f1], 258), (w3.heap.size, #[.float .f32 H, .float .f32 V], 32)]) rfl 258 _ _ rfl (w.heap.size + 1) (#[.float .f32 y, .float .f32 H, .float .f32 V, .float .f32 f1]) rfl rfl 258 (#[.float .f32 0, .float .f32 0, .float .f32 0, .float .f32 0]) (k6.out.swap) (by omega) (by simpa using hn2) info_ris rfl (by simp [Value.oneCell']) (fun w7 k7 => ?_); replace k7 := hid k7)) | (refine wpList_load_row rfl 32 _ rfl (w3.heap.size) rfl 32 (#[.float .f32 H, .float .f32 V]) (0, 0) _ (k4.out.at (x := (w3.heap.size, #[.float .f32 H, .float .f32 V], 32)) (by simp)) Try.underlying32 rfl info_air ?_) | (refine store_part (w0 := w) (l := [(w.heap.size + 1, #[.float .f32 0, .float .f32 0, .float .f32 0, .float .f32 0], 258), (w3.heap.size, #[.float .f32 H, .float .f32 V], 32)]) rfl 32 _ _ rfl (w.heap.size) 1 rfl #[.float .f32 H, .float .f32 V] rfl #[.float .f32 y, .float .f32 (rdW a h y), .float .f32 v, .float .f32 f] #[.float .f32 y, .float .f32 H, .float .f32 V, .float .f32 f] 258 (k4.out.sub (by intro x hx; simp only [List.mem_cons, List.not_mem_nil, or_false] at hx ⊢; rcases hx with rfl | rfl | rfl <;> simp)) (Nat.le_refl _) (by simpa using hn1) (by simp) info_air (by simp [Value.oneCell']) rfl (fun w5 k5 => ?_); have c3 : World.cell? w5 ⟨w.heap.size, 3, none⟩ = some (.float .f32 f) := (cell_of_row w5 (w.heap.size) 3 _ _ _ (k5.at (x := (w.heap.size, #[.float .f32 y, .float .f32 H, .float .f32 V, .float .f32 f], 258)) (by simp))).trans rfl; have z3 : World.frozen? w5 ⟨w.heap.size, 3, none⟩ = false := frozen_of_row w5 (w.heap.size) 3 _ _ (k5.at (x := (w.heap.size, #[.float .f32 y, .float .f32 H, .float .f32 V, .float .f32 f], 258)) (by simp)); have r2 := r1.out; have k6 : Hid (Kept w [(w.heap.size, #[.float .f32 y, .float .f32 H, .float .f32 V, .float .f32 f1], 258), (w.heap.size + 1, #[.float .f32 0, .float .f32 0, .float .f32 0, .float .f32 0], 258), (w3.heap.size, #[.float .f32 H, .float .f32 V], 32)] (w5.setCell ⟨w.heap.size, 3, none⟩ (.float .f32 f1))) := hid (k5.lcell (Nat.le_refl _) (by simpa using hn1) 3 (.float .f32 f1)); clear k5 k4))
  exact bodyPost_ret (results_cell_row rfl _ _ (w.heap.size + 1) 258 (#[.float .f32 y, .float .f32 H, .float .f32 V, .float .f32 f1]) (0, 0) _ rfl (k7.out.at (x := (w.heap.size + 1, #[.float .f32 y, .float .f32 H, .float .f32 V, .float .f32 f1], 258)) (by simp)) Try.underlying258 rfl info_ris) rfl ⟨rfl, k7.out.1⟩

theorem infoz_f32 : (Try.prog.info? 22).map (fun i => (i.zero, i.size, i.bytes)) = some (some (.float .f32 0), 1, 4) := by kernel_rfl

theorem info_f1 : (Try.prog.info? 22).map (·.size) = some 1 := by kernel_rfl

set_option maxRecDepth 100000 in
set_option maxHeartbeats 2000000 in
theorem iHeights (a z p : Nat) (ha : Hgt a) (hz : Hgt z) (h1 : 1 ≤ p) (hp : p ≤ 100) (w : World) :
    Calls Try.prog 190 #[.float .f32 a, .float .f32 z, .int .i64 (p : Int)] w fun e w' => e = .returned (.slice (some ⟨w.heap.size, 0, none⟩) p p) ∧ w'.heap[w.heap.size]? = some (.cells (vls p (flw (upTo (stepW a z p) p))) 22 (0, 0)) ∧ Below w.heap.size w w' := by
  have r1 := fun w => run_float_arith (P := Try.prog) w .sub 22 .f32 _ _ _ (step_facts ha hz hp (k := 0) (by omega)).s1
  have HS := hid (fun k (hk : k < p) => step_facts ha hz hp hk)
  have HP := hid hp
  have hmk := fun w => run_make1 (P := Try.prog) (t := 261) (e := 22) Try.underlying261 infoz_f32 (n := p) (by omega) w
  have k0 : Hid (Kept w [(w.heap.size, vls p (flw (upTo (stepW a z p) 0)), 22)] (w.alloc (.cells (vls p (flw fun _ => 0)) 22))) := hid (by rw [upTo_zero]; exact (Kept.nil w).push _ _)
  have hneg : ¬ ((p : Int) < 0) := by omega
  clear ha hz hp h1
  go_enter Try.func190, Try.ntmps190
  go_wp2_with fail
  clear r1 hmk
  go_loopw [18] (fun i wr => ∃ k : Nat, k ≤ p ∧ i = .int .i64 k ∧ Hid (Kept w [(w.heap.size, vls p (flw (upTo (stepW a z p) k)), 22)] wr)) (fun i _ => p - (intOf i).toNat)
  case atStart => exact ⟨0, by omega, rfl, k0⟩
  case round =>
    obtain ⟨k, hk, rfl, hK⟩ := hrel
    clear k0
    by_cases hlt : k < p
    · have hk3 : (k : Int) < (p : Int) := by omega
      have HK := hid hlt
      have D := HS.out k hlt
      have r2 := fun w => run_float_arith (P := Try.prog) w .quo 22 .f32 _ _ _ D.s2
      have r3 := fun w => run_float_arith (P := Try.prog) w .mul 22 .f32 _ _ _ D.s3
      have r4 := fun w => run_float_arith (P := Try.prog) w .add 22 .f32 _ _ _ D.s4
      have cv1 : ∀ w, (convert 3 22 (.int .i64 ((k : Int) + 1))).run Try.prog w = .ok (.float .f32 (fiW ((k : Int) + 1))) w := fun w => rfl
      have cv2 : ∀ w, (convert 2 22 (.int .i64 (p : Int))).run Try.prog w = .ok (.float .f32 (fiW (p : Int))) w := fun w => rfl
      have ix : ∀ v, (Instr.indexAt 261 (.slice (some ⟨w.heap.size, 0, none⟩) p p) (.int .i64 (k : Int))).run Try.prog v = .ok (.pointer (some ⟨w.heap.size, k, none⟩)) v := fun v => by
        have := run_indexAt (P := Try.prog) (t := 261) (e := 22) (m := 1) Try.underlying261 info_f1 (b := w.heap.size) (o := 0) (n := p) (cap := p) (k := k) hlt v
        simpa using this
      have V : vAt wr w.heap.size p (flw (upTo (stepW a z p) k)) 22 := hK.out.at (x := (w.heap.size, vls p (flw (upTo (stepW a z p) k)), 22)) (by simp)
      have c1 : wr.cell? ⟨w.heap.size, k, none⟩ = some (.float .f32 (upTo (stepW a z p) k k)) := V.fcell hlt
      have z1 : wr.frozen? ⟨w.heap.size, k, none⟩ = false := V.frozen k
      have K1 : Hid (Kept w [(w.heap.size, vls p (flw (upTo (stepW a z p) (k + 1))), 22)] (wr.setCell ⟨w.heap.size, k, none⟩ (.float .f32 (stepW a z p k)))) := hid (by rw [← upTo_step]; exact hK.out.fcell (Nat.le_refl _) (by simp) k _)
      have hp9 := HP.out
      clear V D hK HS
      go_wp2_with fail
      go_roundw
      case rel => exact ⟨k + 1, by omega, by go_num, K1⟩
      case measure => simp [intOf]; omega
    · obtain rfl : k = p := by omega
      go_wp2
      go_ret
      exact ⟨rfl, hK.out.at (x := (w.heap.size, vls k (flw (upTo (stepW a z k) k)), 22)) (by simp), hK.out.1⟩

/-- A parcel on its way: its height, heat, vapour, and what has fallen out. -/
structure Mo where
  a : Nat
  h : Nat
  v : Nat
  f : Nat

def moSt (a z p h v : Nat) : Nat → Mo
  | 0 => ⟨a, h, v, 0⟩
  | k + 1 =>
    let s := moSt a z p h v k
    let r := rdW s.a s.h (stepW a z p k)
    ⟨stepW a z p k, setH r s.v, setV r s.v, fadd s.f (setG r s.v)⟩

def moR (a z p h v k : Nat) : Nat := rdW (moSt a z p h v k).a (moSt a z p h v k).h (stepW a z p k)

def moB (a z p h v k : Nat) : Bool := airB (moR a z p h v k) (moSt a z p h v k).v

structure MoF (s : Mo) : Prop where
  fa : FW s.a
  hw : s.h < 4294967296
  air : airB s.h s.v = true
  fn : nnB s.f = true

theorem MoF.vw {s : Mo} (m : MoF s) : s.v < 4294967296 := amt_lt (airB_iff.1 m.air).2.1

theorem MoF.fh {s : Mo} (m : MoF s) : FW s.h := fw_of m.hw (heat_fin m.hw (airB_iff.1 m.air).1)

theorem mo_rd {a z p h v k : Nat} (ha : Hgt a) (hz : Hgt z) (hp : p ≤ 100) (hk : k < p) (m : MoF (moSt a z p h v k)) : RdF (moSt a z p h v k).a (moSt a z p h v k).h (stepW a z p k) :=
  rd_facts m.fa m.fh (step_facts ha hz hp hk).fy

theorem mo_next {a z p h v k : Nat} (ha : Hgt a) (hz : Hgt z) (hp : p ≤ 100) (hk : k < p) (m : MoF (moSt a z p h v k)) (hb : moB a z p h v k = true) :
    MoF (moSt a z p h v (k + 1)) ∧ S.add (moSt a z p h v k).f (setG (moR a z p h v k) (moSt a z p h v k).v) = some (moSt a z p h v (k + 1)).f := by
  have D := mo_rd ha hz hp hk m
  obtain ⟨s1, s2, s3⟩ := set_ok D.lt hb
  have e := add_eq m.fn (amt_nn s3)
  exact ⟨⟨(step_facts ha hz hp hk).fy, s2, s1, e.2⟩, e.1⟩

theorem mo_facts {a z p h v : Nat} (ha : Hgt a) (hz : Hgt z) (hp : p ≤ 100) (hx : h < 4294967296) (hq : airB h v = true) : ∀ k, k ≤ p → (∀ j, j < k → moB a z p h v j = true) → MoF (moSt a z p h v k)
  | 0, _, _ => ⟨fw_amt (amtB_iff.2 (hgt_inf ha)), hx, hq, (by decide : nnB 0 = true)⟩
  | k + 1, hk, hj => (mo_next ha hz hp (by omega) (mo_facts ha hz hp hx hq k (by omega) (fun j h => hj j (by omega))) (hj k (by omega))).1

theorem mo_sett {a z p h v k : Nat} : sett 30 (moR a z p h v k) (moSt a z p h v k).v 0 = ((moSt a z p h v (k + 1)).h, (moSt a z p h v (k + 1)).v, setG (moR a z p h v k) (moSt a z p h v k).v) := rfl

/-- The program's step. -/
theorem iMoStep {a z p h v k : Nat} (ha : Hgt a) (hz : Hgt z) (hp : p ≤ 100) (hk : k < p) (m : MoF (moSt a z p h v k)) (hb : moB a z p h v k = true) (w : World) :
    Calls Try.prog 197 #[.agg #[.float .f32 (moSt a z p h v k).a, .float .f32 (moSt a z p h v k).h, .float .f32 (moSt a z p h v k).v, .float .f32 (moSt a z p h v k).f], .float .f32 (stepW a z p k)] w fun e w' => e = .returned (.agg #[.float .f32 (moSt a z p h v (k + 1)).a, .float .f32 (moSt a z p h v (k + 1)).h, .float .f32 (moSt a z p h v (k + 1)).v, .float .f32 (moSt a z p h v (k + 1)).f]) ∧ Below w.heap.size w w' :=
  iMoist_t _ _ _ _ _ (mo_rd ha hz hp hk m) m.vw hb _ _ _ _ mo_sett (mo_next ha hz hp hk m hb).2 w

theorem iMoStop {a z p h v k : Nat} (ha : Hgt a) (hz : Hgt z) (hp : p ≤ 100) (hk : k < p) (m : MoF (moSt a z p h v k)) (hb : moB a z p h v k = false) (w : World) :
    Calls Try.prog 197 #[.agg #[.float .f32 (moSt a z p h v k).a, .float .f32 (moSt a z p h v k).h, .float .f32 (moSt a z p h v k).v, .float .f32 (moSt a z p h v k).f], .float .f32 (stepW a z p k)] w fun e w' => e = .panicked [{ v := .iface 255 (.agg #[.float .f32 (moR a z p h v k), .float .f32 (moSt a z p h v k).v]), recovered := false }] ∧ Below w.heap.size w w' :=
  iMoist_f _ _ _ _ _ (mo_rd ha hz hp hk m) m.vw hb w

theorem at_air {n : Nat} {x : Nat → Nat} (F : SouF n x) {h : Nat} (hc : (atR n x h).2.2 = 0) : airB (atR n x h).1 (atR n x h).2.1 = true := by
  unfold atR at hc ⊢
  rcases hb : firstB (stopH x h) (n - 1) with _ | k
  · rw [hb] at hc
    have hc : (6 : Int) = 0 := hc
    exact absurd hc (by decide)
  · have hk := firstB_lt hb
    rw [hb] at hc
    have hc : (layR x h k).2.2 = 0 := hc
    show airB (layR x h k).1 (layR x h k).2.1 = true
    unfold layR at hc ⊢
    by_cases e1 : eqH x h k = true
    · rw [if_pos e1]; exact (parB_iff.1 (F.lv k (by omega))).2
    · rw [if_neg e1] at hc ⊢
      by_cases e2 : eqH x h (k + 1) = true
      · rw [if_pos e2]; exact (parB_iff.1 (F.lv (k + 1) (by omega))).2
      · rw [if_neg e2] at hc ⊢
        unfold mixR at hc ⊢
        by_cases e3 : airB (mixW (x (k * 3 + 1)) (x ((k + 1) * 3 + 1)) (shW x h k)) (mixW (x (k * 3 + 2)) (x ((k + 1) * 3 + 2)) (shW x h k)) = true
        · rw [if_pos e3]; exact e3
        · rw [if_neg e3] at hc; exact absurd hc (by decide)

/-- A parcel that rises in a sounding: its height, heat and vapour, and the energy. -/
structure RSt where
  a : Nat
  h : Nat
  v : Nat
  e : Nat

def liR (n : Nat) (x : Nat → Nat) (s : RSt) : Nat := fsb s.h (atR n x s.a).1

def zR (st : Nat) (s : RSt) : Nat := fadd s.a st

def moRs (st : Nat) (s : RSt) : Mo := moSt s.a (zR st s) 1 s.h s.v 1

def mhR (n : Nat) (x : Nat → Nat) (st sh : Nat) (s : RSt) : Nat := mixW (moRs st s).h (atR n x (zR st s)).1 sh

def mvR (n : Nat) (x : Nat → Nat) (st sh : Nat) (s : RSt) : Nat := mixW (moRs st s).v (atR n x (zR st s)).2.1 sh

def enR (n : Nat) (x : Nat → Nat) (st : Nat) (s : RSt) : Nat := fadd s.e (fmul (liR n x s) st)

def nxR (n : Nat) (x : Nat → Nat) (st sh : Nat) (s : RSt) : RSt := ⟨zR st s, mhR n x st sh s, mvR n x st sh s, enR n x st s⟩

def upR (n : Nat) (x : Nat → Nat) (st sh : Nat) (s : RSt) : Int :=
  if moB s.a (zR st s) 1 s.h s.v 0 = true then (if (atR n x (zR st s)).2.2 = 0 then (if airB (mhR n x st sh s) (mvR n x st sh s) = true then 0 else 4) else (atR n x (zR st s)).2.2) else 4

def gtZ (a : Nat) : Bool := S.order a 0 == some .gt

def leW (a b : Nat) : Bool := S.order a b == some .lt || S.order a b == some .eq

structure RVal (s : RSt) : Prop where
  p : parB s.a s.h s.v = true
  hl : s.h < 4294967296
  en : nnB s.e = true

theorem RVal.hg {s : RSt} (V : RVal s) : Hgt s.a := hgt_iff.1 (parB_iff.1 V.p).1

theorem RVal.al {s : RSt} (V : RVal s) : s.a < 4294967296 := Nat.lt_trans (hgt_inf V.hg) (by decide)

theorem RVal.vl {s : RSt} (V : RVal s) : s.v < 4294967296 := amt_lt (airB_iff.1 (parB_iff.1 V.p).2).2.1

theorem sv_nn {a : Nat} (h : nnB a = true) : sv a = (val a : Int) := by
  rw [nnB_iff] at h
  have : a < 2147483648 := Nat.lt_of_le_of_lt h (by decide)
  have e : mg a = a := by unfold mg; exact Nat.mod_eq_of_lt this
  unfold sv
  rw [if_neg (by omega), e]

theorem r_lift {n : Nat} {x : Nat → Nat} (hx : W32 x) (F : SouF n x) {s : RSt} (V : RVal s) (hc : (atR n x s.a).2.2 = 0) : S.sub s.h (atR n x s.a).1 = some (liR n x s) ∧ FW (liR n x s) := by
  have L := at_fin hx F V.al
  obtain ⟨p0, _, _⟩ := airB_iff.1 (parB_iff.1 V.p).2
  obtain ⟨q0, _, _⟩ := airB_iff.1 (at_air F hc)
  obtain ⟨f0, l0, u0⟩ := (heat_sv V.hl).1 p0
  obtain ⟨f1, l1, u1⟩ := (heat_sv L.1).1 q0
  have b := tb2
  have A := sub_bd (lo := 3270508544) (hi := 1123024896) f0 f1 ⟨by decide, by decide⟩ ⟨by decide, by decide⟩ (by omega) (by omega)
  exact ⟨A.1, A.2.1⟩

theorem r_z {st : Nat} (hs : st < INF) {s : RSt} (V : RVal s) : S.add s.a st = some (zR st s) ∧ nnB (zR st s) = true :=
  add_eq (amt_nn (amtB_iff.2 (hgt_inf V.hg))) (amt_nn (amtB_iff.2 hs))

theorem r_hgt {st top : Nat} (hs : st < INF) (ht : Hgt top) {s : RSt} (V : RVal s) (hle : leW (zR st s) top = true) : hgtB (zR st s) = true := by
  have Z := (r_z hs V).2
  have ft : FW top := fw_amt (amtB_iff.2 (hgt_inf ht))
  have o := order_nw (nn_nw Z) ft
  have ho : sv (zR st s) ≤ sv top := by
    rcases Int.lt_or_le (sv top) (sv (zR st s)) with h | h
    · unfold leW at hle
      rw [o, Int.compare_eq_gt.2 h] at hle
      exact absurd hle (by decide)
    · exact h
  rw [sv_nn Z, sv_amt (hgt_inf ht)] at ho
  refine hgt_iff.2 (Nat.le_trans ?_ ht)
  rcases Nat.lt_or_ge top (zR st s) with h | h
  · have := val_lt h; omega
  · exact h

theorem gt_nn {l : Nat} (hl : FW l) (h : gtZ l = true) : amtB l = true := by
  unfold gtZ at h
  have o : (S.order l 0 == some .gt) = decide (sv 0 < sv l) := gt_nw ⟨hl.1, Nat.le_of_lt hl.2⟩ ⟨by decide, by decide⟩
  rw [o, decide_eq_true_eq] at h
  have z0 : sv 0 = 0 := by decide +kernel
  rw [z0] at h
  have hm : l < 2147483648 := by
    rcases Nat.lt_or_ge l 2147483648 with e | e
    · exact e
    · exfalso
      unfold sv at h
      rw [if_pos e] at h
      omega
  have := hl.2
  unfold mg at this
  rw [Nat.mod_eq_of_lt hm] at this
  exact amtB_iff.2 this

structure RStep (n : Nat) (x : Nat → Nat) (st : Nat) (s : RSt) : Prop where
  m : S.mul (liR n x s) st = some (fmul (liR n x s) st)
  d : S.add s.e (fmul (liR n x s) st) = some (enR n x st s)
  nn : nnB (enR n x st s) = true

theorem r_step {n : Nat} {x : Nat → Nat} (hx : W32 x) (F : SouF n x) {st : Nat} (hs : st < INF) {s : RSt} (V : RVal s) (hc : (atR n x s.a).2.2 = 0) (hg : gtZ (liR n x s) = true) : RStep n x st s := by
  have L := r_lift hx F V hc
  have A := gt_nn L.2 hg
  have M := mul_eq A (amtB_iff.2 hs)
  have D := add_eq V.en M.2
  exact ⟨M.1, D.1, D.2⟩

structure RMo (n : Nat) (x : Nat → Nat) (st sh : Nat) (s : RSt) : Prop where
  par : parB (zR st s) (moRs st s).h (moRs st s).v = true
  hl : (moRs st s).h < 4294967296
  vl : (moRs st s).v < 4294967296

theorem r_mo {n : Nat} {x : Nat → Nat} {st sh : Nat} {s : RSt} (V : RVal s) (hz : hgtB (zR st s) = true) (hm : moB s.a (zR st s) 1 s.h s.v 0 = true) : RMo n x st sh s := by
  have M := mo_facts (p := 1) V.hg (hgt_iff.1 hz) (by omega) V.hl (parB_iff.1 V.p).2 1 (Nat.le_refl _) (fun j hj => by obtain rfl : j = 0 := (by omega); exact hm)
  exact ⟨parB_iff.2 ⟨hz, M.air⟩, M.hw, M.vw⟩

theorem zR_lt {st : Nat} {s : RSt} (hz : hgtB (zR st s) = true) : zR st s < 4294967296 := Nat.lt_trans (hgt_inf (hgt_iff.1 hz)) (by decide)

theorem r_mix {n : Nat} {x : Nat → Nat} (hx : W32 x) (F : SouF n x) {st sh : Nat} (hsh : Share sh) {s : RSt} (hz : hgtB (zR st s) = true) (M : RMo n x st sh s) :
    MixF (moRs st s).h (atR n x (zR st s)).1 sh ∧ MixF (moRs st s).v (atR n x (zR st s)).2.1 sh := by
  have L := at_fin hx F (zR_lt hz)
  obtain ⟨p0, p1, _⟩ := airB_iff.1 (parB_iff.1 M.par).2
  exact ⟨mix_facts M.hl (heat_fin M.hl p0) L.1 L.2.2.1 hsh, mix_facts M.vl (amt_fin p1) L.2.1 L.2.2.2 hsh⟩

def rsR (n : Nat) (x : Nat → Nat) (st sh : Nat) (s0 : RSt) : Nat → RSt
  | 0 => s0
  | k + 1 => nxR n x st sh (rsR n x st sh s0 k)

def goR (n : Nat) (x : Nat → Nat) (st top M k : Nat) (s : RSt) : Prop := gtZ (liR n x s) = true ∧ k < M ∧ leW (zR st s) top = true

def okR (n : Nat) (x : Nat → Nat) (st sh top M k : Nat) (s : RSt) : Prop := (atR n x s.a).2.2 = 0 ∧ goR n x st top M k s ∧ upR n x st sh s = 0

theorem up_ok {n : Nat} {x : Nat → Nat} {st sh : Nat} {s : RSt} (h : upR n x st sh s = 0) : moB s.a (zR st s) 1 s.h s.v 0 = true ∧ (atR n x (zR st s)).2.2 = 0 ∧ airB (mhR n x st sh s) (mvR n x st sh s) = true := by
  unfold upR at h
  by_cases e1 : moB s.a (zR st s) 1 s.h s.v 0 = true
  · rw [if_pos e1] at h
    by_cases e2 : (atR n x (zR st s)).2.2 = 0
    · rw [if_pos e2] at h
      by_cases e3 : airB (mhR n x st sh s) (mvR n x st sh s) = true
      · exact ⟨e1, e2, e3⟩
      · rw [if_neg e3] at h; exact absurd h (by decide)
    · rw [if_neg e2] at h; exact absurd h e2
  · rw [if_neg e1] at h; exact absurd h (by decide)

theorem r_next {n : Nat} {x : Nat → Nat} (hx : W32 x) (F : SouF n x) {st sh top M k : Nat} (hs : st < INF) (hsh : Share sh) (ht : Hgt top) {s : RSt} (V : RVal s) (h : okR n x st sh top M k s) : RVal (nxR n x st sh s) := by
  obtain ⟨hc, ⟨hg, _, hle⟩, hu⟩ := h
  obtain ⟨u1, u2, u3⟩ := up_ok hu
  have hz := r_hgt hs ht V hle
  have MM := r_mo (n := n) (x := x) (sh := sh) V hz u1
  have X := r_mix hx F hsh hz MM
  exact ⟨parB_iff.2 ⟨hz, u3⟩, X.1.lt, (r_step hx F hs V hc hg).nn⟩

theorem r_val {n : Nat} {x : Nat → Nat} (hx : W32 x) (F : SouF n x) {st sh top M : Nat} (hs : st < INF) (hsh : Share sh) (ht : Hgt top) {s : RSt} (V : RVal s) {K : Nat} (hM : ∀ j, j < K → okR n x st sh top M j (rsR n x st sh s j)) : RVal (rsR n x st sh s K) := by
  induction K with
  | zero => exact V
  | succ j ih => exact r_next hx F hs hsh ht (ih fun i hi => hM i (by omega)) (hM j (by omega))

theorem least_stop (p : Nat → Prop) : ∀ N : Nat, ∃ K, K ≤ N ∧ (∀ j, j < K → p j) ∧ (K < N → ¬ p K)
  | 0 => ⟨0, Nat.le_refl _, fun j hj => absurd hj (Nat.not_lt_zero j), fun h => absurd h (Nat.lt_irrefl _)⟩
  | N + 1 => by
    obtain ⟨K, h1, h2, h3⟩ := least_stop p N
    by_cases e : K = N
    · subst e
      by_cases h : p K
      · exact ⟨K + 1, Nat.le_refl _, fun j hj => by
          by_cases e : j = K
          · rw [e]; exact h
          · exact h2 j (by omega), fun h => absurd h (Nat.lt_irrefl _)⟩
      · exact ⟨K, by omega, h2, fun _ => h⟩
    · exact ⟨K, by omega, h2, fun _ => h3 (by omega)⟩

set_option maxRecDepth 100000 in
set_option maxHeartbeats 4000000 in
theorem sMoist_ok (a h v z n : Nat) (hx : h < 4294967296) (hp : parB a h v = true) (hq : hgtB z = true) (hn : n ≤ 100) (h1 : 1 ≤ n) (hall : ∀ j, j < n → moB a z n h v j = true) (w : World) :
    Calls Try.prog 146 #[.agg #[.float .f32 a, .float .f32 h, .float .f32 v], .float .f32 z, .int .i64 (n : Int)] w fun e w' => e = .returned (.tuple #[.agg #[.float .f32 z, .float .f32 (moSt a z n h v n).h, .float .f32 (moSt a z n h v n).v], .float .f32 (moSt a z n h v n).f, .int .i64 0]) ∧ Below w.heap.size w w' := by
  have Ha : Hgt a := hgt_iff.1 (parB_iff.1 hp).1
  have Hz : Hgt z := hgt_iff.1 hq
  have hA := (parB_iff.1 hp).2
  have HM := hid (fun k (hk : k ≤ n) => mo_facts (h := h) (v := v) Ha Hz hn hx hA k (by omega) (fun j hj => hall j (by omega)))
  have HS := hid (fun k (hk : k < n) => step_facts (k := k) Ha Hz hn hk)
  have HD := hid (fun k (hk : k < n) (m : MoF (moSt a z n h v k)) => mo_rd Ha Hz hn hk m)
  have HNx := hid (fun k (hk : k < n) (m : MoF (moSt a z n h v k)) (hb : moB a z n h v k = true) => mo_next Ha Hz hn hk m hb)
  have HAll := hid hall
  have HN := hid hn
  have r1 := fun w => run_float_arith (P := Try.prog) w .sub 22 .f32 _ _ _ (step_facts Ha Hz hn (k := 0) (by omega)).s1
  have k0 : Hid (Kept w [(w.heap.size, #[.float .f32 a, .float .f32 h, .float .f32 v], 88), (w.heap.size + 1, #[.float .f32 0, .float .f32 0, .float .f32 0], 88)] ((w.alloc (.cells #[.float .f32 a, .float .f32 h, .float .f32 v] 88)).alloc (.cells #[.float .f32 0, .float .f32 0, .float .f32 0] 88))) := hid ((((Kept.nil w).push _ _).push _ _).sub (by simp))
  clear hx hp hq hn h1 hall hA Ha Hz
  go_enter Try.func146, Try.ntmps146
  go_wp2_with fail
  clear r1
  go_loopw [12, 11] (fun i gs wr => ∃ k : Nat, k ≤ n ∧ i = .int .i64 ((k : Int) + 1) ∧ gs = .float .f32 (moSt a z n h v k).f ∧ Hid (Kept w [(w.heap.size, #[.float .f32 (moSt a z n h v k).a, .float .f32 (moSt a z n h v k).h, .float .f32 (moSt a z n h v k).v], 88), (w.heap.size + 1, #[.float .f32 0, .float .f32 0, .float .f32 0], 88)] wr)) (fun i _ _ => n + 1 - (intOf i).toNat)
  case atStart => exact ⟨0, by omega, rfl, rfl, k0⟩
  case round =>
    obtain ⟨k, hk, rfl, rfl, hK⟩ := hrel
    clear k0
    by_cases hlt : k < n
    · have HK := hid hlt
      have hkn : k < n := hlt
      have hle : (k : Int) + 1 ≤ (n : Int) := by omega
      have D := HS.out k hkn
      have m0 := HM.out k hk
      have hb := HAll.out k hlt
      have nx := HNx.out k hkn m0 hb
      have r2 := fun w => run_float_arith (P := Try.prog) w .quo 22 .f32 _ _ _ D.s2
      have r3 := fun w => run_float_arith (P := Try.prog) w .mul 22 .f32 _ _ _ D.s3
      have r4 := fun w => run_float_arith (P := Try.prog) w .add 22 .f32 _ _ _ D.s4
      have r5 := hid (fun w => run_float_arith (P := Try.prog) w .add 22 .f32 _ _ _ nx.2)
      have cv1 : ∀ w, (convert 2 22 (.int .i64 ((k : Int) + 1))).run Try.prog w = .ok (.float .f32 (fiW ((k : Int) + 1))) w := fun w => rfl
      have cv2 : ∀ w, (convert 2 22 (.int .i64 (n : Int))).run Try.prog w = .ok (.float .f32 (fiW (n : Int))) w := fun w => rfl
      have HRs := hid (fun u => sRaise_ok (moSt a z n h v k).a (moSt a z n h v k).h (moSt a z n h v k).v (stepW a z n k) m0.vw (HD.out k hkn m0) hb u)
      have HSt := hid (fun u => sSettle (moR a z n h v k) (moSt a z n h v k).v (HD.out k hkn m0).lt hb _ _ _ mo_sett u)
      have HA := hid (fun u g T hg => sAirOk_t (moSt a z n h v (k + 1)).h (moSt a z n h v (k + 1)).v nx.1.air u g T hg)
      clear D m0 hb nx hlt hkn hk
      go_wp2_with (refine wpList_load_row rfl 88 _ rfl (w.heap.size) rfl 88 (#[.float .f32 (moSt a z n h v k).a, .float .f32 (moSt a z n h v k).h, .float .f32 (moSt a z n h v k).v]) (0, 0) _ (hK.out.at (x := (w.heap.size, #[.float .f32 (moSt a z n h v k).a, .float .f32 (moSt a z n h v k).h, .float .f32 (moSt a z n h v k).v], 88)) (by simp)) Try.underlying88 rfl info_par ?_)
      refine (HRs.out _).mono ?_
      rintro e w2 ⟨rfl, hb2⟩
      have k2 := hid (hK.out.stay hb2)
      have hlt2 := k2.out.lt (x := (w.heap.size + 1, #[.float .f32 0, .float .f32 0, .float .f32 0], 88)) (by simp)
      have k3 : Hid (Kept w [(w2.heap.size, #[.float .f32 (stepW a z n k), .float .f32 (moR a z n h v k), .float .f32 (moSt a z n h v k).v], 88), (w.heap.size, #[.float .f32 (moSt a z n h v k).a, .float .f32 (moSt a z n h v k).h, .float .f32 (moSt a z n h v k).v], 88), (w.heap.size + 1, #[.float .f32 0, .float .f32 0, .float .f32 0], 88)] (w2.alloc (.cells #[.float .f32 (stepW a z n k), .float .f32 (moR a z n h v k), .float .f32 (moSt a z n h v k).v] 88))) := hid (k2.out.push _ _)
      have hg2 : w.heap.size + 1 < w2.heap.size := by simpa using hlt2
      clear k2 hb2 hK hlt2 r2 r3 r4 cv1 cv2 hle
      go_wp2_with (refine wpList_load_cut (by rfl) 32 _ rfl (w2.heap.size) 1 rfl #[.float .f32 (stepW a z n k), .float .f32 (moR a z n h v k), .float .f32 (moSt a z n h v k).v] 88 (k3.out.at (x := (w2.heap.size, #[.float .f32 (stepW a z n k), .float .f32 (moR a z n h v k), .float .f32 (moSt a z n h v k).v], 88)) (by simp)) [.float .f32 (moR a z n h v k), .float .f32 (moSt a z n h v k).v] rfl _ Try.underlying32 rfl info_air ?_)
      refine (HSt.out _).mono ?_
      rintro e w4 ⟨rfl, hb4⟩
      have k4 := hid (k3.out.stay hb4)
      have hlt4 := k4.out.lt (x := (w2.heap.size, #[.float .f32 (stepW a z n k), .float .f32 (moR a z n h v k), .float .f32 (moSt a z n h v k).v], 88)) (by simp)
      have k5 : Hid (Kept w [(w4.heap.size, #[.float .f32 (moSt a z n h v (k + 1)).h, .float .f32 (moSt a z n h v (k + 1)).v], 32), (w2.heap.size, #[.float .f32 (stepW a z n k), .float .f32 (moR a z n h v k), .float .f32 (moSt a z n h v k).v], 88), (w.heap.size, #[.float .f32 (moSt a z n h v k).a, .float .f32 (moSt a z n h v k).h, .float .f32 (moSt a z n h v k).v], 88), (w.heap.size + 1, #[.float .f32 0, .float .f32 0, .float .f32 0], 88)] (w4.alloc (.cells #[.float .f32 (moSt a z n h v (k + 1)).h, .float .f32 (moSt a z n h v (k + 1)).v] 32))) := hid (k4.out.push _ _)
      have hg4 : w2.heap.size < w4.heap.size := by simpa using hlt4
      clear k3 k4 hb4 hlt4
      go_wp2_with fail
      refine (HA.out _ w4.heap.size 32 (k5.out.at (x := (w4.heap.size, #[.float .f32 (moSt a z n h v (k + 1)).h, .float .f32 (moSt a z n h v (k + 1)).v], 32)) (by simp))).mono ?_
      rintro e w5 ⟨rfl, rfl⟩
      generalize World.alloc w4 (.cells #[.float .f32 (moSt a z n h v (k + 1)).h, .float .f32 (moSt a z n h v (k + 1)).v] 32) = w5 at k5 ⊢
      generalize w2.heap.size = g2 at k5 hg2 hg4 ⊢
      generalize w4.heap.size = g4 at k5 hg4 ⊢
      have r6 := r5.out
      have hkk := HK.out
      have hnn := HN.out
      clear HRs HSt HA HK
      have tok1 : True := trivial
      go_wp2_with (first | (have _t := k6; first | (refine wpList_load_row rfl 88 _ rfl (g2) rfl 88 (#[.float .f32 (moSt a z n h v (k + 1)).a, .float .f32 (moSt a z n h v (k + 1)).h, .float .f32 (moSt a z n h v (k + 1)).v]) (0, 0) _ (k6.out.at (x := (g2, #[.float .f32 (moSt a z n h v (k + 1)).a, .float .f32 (moSt a z n h v (k + 1)).h, .float .f32 (moSt a z n h v (k + 1)).v], 88)) (by simp)) Try.underlying88 rfl info_par ?_) | (refine store_kept (w0 := w) (l := [(g2, #[.float .f32 (moSt a z n h v (k + 1)).a, .float .f32 (moSt a z n h v (k + 1)).h, .float .f32 (moSt a z n h v (k + 1)).v], 88), (g4, #[.float .f32 (moSt a z n h v (k + 1)).h, .float .f32 (moSt a z n h v (k + 1)).v], 32), (w.heap.size + 1, #[.float .f32 0, .float .f32 0, .float .f32 0], 88)]) rfl 88 _ _ rfl (w.heap.size) (#[.float .f32 (moSt a z n h v (k + 1)).a, .float .f32 (moSt a z n h v (k + 1)).h, .float .f32 (moSt a z n h v (k + 1)).v]) rfl rfl 88 (#[.float .f32 (moSt a z n h v k).a, .float .f32 (moSt a z n h v k).h, .float .f32 (moSt a z n h v k).v]) (k6.out.sub (by intro x hx; simp only [List.mem_cons, List.not_mem_nil, or_false] at hx ⊢; rcases hx with rfl | rfl | rfl | rfl <;> simp)) (Nat.le_refl _) (by simp; omega) info_par rfl (by simp [Value.oneCell']) (fun w7 k7 => ?_); have k8 := hid (k7.sub (l' := [(w.heap.size, #[.float .f32 (moSt a z n h v (k + 1)).a, .float .f32 (moSt a z n h v (k + 1)).h, .float .f32 (moSt a z n h v (k + 1)).v], 88), (w.heap.size + 1, #[.float .f32 0, .float .f32 0, .float .f32 0], 88)]) (by simp)); clear k7 k5)) | (refine wpList_load_row rfl 32 _ rfl (g4) rfl 32 (#[.float .f32 (moSt a z n h v (k + 1)).h, .float .f32 (moSt a z n h v (k + 1)).v]) (0, 0) _ (k5.out.at (x := (g4, #[.float .f32 (moSt a z n h v (k + 1)).h, .float .f32 (moSt a z n h v (k + 1)).v], 32)) (by simp)) Try.underlying32 rfl info_air ?_) | (refine store_part (w0 := w) (l := [(g4, #[.float .f32 (moSt a z n h v (k + 1)).h, .float .f32 (moSt a z n h v (k + 1)).v], 32), (w.heap.size, #[.float .f32 (moSt a z n h v k).a, .float .f32 (moSt a z n h v k).h, .float .f32 (moSt a z n h v k).v], 88), (w.heap.size + 1, #[.float .f32 0, .float .f32 0, .float .f32 0], 88)]) rfl 32 _ _ rfl g2 1 rfl #[.float .f32 (moSt a z n h v (k + 1)).h, .float .f32 (moSt a z n h v (k + 1)).v] rfl #[.float .f32 (stepW a z n k), .float .f32 (moR a z n h v k), .float .f32 (moSt a z n h v k).v] #[.float .f32 (moSt a z n h v (k + 1)).a, .float .f32 (moSt a z n h v (k + 1)).h, .float .f32 (moSt a z n h v (k + 1)).v] 88 (k5.out.sub (by intro x hx; simp only [List.mem_cons, List.not_mem_nil, or_false] at hx ⊢; rcases hx with rfl | rfl | rfl | rfl <;> simp)) (by omega) (by simp; omega) (by simp) info_air (by simp [Value.oneCell']) rfl (fun w6 k6 => ?_); replace k6 := hid k6))
      go_roundw
      case rel => exact ⟨k + 1, by omega, by go_num, rfl, k8⟩
      case measure => simp [intOf]; omega
    · obtain rfl : k = n := by omega
      have hle : ¬ ((k : Int) + 1 ≤ (k : Int)) := by omega
      have c0 : World.cell? wr ⟨w.heap.size, 0, none⟩ = some (.float .f32 (moSt a z k h v k).a) := (cell_of_row wr (w.heap.size) 0 _ _ _ (hK.out.at (x := (w.heap.size, #[.float .f32 (moSt a z k h v k).a, .float .f32 (moSt a z k h v k).h, .float .f32 (moSt a z k h v k).v], 88)) (by simp))).trans rfl
      have z0 : World.frozen? wr ⟨w.heap.size, 0, none⟩ = false := frozen_of_row wr (w.heap.size) 0 _ _ (hK.out.at (x := (w.heap.size, #[.float .f32 (moSt a z k h v k).a, .float .f32 (moSt a z k h v k).h, .float .f32 (moSt a z k h v k).v], 88)) (by simp))
      have k5 : Hid (Kept w [(w.heap.size, #[.float .f32 z, .float .f32 (moSt a z k h v k).h, .float .f32 (moSt a z k h v k).v], 88), (w.heap.size + 1, #[.float .f32 0, .float .f32 0, .float .f32 0], 88)] (wr.setCell ⟨w.heap.size, 0, none⟩ (.float .f32 z))) := hid (hK.out.lcell (Nat.le_refl _) (by simp) 0 (.float .f32 z))
      clear hlt hK
      go_wp2_with (first | (refine wpList_load_row rfl 88 _ rfl (w.heap.size) rfl 88 (#[.float .f32 z, .float .f32 (moSt a z k h v k).h, .float .f32 (moSt a z k h v k).v]) (0, 0) _ (k5.out.at (x := (w.heap.size, #[.float .f32 z, .float .f32 (moSt a z k h v k).h, .float .f32 (moSt a z k h v k).v], 88)) (by simp)) Try.underlying88 rfl info_par ?_) | (refine store_kept (w0 := w) (l := [(w.heap.size, #[.float .f32 z, .float .f32 (moSt a z k h v k).h, .float .f32 (moSt a z k h v k).v], 88)]) rfl 88 _ _ rfl (w.heap.size + 1) (#[.float .f32 z, .float .f32 (moSt a z k h v k).h, .float .f32 (moSt a z k h v k).v]) rfl rfl 88 (#[.float .f32 0, .float .f32 0, .float .f32 0]) (k5.out.swap) (by omega) (by first | (simp; done) | (simp; omega)) info_par rfl (by simp [Value.oneCell']) (fun w7 k7 => ?_); replace k7 := hid k7))
      exact bodyPost_ret (results_row_tmp2 rfl _ _ (w.heap.size + 1) 88 (#[.float .f32 z, .float .f32 (moSt a z k h v k).h, .float .f32 (moSt a z k h v k).v]) (0, 0) _ rfl (k7.out.at (x := (w.heap.size + 1, #[.float .f32 z, .float .f32 (moSt a z k h v k).h, .float .f32 (moSt a z k h v k).v], 88)) (by simp)) Try.underlying88 rfl info_par) rfl ⟨rfl, k7.out.1⟩

set_option maxRecDepth 100000 in
set_option maxHeartbeats 4000000 in
theorem sMoist_f (a h v z n : Nat) (hx : h < 4294967296) (hp : parB a h v = true) (hq : hgtB z = true) (hn : n ≤ 100) (h1 : 1 ≤ n) (m : Nat) (hm : m < n) (hall : ∀ j, j < m → moB a z n h v j = true) (hstop : moB a z n h v m = false) (w : World) :
    Calls Try.prog 146 #[.agg #[.float .f32 a, .float .f32 h, .float .f32 v], .float .f32 z, .int .i64 (n : Int)] w fun e w' => e = .returned (.tuple #[.agg #[.float .f32 0, .float .f32 0, .float .f32 0], .float .f32 0, .int .i64 4]) ∧ Below w.heap.size w w' := by
  have Ha : Hgt a := hgt_iff.1 (parB_iff.1 hp).1
  have Hz : Hgt z := hgt_iff.1 hq
  have hA := (parB_iff.1 hp).2
  have HM := hid (fun k (hk : k ≤ m) => mo_facts (h := h) (v := v) Ha Hz hn hx hA k (by omega) (fun j hj => hall j (by omega)))
  have HS := hid (fun k (hk : k < n) => step_facts (k := k) Ha Hz hn hk)
  have HD := hid (fun k (hk : k < n) (m : MoF (moSt a z n h v k)) => mo_rd Ha Hz hn hk m)
  have HNx := hid (fun k (hk : k < n) (m : MoF (moSt a z n h v k)) (hb : moB a z n h v k = true) => mo_next Ha Hz hn hk m hb)
  have HAll := hid hall
  have HN := hid hn
  have HStop := hid hstop
  have HMn := hid hm
  have r1 := fun w => run_float_arith (P := Try.prog) w .sub 22 .f32 _ _ _ (step_facts Ha Hz hn (k := 0) (by omega)).s1
  have k0 : Hid (Kept w [(w.heap.size, #[.float .f32 a, .float .f32 h, .float .f32 v], 88), (w.heap.size + 1, #[.float .f32 0, .float .f32 0, .float .f32 0], 88)] ((w.alloc (.cells #[.float .f32 a, .float .f32 h, .float .f32 v] 88)).alloc (.cells #[.float .f32 0, .float .f32 0, .float .f32 0] 88))) := hid ((((Kept.nil w).push _ _).push _ _).sub (by simp))
  clear hx hp hq hn h1 hall hA Ha Hz hm hstop
  go_enter Try.func146, Try.ntmps146
  go_wp2_with fail
  clear r1
  go_loopw [12, 11] (fun i gs wr => ∃ k : Nat, k ≤ m ∧ i = .int .i64 ((k : Int) + 1) ∧ gs = .float .f32 (moSt a z n h v k).f ∧ Hid (Kept w [(w.heap.size, #[.float .f32 (moSt a z n h v k).a, .float .f32 (moSt a z n h v k).h, .float .f32 (moSt a z n h v k).v], 88), (w.heap.size + 1, #[.float .f32 0, .float .f32 0, .float .f32 0], 88)] wr)) (fun i _ _ => n + 1 - (intOf i).toNat)
  case atStart => exact ⟨0, by omega, rfl, rfl, k0⟩
  case round =>
    obtain ⟨k, hk, rfl, rfl, hK⟩ := hrel
    clear k0
    by_cases hlt : k < m
    · have HK := hid hlt
      have hkn : k < n := (by have := HMn.out; omega)
      have hle : (k : Int) + 1 ≤ (n : Int) := by omega
      have D := HS.out k hkn
      have m0 := HM.out k hk
      have hb := HAll.out k hlt
      have nx := HNx.out k hkn m0 hb
      have r2 := fun w => run_float_arith (P := Try.prog) w .quo 22 .f32 _ _ _ D.s2
      have r3 := fun w => run_float_arith (P := Try.prog) w .mul 22 .f32 _ _ _ D.s3
      have r4 := fun w => run_float_arith (P := Try.prog) w .add 22 .f32 _ _ _ D.s4
      have r5 := hid (fun w => run_float_arith (P := Try.prog) w .add 22 .f32 _ _ _ nx.2)
      have cv1 : ∀ w, (convert 2 22 (.int .i64 ((k : Int) + 1))).run Try.prog w = .ok (.float .f32 (fiW ((k : Int) + 1))) w := fun w => rfl
      have cv2 : ∀ w, (convert 2 22 (.int .i64 (n : Int))).run Try.prog w = .ok (.float .f32 (fiW (n : Int))) w := fun w => rfl
      have HRs := hid (fun u => sRaise_ok (moSt a z n h v k).a (moSt a z n h v k).h (moSt a z n h v k).v (stepW a z n k) m0.vw (HD.out k hkn m0) hb u)
      have HSt := hid (fun u => sSettle (moR a z n h v k) (moSt a z n h v k).v (HD.out k hkn m0).lt hb _ _ _ mo_sett u)
      have HA := hid (fun u g T hg => sAirOk_t (moSt a z n h v (k + 1)).h (moSt a z n h v (k + 1)).v nx.1.air u g T hg)
      clear D m0 hb nx hlt hkn hk
      go_wp2_with (refine wpList_load_row rfl 88 _ rfl (w.heap.size) rfl 88 (#[.float .f32 (moSt a z n h v k).a, .float .f32 (moSt a z n h v k).h, .float .f32 (moSt a z n h v k).v]) (0, 0) _ (hK.out.at (x := (w.heap.size, #[.float .f32 (moSt a z n h v k).a, .float .f32 (moSt a z n h v k).h, .float .f32 (moSt a z n h v k).v], 88)) (by simp)) Try.underlying88 rfl info_par ?_)
      refine (HRs.out _).mono ?_
      rintro e w2 ⟨rfl, hb2⟩
      have k2 := hid (hK.out.stay hb2)
      have hlt2 := k2.out.lt (x := (w.heap.size + 1, #[.float .f32 0, .float .f32 0, .float .f32 0], 88)) (by simp)
      have k3 : Hid (Kept w [(w2.heap.size, #[.float .f32 (stepW a z n k), .float .f32 (moR a z n h v k), .float .f32 (moSt a z n h v k).v], 88), (w.heap.size, #[.float .f32 (moSt a z n h v k).a, .float .f32 (moSt a z n h v k).h, .float .f32 (moSt a z n h v k).v], 88), (w.heap.size + 1, #[.float .f32 0, .float .f32 0, .float .f32 0], 88)] (w2.alloc (.cells #[.float .f32 (stepW a z n k), .float .f32 (moR a z n h v k), .float .f32 (moSt a z n h v k).v] 88))) := hid (k2.out.push _ _)
      have hg2 : w.heap.size + 1 < w2.heap.size := by simpa using hlt2
      clear k2 hb2 hK hlt2 r2 r3 r4 cv1 cv2 hle
      go_wp2_with (refine wpList_load_cut (by rfl) 32 _ rfl (w2.heap.size) 1 rfl #[.float .f32 (stepW a z n k), .float .f32 (moR a z n h v k), .float .f32 (moSt a z n h v k).v] 88 (k3.out.at (x := (w2.heap.size, #[.float .f32 (stepW a z n k), .float .f32 (moR a z n h v k), .float .f32 (moSt a z n h v k).v], 88)) (by simp)) [.float .f32 (moR a z n h v k), .float .f32 (moSt a z n h v k).v] rfl _ Try.underlying32 rfl info_air ?_)
      refine (HSt.out _).mono ?_
      rintro e w4 ⟨rfl, hb4⟩
      have k4 := hid (k3.out.stay hb4)
      have hlt4 := k4.out.lt (x := (w2.heap.size, #[.float .f32 (stepW a z n k), .float .f32 (moR a z n h v k), .float .f32 (moSt a z n h v k).v], 88)) (by simp)
      have k5 : Hid (Kept w [(w4.heap.size, #[.float .f32 (moSt a z n h v (k + 1)).h, .float .f32 (moSt a z n h v (k + 1)).v], 32), (w2.heap.size, #[.float .f32 (stepW a z n k), .float .f32 (moR a z n h v k), .float .f32 (moSt a z n h v k).v], 88), (w.heap.size, #[.float .f32 (moSt a z n h v k).a, .float .f32 (moSt a z n h v k).h, .float .f32 (moSt a z n h v k).v], 88), (w.heap.size + 1, #[.float .f32 0, .float .f32 0, .float .f32 0], 88)] (w4.alloc (.cells #[.float .f32 (moSt a z n h v (k + 1)).h, .float .f32 (moSt a z n h v (k + 1)).v] 32))) := hid (k4.out.push _ _)
      have hg4 : w2.heap.size < w4.heap.size := by simpa using hlt4
      clear k3 k4 hb4 hlt4
      go_wp2_with fail
      refine (HA.out _ w4.heap.size 32 (k5.out.at (x := (w4.heap.size, #[.float .f32 (moSt a z n h v (k + 1)).h, .float .f32 (moSt a z n h v (k + 1)).v], 32)) (by simp))).mono ?_
      rintro e w5 ⟨rfl, rfl⟩
      generalize World.alloc w4 (.cells #[.float .f32 (moSt a z n h v (k + 1)).h, .float .f32 (moSt a z n h v (k + 1)).v] 32) = w5 at k5 ⊢
      generalize w2.heap.size = g2 at k5 hg2 hg4 ⊢
      generalize w4.heap.size = g4 at k5 hg4 ⊢
      have r6 := r5.out
      have hkk := HK.out
      have hnn := HN.out
      have hmm := HMn.out
      clear HRs HSt HA HK
      have tok1 : True := trivial
      go_wp2_with (first | (have _t := k6; first | (refine wpList_load_row rfl 88 _ rfl (g2) rfl 88 (#[.float .f32 (moSt a z n h v (k + 1)).a, .float .f32 (moSt a z n h v (k + 1)).h, .float .f32 (moSt a z n h v (k + 1)).v]) (0, 0) _ (k6.out.at (x := (g2, #[.float .f32 (moSt a z n h v (k + 1)).a, .float .f32 (moSt a z n h v (k + 1)).h, .float .f32 (moSt a z n h v (k + 1)).v], 88)) (by simp)) Try.underlying88 rfl info_par ?_) | (refine store_kept (w0 := w) (l := [(g2, #[.float .f32 (moSt a z n h v (k + 1)).a, .float .f32 (moSt a z n h v (k + 1)).h, .float .f32 (moSt a z n h v (k + 1)).v], 88), (g4, #[.float .f32 (moSt a z n h v (k + 1)).h, .float .f32 (moSt a z n h v (k + 1)).v], 32), (w.heap.size + 1, #[.float .f32 0, .float .f32 0, .float .f32 0], 88)]) rfl 88 _ _ rfl (w.heap.size) (#[.float .f32 (moSt a z n h v (k + 1)).a, .float .f32 (moSt a z n h v (k + 1)).h, .float .f32 (moSt a z n h v (k + 1)).v]) rfl rfl 88 (#[.float .f32 (moSt a z n h v k).a, .float .f32 (moSt a z n h v k).h, .float .f32 (moSt a z n h v k).v]) (k6.out.sub (by intro x hx; simp only [List.mem_cons, List.not_mem_nil, or_false] at hx ⊢; rcases hx with rfl | rfl | rfl | rfl <;> simp)) (Nat.le_refl _) (by simp; omega) info_par rfl (by simp [Value.oneCell']) (fun w7 k7 => ?_); have k8 := hid (k7.sub (l' := [(w.heap.size, #[.float .f32 (moSt a z n h v (k + 1)).a, .float .f32 (moSt a z n h v (k + 1)).h, .float .f32 (moSt a z n h v (k + 1)).v], 88), (w.heap.size + 1, #[.float .f32 0, .float .f32 0, .float .f32 0], 88)]) (by simp)); clear k7 k5)) | (refine wpList_load_row rfl 32 _ rfl (g4) rfl 32 (#[.float .f32 (moSt a z n h v (k + 1)).h, .float .f32 (moSt a z n h v (k + 1)).v]) (0, 0) _ (k5.out.at (x := (g4, #[.float .f32 (moSt a z n h v (k + 1)).h, .float .f32 (moSt a z n h v (k + 1)).v], 32)) (by simp)) Try.underlying32 rfl info_air ?_) | (refine store_part (w0 := w) (l := [(g4, #[.float .f32 (moSt a z n h v (k + 1)).h, .float .f32 (moSt a z n h v (k + 1)).v], 32), (w.heap.size, #[.float .f32 (moSt a z n h v k).a, .float .f32 (moSt a z n h v k).h, .float .f32 (moSt a z n h v k).v], 88), (w.heap.size + 1, #[.float .f32 0, .float .f32 0, .float .f32 0], 88)]) rfl 32 _ _ rfl g2 1 rfl #[.float .f32 (moSt a z n h v (k + 1)).h, .float .f32 (moSt a z n h v (k + 1)).v] rfl #[.float .f32 (stepW a z n k), .float .f32 (moR a z n h v k), .float .f32 (moSt a z n h v k).v] #[.float .f32 (moSt a z n h v (k + 1)).a, .float .f32 (moSt a z n h v (k + 1)).h, .float .f32 (moSt a z n h v (k + 1)).v] 88 (k5.out.sub (by intro x hx; simp only [List.mem_cons, List.not_mem_nil, or_false] at hx ⊢; rcases hx with rfl | rfl | rfl | rfl <;> simp)) (by omega) (by simp; omega) (by simp) info_air (by simp [Value.oneCell']) rfl (fun w6 k6 => ?_); replace k6 := hid k6))
      go_roundw
      case rel => exact ⟨k + 1, by omega, by go_num, rfl, k8⟩
      case measure => simp [intOf]; omega
    · obtain rfl : k = m := by omega
      have hkn : k < n := HMn.out
      have hle : (k : Int) + 1 ≤ (n : Int) := by omega
      have D := HS.out k hkn
      have m0 := HM.out k hk
      have r2 := fun w => run_float_arith (P := Try.prog) w .quo 22 .f32 _ _ _ D.s2
      have r3 := fun w => run_float_arith (P := Try.prog) w .mul 22 .f32 _ _ _ D.s3
      have r4 := fun w => run_float_arith (P := Try.prog) w .add 22 .f32 _ _ _ D.s4
      have cv1 : ∀ w, (convert 2 22 (.int .i64 ((k : Int) + 1))).run Try.prog w = .ok (.float .f32 (fiW ((k : Int) + 1))) w := fun w => rfl
      have cv2 : ∀ w, (convert 2 22 (.int .i64 (n : Int))).run Try.prog w = .ok (.float .f32 (fiW (n : Int))) w := fun w => rfl
      have HRs := hid (fun u => sRaise_f (moSt a z n h v k).a (moSt a z n h v k).h (moSt a z n h v k).v (stepW a z n k) m0.vw (HD.out k hkn m0) HStop.out u)
      clear D m0 hlt hkn hk
      go_wp2_with (refine wpList_load_row rfl 88 _ rfl (w.heap.size) rfl 88 (#[.float .f32 (moSt a z n h v k).a, .float .f32 (moSt a z n h v k).h, .float .f32 (moSt a z n h v k).v]) (0, 0) _ (hK.out.at (x := (w.heap.size, #[.float .f32 (moSt a z n h v k).a, .float .f32 (moSt a z n h v k).h, .float .f32 (moSt a z n h v k).v], 88)) (by simp)) Try.underlying88 rfl info_par ?_)
      refine (HRs.out _).mono ?_
      rintro e w2 ⟨rfl, hb2⟩
      have k2 := hid (hK.out.stay hb2)
      have k3 := hid ((k2.out.push #[.float .f32 0, .float .f32 0, .float .f32 0] 88).sub (l' := [(w.heap.size + 1, #[.float .f32 0, .float .f32 0, .float .f32 0], 88), (w2.heap.size, #[.float .f32 0, .float .f32 0, .float .f32 0], 88)]) (by intro x hx; simp only [List.mem_cons, List.not_mem_nil, or_false] at hx ⊢; rcases hx with rfl | rfl <;> simp))
      have hlt2 := k2.out.lt (x := (w.heap.size + 1, #[.float .f32 0, .float .f32 0, .float .f32 0], 88)) (by simp)
      have hg2 : w2.heap.size ≠ w.heap.size + 1 := by simp at hlt2; omega
      clear k2 hb2 hK hlt2 r2 r3 r4 cv1 cv2 hle
      go_wp2_with (refine store_kept (w0 := w) (l := [(w2.heap.size, #[.float .f32 0, .float .f32 0, .float .f32 0], 88)]) rfl 88 _ _ rfl (w.heap.size + 1) (#[.float .f32 0, .float .f32 0, .float .f32 0]) rfl rfl 88 (#[.float .f32 0, .float .f32 0, .float .f32 0]) (k3.out) (by omega) (by simpa using hg2) info_par rfl (by simp [Value.oneCell']) (fun w7 k7 => ?_); replace k7 := hid k7)
      exact bodyPost_ret (results_row_tmp2 rfl _ _ (w.heap.size + 1) 88 (#[.float .f32 0, .float .f32 0, .float .f32 0]) (0, 0) _ rfl (k7.out.at (x := (w.heap.size + 1, #[.float .f32 0, .float .f32 0, .float .f32 0], 88)) (by simp)) Try.underlying88 rfl info_par) rfl ⟨rfl, k7.out.1⟩

set_option maxRecDepth 100000 in
set_option maxHeartbeats 1000000 in
theorem sUp_f1 (s : Value) (a h v sh : Nat) (z : Nat) (c : Int) (hc : c ≠ 0) (w : World)
    (h1 : ∀ u, Below w.heap.size w u → Calls Try.prog 146 #[.agg #[.float .f32 (a), .float .f32 (h), .float .f32 (v)], .float .f32 (z), .int .i64 1] u fun e u' => e = .returned (.tuple #[.agg #[.float .f32 (0), .float .f32 (0), .float .f32 (0)], .float .f32 (0), .int .i64 c]) ∧ Below u.heap.size u u') :
    Calls Try.prog 103 #[s, .agg #[.float .f32 (a), .float .f32 (h), .float .f32 (v)], .float .f32 (z), .float .f32 (sh)] w fun e w' => e = .returned (.tuple #[.agg #[.float .f32 (0), .float .f32 (0), .float .f32 (0)], .int .i64 c]) ∧ Below w.heap.size w w' := by
  have k0 : Hid (Kept w [(w.heap.size + 1, #[.float .f32 (0), .float .f32 (0), .float .f32 (0)], 88), (w.heap.size, #[.float .f32 (a), .float .f32 (h), .float .f32 (v)], 88)] ((w.alloc (.cells #[.float .f32 (a), .float .f32 (h), .float .f32 (v)] 88)).alloc (.cells #[.float .f32 (0), .float .f32 (0), .float .f32 (0)] 88))) := hid ((((Kept.nil w).push _ _).push _ _).sub (by simp))
  have H1 := hid h1
  clear h1
  go_enter Try.func103, Try.ntmps103
  go_wp2_with fail
  refine (H1.out _ k0.out.1).mono ?_
  rintro e w1 ⟨rfl, hb1⟩
  have k1 := hid (k0.out.stay hb1)
  have f1 := k1.out.fresh
  have kN := hid (k1.out.push #[.float .f32 (0), .float .f32 (0), .float .f32 (0)] 88)
  have hs1 : w.heap.size + 1 < w1.heap.size := k1.out.lt in0
  have tok1 : True := trivial
  clear k0 hb1 H1
  go_wp2_with (first | (have _t := tok1; clear tok1; refine store_row (by rfl) 88 _ _ (by rfl) (w1.heap.size) (#[.float .f32 (0), .float .f32 (0), .float .f32 (0)]) (#[.float .f32 (0), .float .f32 (0), .float .f32 (0)]) (by rfl) (by rfl) kN.out info_par (by simp) (by simp [Value.oneCell']) (by omega) f1 ?_; intro w2 k2; replace k2 := hid k2; clear kN f1; have tok2 : True := trivial) | (have _t := tok2; clear tok2; refine store_row (by rfl) 88 _ _ (by rfl) (w.heap.size + 1) (#[.float .f32 (0), .float .f32 (0), .float .f32 (0)]) (#[.float .f32 (0), .float .f32 (0), .float .f32 (0)]) (by rfl) (by rfl) (k2.out.sub (l' := [(w.heap.size + 1, #[.float .f32 (0), .float .f32 (0), .float .f32 (0)], 88)]) (by intro y hy; simp only [List.mem_cons, List.not_mem_nil, or_false] at hy; subst hy; simp)) info_par (by simp) (by simp [Value.oneCell']) (by omega) ne0 ?_; intro wz kz; replace kz := hid kz))
  exact bodyPost_ret (results_row_tmp rfl _ _ (w.heap.size + 1) 88 (#[.float .f32 (0), .float .f32 (0), .float .f32 (0)]) (0, 0) _ rfl (kz.out.at (x := (w.heap.size + 1, #[.float .f32 (0), .float .f32 (0), .float .f32 (0)], 88)) in0) Try.underlying88 rfl info_par) rfl ⟨rfl, kz.out.1⟩

set_option maxRecDepth 100000 in
set_option maxHeartbeats 1000000 in
theorem sUp_f2 (s : Value) (a h v sh : Nat) (z : Nat) (mh mv mf : Nat) (ah av : Nat) (c : Int) (hc : c ≠ 0) (w : World)
    (h1 : ∀ u, Below w.heap.size w u → Calls Try.prog 146 #[.agg #[.float .f32 (a), .float .f32 (h), .float .f32 (v)], .float .f32 (z), .int .i64 1] u fun e u' => e = .returned (.tuple #[.agg #[.float .f32 (z), .float .f32 (mh), .float .f32 (mv)], .float .f32 (mf), .int .i64 0]) ∧ Below u.heap.size u u')
    (h2 : ∀ u, Below w.heap.size w u → Calls Try.prog 145 #[s, .float .f32 (z)] u fun e u' => ∃ i, e = .returned (.tuple #[.agg #[.float .f32 (ah), .float .f32 (av)], .int .i64 i, .int .i64 c]) ∧ Below u.heap.size u u') :
    Calls Try.prog 103 #[s, .agg #[.float .f32 (a), .float .f32 (h), .float .f32 (v)], .float .f32 (z), .float .f32 (sh)] w fun e w' => e = .returned (.tuple #[.agg #[.float .f32 (0), .float .f32 (0), .float .f32 (0)], .int .i64 c]) ∧ Below w.heap.size w w' := by
  have k0 : Hid (Kept w [(w.heap.size + 1, #[.float .f32 (0), .float .f32 (0), .float .f32 (0)], 88), (w.heap.size, #[.float .f32 (a), .float .f32 (h), .float .f32 (v)], 88)] ((w.alloc (.cells #[.float .f32 (a), .float .f32 (h), .float .f32 (v)] 88)).alloc (.cells #[.float .f32 (0), .float .f32 (0), .float .f32 (0)] 88))) := hid ((((Kept.nil w).push _ _).push _ _).sub (by simp))
  have H1 := hid h1
  have H2 := hid h2
  clear h1 h2
  go_enter Try.func103, Try.ntmps103
  go_wp2_with fail
  refine (H1.out _ k0.out.1).mono ?_
  rintro e w1 ⟨rfl, hb1⟩
  have k1 := hid (k0.out.stay hb1)
  have f1 := k1.out.fresh
  have kN := hid (k1.out.push #[.float .f32 (0), .float .f32 (0), .float .f32 (0)] 88)
  have hs1 : w.heap.size + 1 < w1.heap.size := k1.out.lt in0
  have tok1 : True := trivial
  clear k0 hb1 H1
  go_wp2_with (have _t := tok1; clear tok1; refine store_row (by rfl) 88 _ _ (by rfl) (w1.heap.size) (#[.float .f32 (z), .float .f32 (mh), .float .f32 (mv)]) (#[.float .f32 (0), .float .f32 (0), .float .f32 (0)]) (by rfl) (by rfl) kN.out info_par (by simp) (by simp [Value.oneCell']) (by omega) f1 ?_; intro w2 k2; replace k2 := hid k2; clear kN f1; have tok2 : True := trivial)
  refine (H2.out _ k2.out.1).mono ?_
  rintro e w4 ⟨i, rfl, hb4⟩
  have k4 := hid (k2.out.stay hb4)
  have f4 := k4.out.fresh
  have k5 := hid (k4.out.push #[.float .f32 (0), .float .f32 (0)] 32)
  have hs4 : w1.heap.size < w4.heap.size := k4.out.lt in0
  have tok3 : True := trivial
  clear k2 hb4 H2
  go_wp2_with (first | (have _t := tok3; clear tok3; refine store_row (by rfl) 32 _ _ (by rfl) (w4.heap.size) (#[.float .f32 (ah), .float .f32 (av)]) (#[.float .f32 (0), .float .f32 (0)]) (by rfl) (by rfl) k5.out info_air (by simp) (by simp [Value.oneCell']) (by omega) f4 ?_; intro w6 k6; replace k6 := hid k6; clear k5 f4; have tok4 : True := trivial) | (have _t := tok4; clear tok4; refine store_row (by rfl) 88 _ _ (by rfl) (w.heap.size + 1) (#[.float .f32 (0), .float .f32 (0), .float .f32 (0)]) (#[.float .f32 (0), .float .f32 (0), .float .f32 (0)]) (by rfl) (by rfl) (k6.out.sub (l' := [(w.heap.size + 1, #[.float .f32 (0), .float .f32 (0), .float .f32 (0)], 88)]) (by intro y hy; simp only [List.mem_cons, List.not_mem_nil, or_false] at hy; subst hy; simp)) info_par (by simp) (by simp [Value.oneCell']) (by omega) ne0 ?_; intro wz kz; replace kz := hid kz))
  exact bodyPost_ret (results_row_tmp rfl _ _ (w.heap.size + 1) 88 (#[.float .f32 (0), .float .f32 (0), .float .f32 (0)]) (0, 0) _ rfl (kz.out.at (x := (w.heap.size + 1, #[.float .f32 (0), .float .f32 (0), .float .f32 (0)], 88)) in0) Try.underlying88 rfl info_par) rfl ⟨rfl, kz.out.1⟩

set_option maxRecDepth 100000 in
set_option maxHeartbeats 1000000 in
theorem sUp_f3 (s : Value) (a h v sh : Nat) (z : Nat) (mh mv mf : Nat) (ah av : Nat) (c : Int) (w : World)
    (h1 : ∀ u, Below w.heap.size w u → Calls Try.prog 146 #[.agg #[.float .f32 (a), .float .f32 (h), .float .f32 (v)], .float .f32 (z), .int .i64 1] u fun e u' => e = .returned (.tuple #[.agg #[.float .f32 (z), .float .f32 (mh), .float .f32 (mv)], .float .f32 (mf), .int .i64 0]) ∧ Below u.heap.size u u')
    (h2 : ∀ u, Below w.heap.size w u → Calls Try.prog 145 #[s, .float .f32 (z)] u fun e u' => ∃ i, e = .returned (.tuple #[.agg #[.float .f32 (ah), .float .f32 (av)], .int .i64 i, .int .i64 0]) ∧ Below u.heap.size u u')
    (h3 : ∀ u g, (∀ w', Below u.heap.size u w' → w'.cell? ⟨g, 0, none⟩ = some (.float .f32 ah) ∧ w'.cell? ⟨g, 0 + 1, none⟩ = some (.float .f32 av)) → Calls Try.prog 147 #[.agg #[.float .f32 (z), .float .f32 (mh), .float .f32 (mv)], .pointer (some ⟨g, 0, none⟩), .float .f32 (sh)] u fun e u' => e = .returned (.tuple #[.agg #[.float .f32 (0), .float .f32 (0), .float .f32 (0)], .int .i64 c]) ∧ Below u.heap.size u u') :
    Calls Try.prog 103 #[s, .agg #[.float .f32 (a), .float .f32 (h), .float .f32 (v)], .float .f32 (z), .float .f32 (sh)] w fun e w' => e = .returned (.tuple #[.agg #[.float .f32 (0), .float .f32 (0), .float .f32 (0)], .int .i64 c]) ∧ Below w.heap.size w w' := by
  have k0 : Hid (Kept w [(w.heap.size + 1, #[.float .f32 (0), .float .f32 (0), .float .f32 (0)], 88), (w.heap.size, #[.float .f32 (a), .float .f32 (h), .float .f32 (v)], 88)] ((w.alloc (.cells #[.float .f32 (a), .float .f32 (h), .float .f32 (v)] 88)).alloc (.cells #[.float .f32 (0), .float .f32 (0), .float .f32 (0)] 88))) := hid ((((Kept.nil w).push _ _).push _ _).sub (by simp))
  have H1 := hid h1
  have H2 := hid h2
  have H3 := hid h3
  clear h1 h2 h3
  go_enter Try.func103, Try.ntmps103
  go_wp2_with fail
  refine (H1.out _ k0.out.1).mono ?_
  rintro e w1 ⟨rfl, hb1⟩
  have k1 := hid (k0.out.stay hb1)
  have f1 := k1.out.fresh
  have kN := hid (k1.out.push #[.float .f32 (0), .float .f32 (0), .float .f32 (0)] 88)
  have hs1 : w.heap.size + 1 < w1.heap.size := k1.out.lt in0
  have tok1 : True := trivial
  clear k0 hb1 H1
  go_wp2_with (have _t := tok1; clear tok1; refine store_row (by rfl) 88 _ _ (by rfl) (w1.heap.size) (#[.float .f32 (z), .float .f32 (mh), .float .f32 (mv)]) (#[.float .f32 (0), .float .f32 (0), .float .f32 (0)]) (by rfl) (by rfl) kN.out info_par (by simp) (by simp [Value.oneCell']) (by omega) f1 ?_; intro w2 k2; replace k2 := hid k2; clear kN f1; have tok2 : True := trivial)
  refine (H2.out _ k2.out.1).mono ?_
  rintro e w4 ⟨i, rfl, hb4⟩
  have k4 := hid (k2.out.stay hb4)
  have f4 := k4.out.fresh
  have k5 := hid (k4.out.push #[.float .f32 (0), .float .f32 (0)] 32)
  have hs4 : w1.heap.size < w4.heap.size := k4.out.lt in0
  have tok3 : True := trivial
  clear k2 hb4 H2
  go_wp2_with (first | (have _t := tok3; clear tok3; refine store_row (by rfl) 32 _ _ (by rfl) (w4.heap.size) (#[.float .f32 (ah), .float .f32 (av)]) (#[.float .f32 (0), .float .f32 (0)]) (by rfl) (by rfl) k5.out info_air (by simp) (by simp [Value.oneCell']) (by omega) f4 ?_; intro w6 k6; replace k6 := hid k6; clear k5 f4; have tok4 : True := trivial) | (have _t := tok4; clear tok4; refine wpList_load_row (by rfl) 88 _ (by rfl) (w1.heap.size) (by rfl) 88 (#[.float .f32 (z), .float .f32 (mh), .float .f32 (mv)]) (0, 0) _ (k6.out.at (x := (w1.heap.size, #[.float .f32 (z), .float .f32 (mh), .float .f32 (mv)], 88)) in1) Try.underlying88 (by rfl) info_par ?_))
  refine (H3.out _ _ (fun w' hb => ⟨(cell_of_row w' (w4.heap.size) 0 _ _ _ ((k6.out.stay hb).at (x := (w4.heap.size, #[.float .f32 (ah), .float .f32 (av)], 32)) in0)).trans rfl, (cell_of_row w' (w4.heap.size) 1 _ _ _ ((k6.out.stay hb).at (x := (w4.heap.size, #[.float .f32 (ah), .float .f32 (av)], 32)) in0)).trans rfl⟩)).mono ?_
  rintro e w8 ⟨rfl, hb8⟩
  have k8 := hid (k6.out.stay hb8)
  have tok5 : True := trivial
  clear k6 hb8 H3
  go_wp2_with (have _t := tok5; clear tok5; refine store_row (by rfl) 88 _ _ (by rfl) (w.heap.size + 1) (#[.float .f32 (0), .float .f32 (0), .float .f32 (0)]) (#[.float .f32 (0), .float .f32 (0), .float .f32 (0)]) (by rfl) (by rfl) (k8.out.sub (l' := [(w.heap.size + 1, #[.float .f32 (0), .float .f32 (0), .float .f32 (0)], 88)]) (by intro y hy; simp only [List.mem_cons, List.not_mem_nil, or_false] at hy; subst hy; simp)) info_par (by simp) (by simp [Value.oneCell']) (by omega) ne0 ?_; intro wz kz; replace kz := hid kz)
  exact bodyPost_ret (results_row_tmp rfl _ _ (w.heap.size + 1) 88 (#[.float .f32 (0), .float .f32 (0), .float .f32 (0)]) (0, 0) _ rfl (kz.out.at (x := (w.heap.size + 1, #[.float .f32 (0), .float .f32 (0), .float .f32 (0)], 88)) in0) Try.underlying88 rfl info_par) rfl ⟨rfl, kz.out.1⟩

set_option maxRecDepth 100000 in
set_option maxHeartbeats 1000000 in
theorem sUp_ok (s : Value) (a h v sh : Nat) (z : Nat) (mh mv mf : Nat) (ah av : Nat) (rh rv : Nat) (w : World)
    (h1 : ∀ u, Below w.heap.size w u → Calls Try.prog 146 #[.agg #[.float .f32 (a), .float .f32 (h), .float .f32 (v)], .float .f32 (z), .int .i64 1] u fun e u' => e = .returned (.tuple #[.agg #[.float .f32 (z), .float .f32 (mh), .float .f32 (mv)], .float .f32 (mf), .int .i64 0]) ∧ Below u.heap.size u u')
    (h2 : ∀ u, Below w.heap.size w u → Calls Try.prog 145 #[s, .float .f32 (z)] u fun e u' => ∃ i, e = .returned (.tuple #[.agg #[.float .f32 (ah), .float .f32 (av)], .int .i64 i, .int .i64 0]) ∧ Below u.heap.size u u')
    (h3 : ∀ u g, (∀ w', Below u.heap.size u w' → w'.cell? ⟨g, 0, none⟩ = some (.float .f32 ah) ∧ w'.cell? ⟨g, 0 + 1, none⟩ = some (.float .f32 av)) → Calls Try.prog 147 #[.agg #[.float .f32 (z), .float .f32 (mh), .float .f32 (mv)], .pointer (some ⟨g, 0, none⟩), .float .f32 (sh)] u fun e u' => e = .returned (.tuple #[.agg #[.float .f32 (z), .float .f32 (rh), .float .f32 (rv)], .int .i64 0]) ∧ Below u.heap.size u u') :
    Calls Try.prog 103 #[s, .agg #[.float .f32 (a), .float .f32 (h), .float .f32 (v)], .float .f32 (z), .float .f32 (sh)] w fun e w' => e = .returned (.tuple #[.agg #[.float .f32 (z), .float .f32 (rh), .float .f32 (rv)], .int .i64 0]) ∧ Below w.heap.size w w' := by
  have k0 : Hid (Kept w [(w.heap.size + 1, #[.float .f32 (0), .float .f32 (0), .float .f32 (0)], 88), (w.heap.size, #[.float .f32 (a), .float .f32 (h), .float .f32 (v)], 88)] ((w.alloc (.cells #[.float .f32 (a), .float .f32 (h), .float .f32 (v)] 88)).alloc (.cells #[.float .f32 (0), .float .f32 (0), .float .f32 (0)] 88))) := hid ((((Kept.nil w).push _ _).push _ _).sub (by simp))
  have H1 := hid h1
  have H2 := hid h2
  have H3 := hid h3
  clear h1 h2 h3
  go_enter Try.func103, Try.ntmps103
  go_wp2_with fail
  refine (H1.out _ k0.out.1).mono ?_
  rintro e w1 ⟨rfl, hb1⟩
  have k1 := hid (k0.out.stay hb1)
  have f1 := k1.out.fresh
  have kN := hid (k1.out.push #[.float .f32 (0), .float .f32 (0), .float .f32 (0)] 88)
  have hs1 : w.heap.size + 1 < w1.heap.size := k1.out.lt in0
  have tok1 : True := trivial
  clear k0 hb1 H1
  go_wp2_with (have _t := tok1; clear tok1; refine store_row (by rfl) 88 _ _ (by rfl) (w1.heap.size) (#[.float .f32 (z), .float .f32 (mh), .float .f32 (mv)]) (#[.float .f32 (0), .float .f32 (0), .float .f32 (0)]) (by rfl) (by rfl) kN.out info_par (by simp) (by simp [Value.oneCell']) (by omega) f1 ?_; intro w2 k2; replace k2 := hid k2; clear kN f1; have tok2 : True := trivial)
  refine (H2.out _ k2.out.1).mono ?_
  rintro e w4 ⟨i, rfl, hb4⟩
  have k4 := hid (k2.out.stay hb4)
  have f4 := k4.out.fresh
  have k5 := hid (k4.out.push #[.float .f32 (0), .float .f32 (0)] 32)
  have hs4 : w1.heap.size < w4.heap.size := k4.out.lt in0
  have tok3 : True := trivial
  clear k2 hb4 H2
  go_wp2_with (first | (have _t := tok3; clear tok3; refine store_row (by rfl) 32 _ _ (by rfl) (w4.heap.size) (#[.float .f32 (ah), .float .f32 (av)]) (#[.float .f32 (0), .float .f32 (0)]) (by rfl) (by rfl) k5.out info_air (by simp) (by simp [Value.oneCell']) (by omega) f4 ?_; intro w6 k6; replace k6 := hid k6; clear k5 f4; have tok4 : True := trivial) | (have _t := tok4; clear tok4; refine wpList_load_row (by rfl) 88 _ (by rfl) (w1.heap.size) (by rfl) 88 (#[.float .f32 (z), .float .f32 (mh), .float .f32 (mv)]) (0, 0) _ (k6.out.at (x := (w1.heap.size, #[.float .f32 (z), .float .f32 (mh), .float .f32 (mv)], 88)) in1) Try.underlying88 (by rfl) info_par ?_))
  refine (H3.out _ _ (fun w' hb => ⟨(cell_of_row w' (w4.heap.size) 0 _ _ _ ((k6.out.stay hb).at (x := (w4.heap.size, #[.float .f32 (ah), .float .f32 (av)], 32)) in0)).trans rfl, (cell_of_row w' (w4.heap.size) 1 _ _ _ ((k6.out.stay hb).at (x := (w4.heap.size, #[.float .f32 (ah), .float .f32 (av)], 32)) in0)).trans rfl⟩)).mono ?_
  rintro e w8 ⟨rfl, hb8⟩
  have k8 := hid (k6.out.stay hb8)
  have tok5 : True := trivial
  clear k6 hb8 H3
  go_wp2_with (have _t := tok5; clear tok5; refine store_row (by rfl) 88 _ _ (by rfl) (w.heap.size + 1) (#[.float .f32 (z), .float .f32 (rh), .float .f32 (rv)]) (#[.float .f32 (0), .float .f32 (0), .float .f32 (0)]) (by rfl) (by rfl) (k8.out.sub (l' := [(w.heap.size + 1, #[.float .f32 (0), .float .f32 (0), .float .f32 (0)], 88)]) (by intro y hy; simp only [List.mem_cons, List.not_mem_nil, or_false] at hy; subst hy; simp)) info_par (by simp) (by simp [Value.oneCell']) (by omega) ne0 ?_; intro wz kz; replace kz := hid kz)
  exact bodyPost_ret (results_row_tmp rfl _ _ (w.heap.size + 1) 88 (#[.float .f32 (z), .float .f32 (rh), .float .f32 (rv)]) (0, 0) _ rfl (kz.out.at (x := (w.heap.size + 1, #[.float .f32 (z), .float .f32 (rh), .float .f32 (rv)], 88)) in0) Try.underlying88 rfl info_par) rfl ⟨rfl, kz.out.1⟩

theorem iDem0 (w : World) : Calls Try.prog 144 #[.int .i64 0] w fun e w' => e = .returned (.tuple #[]) ∧ w = w' := by
  go_enter Try.func144, Try.ntmps144
  go_wp2
  go_end0
  exact ⟨rfl, rfl⟩

set_option maxRecDepth 100000 in
theorem iDemF (n : Int) (hn : n ≠ 0) (w : World) : Calls Try.prog 144 #[.int .i64 n] w fun e w' => e = .panicked [{ v := .iface 241 (.int .i64 n), recovered := false }] ∧ w = w' := by
  have hcon : Try.prog.concrete 241 = true := by kernel_rfl
  go_enter Try.func144, Try.ntmps144
  go_wp2
  exact ⟨rfl, rfl, rfl⟩

theorem iFaultS (n : Int) (w : World) : Calls Try.prog 232 #[.int .i64 n] w fun e w' => e = .returned (.int .i64 n) ∧ w = w' := by
  go_enter Try.func232, Try.ntmps232
  go_wp2
  go_ret
  exact ⟨rfl, rfl⟩

@[go_sem] theorem as_step (v : Value) (w : World) : (Instr.typeAssert (.iface 241 v) 20 193 true).run Try.prog w = .ok (.tuple #[.iface 241 v, .bool true]) w := by kernel_rfl

theorem cm_step (v : Value) (w : World) : (callMethod (.iface 241 v) "loop.example/g01224/impl.fault" #[]).run Try.prog w = .ok (.enter 232 #[v]) w := by kernel_rfl

set_option maxRecDepth 100000 in
theorem iCodeOfS (n : Int) (w : World) : Calls Try.prog 71 #[.iface 241 (.int .i64 n)] w fun e w' => e = .returned (.int .i64 n) ∧ w = w' := by
  have hm := cm_step
  go_enter Try.func71, Try.ntmps71
  go_wp2_with fail
  refine (iFaultS n _).mono ?_
  rintro e w1 ⟨rfl, rfl⟩
  go_wp2
  go_ret
  exact ⟨rfl, rfl⟩

theorem run_load_cut {P : Program} {a : Act} {w : World} {d : Option Tmp} {ty0 : TypeId} {ps : String} {af : Array Edge} {gd : Option (Nat × Bool)} (ty : TypeId) (x : Operand) (g o : Nat) (hx : a.eval x = .pointer (some ⟨g, o, none⟩)) (cs : Array Value) (T : TypeId) (k : w.heap[g]? = some (.cells cs T (0, 0)))
    (part : List Value) (hp : part = (cs.toList.drop o).take part.length) (dd : TypeDesc) (hu : P.underlying ty = some dd) (hd : dd.isRow = true) (hi : (P.info? ty).map (·.size) = some part.length) : (execOp a.eval ⟨d, .load ty x, ty0, ps, af, gd⟩).run P w = .ok (.value (.agg part.toArray)) w := by
  unfold execOp
  simp only [hx, Instr.loadAt, Instr.sureAddr, Sem.run_bind, Sem.run_pure, Result.andThen_ok, run_loadVar_mid w g o ty part dd (range_part k o part hp) hu hd hi]

set_option maxRecDepth 100000 in
set_option maxHeartbeats 4000000 in
theorem iRaiseMoist_ok (a h v z n : Nat) (hx : h < 4294967296) (hv : v < 4294967296) (hp : parB a h v = true) (hq : hgtB z = true) (h1 : 1 ≤ n) (hn : n ≤ 100) (hall : ∀ j, j < n → moB a z n h v j = true) (w : World) :
    Calls Try.prog 178 #[.agg #[.float .f32 a, .float .f32 h, .float .f32 v], .float .f32 z, .int .i64 (n : Int)] w fun e w' => e = .returned (.tuple #[.agg #[.float .f32 z, .float .f32 (moSt a z n h v n).h, .float .f32 (moSt a z n h v n).v], .float .f32 (moSt a z n h v n).f, .int .i64 0]) ∧ Below w.heap.size w w' := by
  have k0 : Hid (Kept w [(w.heap.size, #[.float .f32 a, .float .f32 h, .float .f32 v], 88), (w.heap.size + 1, #[.float .f32 0, .float .f32 0, .float .f32 0], 88)] ((w.alloc (.cells #[.float .f32 a, .float .f32 h, .float .f32 v] 88)).alloc (.cells #[.float .f32 0, .float .f32 0, .float .f32 0] 88))) := hid ((((Kept.nil w).push _ _).push _ _).sub (by simp))
  have Ha : Hgt a := hgt_iff.1 (parB_iff.1 hp).1
  have Hz : Hgt z := hgt_iff.1 hq
  have hA := (parB_iff.1 hp).2
  have HP := hid (fun u => iValidParcel a h v (fw_amt (amtB_iff.2 (hgt_inf Ha))).1 hv true hp u)
  have HH := hid (fun u => iHgt z (fw_amt (amtB_iff.2 (hgt_inf Hz))).1 true hq u)
  have HHB := hid (fun u => iHeights a z n Ha Hz h1 hn u)
  have HR : Hid (∀ (u : World) (gs : Nat), (∀ k, k < n → u.cell? ⟨gs, k, none⟩ = some (.float .f32 (stepW a z n k))) → Calls Try.prog 189 #[.agg #[.float .f32 a, .float .f32 h, .float .f32 v], .int .i64 1, .slice (some ⟨gs, 0, none⟩) n n] u fun e u' => e = .returned (.tuple #[.agg #[.float .f32 (moSt a z n h v n).a, .float .f32 (moSt a z n h v n).h, .float .f32 (moSt a z n h v n).v, .float .f32 (moSt a z n h v n).f], .int .i64 0]) ∧ Below u.heap.size u u') := hid fun u gs hc => iRaise1_ok n (by omega) n (stepW a z n) (fun k => (moSt a z n h v k).a) (fun k => (moSt a z n h v k).h) (fun k => (moSt a z n h v k).v) (fun k => (moSt a z n h v k).f) rfl (fun k hk u => iMoStep Ha Hz hn hk (mo_facts Ha Hz hn hx hA k (by omega) (fun j hj => hall j (by omega))) (hall k hk) u) u gs hc
  have d1 : ¬ ((n : Int) < 1) := by omega
  have d2 : ¬ (100 < (n : Int)) := by omega
  clear hx hv hp hq h1 hn hall hA Ha Hz
  go_enter Try.func178, Try.ntmps178
  go_wp2_with fail
  refine (HP.out _).mono ?_
  rintro e w1 ⟨rfl, hb1⟩
  have k1 := hid (k0.out.stay hb1)
  go_wp2_with fail
  refine (HH.out _).mono ?_
  rintro e w2 ⟨rfl, hb2⟩
  have k2 := hid (k1.out.stay hb2)
  clear k0 k1
  go_wp2_with fail
  refine region_kept (w0 := w) (l := [(w.heap.size, #[.float .f32 a, .float .f32 h, .float .f32 v], 88), (w.heap.size + 1, #[.float .f32 0, .float .f32 0, .float .f32 0], 88)]) 13 #[false, false, false, false, false, false, false, false, false, false, false, false, false] (by kernel_rfl) rfl rfl ?_
  have kd := k2.out.drew
  clear k2 hb1 hb2
  generalize World.drew _ = wd at kd ⊢
  refine take_load 0 _ _ rfl (by rfl) (by kernel_rfl) (by kernel_rfl) (by kernel_rfl) 88 _ rfl (w.heap.size) (#[.float .f32 a, .float .f32 h, .float .f32 v]) 88 rfl (by simp) _ Try.underlying88 rfl (info_par) rfl rfl kd ?_
  simp only [Act.put, List.setIfInBounds_toArray, List.set_cons_zero, List.set_cons_succ]
  refine take_val 1 _ _ (.pointer (some ⟨w.heap.size, 0, none⟩)) rfl (by rfl) (by kernel_rfl) (by kernel_rfl) (by kernel_rfl) (fun w => by unfold execOp; go_simp) rfl rfl kd ?_
  simp only [Act.put, List.setIfInBounds_toArray, List.set_cons_zero, List.set_cons_succ]
  refine take_cell 2 _ _ (.float .f32 a) rfl (by rfl) (by kernel_rfl) (by kernel_rfl) (by kernel_rfl) (fun wq hS => by have hcell : wq.cell? ⟨w.heap.size, 0, none⟩ = some (.float .f32 a) := (cell_of_row wq (w.heap.size) 0 _ _ _ (hS.at (x := (w.heap.size, #[.float .f32 a, .float .f32 h, .float .f32 v], 88)) (by simp))).trans rfl; clear hS; unfold execOp; go_simp) rfl rfl kd ?_
  simp only [Act.put, List.setIfInBounds_toArray, List.set_cons_zero, List.set_cons_succ]
  refine take_val 3 _ _ (.float .f32 z) rfl (by rfl) (by kernel_rfl) (by kernel_rfl) (by kernel_rfl) (fun w => by rfl) rfl rfl kd ?_
  simp only [Act.put, List.setIfInBounds_toArray, List.set_cons_zero, List.set_cons_succ]
  refine take_val 4 _ _ (.int .i64 (n : Int)) rfl (by rfl) (by kernel_rfl) (by kernel_rfl) (by kernel_rfl) (fun w => by rfl) rfl rfl kd ?_
  simp only [Act.put, List.setIfInBounds_toArray, List.set_cons_zero, List.set_cons_succ]
  refine wpAnyH_ready (rs := [5, 10]) (by kernel_rfl) (by simp) ?_
  refine callKQ 5 _ (fun y u => ∃ gh, y = .slice (some ⟨gh, 0, none⟩) n n ∧ u.heap[gh]? = some (.cells (vls n (flw (upTo (stepW a z n) n))) 22 (0, 0)) ∧ (∀ x ∈ ([(w.heap.size, #[.float .f32 a, .float .f32 h, .float .f32 v], 88), (w.heap.size + 1, #[.float .f32 0, .float .f32 0, .float .f32 0], 88)] : List (Nat × Array Value × TypeId)), x.1 ≠ gh) ∧ w.heap.size ≤ gh) kd rfl (by rfl) 190 #[.float .f32 a, .float .f32 z, .int .i64 (n : Int)] (fun w => by unfold execOp; go_simp) rfl ?hc2 (fun y2 w2 hv2 k2 hb2 => ?_) ?_
  case hc2 =>
    refine (HHB.out _).mono ?_
    rintro e w' ⟨rfl, hrow, hb⟩
    exact ⟨_, ⟨_, rfl, hrow, kd.fresh, kd.size⟩, rfl, hb⟩
  · obtain ⟨gh, rfl, hrow2, hnh, hBh⟩ := hv2
    have kk2 := (k2.add hrow2)
    refine ⟨kk2.tail, ?_⟩
    simp only [Act.put, List.setIfInBounds_toArray, List.set_cons_zero, List.set_cons_succ]
    refine wpAnyH_ready (rs := [6, 10]) (by kernel_rfl) (by simp) ?_
    refine callK 6 _ _ (.tuple #[.agg #[.float .f32 (moSt a z n h v n).a, .float .f32 (moSt a z n h v n).h, .float .f32 (moSt a z n h v n).v, .float .f32 (moSt a z n h v n).f], .int .i64 0]) kk2 rfl (by rfl) 189 #[.agg #[.float .f32 a, .float .f32 h, .float .f32 v], .int .i64 1, .slice (some ⟨gh, 0, none⟩) n n] (fun w => by unfold execOp; go_simp) rfl rfl ?hc4 (fun w4 k4 => ?_) ?_
    case hc4 => exact HR.out _ gh (fun j hj => ((show vAt _ gh n (flw (upTo (stepW a z n) n)) 22 from kk2.at (x := (gh, vls n (flw (upTo (stepW a z n) n)), 22)) (by simp)).fcell hj).trans (by unfold upTo; rw [if_pos hj]))
    · refine ⟨k4.tail, ?_⟩
      simp only [Act.put, List.setIfInBounds_toArray, List.set_cons_zero, List.set_cons_succ]
      refine take_val 7 _ _ (.tuple #[.agg #[.float .f32 (moSt a z n h v n).a, .float .f32 (moSt a z n h v n).h, .float .f32 (moSt a z n h v n).v, .float .f32 (moSt a z n h v n).f], .int .i64 0]) rfl (by rfl) (by kernel_rfl) (by kernel_rfl) (by kernel_rfl) (fun w => by rfl) rfl rfl k4.tail ?_
      simp only [Act.put, List.setIfInBounds_toArray, List.set_cons_zero, List.set_cons_succ]
      refine take_val 8 _ _ (.agg #[.float .f32 (moSt a z n h v n).a, .float .f32 (moSt a z n h v n).h, .float .f32 (moSt a z n h v n).v, .float .f32 (moSt a z n h v n).f]) rfl (by rfl) (by kernel_rfl) (by kernel_rfl) (by kernel_rfl) (fun w => by unfold execOp; go_simp) rfl rfl k4.tail ?_
      simp only [Act.put, List.setIfInBounds_toArray, List.set_cons_zero, List.set_cons_succ]
      refine take_val 9 _ _ (.int .i64 0) rfl (by rfl) (by kernel_rfl) (by kernel_rfl) (by kernel_rfl) (fun w => by unfold execOp; go_simp) rfl rfl k4.tail ?_
      simp only [Act.put, List.setIfInBounds_toArray, List.set_cons_zero, List.set_cons_succ]
      refine wpAnyH_ready (rs := [10]) (by kernel_rfl) (by simp) ?_
      refine allocK 10 (fun g => _) _ k4 rfl (by rfl) (#[.float .f32 0, .float .f32 0, .float .f32 0, .float .f32 0]) 258 (by unfold execOp; go_simp) (fun g => rfl) rfl (fun w6 g6 k6 hBg6 hng6 => ?_) AllReadyH.nil
      refine ⟨k6.tail.tail, ?_⟩
      simp only [Act.put, List.setIfInBounds_toArray, List.set_cons_zero, List.set_cons_succ]
      have hBg6_ := hBg6
      refine wpAnyH_ready (rs := [11]) (by kernel_rfl) (by simp) ?_
      refine storeK 11 _ _ (k6.sub (l' := [(g6, #[.float .f32 0, .float .f32 0, .float .f32 0, .float .f32 0], 258), (gh, vls n (flw (upTo (stepW a z n) n)), 22), (w.heap.size, #[.float .f32 a, .float .f32 h, .float .f32 v], 88), (w.heap.size + 1, #[.float .f32 0, .float .f32 0, .float .f32 0], 88)]) (by intro x hx; simp only [List.mem_cons, List.not_mem_nil, or_false] at hx ⊢; rcases hx with rfl | rfl | rfl | rfl <;> simp)) hBg6 (by intro x hx; simp only [List.mem_cons, List.not_mem_nil, or_false] at hx; rcases hx with rfl | rfl | rfl <;> first | exact hng6 (gh, vls n (flw (upTo (stepW a z n) n)), 22) (by simp) | exact hng6 (w.heap.size, #[.float .f32 a, .float .f32 h, .float .f32 v], 88) (by simp) | exact hng6 (w.heap.size + 1, #[.float .f32 0, .float .f32 0, .float .f32 0], 88) (by simp)) rfl (by rfl) 258 _ _ rfl (#[.float .f32 (moSt a z n h v n).a, .float .f32 (moSt a z n h v n).h, .float .f32 (moSt a z n h v n).v, .float .f32 (moSt a z n h v n).f]) rfl rfl info_ris rfl (by simp [Value.oneCell']) rfl rfl (fun w7 k7 => ?_) AllReadyH.nil
      refine ⟨k7.tail.tail, ?_⟩
      simp only [Act.put, List.setIfInBounds_toArray, List.set_cons_zero, List.set_cons_succ]
      refine take_val 12 _ _ (.int .i64 0) rfl (by rfl) (by kernel_rfl) (by kernel_rfl) (by kernel_rfl) (fun w => by rfl) rfl rfl k7.tail.tail ?_
      simp only [Act.put, List.setIfInBounds_toArray, List.set_cons_zero, List.set_cons_succ]
      refine wpAnyH_done (by kernel_rfl) (NoPanic.normal ?_) _
      have kz := hid (k7.sub (l' := [(g6, #[.float .f32 (moSt a z n h v n).a, .float .f32 (moSt a z n h v n).h, .float .f32 (moSt a z n h v n).v, .float .f32 (moSt a z n h v n).f], 258), (w.heap.size + 1, #[.float .f32 0, .float .f32 0, .float .f32 0], 88)]) (by simp))
      have hBz := hBg6
      have hnz : g6 ≠ w.heap.size + 1 := Ne.symm (hng6 (w.heap.size + 1, #[.float .f32 0, .float .f32 0, .float .f32 0], 88) (by simp))
      generalize w7 = wz at kz ⊢
      generalize g6 = gz at kz hBz hnz ⊢
      have c0 : World.cell? wz ⟨gz, 0, none⟩ = some (.float .f32 (moSt a z n h v n).a) := (cell_of_row wz gz 0 _ _ _ (kz.out.at (x := (gz, #[.float .f32 (moSt a z n h v n).a, .float .f32 (moSt a z n h v n).h, .float .f32 (moSt a z n h v n).v, .float .f32 (moSt a z n h v n).f], 258)) (by simp))).trans rfl
      have z0 : World.frozen? wz ⟨gz, 0, none⟩ = false := frozen_of_row wz gz 0 _ _ (kz.out.at (x := (gz, #[.float .f32 (moSt a z n h v n).a, .float .f32 (moSt a z n h v n).h, .float .f32 (moSt a z n h v n).v, .float .f32 (moSt a z n h v n).f], 258)) (by simp))
      have ky := hid (kz.out.lcell (by omega) (by simpa using Ne.symm hnz) 0 (.float .f32 z))
      replace ky : Hid (Kept w [(gz, #[.float .f32 z, .float .f32 (moSt a z n h v n).h, .float .f32 (moSt a z n h v n).v, .float .f32 (moSt a z n h v n).f], 258), (w.heap.size + 1, #[.float .f32 0, .float .f32 0, .float .f32 0], 88)] _) := ky
      clear kz
      go_wp2_with fail
      refine region_kept (w0 := w) (l := [(gz, #[.float .f32 z, .float .f32 (moSt a z n h v n).h, .float .f32 (moSt a z n h v n).v, .float .f32 (moSt a z n h v n).f], 258)]) 7 #[false, false, false, false, false, false, false] (by kernel_rfl) rfl rfl ?_
      have kd := ky.out.drew.swap
      clear ky c0 z0
      generalize World.drew _ = wd at kd ⊢
      refine take_val 0 _ _ (.pointer (some ⟨gz, 0, none⟩)) rfl (by rfl) (by kernel_rfl) (by kernel_rfl) (by kernel_rfl) (fun w => by unfold execOp; go_simp) rfl rfl kd.tail ?_
      simp only [Act.put, List.setIfInBounds_toArray, List.set_cons_zero, List.set_cons_succ]
      refine take_val 2 _ _ (.pointer (some ⟨gz, 3, none⟩)) rfl (by rfl) (by kernel_rfl) (by kernel_rfl) (by kernel_rfl) (fun w => by unfold execOp; go_simp) rfl rfl kd.tail ?_
      simp only [Act.put, List.setIfInBounds_toArray, List.set_cons_zero, List.set_cons_succ]
      refine take_cell 1 _ _ (.agg #[.float .f32 z, .float .f32 (moSt a z n h v n).h, .float .f32 (moSt a z n h v n).v]) rfl (by rfl) (by kernel_rfl) (by kernel_rfl) (by kernel_rfl) (fun wq hS => run_load_cut 88 _ gz 0 rfl #[.float .f32 z, .float .f32 (moSt a z n h v n).h, .float .f32 (moSt a z n h v n).v, .float .f32 (moSt a z n h v n).f] 258 (hS.at (x := (gz, #[.float .f32 z, .float .f32 (moSt a z n h v n).h, .float .f32 (moSt a z n h v n).v, .float .f32 (moSt a z n h v n).f], 258)) (by simp)) [.float .f32 z, .float .f32 (moSt a z n h v n).h, .float .f32 (moSt a z n h v n).v] rfl _ Try.underlying88 rfl info_par) rfl rfl kd.tail ?_
      simp only [Act.put, List.setIfInBounds_toArray, List.set_cons_zero, List.set_cons_succ]
      refine take_cell 3 _ _ (.float .f32 (moSt a z n h v n).f) rfl (by rfl) (by kernel_rfl) (by kernel_rfl) (by kernel_rfl) (fun wq hS => by have hcell : wq.cell? ⟨gz, 3, none⟩ = some (.float .f32 (moSt a z n h v n).f) := (cell_of_row wq gz 3 _ _ _ (hS.at (x := (gz, #[.float .f32 z, .float .f32 (moSt a z n h v n).h, .float .f32 (moSt a z n h v n).v, .float .f32 (moSt a z n h v n).f], 258)) (by simp))).trans rfl; clear hS; unfold execOp; go_simp) rfl rfl kd.tail ?_
      simp only [Act.put, List.setIfInBounds_toArray, List.set_cons_zero, List.set_cons_succ]
      refine wpAnyH_ready (rs := [4]) (by kernel_rfl) (by simp) ?_
      refine storeK 4 _ _ kd (by omega) (by simpa using hnz) rfl (by rfl) 88 _ _ rfl (#[.float .f32 z, .float .f32 (moSt a z n h v n).h, .float .f32 (moSt a z n h v n).v]) rfl rfl info_par rfl (by simp [Value.oneCell']) rfl rfl (fun wy ky => ?_) AllReadyH.nil
      refine ⟨ky.tail, ?_⟩
      simp only [Act.put, List.setIfInBounds_toArray, List.set_cons_zero, List.set_cons_succ]
      refine take_val 5 _ _ (.float .f32 (moSt a z n h v n).f) rfl (by rfl) (by kernel_rfl) (by kernel_rfl) (by kernel_rfl) (fun w => by rfl) rfl rfl ky.tail ?_
      simp only [Act.put, List.setIfInBounds_toArray, List.set_cons_zero, List.set_cons_succ]
      refine take_val 6 _ _ (.int .i64 0) rfl (by rfl) (by kernel_rfl) (by kernel_rfl) (by kernel_rfl) (fun w => by rfl) rfl rfl ky.tail ?_
      simp only [Act.put, List.setIfInBounds_toArray, List.set_cons_zero, List.set_cons_succ]
      refine wpAnyH_done (by kernel_rfl) (NoPanic.normal ?_) _
      replace ky := hid ky
      go_wp2
      exact bodyPost_ret (results_row_tmp2 rfl _ _ (w.heap.size + 1) 88 (#[.float .f32 z, .float .f32 (moSt a z n h v n).h, .float .f32 (moSt a z n h v n).v]) (0, 0) _ rfl (ky.out.at (x := (w.heap.size + 1, #[.float .f32 z, .float .f32 (moSt a z n h v n).h, .float .f32 (moSt a z n h v n).v], 88)) (by simp)) Try.underlying88 rfl info_par) rfl ⟨rfl, ky.out.1⟩
    refine allocK 10 (fun g => _) _ kk2 rfl (by rfl) (#[.float .f32 0, .float .f32 0, .float .f32 0, .float .f32 0]) 258 (by unfold execOp; go_simp) (fun g => rfl) rfl (fun w8 g8 k8 hBg8 hng8 => ?_) AllReadyH.nil
    refine ⟨k8.tail.tail, ?_⟩
    simp only [Act.put, List.setIfInBounds_toArray, List.set_cons_zero, List.set_cons_succ]
    have hBg8_ := hBg8
    refine wpAnyH_ready (rs := [6]) (by kernel_rfl) (by simp) ?_
    refine callK 6 _ _ (.tuple #[.agg #[.float .f32 (moSt a z n h v n).a, .float .f32 (moSt a z n h v n).h, .float .f32 (moSt a z n h v n).v, .float .f32 (moSt a z n h v n).f], .int .i64 0]) k8 rfl (by rfl) 189 #[.agg #[.float .f32 a, .float .f32 h, .float .f32 v], .int .i64 1, .slice (some ⟨gh, 0, none⟩) n n] (fun w => by unfold execOp; go_simp) rfl rfl ?hc10 (fun w10 k10 => ?_) AllReadyH.nil
    case hc10 => exact HR.out _ gh (fun j hj => ((show vAt _ gh n (flw (upTo (stepW a z n) n)) 22 from k8.at (x := (gh, vls n (flw (upTo (stepW a z n) n)), 22)) (by simp)).fcell hj).trans (by unfold upTo; rw [if_pos hj]))
    refine ⟨k10.tail.tail, ?_⟩
    simp only [Act.put, List.setIfInBounds_toArray, List.set_cons_zero, List.set_cons_succ]
    refine take_val 7 _ _ (.tuple #[.agg #[.float .f32 (moSt a z n h v n).a, .float .f32 (moSt a z n h v n).h, .float .f32 (moSt a z n h v n).v, .float .f32 (moSt a z n h v n).f], .int .i64 0]) rfl (by rfl) (by kernel_rfl) (by kernel_rfl) (by kernel_rfl) (fun w => by rfl) rfl rfl k10.tail.tail ?_
    simp only [Act.put, List.setIfInBounds_toArray, List.set_cons_zero, List.set_cons_succ]
    refine take_val 8 _ _ (.agg #[.float .f32 (moSt a z n h v n).a, .float .f32 (moSt a z n h v n).h, .float .f32 (moSt a z n h v n).v, .float .f32 (moSt a z n h v n).f]) rfl (by rfl) (by kernel_rfl) (by kernel_rfl) (by kernel_rfl) (fun w => by unfold execOp; go_simp) rfl rfl k10.tail.tail ?_
    simp only [Act.put, List.setIfInBounds_toArray, List.set_cons_zero, List.set_cons_succ]
    refine take_val 9 _ _ (.int .i64 0) rfl (by rfl) (by kernel_rfl) (by kernel_rfl) (by kernel_rfl) (fun w => by unfold execOp; go_simp) rfl rfl k10.tail.tail ?_
    simp only [Act.put, List.setIfInBounds_toArray, List.set_cons_zero, List.set_cons_succ]
    refine wpAnyH_ready (rs := [11]) (by kernel_rfl) (by simp) ?_
    refine storeK 11 _ _ (k10.sub (l' := [(g8, #[.float .f32 0, .float .f32 0, .float .f32 0, .float .f32 0], 258), (gh, vls n (flw (upTo (stepW a z n) n)), 22), (w.heap.size, #[.float .f32 a, .float .f32 h, .float .f32 v], 88), (w.heap.size + 1, #[.float .f32 0, .float .f32 0, .float .f32 0], 88)]) (by intro x hx; simp only [List.mem_cons, List.not_mem_nil, or_false] at hx ⊢; rcases hx with rfl | rfl | rfl | rfl <;> simp)) hBg8 (by intro x hx; simp only [List.mem_cons, List.not_mem_nil, or_false] at hx; rcases hx with rfl | rfl | rfl <;> first | exact hng8 (gh, vls n (flw (upTo (stepW a z n) n)), 22) (by simp) | exact hng8 (w.heap.size, #[.float .f32 a, .float .f32 h, .float .f32 v], 88) (by simp) | exact hng8 (w.heap.size + 1, #[.float .f32 0, .float .f32 0, .float .f32 0], 88) (by simp)) rfl (by rfl) 258 _ _ rfl (#[.float .f32 (moSt a z n h v n).a, .float .f32 (moSt a z n h v n).h, .float .f32 (moSt a z n h v n).v, .float .f32 (moSt a z n h v n).f]) rfl rfl info_ris rfl (by simp [Value.oneCell']) rfl rfl (fun w11 k11 => ?_) AllReadyH.nil
    refine ⟨k11.tail.tail, ?_⟩
    simp only [Act.put, List.setIfInBounds_toArray, List.set_cons_zero, List.set_cons_succ]
    refine take_val 12 _ _ (.int .i64 0) rfl (by rfl) (by kernel_rfl) (by kernel_rfl) (by kernel_rfl) (fun w => by rfl) rfl rfl k11.tail.tail ?_
    simp only [Act.put, List.setIfInBounds_toArray, List.set_cons_zero, List.set_cons_succ]
    refine wpAnyH_done (by kernel_rfl) (NoPanic.normal ?_) _
    have kz := hid (k11.sub (l' := [(g8, #[.float .f32 (moSt a z n h v n).a, .float .f32 (moSt a z n h v n).h, .float .f32 (moSt a z n h v n).v, .float .f32 (moSt a z n h v n).f], 258), (w.heap.size + 1, #[.float .f32 0, .float .f32 0, .float .f32 0], 88)]) (by simp))
    have hBz := hBg8
    have hnz : g8 ≠ w.heap.size + 1 := Ne.symm (hng8 (w.heap.size + 1, #[.float .f32 0, .float .f32 0, .float .f32 0], 88) (by simp))
    generalize w11 = wz at kz ⊢
    generalize g8 = gz at kz hBz hnz ⊢
    have c0 : World.cell? wz ⟨gz, 0, none⟩ = some (.float .f32 (moSt a z n h v n).a) := (cell_of_row wz gz 0 _ _ _ (kz.out.at (x := (gz, #[.float .f32 (moSt a z n h v n).a, .float .f32 (moSt a z n h v n).h, .float .f32 (moSt a z n h v n).v, .float .f32 (moSt a z n h v n).f], 258)) (by simp))).trans rfl
    have z0 : World.frozen? wz ⟨gz, 0, none⟩ = false := frozen_of_row wz gz 0 _ _ (kz.out.at (x := (gz, #[.float .f32 (moSt a z n h v n).a, .float .f32 (moSt a z n h v n).h, .float .f32 (moSt a z n h v n).v, .float .f32 (moSt a z n h v n).f], 258)) (by simp))
    have ky := hid (kz.out.lcell (by omega) (by simpa using Ne.symm hnz) 0 (.float .f32 z))
    replace ky : Hid (Kept w [(gz, #[.float .f32 z, .float .f32 (moSt a z n h v n).h, .float .f32 (moSt a z n h v n).v, .float .f32 (moSt a z n h v n).f], 258), (w.heap.size + 1, #[.float .f32 0, .float .f32 0, .float .f32 0], 88)] _) := ky
    clear kz
    go_wp2_with fail
    refine region_kept (w0 := w) (l := [(gz, #[.float .f32 z, .float .f32 (moSt a z n h v n).h, .float .f32 (moSt a z n h v n).v, .float .f32 (moSt a z n h v n).f], 258)]) 7 #[false, false, false, false, false, false, false] (by kernel_rfl) rfl rfl ?_
    have kd := ky.out.drew.swap
    clear ky c0 z0
    generalize World.drew _ = wd at kd ⊢
    refine take_val 0 _ _ (.pointer (some ⟨gz, 0, none⟩)) rfl (by rfl) (by kernel_rfl) (by kernel_rfl) (by kernel_rfl) (fun w => by unfold execOp; go_simp) rfl rfl kd.tail ?_
    simp only [Act.put, List.setIfInBounds_toArray, List.set_cons_zero, List.set_cons_succ]
    refine take_val 2 _ _ (.pointer (some ⟨gz, 3, none⟩)) rfl (by rfl) (by kernel_rfl) (by kernel_rfl) (by kernel_rfl) (fun w => by unfold execOp; go_simp) rfl rfl kd.tail ?_
    simp only [Act.put, List.setIfInBounds_toArray, List.set_cons_zero, List.set_cons_succ]
    refine take_cell 1 _ _ (.agg #[.float .f32 z, .float .f32 (moSt a z n h v n).h, .float .f32 (moSt a z n h v n).v]) rfl (by rfl) (by kernel_rfl) (by kernel_rfl) (by kernel_rfl) (fun wq hS => run_load_cut 88 _ gz 0 rfl #[.float .f32 z, .float .f32 (moSt a z n h v n).h, .float .f32 (moSt a z n h v n).v, .float .f32 (moSt a z n h v n).f] 258 (hS.at (x := (gz, #[.float .f32 z, .float .f32 (moSt a z n h v n).h, .float .f32 (moSt a z n h v n).v, .float .f32 (moSt a z n h v n).f], 258)) (by simp)) [.float .f32 z, .float .f32 (moSt a z n h v n).h, .float .f32 (moSt a z n h v n).v] rfl _ Try.underlying88 rfl info_par) rfl rfl kd.tail ?_
    simp only [Act.put, List.setIfInBounds_toArray, List.set_cons_zero, List.set_cons_succ]
    refine take_cell 3 _ _ (.float .f32 (moSt a z n h v n).f) rfl (by rfl) (by kernel_rfl) (by kernel_rfl) (by kernel_rfl) (fun wq hS => by have hcell : wq.cell? ⟨gz, 3, none⟩ = some (.float .f32 (moSt a z n h v n).f) := (cell_of_row wq gz 3 _ _ _ (hS.at (x := (gz, #[.float .f32 z, .float .f32 (moSt a z n h v n).h, .float .f32 (moSt a z n h v n).v, .float .f32 (moSt a z n h v n).f], 258)) (by simp))).trans rfl; clear hS; unfold execOp; go_simp) rfl rfl kd.tail ?_
    simp only [Act.put, List.setIfInBounds_toArray, List.set_cons_zero, List.set_cons_succ]
    refine wpAnyH_ready (rs := [4]) (by kernel_rfl) (by simp) ?_
    refine storeK 4 _ _ kd (by omega) (by simpa using hnz) rfl (by rfl) 88 _ _ rfl (#[.float .f32 z, .float .f32 (moSt a z n h v n).h, .float .f32 (moSt a z n h v n).v]) rfl rfl info_par rfl (by simp [Value.oneCell']) rfl rfl (fun wy ky => ?_) AllReadyH.nil
    refine ⟨ky.tail, ?_⟩
    simp only [Act.put, List.setIfInBounds_toArray, List.set_cons_zero, List.set_cons_succ]
    refine take_val 5 _ _ (.float .f32 (moSt a z n h v n).f) rfl (by rfl) (by kernel_rfl) (by kernel_rfl) (by kernel_rfl) (fun w => by rfl) rfl rfl ky.tail ?_
    simp only [Act.put, List.setIfInBounds_toArray, List.set_cons_zero, List.set_cons_succ]
    refine take_val 6 _ _ (.int .i64 0) rfl (by rfl) (by kernel_rfl) (by kernel_rfl) (by kernel_rfl) (fun w => by rfl) rfl rfl ky.tail ?_
    simp only [Act.put, List.setIfInBounds_toArray, List.set_cons_zero, List.set_cons_succ]
    refine wpAnyH_done (by kernel_rfl) (NoPanic.normal ?_) _
    replace ky := hid ky
    go_wp2
    exact bodyPost_ret (results_row_tmp2 rfl _ _ (w.heap.size + 1) 88 (#[.float .f32 z, .float .f32 (moSt a z n h v n).h, .float .f32 (moSt a z n h v n).v]) (0, 0) _ rfl (ky.out.at (x := (w.heap.size + 1, #[.float .f32 z, .float .f32 (moSt a z n h v n).h, .float .f32 (moSt a z n h v n).v], 88)) (by simp)) Try.underlying88 rfl info_par) rfl ⟨rfl, ky.out.1⟩
  refine allocK 10 (fun g => _) _ kd rfl (by rfl) (#[.float .f32 0, .float .f32 0, .float .f32 0, .float .f32 0]) 258 (by unfold execOp; go_simp) (fun g => rfl) rfl (fun w12 g12 k12 hBg12 hng12 => ?_) AllReadyH.nil
  refine ⟨k12.tail, ?_⟩
  simp only [Act.put, List.setIfInBounds_toArray, List.set_cons_zero, List.set_cons_succ]
  have hBg12_ := hBg12
  refine wpAnyH_ready (rs := [5]) (by kernel_rfl) (by simp) ?_
  refine callKQ 5 _ (fun y u => ∃ gh, y = .slice (some ⟨gh, 0, none⟩) n n ∧ u.heap[gh]? = some (.cells (vls n (flw (upTo (stepW a z n) n))) 22 (0, 0)) ∧ (∀ x ∈ ([(g12, #[.float .f32 0, .float .f32 0, .float .f32 0, .float .f32 0], 258), (w.heap.size, #[.float .f32 a, .float .f32 h, .float .f32 v], 88), (w.heap.size + 1, #[.float .f32 0, .float .f32 0, .float .f32 0], 88)] : List (Nat × Array Value × TypeId)), x.1 ≠ gh) ∧ w.heap.size ≤ gh) k12 rfl (by rfl) 190 #[.float .f32 a, .float .f32 z, .int .i64 (n : Int)] (fun w => by unfold execOp; go_simp) rfl ?hc14 (fun y14 w14 hv14 k14 hb14 => ?_) AllReadyH.nil
  case hc14 =>
    refine (HHB.out _).mono ?_
    rintro e w' ⟨rfl, hrow, hb⟩
    exact ⟨_, ⟨_, rfl, hrow, k12.fresh, k12.size⟩, rfl, hb⟩
  obtain ⟨gh, rfl, hrow14, hnh, hBh⟩ := hv14
  have kk14 := (k14.add hrow14)
  refine ⟨kk14.tail.tail, ?_⟩
  simp only [Act.put, List.setIfInBounds_toArray, List.set_cons_zero, List.set_cons_succ]
  refine wpAnyH_ready (rs := [6]) (by kernel_rfl) (by simp) ?_
  refine callK 6 _ _ (.tuple #[.agg #[.float .f32 (moSt a z n h v n).a, .float .f32 (moSt a z n h v n).h, .float .f32 (moSt a z n h v n).v, .float .f32 (moSt a z n h v n).f], .int .i64 0]) kk14 rfl (by rfl) 189 #[.agg #[.float .f32 a, .float .f32 h, .float .f32 v], .int .i64 1, .slice (some ⟨gh, 0, none⟩) n n] (fun w => by unfold execOp; go_simp) rfl rfl ?hc16 (fun w16 k16 => ?_) AllReadyH.nil
  case hc16 => exact HR.out _ gh (fun j hj => ((show vAt _ gh n (flw (upTo (stepW a z n) n)) 22 from kk14.at (x := (gh, vls n (flw (upTo (stepW a z n) n)), 22)) (by simp)).fcell hj).trans (by unfold upTo; rw [if_pos hj]))
  refine ⟨k16.tail.tail, ?_⟩
  simp only [Act.put, List.setIfInBounds_toArray, List.set_cons_zero, List.set_cons_succ]
  refine take_val 7 _ _ (.tuple #[.agg #[.float .f32 (moSt a z n h v n).a, .float .f32 (moSt a z n h v n).h, .float .f32 (moSt a z n h v n).v, .float .f32 (moSt a z n h v n).f], .int .i64 0]) rfl (by rfl) (by kernel_rfl) (by kernel_rfl) (by kernel_rfl) (fun w => by rfl) rfl rfl k16.tail.tail ?_
  simp only [Act.put, List.setIfInBounds_toArray, List.set_cons_zero, List.set_cons_succ]
  refine take_val 8 _ _ (.agg #[.float .f32 (moSt a z n h v n).a, .float .f32 (moSt a z n h v n).h, .float .f32 (moSt a z n h v n).v, .float .f32 (moSt a z n h v n).f]) rfl (by rfl) (by kernel_rfl) (by kernel_rfl) (by kernel_rfl) (fun w => by unfold execOp; go_simp) rfl rfl k16.tail.tail ?_
  simp only [Act.put, List.setIfInBounds_toArray, List.set_cons_zero, List.set_cons_succ]
  refine take_val 9 _ _ (.int .i64 0) rfl (by rfl) (by kernel_rfl) (by kernel_rfl) (by kernel_rfl) (fun w => by unfold execOp; go_simp) rfl rfl k16.tail.tail ?_
  simp only [Act.put, List.setIfInBounds_toArray, List.set_cons_zero, List.set_cons_succ]
  refine wpAnyH_ready (rs := [11]) (by kernel_rfl) (by simp) ?_
  refine storeK 11 _ _ (k16.sub (l' := [(g12, #[.float .f32 0, .float .f32 0, .float .f32 0, .float .f32 0], 258), (gh, vls n (flw (upTo (stepW a z n) n)), 22), (w.heap.size, #[.float .f32 a, .float .f32 h, .float .f32 v], 88), (w.heap.size + 1, #[.float .f32 0, .float .f32 0, .float .f32 0], 88)]) (by intro x hx; simp only [List.mem_cons, List.not_mem_nil, or_false] at hx ⊢; rcases hx with rfl | rfl | rfl | rfl <;> simp)) hBg12 (by intro x hx; simp only [List.mem_cons, List.not_mem_nil, or_false] at hx; rcases hx with rfl | rfl | rfl <;> first | exact Ne.symm (hnh (g12, #[.float .f32 0, .float .f32 0, .float .f32 0, .float .f32 0], 258) (by simp)) | exact hng12 (w.heap.size, #[.float .f32 a, .float .f32 h, .float .f32 v], 88) (by simp) | exact hng12 (w.heap.size + 1, #[.float .f32 0, .float .f32 0, .float .f32 0], 88) (by simp)) rfl (by rfl) 258 _ _ rfl (#[.float .f32 (moSt a z n h v n).a, .float .f32 (moSt a z n h v n).h, .float .f32 (moSt a z n h v n).v, .float .f32 (moSt a z n h v n).f]) rfl rfl info_ris rfl (by simp [Value.oneCell']) rfl rfl (fun w17 k17 => ?_) AllReadyH.nil
  refine ⟨k17.tail.tail, ?_⟩
  simp only [Act.put, List.setIfInBounds_toArray, List.set_cons_zero, List.set_cons_succ]
  refine take_val 12 _ _ (.int .i64 0) rfl (by rfl) (by kernel_rfl) (by kernel_rfl) (by kernel_rfl) (fun w => by rfl) rfl rfl k17.tail.tail ?_
  simp only [Act.put, List.setIfInBounds_toArray, List.set_cons_zero, List.set_cons_succ]
  refine wpAnyH_done (by kernel_rfl) (NoPanic.normal ?_) _
  have kz := hid (k17.sub (l' := [(g12, #[.float .f32 (moSt a z n h v n).a, .float .f32 (moSt a z n h v n).h, .float .f32 (moSt a z n h v n).v, .float .f32 (moSt a z n h v n).f], 258), (w.heap.size + 1, #[.float .f32 0, .float .f32 0, .float .f32 0], 88)]) (by simp))
  have hBz := hBg12
  have hnz : g12 ≠ w.heap.size + 1 := Ne.symm (hng12 (w.heap.size + 1, #[.float .f32 0, .float .f32 0, .float .f32 0], 88) (by simp))
  generalize w17 = wz at kz ⊢
  generalize g12 = gz at kz hBz hnz ⊢
  have c0 : World.cell? wz ⟨gz, 0, none⟩ = some (.float .f32 (moSt a z n h v n).a) := (cell_of_row wz gz 0 _ _ _ (kz.out.at (x := (gz, #[.float .f32 (moSt a z n h v n).a, .float .f32 (moSt a z n h v n).h, .float .f32 (moSt a z n h v n).v, .float .f32 (moSt a z n h v n).f], 258)) (by simp))).trans rfl
  have z0 : World.frozen? wz ⟨gz, 0, none⟩ = false := frozen_of_row wz gz 0 _ _ (kz.out.at (x := (gz, #[.float .f32 (moSt a z n h v n).a, .float .f32 (moSt a z n h v n).h, .float .f32 (moSt a z n h v n).v, .float .f32 (moSt a z n h v n).f], 258)) (by simp))
  have ky := hid (kz.out.lcell (by omega) (by simpa using Ne.symm hnz) 0 (.float .f32 z))
  replace ky : Hid (Kept w [(gz, #[.float .f32 z, .float .f32 (moSt a z n h v n).h, .float .f32 (moSt a z n h v n).v, .float .f32 (moSt a z n h v n).f], 258), (w.heap.size + 1, #[.float .f32 0, .float .f32 0, .float .f32 0], 88)] _) := ky
  clear kz
  go_wp2_with fail
  refine region_kept (w0 := w) (l := [(gz, #[.float .f32 z, .float .f32 (moSt a z n h v n).h, .float .f32 (moSt a z n h v n).v, .float .f32 (moSt a z n h v n).f], 258)]) 7 #[false, false, false, false, false, false, false] (by kernel_rfl) rfl rfl ?_
  have kd := ky.out.drew.swap
  clear ky c0 z0
  generalize World.drew _ = wd at kd ⊢
  refine take_val 0 _ _ (.pointer (some ⟨gz, 0, none⟩)) rfl (by rfl) (by kernel_rfl) (by kernel_rfl) (by kernel_rfl) (fun w => by unfold execOp; go_simp) rfl rfl kd.tail ?_
  simp only [Act.put, List.setIfInBounds_toArray, List.set_cons_zero, List.set_cons_succ]
  refine take_val 2 _ _ (.pointer (some ⟨gz, 3, none⟩)) rfl (by rfl) (by kernel_rfl) (by kernel_rfl) (by kernel_rfl) (fun w => by unfold execOp; go_simp) rfl rfl kd.tail ?_
  simp only [Act.put, List.setIfInBounds_toArray, List.set_cons_zero, List.set_cons_succ]
  refine take_cell 1 _ _ (.agg #[.float .f32 z, .float .f32 (moSt a z n h v n).h, .float .f32 (moSt a z n h v n).v]) rfl (by rfl) (by kernel_rfl) (by kernel_rfl) (by kernel_rfl) (fun wq hS => run_load_cut 88 _ gz 0 rfl #[.float .f32 z, .float .f32 (moSt a z n h v n).h, .float .f32 (moSt a z n h v n).v, .float .f32 (moSt a z n h v n).f] 258 (hS.at (x := (gz, #[.float .f32 z, .float .f32 (moSt a z n h v n).h, .float .f32 (moSt a z n h v n).v, .float .f32 (moSt a z n h v n).f], 258)) (by simp)) [.float .f32 z, .float .f32 (moSt a z n h v n).h, .float .f32 (moSt a z n h v n).v] rfl _ Try.underlying88 rfl info_par) rfl rfl kd.tail ?_
  simp only [Act.put, List.setIfInBounds_toArray, List.set_cons_zero, List.set_cons_succ]
  refine take_cell 3 _ _ (.float .f32 (moSt a z n h v n).f) rfl (by rfl) (by kernel_rfl) (by kernel_rfl) (by kernel_rfl) (fun wq hS => by have hcell : wq.cell? ⟨gz, 3, none⟩ = some (.float .f32 (moSt a z n h v n).f) := (cell_of_row wq gz 3 _ _ _ (hS.at (x := (gz, #[.float .f32 z, .float .f32 (moSt a z n h v n).h, .float .f32 (moSt a z n h v n).v, .float .f32 (moSt a z n h v n).f], 258)) (by simp))).trans rfl; clear hS; unfold execOp; go_simp) rfl rfl kd.tail ?_
  simp only [Act.put, List.setIfInBounds_toArray, List.set_cons_zero, List.set_cons_succ]
  refine wpAnyH_ready (rs := [4]) (by kernel_rfl) (by simp) ?_
  refine storeK 4 _ _ kd (by omega) (by simpa using hnz) rfl (by rfl) 88 _ _ rfl (#[.float .f32 z, .float .f32 (moSt a z n h v n).h, .float .f32 (moSt a z n h v n).v]) rfl rfl info_par rfl (by simp [Value.oneCell']) rfl rfl (fun wy ky => ?_) AllReadyH.nil
  refine ⟨ky.tail, ?_⟩
  simp only [Act.put, List.setIfInBounds_toArray, List.set_cons_zero, List.set_cons_succ]
  refine take_val 5 _ _ (.float .f32 (moSt a z n h v n).f) rfl (by rfl) (by kernel_rfl) (by kernel_rfl) (by kernel_rfl) (fun w => by rfl) rfl rfl ky.tail ?_
  simp only [Act.put, List.setIfInBounds_toArray, List.set_cons_zero, List.set_cons_succ]
  refine take_val 6 _ _ (.int .i64 0) rfl (by rfl) (by kernel_rfl) (by kernel_rfl) (by kernel_rfl) (fun w => by rfl) rfl rfl ky.tail ?_
  simp only [Act.put, List.setIfInBounds_toArray, List.set_cons_zero, List.set_cons_succ]
  refine wpAnyH_done (by kernel_rfl) (NoPanic.normal ?_) _
  replace ky := hid ky
  go_wp2
  exact bodyPost_ret (results_row_tmp2 rfl _ _ (w.heap.size + 1) 88 (#[.float .f32 z, .float .f32 (moSt a z n h v n).h, .float .f32 (moSt a z n h v n).v]) (0, 0) _ rfl (ky.out.at (x := (w.heap.size + 1, #[.float .f32 z, .float .f32 (moSt a z n h v n).h, .float .f32 (moSt a z n h v n).v], 88)) (by simp)) Try.underlying88 rfl info_par) rfl ⟨rfl, ky.out.1⟩

set_option maxRecDepth 100000 in
set_option maxHeartbeats 4000000 in
theorem iRaiseMoist_f (a h v z n : Nat) (hx : h < 4294967296) (hv : v < 4294967296) (hp : parB a h v = true) (hq : hgtB z = true) (h1 : 1 ≤ n) (hn : n ≤ 100) (m : Nat) (hm : m < n) (hall : ∀ j, j < m → moB a z n h v j = true) (hstop : moB a z n h v m = false) (w : World) :
    Calls Try.prog 178 #[.agg #[.float .f32 a, .float .f32 h, .float .f32 v], .float .f32 z, .int .i64 (n : Int)] w fun e w' => e = .returned (.tuple #[.agg #[.float .f32 0, .float .f32 0, .float .f32 0], .float .f32 0, .int .i64 4]) ∧ Below w.heap.size w w' := by
  have k0 : Hid (Kept w [(w.heap.size, #[.float .f32 a, .float .f32 h, .float .f32 v], 88), (w.heap.size + 1, #[.float .f32 0, .float .f32 0, .float .f32 0], 88)] ((w.alloc (.cells #[.float .f32 a, .float .f32 h, .float .f32 v] 88)).alloc (.cells #[.float .f32 0, .float .f32 0, .float .f32 0] 88))) := hid ((((Kept.nil w).push _ _).push _ _).sub (by simp))
  have Ha : Hgt a := hgt_iff.1 (parB_iff.1 hp).1
  have Hz : Hgt z := hgt_iff.1 hq
  have hA := (parB_iff.1 hp).2
  have HP := hid (fun u => iValidParcel a h v (fw_amt (amtB_iff.2 (hgt_inf Ha))).1 hv true hp u)
  have HH := hid (fun u => iHgt z (fw_amt (amtB_iff.2 (hgt_inf Hz))).1 true hq u)
  have HHB := hid (fun u => iHeights a z n Ha Hz h1 hn u)
  have HR : Hid (∀ (u : World) (gs : Nat), (∀ k, k < n → u.cell? ⟨gs, k, none⟩ = some (.float .f32 (stepW a z n k))) → Calls Try.prog 189 #[.agg #[.float .f32 a, .float .f32 h, .float .f32 v], .int .i64 1, .slice (some ⟨gs, 0, none⟩) n n] u fun e u' => e = .returned (.tuple #[.agg #[.float .f32 0, .float .f32 0, .float .f32 0, .float .f32 0], .int .i64 4]) ∧ Below u.heap.size u u') := hid fun u gs hc => iRaise1_f n (by omega) n (stepW a z n) (fun k => (moSt a z n h v k).a) (fun k => (moSt a z n h v k).h) (fun k => (moSt a z n h v k).v) (fun k => (moSt a z n h v k).f) rfl m hm _ _ (fun u => iMoStop Ha Hz hn hm (mo_facts Ha Hz hn hx hA m (by omega) hall) hstop u) (fun k hk u => iMoStep Ha Hz hn (by omega) (mo_facts Ha Hz hn hx hA k (by omega) (fun j hj => hall j (by omega))) (hall k hk) u) u gs hc
  have d1 : ¬ ((n : Int) < 1) := by omega
  have d2 : ¬ (100 < (n : Int)) := by omega
  clear hx hv hp hq h1 hn hall hA Ha Hz hm hstop
  go_enter Try.func178, Try.ntmps178
  go_wp2_with fail
  refine (HP.out _).mono ?_
  rintro e w1 ⟨rfl, hb1⟩
  have k1 := hid (k0.out.stay hb1)
  go_wp2_with fail
  refine (HH.out _).mono ?_
  rintro e w2 ⟨rfl, hb2⟩
  have k2 := hid (k1.out.stay hb2)
  clear k0 k1
  go_wp2_with fail
  refine region_kept (w0 := w) (l := [(w.heap.size, #[.float .f32 a, .float .f32 h, .float .f32 v], 88), (w.heap.size + 1, #[.float .f32 0, .float .f32 0, .float .f32 0], 88)]) 13 #[false, false, false, false, false, false, false, false, false, false, false, false, false] (by kernel_rfl) rfl rfl ?_
  have kd := k2.out.drew
  clear k2 hb1 hb2
  generalize World.drew _ = wd at kd ⊢
  refine take_load 0 _ _ rfl (by rfl) (by kernel_rfl) (by kernel_rfl) (by kernel_rfl) 88 _ rfl (w.heap.size) (#[.float .f32 a, .float .f32 h, .float .f32 v]) 88 rfl (by simp) _ Try.underlying88 rfl (info_par) rfl rfl kd ?_
  simp only [Act.put, List.setIfInBounds_toArray, List.set_cons_zero, List.set_cons_succ]
  refine take_val 1 _ _ (.pointer (some ⟨w.heap.size, 0, none⟩)) rfl (by rfl) (by kernel_rfl) (by kernel_rfl) (by kernel_rfl) (fun w => by unfold execOp; go_simp) rfl rfl kd ?_
  simp only [Act.put, List.setIfInBounds_toArray, List.set_cons_zero, List.set_cons_succ]
  refine take_cell 2 _ _ (.float .f32 a) rfl (by rfl) (by kernel_rfl) (by kernel_rfl) (by kernel_rfl) (fun wq hS => by have hcell : wq.cell? ⟨w.heap.size, 0, none⟩ = some (.float .f32 a) := (cell_of_row wq (w.heap.size) 0 _ _ _ (hS.at (x := (w.heap.size, #[.float .f32 a, .float .f32 h, .float .f32 v], 88)) (by simp))).trans rfl; clear hS; unfold execOp; go_simp) rfl rfl kd ?_
  simp only [Act.put, List.setIfInBounds_toArray, List.set_cons_zero, List.set_cons_succ]
  refine take_val 3 _ _ (.float .f32 z) rfl (by rfl) (by kernel_rfl) (by kernel_rfl) (by kernel_rfl) (fun w => by rfl) rfl rfl kd ?_
  simp only [Act.put, List.setIfInBounds_toArray, List.set_cons_zero, List.set_cons_succ]
  refine take_val 4 _ _ (.int .i64 (n : Int)) rfl (by rfl) (by kernel_rfl) (by kernel_rfl) (by kernel_rfl) (fun w => by rfl) rfl rfl kd ?_
  simp only [Act.put, List.setIfInBounds_toArray, List.set_cons_zero, List.set_cons_succ]
  refine wpAnyH_ready (rs := [5, 10]) (by kernel_rfl) (by simp) ?_
  refine callKQ 5 _ (fun y u => ∃ gh, y = .slice (some ⟨gh, 0, none⟩) n n ∧ u.heap[gh]? = some (.cells (vls n (flw (upTo (stepW a z n) n))) 22 (0, 0)) ∧ (∀ x ∈ ([(w.heap.size, #[.float .f32 a, .float .f32 h, .float .f32 v], 88), (w.heap.size + 1, #[.float .f32 0, .float .f32 0, .float .f32 0], 88)] : List (Nat × Array Value × TypeId)), x.1 ≠ gh) ∧ w.heap.size ≤ gh) kd rfl (by rfl) 190 #[.float .f32 a, .float .f32 z, .int .i64 (n : Int)] (fun w => by unfold execOp; go_simp) rfl ?hc2 (fun y2 w2 hv2 k2 hb2 => ?_) ?_
  case hc2 =>
    refine (HHB.out _).mono ?_
    rintro e w' ⟨rfl, hrow, hb⟩
    exact ⟨_, ⟨_, rfl, hrow, kd.fresh, kd.size⟩, rfl, hb⟩
  · obtain ⟨gh, rfl, hrow2, hnh, hBh⟩ := hv2
    have kk2 := (k2.add hrow2)
    refine ⟨kk2.tail, ?_⟩
    simp only [Act.put, List.setIfInBounds_toArray, List.set_cons_zero, List.set_cons_succ]
    refine wpAnyH_ready (rs := [6, 10]) (by kernel_rfl) (by simp) ?_
    refine callK 6 _ _ (.tuple #[.agg #[.float .f32 0, .float .f32 0, .float .f32 0, .float .f32 0], .int .i64 4]) kk2 rfl (by rfl) 189 #[.agg #[.float .f32 a, .float .f32 h, .float .f32 v], .int .i64 1, .slice (some ⟨gh, 0, none⟩) n n] (fun w => by unfold execOp; go_simp) rfl rfl ?hc4 (fun w4 k4 => ?_) ?_
    case hc4 => exact HR.out _ gh (fun j hj => ((show vAt _ gh n (flw (upTo (stepW a z n) n)) 22 from kk2.at (x := (gh, vls n (flw (upTo (stepW a z n) n)), 22)) (by simp)).fcell hj).trans (by unfold upTo; rw [if_pos hj]))
    · refine ⟨k4.tail, ?_⟩
      simp only [Act.put, List.setIfInBounds_toArray, List.set_cons_zero, List.set_cons_succ]
      refine take_val 7 _ _ (.tuple #[.agg #[.float .f32 0, .float .f32 0, .float .f32 0, .float .f32 0], .int .i64 4]) rfl (by rfl) (by kernel_rfl) (by kernel_rfl) (by kernel_rfl) (fun w => by rfl) rfl rfl k4.tail ?_
      simp only [Act.put, List.setIfInBounds_toArray, List.set_cons_zero, List.set_cons_succ]
      refine take_val 8 _ _ (.agg #[.float .f32 0, .float .f32 0, .float .f32 0, .float .f32 0]) rfl (by rfl) (by kernel_rfl) (by kernel_rfl) (by kernel_rfl) (fun w => by unfold execOp; go_simp) rfl rfl k4.tail ?_
      simp only [Act.put, List.setIfInBounds_toArray, List.set_cons_zero, List.set_cons_succ]
      refine take_val 9 _ _ (.int .i64 4) rfl (by rfl) (by kernel_rfl) (by kernel_rfl) (by kernel_rfl) (fun w => by unfold execOp; go_simp) rfl rfl k4.tail ?_
      simp only [Act.put, List.setIfInBounds_toArray, List.set_cons_zero, List.set_cons_succ]
      refine wpAnyH_ready (rs := [10]) (by kernel_rfl) (by simp) ?_
      refine allocK 10 (fun g => _) _ k4 rfl (by rfl) (#[.float .f32 0, .float .f32 0, .float .f32 0, .float .f32 0]) 258 (by unfold execOp; go_simp) (fun g => rfl) rfl (fun w6 g6 k6 hBg6 hng6 => ?_) AllReadyH.nil
      refine ⟨k6.tail.tail, ?_⟩
      simp only [Act.put, List.setIfInBounds_toArray, List.set_cons_zero, List.set_cons_succ]
      have hBg6_ := hBg6
      refine wpAnyH_ready (rs := [11]) (by kernel_rfl) (by simp) ?_
      refine storeK 11 _ _ (k6.sub (l' := [(g6, #[.float .f32 0, .float .f32 0, .float .f32 0, .float .f32 0], 258), (gh, vls n (flw (upTo (stepW a z n) n)), 22), (w.heap.size, #[.float .f32 a, .float .f32 h, .float .f32 v], 88), (w.heap.size + 1, #[.float .f32 0, .float .f32 0, .float .f32 0], 88)]) (by intro x hx; simp only [List.mem_cons, List.not_mem_nil, or_false] at hx ⊢; rcases hx with rfl | rfl | rfl | rfl <;> simp)) hBg6 (by intro x hx; simp only [List.mem_cons, List.not_mem_nil, or_false] at hx; rcases hx with rfl | rfl | rfl <;> first | exact hng6 (gh, vls n (flw (upTo (stepW a z n) n)), 22) (by simp) | exact hng6 (w.heap.size, #[.float .f32 a, .float .f32 h, .float .f32 v], 88) (by simp) | exact hng6 (w.heap.size + 1, #[.float .f32 0, .float .f32 0, .float .f32 0], 88) (by simp)) rfl (by rfl) 258 _ _ rfl (#[.float .f32 0, .float .f32 0, .float .f32 0, .float .f32 0]) rfl rfl info_ris rfl (by simp [Value.oneCell']) rfl rfl (fun w7 k7 => ?_) AllReadyH.nil
      refine ⟨k7.tail.tail, ?_⟩
      simp only [Act.put, List.setIfInBounds_toArray, List.set_cons_zero, List.set_cons_succ]
      refine take_val 12 _ _ (.int .i64 4) rfl (by rfl) (by kernel_rfl) (by kernel_rfl) (by kernel_rfl) (fun w => by rfl) rfl rfl k7.tail.tail ?_
      simp only [Act.put, List.setIfInBounds_toArray, List.set_cons_zero, List.set_cons_succ]
      refine wpAnyH_done (by kernel_rfl) (NoPanic.normal ?_) _
      have kz := hid (k7.sub (l' := [(g6, #[.float .f32 0, .float .f32 0, .float .f32 0, .float .f32 0], 258), (w.heap.size + 1, #[.float .f32 0, .float .f32 0, .float .f32 0], 88)]) (by simp))
      have hBz := hBg6
      have hnz : g6 ≠ w.heap.size + 1 := Ne.symm (hng6 (w.heap.size + 1, #[.float .f32 0, .float .f32 0, .float .f32 0], 88) (by simp))
      generalize w7 = wz at kz ⊢
      generalize g6 = gz at kz hBz hnz ⊢
      go_wp2_with ((refine store_kept (w0 := w) (l := [(gz, #[.float .f32 0, .float .f32 0, .float .f32 0, .float .f32 0], 258)]) rfl 88 _ _ rfl (w.heap.size + 1) (#[.float .f32 0, .float .f32 0, .float .f32 0]) rfl rfl 88 (#[.float .f32 0, .float .f32 0, .float .f32 0]) (kz.out.swap) (by omega) (by simpa using hnz) info_par rfl (by simp [Value.oneCell']) (fun w7 k7 => ?_); replace k7 := hid k7))
      exact bodyPost_ret (results_row_tmp2 rfl _ _ (w.heap.size + 1) 88 (#[.float .f32 0, .float .f32 0, .float .f32 0]) (0, 0) _ rfl (k7.out.at (x := (w.heap.size + 1, #[.float .f32 0, .float .f32 0, .float .f32 0], 88)) (by simp)) Try.underlying88 rfl info_par) rfl ⟨rfl, k7.out.1⟩
    refine allocK 10 (fun g => _) _ kk2 rfl (by rfl) (#[.float .f32 0, .float .f32 0, .float .f32 0, .float .f32 0]) 258 (by unfold execOp; go_simp) (fun g => rfl) rfl (fun w8 g8 k8 hBg8 hng8 => ?_) AllReadyH.nil
    refine ⟨k8.tail.tail, ?_⟩
    simp only [Act.put, List.setIfInBounds_toArray, List.set_cons_zero, List.set_cons_succ]
    have hBg8_ := hBg8
    refine wpAnyH_ready (rs := [6]) (by kernel_rfl) (by simp) ?_
    refine callK 6 _ _ (.tuple #[.agg #[.float .f32 0, .float .f32 0, .float .f32 0, .float .f32 0], .int .i64 4]) k8 rfl (by rfl) 189 #[.agg #[.float .f32 a, .float .f32 h, .float .f32 v], .int .i64 1, .slice (some ⟨gh, 0, none⟩) n n] (fun w => by unfold execOp; go_simp) rfl rfl ?hc10 (fun w10 k10 => ?_) AllReadyH.nil
    case hc10 => exact HR.out _ gh (fun j hj => ((show vAt _ gh n (flw (upTo (stepW a z n) n)) 22 from k8.at (x := (gh, vls n (flw (upTo (stepW a z n) n)), 22)) (by simp)).fcell hj).trans (by unfold upTo; rw [if_pos hj]))
    refine ⟨k10.tail.tail, ?_⟩
    simp only [Act.put, List.setIfInBounds_toArray, List.set_cons_zero, List.set_cons_succ]
    refine take_val 7 _ _ (.tuple #[.agg #[.float .f32 0, .float .f32 0, .float .f32 0, .float .f32 0], .int .i64 4]) rfl (by rfl) (by kernel_rfl) (by kernel_rfl) (by kernel_rfl) (fun w => by rfl) rfl rfl k10.tail.tail ?_
    simp only [Act.put, List.setIfInBounds_toArray, List.set_cons_zero, List.set_cons_succ]
    refine take_val 8 _ _ (.agg #[.float .f32 0, .float .f32 0, .float .f32 0, .float .f32 0]) rfl (by rfl) (by kernel_rfl) (by kernel_rfl) (by kernel_rfl) (fun w => by unfold execOp; go_simp) rfl rfl k10.tail.tail ?_
    simp only [Act.put, List.setIfInBounds_toArray, List.set_cons_zero, List.set_cons_succ]
    refine take_val 9 _ _ (.int .i64 4) rfl (by rfl) (by kernel_rfl) (by kernel_rfl) (by kernel_rfl) (fun w => by unfold execOp; go_simp) rfl rfl k10.tail.tail ?_
    simp only [Act.put, List.setIfInBounds_toArray, List.set_cons_zero, List.set_cons_succ]
    refine wpAnyH_ready (rs := [11]) (by kernel_rfl) (by simp) ?_
    refine storeK 11 _ _ (k10.sub (l' := [(g8, #[.float .f32 0, .float .f32 0, .float .f32 0, .float .f32 0], 258), (gh, vls n (flw (upTo (stepW a z n) n)), 22), (w.heap.size, #[.float .f32 a, .float .f32 h, .float .f32 v], 88), (w.heap.size + 1, #[.float .f32 0, .float .f32 0, .float .f32 0], 88)]) (by intro x hx; simp only [List.mem_cons, List.not_mem_nil, or_false] at hx ⊢; rcases hx with rfl | rfl | rfl | rfl <;> simp)) hBg8 (by intro x hx; simp only [List.mem_cons, List.not_mem_nil, or_false] at hx; rcases hx with rfl | rfl | rfl <;> first | exact hng8 (gh, vls n (flw (upTo (stepW a z n) n)), 22) (by simp) | exact hng8 (w.heap.size, #[.float .f32 a, .float .f32 h, .float .f32 v], 88) (by simp) | exact hng8 (w.heap.size + 1, #[.float .f32 0, .float .f32 0, .float .f32 0], 88) (by simp)) rfl (by rfl) 258 _ _ rfl (#[.float .f32 0, .float .f32 0, .float .f32 0, .float .f32 0]) rfl rfl info_ris rfl (by simp [Value.oneCell']) rfl rfl (fun w11 k11 => ?_) AllReadyH.nil
    refine ⟨k11.tail.tail, ?_⟩
    simp only [Act.put, List.setIfInBounds_toArray, List.set_cons_zero, List.set_cons_succ]
    refine take_val 12 _ _ (.int .i64 4) rfl (by rfl) (by kernel_rfl) (by kernel_rfl) (by kernel_rfl) (fun w => by rfl) rfl rfl k11.tail.tail ?_
    simp only [Act.put, List.setIfInBounds_toArray, List.set_cons_zero, List.set_cons_succ]
    refine wpAnyH_done (by kernel_rfl) (NoPanic.normal ?_) _
    have kz := hid (k11.sub (l' := [(g8, #[.float .f32 0, .float .f32 0, .float .f32 0, .float .f32 0], 258), (w.heap.size + 1, #[.float .f32 0, .float .f32 0, .float .f32 0], 88)]) (by simp))
    have hBz := hBg8
    have hnz : g8 ≠ w.heap.size + 1 := Ne.symm (hng8 (w.heap.size + 1, #[.float .f32 0, .float .f32 0, .float .f32 0], 88) (by simp))
    generalize w11 = wz at kz ⊢
    generalize g8 = gz at kz hBz hnz ⊢
    go_wp2_with ((refine store_kept (w0 := w) (l := [(gz, #[.float .f32 0, .float .f32 0, .float .f32 0, .float .f32 0], 258)]) rfl 88 _ _ rfl (w.heap.size + 1) (#[.float .f32 0, .float .f32 0, .float .f32 0]) rfl rfl 88 (#[.float .f32 0, .float .f32 0, .float .f32 0]) (kz.out.swap) (by omega) (by simpa using hnz) info_par rfl (by simp [Value.oneCell']) (fun w7 k7 => ?_); replace k7 := hid k7))
    exact bodyPost_ret (results_row_tmp2 rfl _ _ (w.heap.size + 1) 88 (#[.float .f32 0, .float .f32 0, .float .f32 0]) (0, 0) _ rfl (k7.out.at (x := (w.heap.size + 1, #[.float .f32 0, .float .f32 0, .float .f32 0], 88)) (by simp)) Try.underlying88 rfl info_par) rfl ⟨rfl, k7.out.1⟩
  refine allocK 10 (fun g => _) _ kd rfl (by rfl) (#[.float .f32 0, .float .f32 0, .float .f32 0, .float .f32 0]) 258 (by unfold execOp; go_simp) (fun g => rfl) rfl (fun w12 g12 k12 hBg12 hng12 => ?_) AllReadyH.nil
  refine ⟨k12.tail, ?_⟩
  simp only [Act.put, List.setIfInBounds_toArray, List.set_cons_zero, List.set_cons_succ]
  have hBg12_ := hBg12
  refine wpAnyH_ready (rs := [5]) (by kernel_rfl) (by simp) ?_
  refine callKQ 5 _ (fun y u => ∃ gh, y = .slice (some ⟨gh, 0, none⟩) n n ∧ u.heap[gh]? = some (.cells (vls n (flw (upTo (stepW a z n) n))) 22 (0, 0)) ∧ (∀ x ∈ ([(g12, #[.float .f32 0, .float .f32 0, .float .f32 0, .float .f32 0], 258), (w.heap.size, #[.float .f32 a, .float .f32 h, .float .f32 v], 88), (w.heap.size + 1, #[.float .f32 0, .float .f32 0, .float .f32 0], 88)] : List (Nat × Array Value × TypeId)), x.1 ≠ gh) ∧ w.heap.size ≤ gh) k12 rfl (by rfl) 190 #[.float .f32 a, .float .f32 z, .int .i64 (n : Int)] (fun w => by unfold execOp; go_simp) rfl ?hc14 (fun y14 w14 hv14 k14 hb14 => ?_) AllReadyH.nil
  case hc14 =>
    refine (HHB.out _).mono ?_
    rintro e w' ⟨rfl, hrow, hb⟩
    exact ⟨_, ⟨_, rfl, hrow, k12.fresh, k12.size⟩, rfl, hb⟩
  obtain ⟨gh, rfl, hrow14, hnh, hBh⟩ := hv14
  have kk14 := (k14.add hrow14)
  refine ⟨kk14.tail.tail, ?_⟩
  simp only [Act.put, List.setIfInBounds_toArray, List.set_cons_zero, List.set_cons_succ]
  refine wpAnyH_ready (rs := [6]) (by kernel_rfl) (by simp) ?_
  refine callK 6 _ _ (.tuple #[.agg #[.float .f32 0, .float .f32 0, .float .f32 0, .float .f32 0], .int .i64 4]) kk14 rfl (by rfl) 189 #[.agg #[.float .f32 a, .float .f32 h, .float .f32 v], .int .i64 1, .slice (some ⟨gh, 0, none⟩) n n] (fun w => by unfold execOp; go_simp) rfl rfl ?hc16 (fun w16 k16 => ?_) AllReadyH.nil
  case hc16 => exact HR.out _ gh (fun j hj => ((show vAt _ gh n (flw (upTo (stepW a z n) n)) 22 from kk14.at (x := (gh, vls n (flw (upTo (stepW a z n) n)), 22)) (by simp)).fcell hj).trans (by unfold upTo; rw [if_pos hj]))
  refine ⟨k16.tail.tail, ?_⟩
  simp only [Act.put, List.setIfInBounds_toArray, List.set_cons_zero, List.set_cons_succ]
  refine take_val 7 _ _ (.tuple #[.agg #[.float .f32 0, .float .f32 0, .float .f32 0, .float .f32 0], .int .i64 4]) rfl (by rfl) (by kernel_rfl) (by kernel_rfl) (by kernel_rfl) (fun w => by rfl) rfl rfl k16.tail.tail ?_
  simp only [Act.put, List.setIfInBounds_toArray, List.set_cons_zero, List.set_cons_succ]
  refine take_val 8 _ _ (.agg #[.float .f32 0, .float .f32 0, .float .f32 0, .float .f32 0]) rfl (by rfl) (by kernel_rfl) (by kernel_rfl) (by kernel_rfl) (fun w => by unfold execOp; go_simp) rfl rfl k16.tail.tail ?_
  simp only [Act.put, List.setIfInBounds_toArray, List.set_cons_zero, List.set_cons_succ]
  refine take_val 9 _ _ (.int .i64 4) rfl (by rfl) (by kernel_rfl) (by kernel_rfl) (by kernel_rfl) (fun w => by unfold execOp; go_simp) rfl rfl k16.tail.tail ?_
  simp only [Act.put, List.setIfInBounds_toArray, List.set_cons_zero, List.set_cons_succ]
  refine wpAnyH_ready (rs := [11]) (by kernel_rfl) (by simp) ?_
  refine storeK 11 _ _ (k16.sub (l' := [(g12, #[.float .f32 0, .float .f32 0, .float .f32 0, .float .f32 0], 258), (gh, vls n (flw (upTo (stepW a z n) n)), 22), (w.heap.size, #[.float .f32 a, .float .f32 h, .float .f32 v], 88), (w.heap.size + 1, #[.float .f32 0, .float .f32 0, .float .f32 0], 88)]) (by intro x hx; simp only [List.mem_cons, List.not_mem_nil, or_false] at hx ⊢; rcases hx with rfl | rfl | rfl | rfl <;> simp)) hBg12 (by intro x hx; simp only [List.mem_cons, List.not_mem_nil, or_false] at hx; rcases hx with rfl | rfl | rfl <;> first | exact Ne.symm (hnh (g12, #[.float .f32 0, .float .f32 0, .float .f32 0, .float .f32 0], 258) (by simp)) | exact hng12 (w.heap.size, #[.float .f32 a, .float .f32 h, .float .f32 v], 88) (by simp) | exact hng12 (w.heap.size + 1, #[.float .f32 0, .float .f32 0, .float .f32 0], 88) (by simp)) rfl (by rfl) 258 _ _ rfl (#[.float .f32 0, .float .f32 0, .float .f32 0, .float .f32 0]) rfl rfl info_ris rfl (by simp [Value.oneCell']) rfl rfl (fun w17 k17 => ?_) AllReadyH.nil
  refine ⟨k17.tail.tail, ?_⟩
  simp only [Act.put, List.setIfInBounds_toArray, List.set_cons_zero, List.set_cons_succ]
  refine take_val 12 _ _ (.int .i64 4) rfl (by rfl) (by kernel_rfl) (by kernel_rfl) (by kernel_rfl) (fun w => by rfl) rfl rfl k17.tail.tail ?_
  simp only [Act.put, List.setIfInBounds_toArray, List.set_cons_zero, List.set_cons_succ]
  refine wpAnyH_done (by kernel_rfl) (NoPanic.normal ?_) _
  have kz := hid (k17.sub (l' := [(g12, #[.float .f32 0, .float .f32 0, .float .f32 0, .float .f32 0], 258), (w.heap.size + 1, #[.float .f32 0, .float .f32 0, .float .f32 0], 88)]) (by simp))
  have hBz := hBg12
  have hnz : g12 ≠ w.heap.size + 1 := Ne.symm (hng12 (w.heap.size + 1, #[.float .f32 0, .float .f32 0, .float .f32 0], 88) (by simp))
  generalize w17 = wz at kz ⊢
  generalize g12 = gz at kz hBz hnz ⊢
  go_wp2_with ((refine store_kept (w0 := w) (l := [(gz, #[.float .f32 0, .float .f32 0, .float .f32 0, .float .f32 0], 258)]) rfl 88 _ _ rfl (w.heap.size + 1) (#[.float .f32 0, .float .f32 0, .float .f32 0]) rfl rfl 88 (#[.float .f32 0, .float .f32 0, .float .f32 0]) (kz.out.swap) (by omega) (by simpa using hnz) info_par rfl (by simp [Value.oneCell']) (fun w7 k7 => ?_); replace k7 := hid k7))
  exact bodyPost_ret (results_row_tmp2 rfl _ _ (w.heap.size + 1) 88 (#[.float .f32 0, .float .f32 0, .float .f32 0]) (0, 0) _ rfl (k7.out.at (x := (w.heap.size + 1, #[.float .f32 0, .float .f32 0, .float .f32 0], 88)) (by simp)) Try.underlying88 rfl info_par) rfl ⟨rfl, k7.out.1⟩

theorem info_jou : (Try.prog.info? 168).map (·.size) = some 9 := by kernel_rfl

set_option maxRecDepth 100000 in
set_option maxHeartbeats 1000000 in
theorem iJLift_ok (sl : Value) (st sh M a h v e k : Nat) (r : Nat) (w : World)
    (hL : ∀ u, Below w.heap.size w u → Calls Try.prog 177 #[sl, .agg #[.float .f32 (a), .float .f32 (h), .float .f32 (v)]] u fun e u' => e = .returned (.tuple #[.float .f32 (r), .int .i64 0]) ∧ Below u.heap.size u u') :
    Calls Try.prog 152 #[.agg #[sl, .float .f32 (st), .float .f32 (sh), .int .i64 (M : Int), .float .f32 (a), .float .f32 (h), .float .f32 (v), .float .f32 (e), .int .i64 (k : Int)]] w fun e w' => e = .returned (.float .f32 (r)) ∧ Below w.heap.size w w' := by
  have k0 : Hid (Kept w [(w.heap.size, #[sl, .float .f32 (st), .float .f32 (sh), .int .i64 (M : Int), .float .f32 (a), .float .f32 (h), .float .f32 (v), .float .f32 (e), .int .i64 (k : Int)], 168)] (w.alloc (.cells #[sl, .float .f32 (st), .float .f32 (sh), .int .i64 (M : Int), .float .f32 (a), .float .f32 (h), .float .f32 (v), .float .f32 (e), .int .i64 (k : Int)] 168))) := hid ((Kept.nil w).push _ _)
  have HL := hid hL
  have c0 : World.cell? (w.alloc (.cells #[sl, .float .f32 (st), .float .f32 (sh), .int .i64 (M : Int), .float .f32 (a), .float .f32 (h), .float .f32 (v), .float .f32 (e), .int .i64 (k : Int)] 168)) ⟨w.heap.size, 0, none⟩ = some sl := (cell_of_row _ (w.heap.size) 0 _ _ _ (k0.out.at (x := (w.heap.size, #[sl, .float .f32 (st), .float .f32 (sh), .int .i64 (M : Int), .float .f32 (a), .float .f32 (h), .float .f32 (v), .float .f32 (e), .int .i64 (k : Int)], 168)) in0)).trans rfl
  clear hL
  go_enter Try.func152, Try.ntmps152
  go_wp2_with (refine wpList_load_cut rfl 88 _ rfl (w.heap.size) 4 rfl #[sl, .float .f32 (st), .float .f32 (sh), .int .i64 (M : Int), .float .f32 (a), .float .f32 (h), .float .f32 (v), .float .f32 (e), .int .i64 (k : Int)] #[.float .f32 (a), .float .f32 (h), .float .f32 (v)] _ (k0.out.at (x := (w.heap.size, #[sl, .float .f32 (st), .float .f32 (sh), .int .i64 (M : Int), .float .f32 (a), .float .f32 (h), .float .f32 (v), .float .f32 (e), .int .i64 (k : Int)], 168)) in0) Try.underlying88 rfl info_par (by rfl) ?_)
  refine (HL.out _ k0.out.1).mono ?_
  rintro e w1 ⟨rfl, hb1⟩
  have k1 := hid (k0.out.stay hb1)
  clear k0 c0 hb1
  go_wp2_with fail
  refine (iDem0 _).mono ?_
  rintro e w2 ⟨rfl, rfl⟩
  go_wp2
  go_ret
  exact ⟨rfl, k1.out.1⟩

set_option maxRecDepth 100000 in
set_option maxHeartbeats 1000000 in
theorem iJLift_f (sl : Value) (st sh M a h v e k : Nat) (c : Int) (hc : c ≠ 0) (w : World)
    (hL : ∀ u, Below w.heap.size w u → Calls Try.prog 177 #[sl, .agg #[.float .f32 (a), .float .f32 (h), .float .f32 (v)]] u fun e u' => e = .returned (.tuple #[.float .f32 (0), .int .i64 c]) ∧ Below u.heap.size u u') :
    Calls Try.prog 152 #[.agg #[sl, .float .f32 (st), .float .f32 (sh), .int .i64 (M : Int), .float .f32 (a), .float .f32 (h), .float .f32 (v), .float .f32 (e), .int .i64 (k : Int)]] w fun e w' => e = .panicked [{ v := .iface 241 (.int .i64 c), recovered := false }] ∧ Below w.heap.size w w' := by
  have k0 : Hid (Kept w [(w.heap.size, #[sl, .float .f32 (st), .float .f32 (sh), .int .i64 (M : Int), .float .f32 (a), .float .f32 (h), .float .f32 (v), .float .f32 (e), .int .i64 (k : Int)], 168)] (w.alloc (.cells #[sl, .float .f32 (st), .float .f32 (sh), .int .i64 (M : Int), .float .f32 (a), .float .f32 (h), .float .f32 (v), .float .f32 (e), .int .i64 (k : Int)] 168))) := hid ((Kept.nil w).push _ _)
  have HL := hid hL
  have c0 : World.cell? (w.alloc (.cells #[sl, .float .f32 (st), .float .f32 (sh), .int .i64 (M : Int), .float .f32 (a), .float .f32 (h), .float .f32 (v), .float .f32 (e), .int .i64 (k : Int)] 168)) ⟨w.heap.size, 0, none⟩ = some sl := (cell_of_row _ (w.heap.size) 0 _ _ _ (k0.out.at (x := (w.heap.size, #[sl, .float .f32 (st), .float .f32 (sh), .int .i64 (M : Int), .float .f32 (a), .float .f32 (h), .float .f32 (v), .float .f32 (e), .int .i64 (k : Int)], 168)) in0)).trans rfl
  clear hL
  go_enter Try.func152, Try.ntmps152
  go_wp2_with (refine wpList_load_cut rfl 88 _ rfl (w.heap.size) 4 rfl #[sl, .float .f32 (st), .float .f32 (sh), .int .i64 (M : Int), .float .f32 (a), .float .f32 (h), .float .f32 (v), .float .f32 (e), .int .i64 (k : Int)] #[.float .f32 (a), .float .f32 (h), .float .f32 (v)] _ (k0.out.at (x := (w.heap.size, #[sl, .float .f32 (st), .float .f32 (sh), .int .i64 (M : Int), .float .f32 (a), .float .f32 (h), .float .f32 (v), .float .f32 (e), .int .i64 (k : Int)], 168)) in0) Try.underlying88 rfl info_par (by rfl) ?_)
  refine (HL.out _ k0.out.1).mono ?_
  rintro e w1 ⟨rfl, hb1⟩
  have k1 := hid (k0.out.stay hb1)
  clear k0 c0 hb1
  go_wp2_with fail
  refine (iDemF c hc _).mono ?_
  rintro e w2 ⟨rfl, rfl⟩
  exact ⟨rfl, rfl, k1.out.1⟩

set_option maxRecDepth 100000 in
set_option maxHeartbeats 1000000 in
theorem iRaised_f1 (sl : Value) (st sh M a h v e k : Nat) (z : Nat) (c : Int) (hc : c ≠ 0) (w : World)
    (h1 : ∀ u, Below w.heap.size w u → Calls Try.prog 178 #[.agg #[.float .f32 (a), .float .f32 (h), .float .f32 (v)], .float .f32 (z), .int .i64 1] u fun e u' => e = .returned (.tuple #[.agg #[.float .f32 (0), .float .f32 (0), .float .f32 (0)], .float .f32 (0), .int .i64 c]) ∧ Below u.heap.size u u') :
    Calls Try.prog 153 #[.agg #[sl, .float .f32 (st), .float .f32 (sh), .int .i64 (M : Int), .float .f32 (a), .float .f32 (h), .float .f32 (v), .float .f32 (e), .int .i64 (k : Int)], .float .f32 (z)] w fun e w' => e = .panicked [{ v := .iface 241 (.int .i64 c), recovered := false }] ∧ Below w.heap.size w w' := by
  have k0 : Hid (Kept w [(w.heap.size + 1, #[.float .f32 (0), .float .f32 (0), .float .f32 (0)], 88), (w.heap.size, #[sl, .float .f32 (st), .float .f32 (sh), .int .i64 (M : Int), .float .f32 (a), .float .f32 (h), .float .f32 (v), .float .f32 (e), .int .i64 (k : Int)], 168)] ((w.alloc (.cells #[sl, .float .f32 (st), .float .f32 (sh), .int .i64 (M : Int), .float .f32 (a), .float .f32 (h), .float .f32 (v), .float .f32 (e), .int .i64 (k : Int)] 168)).alloc (.cells #[.float .f32 (0), .float .f32 (0), .float .f32 (0)] 88))) := hid ((((Kept.nil w).push _ _).push _ _).sub (by simp))
  have H1 := hid h1
  clear h1
  go_enter Try.func153, Try.ntmps153
  go_wp2_with (refine wpList_load_cut rfl 88 _ rfl (w.heap.size) 4 rfl #[sl, .float .f32 (st), .float .f32 (sh), .int .i64 (M : Int), .float .f32 (a), .float .f32 (h), .float .f32 (v), .float .f32 (e), .int .i64 (k : Int)] #[.float .f32 (a), .float .f32 (h), .float .f32 (v)] _ (k0.out.at (x := (w.heap.size, #[sl, .float .f32 (st), .float .f32 (sh), .int .i64 (M : Int), .float .f32 (a), .float .f32 (h), .float .f32 (v), .float .f32 (e), .int .i64 (k : Int)], 168)) in1) Try.underlying88 rfl info_par (by rfl) ?_)
  refine (H1.out _ k0.out.1).mono ?_
  rintro e w1 ⟨rfl, hb1⟩
  have k1 := hid (k0.out.stay hb1)
  have f1 := k1.out.fresh
  have kN := hid (k1.out.push #[.float .f32 (0), .float .f32 (0), .float .f32 (0)] 88)
  have hs1 : w.heap.size + 1 < w1.heap.size := k1.out.lt (x := (w.heap.size + 1, #[.float .f32 (0), .float .f32 (0), .float .f32 (0)], 88)) in0
  have tok1 : True := trivial
  clear k0 hb1 H1
  go_wp2_with (have _t := tok1; clear tok1; refine store_row (by rfl) 88 _ _ (by rfl) (w1.heap.size) (#[.float .f32 (0), .float .f32 (0), .float .f32 (0)]) (#[.float .f32 (0), .float .f32 (0), .float .f32 (0)]) (by rfl) (by rfl) kN.out info_par (by simp) (by simp [Value.oneCell']) (by omega) f1 ?_; intro w2 k2; replace k2 := hid k2; clear kN f1)
  refine (iDemF c hc _).mono ?_
  rintro e w3 ⟨rfl, rfl⟩
  exact ⟨rfl, rfl, k2.out.1⟩

set_option maxRecDepth 100000 in
set_option maxHeartbeats 1000000 in
theorem iRaised_f2 (sl : Value) (st sh M a h v e k : Nat) (z : Nat) (mh mv mf : Nat) (ah av : Nat) (c : Int) (hc : c ≠ 0) (w : World)
    (h1 : ∀ u, Below w.heap.size w u → Calls Try.prog 178 #[.agg #[.float .f32 (a), .float .f32 (h), .float .f32 (v)], .float .f32 (z), .int .i64 1] u fun e u' => e = .returned (.tuple #[.agg #[.float .f32 (z), .float .f32 (mh), .float .f32 (mv)], .float .f32 (mf), .int .i64 0]) ∧ Below u.heap.size u u')
    (h2 : ∀ u, Below w.heap.size w u → Calls Try.prog 179 #[sl, .float .f32 (z)] u fun e u' => e = .returned (.tuple #[.agg #[.float .f32 (ah), .float .f32 (av)], .int .i64 c]) ∧ Below u.heap.size u u') :
    Calls Try.prog 153 #[.agg #[sl, .float .f32 (st), .float .f32 (sh), .int .i64 (M : Int), .float .f32 (a), .float .f32 (h), .float .f32 (v), .float .f32 (e), .int .i64 (k : Int)], .float .f32 (z)] w fun e w' => e = .panicked [{ v := .iface 241 (.int .i64 c), recovered := false }] ∧ Below w.heap.size w w' := by
  have k0 : Hid (Kept w [(w.heap.size + 1, #[.float .f32 (0), .float .f32 (0), .float .f32 (0)], 88), (w.heap.size, #[sl, .float .f32 (st), .float .f32 (sh), .int .i64 (M : Int), .float .f32 (a), .float .f32 (h), .float .f32 (v), .float .f32 (e), .int .i64 (k : Int)], 168)] ((w.alloc (.cells #[sl, .float .f32 (st), .float .f32 (sh), .int .i64 (M : Int), .float .f32 (a), .float .f32 (h), .float .f32 (v), .float .f32 (e), .int .i64 (k : Int)] 168)).alloc (.cells #[.float .f32 (0), .float .f32 (0), .float .f32 (0)] 88))) := hid ((((Kept.nil w).push _ _).push _ _).sub (by simp))
  have H1 := hid h1
  have H2 := hid h2
  clear h1 h2
  go_enter Try.func153, Try.ntmps153
  go_wp2_with (refine wpList_load_cut rfl 88 _ rfl (w.heap.size) 4 rfl #[sl, .float .f32 (st), .float .f32 (sh), .int .i64 (M : Int), .float .f32 (a), .float .f32 (h), .float .f32 (v), .float .f32 (e), .int .i64 (k : Int)] #[.float .f32 (a), .float .f32 (h), .float .f32 (v)] _ (k0.out.at (x := (w.heap.size, #[sl, .float .f32 (st), .float .f32 (sh), .int .i64 (M : Int), .float .f32 (a), .float .f32 (h), .float .f32 (v), .float .f32 (e), .int .i64 (k : Int)], 168)) in1) Try.underlying88 rfl info_par (by rfl) ?_)
  refine (H1.out _ k0.out.1).mono ?_
  rintro e w1 ⟨rfl, hb1⟩
  have k1 := hid (k0.out.stay hb1)
  have f1 := k1.out.fresh
  have kN := hid (k1.out.push #[.float .f32 (0), .float .f32 (0), .float .f32 (0)] 88)
  have hs1 : w.heap.size + 1 < w1.heap.size := k1.out.lt (x := (w.heap.size + 1, #[.float .f32 (0), .float .f32 (0), .float .f32 (0)], 88)) in0
  have tok1 : True := trivial
  clear k0 hb1 H1
  go_wp2_with (have _t := tok1; clear tok1; refine store_row (by rfl) 88 _ _ (by rfl) (w1.heap.size) (#[.float .f32 (z), .float .f32 (mh), .float .f32 (mv)]) (#[.float .f32 (0), .float .f32 (0), .float .f32 (0)]) (by rfl) (by rfl) kN.out info_par (by simp) (by simp [Value.oneCell']) (by omega) f1 ?_; intro w2 k2; replace k2 := hid k2; clear kN f1)
  refine (iDem0 _).mono ?_
  rintro e w3 ⟨rfl, rfl⟩
  have c0 : World.cell? w2 ⟨w.heap.size, 0, none⟩ = some sl := (cell_of_row _ (w.heap.size) 0 _ _ _ (k2.out.at (x := (w.heap.size, #[sl, .float .f32 (st), .float .f32 (sh), .int .i64 (M : Int), .float .f32 (a), .float .f32 (h), .float .f32 (v), .float .f32 (e), .int .i64 (k : Int)], 168)) in2)).trans rfl
  go_wp2_with fail
  refine (H2.out _ k2.out.1).mono ?_
  rintro e w4 ⟨rfl, hb4⟩
  have k4 := hid (k2.out.stay hb4)
  have f4 := k4.out.fresh
  have k5 := hid (k4.out.push #[.float .f32 (0), .float .f32 (0)] 32)
  have hs4 : w1.heap.size < w4.heap.size := k4.out.lt (x := (w1.heap.size, #[.float .f32 (z), .float .f32 (mh), .float .f32 (mv)], 88)) in0
  have tok2 : True := trivial
  clear k2 hb4 c0 H2
  go_wp2_with (have _t := tok2; clear tok2; refine store_row (by rfl) 32 _ _ (by rfl) (w4.heap.size) (#[.float .f32 (ah), .float .f32 (av)]) (#[.float .f32 (0), .float .f32 (0)]) (by rfl) (by rfl) k5.out info_air (by simp) (by simp [Value.oneCell']) (by omega) f4 ?_; intro w6 k6; replace k6 := hid k6; clear k5 f4)
  refine (iDemF c hc _).mono ?_
  rintro e w7 ⟨rfl, rfl⟩
  exact ⟨rfl, rfl, k6.out.1⟩

set_option maxRecDepth 100000 in
set_option maxHeartbeats 1000000 in
theorem iRaised_f3 (sl : Value) (st sh M a h v e k : Nat) (z : Nat) (mh mv mf : Nat) (ah av : Nat) (c : Int) (hc : c ≠ 0) (w : World)
    (h1 : ∀ u, Below w.heap.size w u → Calls Try.prog 178 #[.agg #[.float .f32 (a), .float .f32 (h), .float .f32 (v)], .float .f32 (z), .int .i64 1] u fun e u' => e = .returned (.tuple #[.agg #[.float .f32 (z), .float .f32 (mh), .float .f32 (mv)], .float .f32 (mf), .int .i64 0]) ∧ Below u.heap.size u u')
    (h2 : ∀ u, Below w.heap.size w u → Calls Try.prog 179 #[sl, .float .f32 (z)] u fun e u' => e = .returned (.tuple #[.agg #[.float .f32 (ah), .float .f32 (av)], .int .i64 0]) ∧ Below u.heap.size u u')
    (h3 : ∀ u, Below w.heap.size w u → Calls Try.prog 180 #[.agg #[.float .f32 (z), .float .f32 (mh), .float .f32 (mv)], .agg #[.float .f32 (z), .float .f32 (ah), .float .f32 (av)], .float .f32 (sh)] u fun e u' => e = .returned (.tuple #[.agg #[.float .f32 (0), .float .f32 (0), .float .f32 (0)], .int .i64 c]) ∧ Below u.heap.size u u') :
    Calls Try.prog 153 #[.agg #[sl, .float .f32 (st), .float .f32 (sh), .int .i64 (M : Int), .float .f32 (a), .float .f32 (h), .float .f32 (v), .float .f32 (e), .int .i64 (k : Int)], .float .f32 (z)] w fun e w' => e = .panicked [{ v := .iface 241 (.int .i64 c), recovered := false }] ∧ Below w.heap.size w w' := by
  have k0 : Hid (Kept w [(w.heap.size + 1, #[.float .f32 (0), .float .f32 (0), .float .f32 (0)], 88), (w.heap.size, #[sl, .float .f32 (st), .float .f32 (sh), .int .i64 (M : Int), .float .f32 (a), .float .f32 (h), .float .f32 (v), .float .f32 (e), .int .i64 (k : Int)], 168)] ((w.alloc (.cells #[sl, .float .f32 (st), .float .f32 (sh), .int .i64 (M : Int), .float .f32 (a), .float .f32 (h), .float .f32 (v), .float .f32 (e), .int .i64 (k : Int)] 168)).alloc (.cells #[.float .f32 (0), .float .f32 (0), .float .f32 (0)] 88))) := hid ((((Kept.nil w).push _ _).push _ _).sub (by simp))
  have H1 := hid h1
  have H2 := hid h2
  have H3 := hid h3
  clear h1 h2 h3
  go_enter Try.func153, Try.ntmps153
  go_wp2_with (refine wpList_load_cut rfl 88 _ rfl (w.heap.size) 4 rfl #[sl, .float .f32 (st), .float .f32 (sh), .int .i64 (M : Int), .float .f32 (a), .float .f32 (h), .float .f32 (v), .float .f32 (e), .int .i64 (k : Int)] #[.float .f32 (a), .float .f32 (h), .float .f32 (v)] _ (k0.out.at (x := (w.heap.size, #[sl, .float .f32 (st), .float .f32 (sh), .int .i64 (M : Int), .float .f32 (a), .float .f32 (h), .float .f32 (v), .float .f32 (e), .int .i64 (k : Int)], 168)) in1) Try.underlying88 rfl info_par (by rfl) ?_)
  refine (H1.out _ k0.out.1).mono ?_
  rintro e w1 ⟨rfl, hb1⟩
  have k1 := hid (k0.out.stay hb1)
  have f1 := k1.out.fresh
  have kN := hid (k1.out.push #[.float .f32 (0), .float .f32 (0), .float .f32 (0)] 88)
  have hs1 : w.heap.size + 1 < w1.heap.size := k1.out.lt (x := (w.heap.size + 1, #[.float .f32 (0), .float .f32 (0), .float .f32 (0)], 88)) in0
  have tok1 : True := trivial
  clear k0 hb1 H1
  go_wp2_with (have _t := tok1; clear tok1; refine store_row (by rfl) 88 _ _ (by rfl) (w1.heap.size) (#[.float .f32 (z), .float .f32 (mh), .float .f32 (mv)]) (#[.float .f32 (0), .float .f32 (0), .float .f32 (0)]) (by rfl) (by rfl) kN.out info_par (by simp) (by simp [Value.oneCell']) (by omega) f1 ?_; intro w2 k2; replace k2 := hid k2; clear kN f1)
  refine (iDem0 _).mono ?_
  rintro e w3 ⟨rfl, rfl⟩
  have c0 : World.cell? w2 ⟨w.heap.size, 0, none⟩ = some sl := (cell_of_row _ (w.heap.size) 0 _ _ _ (k2.out.at (x := (w.heap.size, #[sl, .float .f32 (st), .float .f32 (sh), .int .i64 (M : Int), .float .f32 (a), .float .f32 (h), .float .f32 (v), .float .f32 (e), .int .i64 (k : Int)], 168)) in2)).trans rfl
  go_wp2_with fail
  refine (H2.out _ k2.out.1).mono ?_
  rintro e w4 ⟨rfl, hb4⟩
  have k4 := hid (k2.out.stay hb4)
  have f4 := k4.out.fresh
  have k5 := hid (k4.out.push #[.float .f32 (0), .float .f32 (0)] 32)
  have hs4 : w1.heap.size < w4.heap.size := k4.out.lt (x := (w1.heap.size, #[.float .f32 (z), .float .f32 (mh), .float .f32 (mv)], 88)) in0
  have tok2 : True := trivial
  clear k2 hb4 c0 H2
  go_wp2_with (have _t := tok2; clear tok2; refine store_row (by rfl) 32 _ _ (by rfl) (w4.heap.size) (#[.float .f32 (ah), .float .f32 (av)]) (#[.float .f32 (0), .float .f32 (0)]) (by rfl) (by rfl) k5.out info_air (by simp) (by simp [Value.oneCell']) (by omega) f4 ?_; intro w6 k6; replace k6 := hid k6; clear k5 f4)
  refine (iDem0 _).mono ?_
  rintro e w7 ⟨rfl, rfl⟩
  have c2 : World.cell? w6 ⟨w.heap.size, 2, none⟩ = some (.float .f32 (sh)) := (cell_of_row _ (w.heap.size) 2 _ _ _ (k6.out.at (x := (w.heap.size, #[sl, .float .f32 (st), .float .f32 (sh), .int .i64 (M : Int), .float .f32 (a), .float .f32 (h), .float .f32 (v), .float .f32 (e), .int .i64 (k : Int)], 168)) in3)).trans rfl
  have tok3 : True := trivial
  go_wp2_with (first | (have _t := tok3; clear tok3; refine wpList_load_row (by rfl) 88 _ (by rfl) (w1.heap.size) (by rfl) 88 (#[.float .f32 (z), .float .f32 (mh), .float .f32 (mv)]) (0, 0) _ (k6.out.at (x := (w1.heap.size, #[.float .f32 (z), .float .f32 (mh), .float .f32 (mv)], 88)) in1) Try.underlying88 (by rfl) info_par ?_; have tok4 : True := trivial) | (have _t := tok4; clear tok4; refine wpList_load_row (by rfl) 32 _ (by rfl) (w4.heap.size) (by rfl) 32 (#[.float .f32 (ah), .float .f32 (av)]) (0, 0) _ (k6.out.at (x := (w4.heap.size, #[.float .f32 (ah), .float .f32 (av)], 32)) in0) Try.underlying32 (by rfl) info_air ?_))
  refine (H3.out _ k6.out.1).mono ?_
  rintro e w8 ⟨rfl, hb8⟩
  have k8 := hid (k6.out.stay hb8)
  have f8 := k8.out.fresh
  have k9 := hid (k8.out.push #[.float .f32 (0), .float .f32 (0), .float .f32 (0)] 88)
  have hs8 : w4.heap.size < w8.heap.size := k8.out.lt (x := (w4.heap.size, #[.float .f32 (ah), .float .f32 (av)], 32)) in0
  have tok5 : True := trivial
  clear k6 hb8 c2 H3
  go_wp2_with (have _t := tok5; clear tok5; refine store_row (by rfl) 88 _ _ (by rfl) (w8.heap.size) (#[.float .f32 (0), .float .f32 (0), .float .f32 (0)]) (#[.float .f32 (0), .float .f32 (0), .float .f32 (0)]) (by rfl) (by rfl) k9.out info_par (by simp) (by simp [Value.oneCell']) (by omega) f8 ?_; intro w10 k10; replace k10 := hid k10; clear k9 f8)
  refine (iDemF c hc _).mono ?_
  rintro e w11 ⟨rfl, rfl⟩
  exact ⟨rfl, rfl, k10.out.1⟩

set_option maxRecDepth 100000 in
set_option maxHeartbeats 1000000 in
theorem iRaised_ok (sl : Value) (st sh M a h v e k : Nat) (z : Nat) (mh mv mf : Nat) (ah av : Nat) (rh rv : Nat) (w : World)
    (h1 : ∀ u, Below w.heap.size w u → Calls Try.prog 178 #[.agg #[.float .f32 (a), .float .f32 (h), .float .f32 (v)], .float .f32 (z), .int .i64 1] u fun e u' => e = .returned (.tuple #[.agg #[.float .f32 (z), .float .f32 (mh), .float .f32 (mv)], .float .f32 (mf), .int .i64 0]) ∧ Below u.heap.size u u')
    (h2 : ∀ u, Below w.heap.size w u → Calls Try.prog 179 #[sl, .float .f32 (z)] u fun e u' => e = .returned (.tuple #[.agg #[.float .f32 (ah), .float .f32 (av)], .int .i64 0]) ∧ Below u.heap.size u u')
    (h3 : ∀ u, Below w.heap.size w u → Calls Try.prog 180 #[.agg #[.float .f32 (z), .float .f32 (mh), .float .f32 (mv)], .agg #[.float .f32 (z), .float .f32 (ah), .float .f32 (av)], .float .f32 (sh)] u fun e u' => e = .returned (.tuple #[.agg #[.float .f32 (z), .float .f32 (rh), .float .f32 (rv)], .int .i64 0]) ∧ Below u.heap.size u u') :
    Calls Try.prog 153 #[.agg #[sl, .float .f32 (st), .float .f32 (sh), .int .i64 (M : Int), .float .f32 (a), .float .f32 (h), .float .f32 (v), .float .f32 (e), .int .i64 (k : Int)], .float .f32 (z)] w fun e w' => e = .returned (.agg #[.float .f32 (z), .float .f32 (rh), .float .f32 (rv)]) ∧ Below w.heap.size w w' := by
  have k0 : Hid (Kept w [(w.heap.size + 1, #[.float .f32 (0), .float .f32 (0), .float .f32 (0)], 88), (w.heap.size, #[sl, .float .f32 (st), .float .f32 (sh), .int .i64 (M : Int), .float .f32 (a), .float .f32 (h), .float .f32 (v), .float .f32 (e), .int .i64 (k : Int)], 168)] ((w.alloc (.cells #[sl, .float .f32 (st), .float .f32 (sh), .int .i64 (M : Int), .float .f32 (a), .float .f32 (h), .float .f32 (v), .float .f32 (e), .int .i64 (k : Int)] 168)).alloc (.cells #[.float .f32 (0), .float .f32 (0), .float .f32 (0)] 88))) := hid ((((Kept.nil w).push _ _).push _ _).sub (by simp))
  have H1 := hid h1
  have H2 := hid h2
  have H3 := hid h3
  clear h1 h2 h3
  go_enter Try.func153, Try.ntmps153
  go_wp2_with (refine wpList_load_cut rfl 88 _ rfl (w.heap.size) 4 rfl #[sl, .float .f32 (st), .float .f32 (sh), .int .i64 (M : Int), .float .f32 (a), .float .f32 (h), .float .f32 (v), .float .f32 (e), .int .i64 (k : Int)] #[.float .f32 (a), .float .f32 (h), .float .f32 (v)] _ (k0.out.at (x := (w.heap.size, #[sl, .float .f32 (st), .float .f32 (sh), .int .i64 (M : Int), .float .f32 (a), .float .f32 (h), .float .f32 (v), .float .f32 (e), .int .i64 (k : Int)], 168)) in1) Try.underlying88 rfl info_par (by rfl) ?_)
  refine (H1.out _ k0.out.1).mono ?_
  rintro e w1 ⟨rfl, hb1⟩
  have k1 := hid (k0.out.stay hb1)
  have f1 := k1.out.fresh
  have kN := hid (k1.out.push #[.float .f32 (0), .float .f32 (0), .float .f32 (0)] 88)
  have hs1 : w.heap.size + 1 < w1.heap.size := k1.out.lt (x := (w.heap.size + 1, #[.float .f32 (0), .float .f32 (0), .float .f32 (0)], 88)) in0
  have tok1 : True := trivial
  clear k0 hb1 H1
  go_wp2_with (have _t := tok1; clear tok1; refine store_row (by rfl) 88 _ _ (by rfl) (w1.heap.size) (#[.float .f32 (z), .float .f32 (mh), .float .f32 (mv)]) (#[.float .f32 (0), .float .f32 (0), .float .f32 (0)]) (by rfl) (by rfl) kN.out info_par (by simp) (by simp [Value.oneCell']) (by omega) f1 ?_; intro w2 k2; replace k2 := hid k2; clear kN f1)
  refine (iDem0 _).mono ?_
  rintro e w3 ⟨rfl, rfl⟩
  have c0 : World.cell? w2 ⟨w.heap.size, 0, none⟩ = some sl := (cell_of_row _ (w.heap.size) 0 _ _ _ (k2.out.at (x := (w.heap.size, #[sl, .float .f32 (st), .float .f32 (sh), .int .i64 (M : Int), .float .f32 (a), .float .f32 (h), .float .f32 (v), .float .f32 (e), .int .i64 (k : Int)], 168)) in2)).trans rfl
  go_wp2_with fail
  refine (H2.out _ k2.out.1).mono ?_
  rintro e w4 ⟨rfl, hb4⟩
  have k4 := hid (k2.out.stay hb4)
  have f4 := k4.out.fresh
  have k5 := hid (k4.out.push #[.float .f32 (0), .float .f32 (0)] 32)
  have hs4 : w1.heap.size < w4.heap.size := k4.out.lt (x := (w1.heap.size, #[.float .f32 (z), .float .f32 (mh), .float .f32 (mv)], 88)) in0
  have tok2 : True := trivial
  clear k2 hb4 c0 H2
  go_wp2_with (have _t := tok2; clear tok2; refine store_row (by rfl) 32 _ _ (by rfl) (w4.heap.size) (#[.float .f32 (ah), .float .f32 (av)]) (#[.float .f32 (0), .float .f32 (0)]) (by rfl) (by rfl) k5.out info_air (by simp) (by simp [Value.oneCell']) (by omega) f4 ?_; intro w6 k6; replace k6 := hid k6; clear k5 f4)
  refine (iDem0 _).mono ?_
  rintro e w7 ⟨rfl, rfl⟩
  have c2 : World.cell? w6 ⟨w.heap.size, 2, none⟩ = some (.float .f32 (sh)) := (cell_of_row _ (w.heap.size) 2 _ _ _ (k6.out.at (x := (w.heap.size, #[sl, .float .f32 (st), .float .f32 (sh), .int .i64 (M : Int), .float .f32 (a), .float .f32 (h), .float .f32 (v), .float .f32 (e), .int .i64 (k : Int)], 168)) in3)).trans rfl
  have tok3 : True := trivial
  go_wp2_with (first | (have _t := tok3; clear tok3; refine wpList_load_row (by rfl) 88 _ (by rfl) (w1.heap.size) (by rfl) 88 (#[.float .f32 (z), .float .f32 (mh), .float .f32 (mv)]) (0, 0) _ (k6.out.at (x := (w1.heap.size, #[.float .f32 (z), .float .f32 (mh), .float .f32 (mv)], 88)) in1) Try.underlying88 (by rfl) info_par ?_; have tok4 : True := trivial) | (have _t := tok4; clear tok4; refine wpList_load_row (by rfl) 32 _ (by rfl) (w4.heap.size) (by rfl) 32 (#[.float .f32 (ah), .float .f32 (av)]) (0, 0) _ (k6.out.at (x := (w4.heap.size, #[.float .f32 (ah), .float .f32 (av)], 32)) in0) Try.underlying32 (by rfl) info_air ?_))
  refine (H3.out _ k6.out.1).mono ?_
  rintro e w8 ⟨rfl, hb8⟩
  have k8 := hid (k6.out.stay hb8)
  have f8 := k8.out.fresh
  have k9 := hid (k8.out.push #[.float .f32 (0), .float .f32 (0), .float .f32 (0)] 88)
  have hs8 : w4.heap.size < w8.heap.size := k8.out.lt (x := (w4.heap.size, #[.float .f32 (ah), .float .f32 (av)], 32)) in0
  have tok5 : True := trivial
  clear k6 hb8 c2 H3
  go_wp2_with (have _t := tok5; clear tok5; refine store_row (by rfl) 88 _ _ (by rfl) (w8.heap.size) (#[.float .f32 (z), .float .f32 (rh), .float .f32 (rv)]) (#[.float .f32 (0), .float .f32 (0), .float .f32 (0)]) (by rfl) (by rfl) k9.out info_par (by simp) (by simp [Value.oneCell']) (by omega) f8 ?_; intro w10 k10; replace k10 := hid k10; clear k9 f8)
  refine (iDem0 _).mono ?_
  rintro e w11 ⟨rfl, rfl⟩
  have k11 : Hid (Kept w [(w.heap.size + 1, #[.float .f32 (0), .float .f32 (0), .float .f32 (0)], 88), (w8.heap.size, #[.float .f32 (z), .float .f32 (rh), .float .f32 (rv)], 88)] w10) := hid (k10.out.sub (fun y hy => by simp only [List.mem_cons, List.not_mem_nil, or_false] at hy ⊢; rcases hy with h | h <;> simp [h]))
  have tok6 : True := trivial
  go_wp2_with (first | (have _t := tok6; clear tok6; refine wpList_load_row (by rfl) 88 _ (by rfl) (w8.heap.size) (by rfl) 88 (#[.float .f32 (z), .float .f32 (rh), .float .f32 (rv)]) (0, 0) _ (k11.out.at (x := (w8.heap.size, #[.float .f32 (z), .float .f32 (rh), .float .f32 (rv)], 88)) in1) Try.underlying88 (by rfl) info_par ?_; have tok7 : True := trivial) | (have _t := tok7; clear tok7; refine store_row (by rfl) 88 _ _ (by rfl) (w.heap.size + 1) (#[.float .f32 (z), .float .f32 (rh), .float .f32 (rv)]) (#[.float .f32 (0), .float .f32 (0), .float .f32 (0)]) (by rfl) (by rfl) k11.out info_par (by simp) (by simp [Value.oneCell']) (by omega) (neC (by omega) ne0) ?_; intro w12 k12; replace k12 := hid k12))
  exact bodyPost_ret (results_cell_row rfl _ _ (w.heap.size + 1) 88 (#[.float .f32 (z), .float .f32 (rh), .float .f32 (rv)]) (0, 0) _ rfl (k12.out.at (x := (w.heap.size + 1, #[.float .f32 (z), .float .f32 (rh), .float .f32 (rv)], 88)) in0) Try.underlying88 rfl info_par) rfl ⟨rfl, k12.out.1⟩
end Go.Proofs.Ythpimindkmmkjaa
