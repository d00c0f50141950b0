import Derived.Test.YtlccmhkjfnmdiaaBSameParcel
import Derived.Test.YtlccmhkjfnmdiaaChecked
import Derived.Test.YtlccmhkjfnmdiaaRows
import Derived.Laws.FloatArith
import Derived.ProofKit
import Derived.WalkKit
import Derived.WalkLawsBesides
import Derived.WalkSpells
import Derived.Deep.QuietTactic
import Derived.BigQuiet
import Derived.Deep.RegionHeld3
import Derived.ChangeKeysEq
import Derived.Laws.BitsAllLaws
import Derived.Deep.MidRow
import Derived.Deep.WholeRow
import Derived.StillTailTactics
import Derived.OpenShut
/- The law FnExactSameParcel of chapter 1: at every argument the call returns true, and what was there before it is as it was. -/
namespace Go.Proofs.Ytlccmhkjfnmdiaa
open Go.RowKit Go.Fl

@[go_sem] theorem ext_f64bits (y : Nat) (w : World) : (callFunc 260 #[.float .f64 y]).run Try.prog w = .ok (.value (.int .u64 y)) w := by
  rw [run_callFunc_extern Try.func260 (by kernel_rfl) (by kernel_rfl) (by kernel_rfl) (e := Extern.MathFloatBits.float64bits) (by kernel_rfl)]
  rfl

@[go_sem] theorem ext_f64from (n : Int) (w : World) : (callFunc 273 #[.int .u64 n]).run Try.prog w = .ok (.value (.float .f64 n.toNat)) w := by
  rw [run_callFunc_extern Try.func273 (by kernel_rfl) (by kernel_rfl) (by kernel_rfl) (e := Extern.MathFloatBits.float64frombits) (by kernel_rfl)]
  rfl

theorem hid {p : Prop} (h : p) : Hid p := h

theorem isNaN_f64 (y : Nat) (w : World) :
    Calls Try.prog 216 #[.float .f64 y] w fun e w' => e = .returned (.bool (FloatKind.f64.format.order y y != some .eq)) ∧ w = w' := by
  go_enter Try.func216, Try.ntmps216
  go_wp2
  go_ret
  exact ⟨rfl, rfl⟩

@[go_sem] theorem ext_f32bits (y : Nat) (w : World) : (callFunc 210 #[.float .f32 y]).run Try.prog w = .ok (.value (.int .u32 y)) w := by
  rw [run_callFunc_extern Try.func210 (by kernel_rfl) (by kernel_rfl) (by kernel_rfl) (e := Extern.MathFloatBits.float32bits) (by kernel_rfl)]
  rfl

theorem back {P : Program} {f : FuncId} {args : Array Value} {w : World} {v : Value} (h : Calls P f args w fun e w' => e = .returned v ∧ w = w') : Calls P f args w fun e w' => e = .returned v ∧ w' = w :=
  h.mono fun _ _ ⟨a, b⟩ => ⟨a, b.symm⟩

theorem sSame (a b : Nat) (ha : a < 4294967296) (hb : b < 4294967296) (w : World) :
    Calls Try.prog 171 #[.float .f32 a, .float .f32 b] w fun e w' => e = .returned (.bool (sameB a b)) ∧ w = w' := by
  have n1 := neq_self a ha
  have n2 := neq_self b hb
  have hq : ((a : Int) == (b : Int)) = decide (a = b) := by
    by_cases e : a = b
    · subst e; simp
    · simp [e]; omega
  have hs : sameB a b = if (nanB a || nanB b) = true then nanB a && nanB b else decide (a = b) := rfl
  have Hs := hid hs
  have Hq := hid hq
  clear ha hb hs hq
  rcases h1 : nanB a with _ | _ <;> rcases h2 : nanB b with _ | _ <;> rw [h1] at n1 <;> rw [h2] at n2 <;> rw [Hs.out, h1, h2] <;> clear Hs h1 h2
  · go_enter Try.func171, Try.ntmps171
    go_wp2
    go_ret
    exact ⟨by simp [← Hq.out], rfl⟩
  · go_enter Try.func171, Try.ntmps171
    go_wp2
    go_ret
    exact ⟨by simp, rfl⟩
  · go_enter Try.func171, Try.ntmps171
    go_wp2
    go_ret
    exact ⟨by simp, rfl⟩
  · go_enter Try.func171, Try.ntmps171
    go_wp2
    go_ret
    exact ⟨by simp, rfl⟩

theorem iBits (x : Nat) (hx : x < 4294967296) (w : World) :
    Calls Try.prog 242 #[.float .f32 x] w fun e w' => e = .returned (.int .u32 (nb x : Int)) ∧ Below w.heap.size w w' := by
  have hnb : nb x = if nanB x = true then 2143289344 else x := rfl
  rcases hn : nanB x with _ | _
  · have hle : mg x ≤ INF := by simpa [nanB] using hn
    rw [hn] at hnb
    have Hnb := hid hnb
    rcases Nat.lt_or_eq_of_le hle with h | h
    · have hc := fun w => run_conv_wid (P := Try.prog) w 22 26 x hx Try.underlying22 Try.underlying26 h
      obtain ⟨_, _, m, e, hr⟩ := read_wid_fin hx h
      have Hn := hid (show (FloatKind.f64.format.order (wid x) (wid x) != some .eq) = false by
        show (D.order (wid x) (wid x) != some .eq) = false
        rw [order_self hr]; rfl)
      clear hnb hn hle h hr hx
      go_enter Try.func242, Try.ntmps242
      go_wp2_with (go_at_call 216; refine (isNaN_f64 (wid x) _).mono ?_; rintro e w' ⟨rfl, rfl⟩; rw [Hn.out])
      go_ret
      exact ⟨by rw [Hnb.out]; simp, Below.refl _ _⟩
    · obtain ⟨z, hc, h1, h2⟩ := run_conv_inf (P := Try.prog) w 22 26 x hx Try.underlying22 Try.underlying26 h
      have hr : D.read z = .infinity (decide (9223372036854775808 ≤ z)) := by rw [read_signD h2, h1, read_DINF]
      have Hn := hid (show (FloatKind.f64.format.order z z != some .eq) = false by
        show (D.order z z != some .eq) = false
        rw [order_inf hr]; rfl)
      clear hnb hn hle h hr hx h1 h2
      go_enter Try.func242, Try.ntmps242
      go_wp2_with (go_at_call 216; refine (isNaN_f64 z _).mono ?_; rintro e w' ⟨rfl, rfl⟩; rw [Hn.out])
      go_ret
      exact ⟨by rw [Hnb.out]; simp, Below.refl _ _⟩
  · have h : INF < mg x := by simpa [nanB] using hn
    rw [hn] at hnb
    have Hnb := hid hnb
    obtain ⟨z, hc, h1, _⟩ := run_conv_nan (P := Try.prog) w 22 26 x Try.underlying22 Try.underlying26 h
    obtain ⟨s, t, hr⟩ := read_nanD h1
    have Hn := hid (show (FloatKind.f64.format.order z z != some .eq) = true by
      show (D.order z z != some .eq) = true
      rw [order_nan hr]; rfl)
    clear hnb hn h hr hx h1
    go_enter Try.func242, Try.ntmps242
    go_wp2_with (go_at_call 216; refine (isNaN_f64 z _).mono ?_; rintro e w' ⟨rfl, rfl⟩; rw [Hn.out])
    go_ret
    exact ⟨by rw [Hnb.out]; simp, (Below.refl _ _).drew⟩

theorem info_air : (Try.prog.info? 38).map (·.size) = some 2 := by kernel_rfl

theorem info_lair : (Try.prog.info? 37).map (·.size) = some 2 := by kernel_rfl

theorem sSame_is (a b : Nat) (ha : a < 4294967296) (hb : b < 4294967296) (q : Bool) (hq : sameB a b = q) (w : World) :
    Calls Try.prog 171 #[.float .f32 a, .float .f32 b] w fun e w' => e = .returned (.bool q) ∧ w = w' := hq ▸ sSame a b ha hb w

set_option maxRecDepth 100000 in
theorem toAir (h v : Nat) (w : World) :
    Calls Try.prog 42 #[.agg #[.float .f32 h, .float .f32 v]] w fun e w' => e = .returned (.agg #[.float .f32 h, .float .f32 v]) ∧ Below w.heap.size w w' := by
  have k0 : Hid (Kept w [(w.heap.size + 1, #[.float .f32 h, .float .f32 v], 38)] (((w.alloc (.cells #[.float .f32 h, .float .f32 v] 37)).alloc (.cells #[.float .f32 h, .float .f32 v] 38)).alloc (.cells #[.float .f32 h, .float .f32 v] 38))) := hid (((((Kept.nil w).push _ _).push _ _).push _ _).sub (by simp))
  go_enter Try.func42, Try.ntmps42
  go_wp2
  exact bodyPost_ret (results_cell_row rfl _ _ (w.heap.size + 1) 38 #[.float .f32 h, .float .f32 v] (0, 0) _ rfl (k0.out.at (x := (w.heap.size + 1, #[.float .f32 h, .float .f32 v], 38)) (by simp)) Try.underlying38 rfl info_air) rfl ⟨rfl, k0.out.1⟩

def sameA (ah av bh bv : Nat) : Bool := sameB ah bh && sameB av bv

theorem info_bits : (Try.prog.info? 194).map (·.size) = some 2 := by kernel_rfl

theorem run_bitsOf1 (a : Act) (x0 : Operand) (v0 : Value) (h0 : a.eval x0 = v0) (d : Option Tmp) (ats : Array TypeId) (t : TypeId) (ps : String) (af : Array Edge) (gd : Option (Nat × Bool)) (w : World) :
    (execOp a.eval ⟨d, .call { callee := .value (.func 242), args := #[x0], argTypes := ats }, t, ps, af, gd⟩).run Try.prog w = .ok (.enter 242 #[v0]) w := by
  subst h0
  unfold execOp
  go_simp

set_option maxRecDepth 100000 in
set_option maxHeartbeats 1000000 in
theorem iBitsOfAir (h v : Nat) (hh : h < 4294967296) (hv : v < 4294967296) (w : World) :
    Calls Try.prog 243 #[.agg #[.float .f32 h, .float .f32 v]] w fun e w' => e = .returned (.agg #[.int .u32 (nb h : Int), .int .u32 (nb v : Int)]) ∧ Below w.heap.size w w' := by
  have k0 : Hid (Kept w [(w.heap.size + 1, #[.int .u32 0, .int .u32 0], 194), (w.heap.size, #[.float .f32 h, .float .f32 v], 38)] ((w.alloc (.cells #[.float .f32 h, .float .f32 v] 38)).alloc (.cells #[.int .u32 0, .int .u32 0] 194))) := hid ((((Kept.nil w).push _ _).push _ _).sub (by simp))
  have hB0 : w.heap.size ≤ w.heap.size + 1 := by omega
  have hn0 : ∀ x ∈ [((w.heap.size, #[.float .f32 h, .float .f32 v], 38) : Nat × Array Value × TypeId)], x.1 ≠ w.heap.size + 1 := by simp
  have HN0 := hid hn0
  have HB0 := hid hB0
  have Hh := hid hh
  have Hv := hid hv
  clear hh hv hn0 hB0
  go_enter Try.func243, Try.ntmps243
  go_wp2_with fail
  refine region_kept (w0 := w) (l := [(w.heap.size, #[.float .f32 h, .float .f32 v], 38)]) 8 #[false, false, false, false, false, false, false, false] (by kernel_rfl) rfl rfl ?_
  have kd := k0.out.drew
  clear k0
  generalize World.drew _ = wd at kd ⊢
  refine take_val 0 { tmps := (.agg #[.float .f32 h, .float .f32 v] :: .pointer (some ⟨w.heap.size, 0, none⟩) :: .pointer (some ⟨w.heap.size + 1, 0, none⟩) :: .pointer (some ⟨w.heap.size, 0, none⟩) :: undef :: undef :: undef :: undef :: undef :: undef :: []).toArray, defers := [] } #[true, false, false, false, false, false, false, false] (.pointer (some ⟨w.heap.size, 0, none⟩)) rfl (by rfl) (by kernel_rfl) (by kernel_rfl) (by kernel_rfl) (fun w => by unfold execOp; go_simp) (by rfl) (by rfl) (kd.tail) ?_
  refine take_cell 1 { tmps := (.agg #[.float .f32 h, .float .f32 v] :: .pointer (some ⟨w.heap.size, 0, none⟩) :: .pointer (some ⟨w.heap.size + 1, 0, none⟩) :: .pointer (some ⟨w.heap.size, 0, none⟩) :: .float .f32 h :: undef :: undef :: undef :: undef :: undef :: []).toArray, defers := [] } #[true, true, false, false, false, false, false, false] (.float .f32 h) rfl (by rfl) (by kernel_rfl) (by kernel_rfl) (by kernel_rfl) (fun wq hS => by have hcell : wq.cell? ⟨w.heap.size, 0, none⟩ = some (.float .f32 h) := (cell_of_row wq (w.heap.size) 0 _ _ _ (hS.at (x := (w.heap.size, #[.float .f32 h, .float .f32 v], 38)) (by simp))).trans rfl; clear hS; unfold execOp; go_simp) (by rfl) (by rfl) (kd.tail) ?_
  refine take_val 3 { tmps := (.agg #[.float .f32 h, .float .f32 v] :: .pointer (some ⟨w.heap.size, 0, none⟩) :: .pointer (some ⟨w.heap.size + 1, 0, none⟩) :: .pointer (some ⟨w.heap.size, 0, none⟩) :: .float .f32 h :: undef :: .pointer (some ⟨w.heap.size, 1, none⟩) :: undef :: undef :: undef :: []).toArray, defers := [] } #[true, true, false, true, false, false, false, false] (.pointer (some ⟨w.heap.size, 1, none⟩)) rfl (by rfl) (by kernel_rfl) (by kernel_rfl) (by kernel_rfl) (fun w => by unfold execOp; go_simp) (by rfl) (by rfl) (kd.tail) ?_
  refine take_cell 4 { tmps := (.agg #[.float .f32 h, .float .f32 v] :: .pointer (some ⟨w.heap.size, 0, none⟩) :: .pointer (some ⟨w.heap.size + 1, 0, none⟩) :: .pointer (some ⟨w.heap.size, 0, none⟩) :: .float .f32 h :: undef :: .pointer (some ⟨w.heap.size, 1, none⟩) :: .float .f32 v :: undef :: undef :: []).toArray, defers := [] } #[true, true, false, true, true, false, false, false] (.float .f32 v) rfl (by rfl) (by kernel_rfl) (by kernel_rfl) (by kernel_rfl) (fun wq hS => by have hcell : wq.cell? ⟨w.heap.size, 1, none⟩ = some (.float .f32 v) := (cell_of_row wq (w.heap.size) 1 _ _ _ (hS.at (x := (w.heap.size, #[.float .f32 h, .float .f32 v], 38)) (by simp))).trans rfl; clear hS; unfold execOp; go_simp) (by rfl) (by rfl) (kd.tail) ?_
  refine wpAnyH_ready (rs := [2]) (by kernel_rfl) (by simp) ?_
  refine callK 2 { tmps := (.agg #[.float .f32 h, .float .f32 v] :: .pointer (some ⟨w.heap.size, 0, none⟩) :: .pointer (some ⟨w.heap.size + 1, 0, none⟩) :: .pointer (some ⟨w.heap.size, 0, none⟩) :: .float .f32 h :: .int .u32 (nb h : Int) :: .pointer (some ⟨w.heap.size, 1, none⟩) :: .float .f32 v :: undef :: undef :: []).toArray, defers := [] } #[true, true, true, true, true, false, false, false] (.int .u32 (nb h : Int)) kd rfl (by rfl) 242 #[.float .f32 h] (run_bitsOf1 _ _ _ rfl _ _ _ _ _ _) (by rfl) (by rfl) (iBits h Hh.out _) (fun w1 k1 => ?_) AllReadyH.nil
  refine ⟨k1.tail, ?_⟩
  refine wpAnyH_ready (rs := [5]) (by kernel_rfl) (by simp) ?_
  refine callK 5 { tmps := (.agg #[.float .f32 h, .float .f32 v] :: .pointer (some ⟨w.heap.size, 0, none⟩) :: .pointer (some ⟨w.heap.size + 1, 0, none⟩) :: .pointer (some ⟨w.heap.size, 0, none⟩) :: .float .f32 h :: .int .u32 (nb h : Int) :: .pointer (some ⟨w.heap.size, 1, none⟩) :: .float .f32 v :: .int .u32 (nb v : Int) :: undef :: []).toArray, defers := [] } #[true, true, true, true, true, true, false, false] (.int .u32 (nb v : Int)) k1 rfl (by rfl) 242 #[.float .f32 v] (run_bitsOf1 _ _ _ rfl _ _ _ _ _ _) (by rfl) (by rfl) (iBits v Hv.out _) (fun w2 k2 => ?_) AllReadyH.nil
  refine ⟨k2.tail, ?_⟩
  refine take_val 6 { tmps := (.agg #[.float .f32 h, .float .f32 v] :: .pointer (some ⟨w.heap.size, 0, none⟩) :: .pointer (some ⟨w.heap.size + 1, 0, none⟩) :: .pointer (some ⟨w.heap.size, 0, none⟩) :: .float .f32 h :: .int .u32 (nb h : Int) :: .pointer (some ⟨w.heap.size, 1, none⟩) :: .float .f32 v :: .int .u32 (nb v : Int) :: .agg #[.int .u32 (nb h : Int), .int .u32 (nb v : Int)] :: []).toArray, defers := [] } #[true, true, true, true, true, true, true, false] (.agg #[.int .u32 (nb h : Int), .int .u32 (nb v : Int)]) rfl (by rfl) (by kernel_rfl) (by kernel_rfl) (by kernel_rfl) (fun w => by unfold execOp; go_simp) (by rfl) (by rfl) (k2.tail) ?_
  refine wpAnyH_ready (rs := [7]) (by kernel_rfl) (by simp) ?_
  refine storeK 7 { tmps := (.agg #[.float .f32 h, .float .f32 v] :: .pointer (some ⟨w.heap.size, 0, none⟩) :: .pointer (some ⟨w.heap.size + 1, 0, none⟩) :: .pointer (some ⟨w.heap.size, 0, none⟩) :: .float .f32 h :: .int .u32 (nb h : Int) :: .pointer (some ⟨w.heap.size, 1, none⟩) :: .float .f32 v :: .int .u32 (nb v : Int) :: .agg #[.int .u32 (nb h : Int), .int .u32 (nb v : Int)] :: []).toArray, defers := [] } #[true, true, true, true, true, true, true, true] k2 HB0.out HN0.out rfl (by rfl) 194 _ _ rfl (#[.int .u32 (nb h : Int), .int .u32 (nb v : Int)]) (by rfl) (by rfl) (info_bits) (by simp) (by simp [Value.oneCell']) (by rfl) (by rfl) (fun w3 k3 => ?_) AllReadyH.nil
  refine ⟨k3.tail, ?_⟩
  refine wpAnyH_done (by kernel_rfl) (NoPanic.normal ?_) _
  go_wp2
  exact bodyPost_ret (results_cell_row rfl _ _ (w.heap.size + 1) 194 (#[.int .u32 (nb h : Int), .int .u32 (nb v : Int)]) (0, 0) _ rfl (k3.at (x := (w.heap.size + 1, _, _)) (by simp)) Try.underlying194 rfl info_bits) rfl ⟨rfl, k3.1⟩

theorem info_par : (Try.prog.info? 85).map (·.size) = some 3 := by kernel_rfl

theorem info_lpar : (Try.prog.info? 82).map (·.size) = some 3 := by kernel_rfl

set_option maxRecDepth 100000 in
theorem toParcel (a h v : Nat) (w : World) :
    Calls Try.prog 73 #[.agg #[.float .f32 a, .float .f32 h, .float .f32 v]] w fun e w' => e = .returned (.agg #[.float .f32 a, .float .f32 h, .float .f32 v]) ∧ Below w.heap.size w w' := by
  have k0 : Hid (Kept w [(w.heap.size + 1 + 1, #[.float .f32 a, .float .f32 0, .float .f32 0], 85), (w.heap.size + 1, #[.float .f32 0, .float .f32 0, .float .f32 0], 85)] (((w.alloc (.cells #[.float .f32 a, .float .f32 h, .float .f32 v] 82)).alloc (.cells #[.float .f32 0, .float .f32 0, .float .f32 0] 85)).alloc (.cells #[.float .f32 a, .float .f32 0, .float .f32 0] 85))) := hid (((((Kept.nil w).push _ _).push _ _).push _ _).sub (by simp))
  have A0 : Hid (parAt (((w.alloc (.cells #[.float .f32 a, .float .f32 h, .float .f32 v] 82)).alloc (.cells #[.float .f32 0, .float .f32 0, .float .f32 0] 85)).alloc (.cells #[.float .f32 a, .float .f32 0, .float .f32 0] 85)) w.heap.size a h v 82) := hid (((((Kept.nil w).push _ _).push _ _).push _ _).at (x := (w.heap.size, #[.float .f32 a, .float .f32 h, .float .f32 v], 82)) (by simp))
  go_enter Try.func73, Try.ntmps73
  go_wp2_with (refine wpList_load_air (by rfl) 37 _ rfl w.heap.size rfl a h v 82 A0.out _ Try.underlying37 rfl info_lair ?_)
  refine (toAir h v _).mono ?_
  rintro e w1 ⟨rfl, hb1⟩
  have k1 := hid (k0.out.stay hb1)
  clear k0 A0 hb1
  have tok1 : True := trivial
  go_wp2_with (first | (have _t := tok1; refine store_air (w0 := w) (l := [(w.heap.size + 1, #[.float .f32 0, .float .f32 0, .float .f32 0], 85)]) rfl 38 _ _ rfl (w.heap.size + 1 + 1) rfl h v rfl a 0 0 85 k1.out (by omega) (by simp) info_air ?_; intro w2 k2; have k2 := hid k2; clear tok1) | (have _t := k2; refine wpList_load_row rfl 85 _ rfl (w.heap.size + 1 + 1) rfl 85 (#[.float .f32 a, .float .f32 h, .float .f32 v]) (0, 0) _ (k2.out.at (x := (w.heap.size + 1 + 1, #[.float .f32 a, .float .f32 h, .float .f32 v], 85)) (by simp)) Try.underlying85 rfl (info_par) ?_) | (have _t := k2; refine store_kept (w0 := w) (l := []) rfl 85 _ _ rfl (w.heap.size + 1) (#[.float .f32 a, .float .f32 h, .float .f32 v]) rfl rfl 85 (#[.float .f32 0, .float .f32 0, .float .f32 0]) (k2.out.sub (by simp)) (by omega) (by simp) (info_par) (by simp) (by simp [Value.oneCell']) ?_; intro w3 k3; have k3 := hid k3))
  exact bodyPost_ret (results_cell_row rfl _ _ (w.heap.size + 1) 85 #[.float .f32 a, .float .f32 h, .float .f32 v] (0, 0) _ rfl (k3.out.at (x := (w.heap.size + 1, #[.float .f32 a, .float .f32 h, .float .f32 v], 85)) (by simp)) Try.underlying85 rfl info_par) rfl ⟨rfl, k3.out.1⟩

def sameP (aa ah av ba bh bv : Nat) : Bool := sameB aa ba && sameA ah av bh bv

theorem info_lbits : (Try.prog.info? 196).map (·.size) = some 3 := by kernel_rfl

set_option maxRecDepth 100000 in
theorem sSameAirAt (ah av bh bv : Nat) (h1 : ah < 4294967296) (h2 : av < 4294967296) (h3 : bh < 4294967296) (h4 : bv < 4294967296) (w : World) (g k o p : Nat) (c0 : w.cell? ⟨g, o, none⟩ = some (.float .f32 ah)) (c1 : w.cell? ⟨g, o + 1, none⟩ = some (.float .f32 av)) (c2 : w.cell? ⟨k, p, none⟩ = some (.float .f32 bh)) (c3 : w.cell? ⟨k, p + 1, none⟩ = some (.float .f32 bv)) :
    Calls Try.prog 172 #[.pointer (some ⟨g, o, none⟩), .pointer (some ⟨k, p, none⟩)] w fun e w' => e = .returned (.bool (sameA ah av bh bv)) ∧ Below w.heap.size w w' := by
  have H1 := hid h1
  have H2 := hid h2
  have H3 := hid h3
  have H4 := hid h4
  have e1 : sameA ah av bh bv = (sameB ah bh && sameB av bv) := rfl
  rw [e1]
  clear h1 h2 h3 h4 e1
  rcases a : sameB ah bh with _ | _
  · have Ha := hid a
    clear a
    go_enter Try.func172, Try.ntmps172
    go_wp2
    go_quiet ((go_at_call 171; exact Calls.quiet_of_same (back (sSame_is ah bh H1.out H3.out false Ha.out _))))
    go_wp2
    go_ret
    exact ⟨rfl, below_drewN (Below.refl _ _) _⟩
  · rcases b : sameB av bv with _ | _
    all_goals
      go_enter Try.func172, Try.ntmps172
      go_wp2
      go_quiet ((go_at_call 171; exact Calls.quiet_of_same (back (sSame _ _ (by first | exact H1.out | exact H2.out) (by first | exact H3.out | exact H4.out) _))))
      go_wp2
      go_ret
      exact ⟨rfl, below_drewN (Below.refl _ _) _⟩

theorem sSameAirAt_is (ah av bh bv : Nat) (h1 : ah < 4294967296) (h2 : av < 4294967296) (h3 : bh < 4294967296) (h4 : bv < 4294967296) (q : Bool) (hq : sameA ah av bh bv = q) (w : World) (g k o p : Nat) (c0 : w.cell? ⟨g, o, none⟩ = some (.float .f32 ah)) (c1 : w.cell? ⟨g, o + 1, none⟩ = some (.float .f32 av)) (c2 : w.cell? ⟨k, p, none⟩ = some (.float .f32 bh)) (c3 : w.cell? ⟨k, p + 1, none⟩ = some (.float .f32 bv)) :
    Calls Try.prog 172 #[.pointer (some ⟨g, o, none⟩), .pointer (some ⟨k, p, none⟩)] w fun e w' => e = .returned (.bool q) ∧ Below w.heap.size w w' := by
  subst hq
  exact sSameAirAt ah av bh bv h1 h2 h3 h4 w g k o p c0 c1 c2 c3

set_option maxRecDepth 100000 in
theorem sSameParcel (aa ah av ba bh bv : Nat) (h0 : aa < 4294967296) (h1 : ah < 4294967296) (h2 : av < 4294967296) (h5 : ba < 4294967296) (h3 : bh < 4294967296) (h4 : bv < 4294967296) (w : World) :
    Calls Try.prog 75 #[.agg #[.float .f32 aa, .float .f32 ah, .float .f32 av], .agg #[.float .f32 ba, .float .f32 bh, .float .f32 bv]] w fun e w' => e = .returned (.bool (sameP aa ah av ba bh bv)) ∧ Below w.heap.size w w' := by
  have k0 : Hid (Kept w [(w.heap.size, #[.float .f32 aa, .float .f32 ah, .float .f32 av], 85), (w.heap.size + 1, #[.float .f32 ba, .float .f32 bh, .float .f32 bv], 85)] ((w.alloc (.cells #[.float .f32 aa, .float .f32 ah, .float .f32 av] 85)).alloc (.cells #[.float .f32 ba, .float .f32 bh, .float .f32 bv] 85))) := hid ((((Kept.nil w).push _ _).push _ _).sub (by simp))
  have A0 : Hid (parAt ((w.alloc (.cells #[.float .f32 aa, .float .f32 ah, .float .f32 av] 85)).alloc (.cells #[.float .f32 ba, .float .f32 bh, .float .f32 bv] 85)) w.heap.size aa ah av 85) := hid (k0.out.at (x := (w.heap.size, _, _)) (by simp))
  have A1 : Hid (parAt ((w.alloc (.cells #[.float .f32 aa, .float .f32 ah, .float .f32 av] 85)).alloc (.cells #[.float .f32 ba, .float .f32 bh, .float .f32 bv] 85)) (w.heap.size + 1) ba bh bv 85) := hid (k0.out.at (x := (w.heap.size + 1, _, _)) (by simp))
  have H0 := hid h0
  have H1 := hid h1
  have H2 := hid h2
  have H3 := hid h3
  have H4 := hid h4
  have H5 := hid h5
  have e1 : sameP aa ah av ba bh bv = (sameB aa ba && sameA ah av bh bv) := rfl
  rw [e1]
  clear h1 h2 h3 h4 h0 h5 e1
  rcases a : sameB aa ba with _ | _
  · have Ha := hid a
    clear a
    go_enter Try.func75, Try.ntmps75
    go_wp2_with fail
    refine (sSame_is aa ba H0.out H5.out false Ha.out _).mono ?_
    rintro e w1 ⟨rfl, rfl⟩
    go_wp2
    go_ret
    exact ⟨rfl, k0.out.1⟩
  · have Ha := hid a
    clear a
    obtain ⟨q, hq⟩ : ∃ q, sameA ah av bh bv = q := ⟨_, rfl⟩
    rw [hq]
    have Hq := hid hq
    clear hq
    cases q
    all_goals
     go_enter Try.func75, Try.ntmps75
     go_wp2_with fail
     refine (sSame_is aa ba H0.out H5.out true Ha.out _).mono ?_
     rintro e w1 ⟨rfl, rfl⟩
     go_wp2_with fail
     refine (sSameAirAt_is ah av bh bv H1.out H2.out H3.out H4.out _ Hq.out _ w.heap.size (w.heap.size + 1) 1 1 A0.out.c1 A0.out.c2 A1.out.c1 A1.out.c2).mono ?_
     rintro e w1 ⟨rfl, hb1⟩
     go_wp2
     go_ret
     exact ⟨rfl, (k0.out.stay hb1).1⟩

set_option maxRecDepth 100000 in
set_option maxHeartbeats 1000000 in
theorem iBitsOfLevel (a h v : Nat) (ha : a < 4294967296) (hh : h < 4294967296) (hv : v < 4294967296) (w : World) :
    Calls Try.prog 173 #[.agg #[.float .f32 a, .float .f32 h, .float .f32 v]] w fun e w' => e = .returned (.agg #[.int .u32 (nb a : Int), .int .u32 (nb h : Int), .int .u32 (nb v : Int)]) ∧ Below w.heap.size w w' := by
  have k0 : Hid (Kept w [(w.heap.size + 1, #[.int .u32 0, .int .u32 0, .int .u32 0], 196), (w.heap.size, #[.float .f32 a, .float .f32 h, .float .f32 v], 198)] ((w.alloc (.cells #[.float .f32 a, .float .f32 h, .float .f32 v] 198)).alloc (.cells #[.int .u32 0, .int .u32 0, .int .u32 0] 196))) := hid ((((Kept.nil w).push _ _).push _ _).sub (by simp))
  have hB0 : w.heap.size ≤ w.heap.size + 1 := by omega
  have hn0 : ∀ x ∈ [((w.heap.size, #[.float .f32 a, .float .f32 h, .float .f32 v], 198) : Nat × Array Value × TypeId)], x.1 ≠ w.heap.size + 1 := by simp
  have HN0 := hid hn0
  have HB0 := hid hB0
  have Ha := hid ha
  have Hh := hid hh
  have Hv := hid hv
  clear ha hh hv hn0 hB0
  go_enter Try.func173, Try.ntmps173
  go_wp2_with fail
  refine region_kept (w0 := w) (l := [(w.heap.size, #[.float .f32 a, .float .f32 h, .float .f32 v], 198)]) 8 #[false, false, false, false, false, false, false, false] (by kernel_rfl) rfl rfl ?_
  have kd := k0.out.drew
  clear k0
  generalize World.drew _ = wd at kd ⊢
  refine take_val 0 _ _ (.pointer (some ⟨w.heap.size, 0, none⟩)) rfl (by rfl) (by kernel_rfl) (by kernel_rfl) (by kernel_rfl) (fun w => by unfold execOp; go_simp) rfl rfl kd.tail ?_
  refine take_val 3 _ _ (.pointer (some ⟨w.heap.size, 1, none⟩)) rfl (by rfl) (by kernel_rfl) (by kernel_rfl) (by kernel_rfl) (fun w => by unfold execOp; go_simp) rfl rfl kd.tail ?_
  simp only [Act.put, List.setIfInBounds_toArray, List.set_cons_zero, List.set_cons_succ]
  refine take_cell 1 _ _ (.float .f32 a) rfl (by rfl) (by kernel_rfl) (by kernel_rfl) (by kernel_rfl) (fun wq hS => by have hcell := (show parAt wq w.heap.size a h v 198 from hS.at (x := (w.heap.size, _, _)) (by simp)).c0; clear hS; unfold execOp; go_simp) rfl rfl kd.tail ?_
  refine take_cell 4 _ _ (.agg #[.float .f32 h, .float .f32 v]) rfl (by rfl) (by kernel_rfl) (by kernel_rfl) (by kernel_rfl) (fun wq hS => run_load_air 38 _ w.heap.size (by rfl) a h v 198 (hS.at (x := (w.heap.size, _, _)) (by simp)) _ Try.underlying38 rfl info_air) rfl rfl kd.tail ?_
  simp only [Act.put, List.setIfInBounds_toArray, List.set_cons_zero, List.set_cons_succ]
  refine wpAnyH_ready (rs := [2]) (by kernel_rfl) (by simp) ?_
  refine callK 2 _ _ (.int .u32 (nb a : Int)) kd rfl (by rfl) 242 #[.float .f32 a] (fun w => by unfold execOp; go_simp) rfl rfl ?hc (fun w1 k1 => ?_) AllReadyH.nil
  case hc => exact iBits a Ha.out _
  refine ⟨k1.tail, ?_⟩
  simp only [Act.put, List.setIfInBounds_toArray, List.set_cons_zero, List.set_cons_succ]
  refine wpAnyH_ready (rs := [5]) (by kernel_rfl) (by simp) ?_
  refine callK 5 _ _ (.agg #[.int .u32 (nb h : Int), .int .u32 (nb v : Int)]) k1 rfl (by rfl) 243 #[.agg #[.float .f32 h, .float .f32 v]] (fun w => by unfold execOp; go_simp) rfl rfl ?hc (fun w2 k2 => ?_) AllReadyH.nil
  case hc => exact iBitsOfAir h v Hh.out Hv.out _
  refine ⟨k2.tail, ?_⟩
  simp only [Act.put, List.setIfInBounds_toArray, List.set_cons_zero, List.set_cons_succ]
  refine take_val 6 _ _ (.agg #[.int .u32 (nb a : Int), .int .u32 (nb h : Int), .int .u32 (nb v : Int)]) rfl (by rfl) (by kernel_rfl) (by kernel_rfl) (by kernel_rfl) (fun w => by unfold execOp; go_simp) rfl rfl k2.tail ?_
  simp only [Act.put, List.setIfInBounds_toArray, List.set_cons_zero, List.set_cons_succ]
  refine wpAnyH_ready (rs := [7]) (by kernel_rfl) (by simp) ?_
  refine storeK 7 _ _ k2 HB0.out HN0.out rfl (by rfl) 196 _ _ rfl #[.int .u32 (nb a : Int), .int .u32 (nb h : Int), .int .u32 (nb v : Int)] rfl rfl info_lbits (by simp) (by simp [Value.oneCell']) rfl rfl (fun w3 k3 => ?_) AllReadyH.nil
  refine ⟨k3.tail, ?_⟩
  refine wpAnyH_done (by kernel_rfl) (NoPanic.normal ?_) _
  go_wp2
  exact bodyPost_ret (results_cell_row rfl _ _ (w.heap.size + 1) 196 (#[.int .u32 (nb a : Int), .int .u32 (nb h : Int), .int .u32 (nb v : Int)]) (0, 0) _ rfl (k3.at (x := (w.heap.size + 1, _, _)) (by simp)) Try.underlying196 rfl info_lbits) rfl ⟨rfl, k3.1⟩

theorem eq_lbits (a b c d e f : Nat) (w : World) : (binOp .eql 196 (.agg #[.int .u32 (nb a : Int), .int .u32 (nb b : Int), .int .u32 (nb c : Int)]) (.agg #[.int .u32 (nb d : Int), .int .u32 (nb e : Int), .int .u32 (nb f : Int)])).run Try.prog w = .ok (.bool (sameP a b c d e f)) w := by
  have h1 := sameB_nb a d
  have h2 := sameB_nb b e
  have h3 := sameB_nb c f
  unfold sameP sameA
  rw [← h1, ← h2, ← h3]
  go_simp
  generalize sameB a d = p at *
  generalize sameB b e = q at *
  generalize sameB c f = r at *
  cases p <;> cases q <;> cases r <;> rfl

set_option maxRecDepth 100000 in
set_option maxHeartbeats 1000000 in
theorem iSameParcel (aa ah av ba bh bv : Nat) (h0 : aa < 4294967296) (h1 : ah < 4294967296) (h2 : av < 4294967296) (h5 : ba < 4294967296) (h3 : bh < 4294967296) (h4 : bv < 4294967296) (w : World) :
    Calls Try.prog 76 #[.agg #[.float .f32 aa, .float .f32 ah, .float .f32 av], .agg #[.float .f32 ba, .float .f32 bh, .float .f32 bv]] w fun e w' => e = .returned (.bool (sameP aa ah av ba bh bv)) ∧ Below w.heap.size w w' := by
  have k0 : Hid (Kept w [(w.heap.size, #[.float .f32 aa, .float .f32 ah, .float .f32 av], 85), (w.heap.size + 1, #[.float .f32 ba, .float .f32 bh, .float .f32 bv], 85)] ((w.alloc (.cells #[.float .f32 aa, .float .f32 ah, .float .f32 av] 85)).alloc (.cells #[.float .f32 ba, .float .f32 bh, .float .f32 bv] 85))) := hid ((((Kept.nil w).push _ _).push _ _).sub (by simp))
  have H0 := hid h0
  have H1 := hid h1
  have H2 := hid h2
  have H3 := hid h3
  have H4 := hid h4
  have H5 := hid h5
  clear h1 h2 h3 h4 h0 h5
  go_enter Try.func76, Try.ntmps76
  go_wp2_with fail
  refine region_kept (w0 := w) (l := [(w.heap.size, #[.float .f32 aa, .float .f32 ah, .float .f32 av], 85), (w.heap.size + 1, #[.float .f32 ba, .float .f32 bh, .float .f32 bv], 85)]) 6 #[false, false, false, false, false, false] (by kernel_rfl) rfl rfl ?_
  have kd := k0.out.drew
  clear k0
  generalize World.drew _ = wd at kd ⊢
  refine take_load 0 _ _ rfl (by rfl) (by kernel_rfl) (by kernel_rfl) (by kernel_rfl) 85 _ rfl w.heap.size (#[.float .f32 aa, .float .f32 ah, .float .f32 av]) 85 rfl (by simp) _ Try.underlying85 rfl info_par rfl rfl kd ?_
  refine take_load 2 _ _ rfl (by rfl) (by kernel_rfl) (by kernel_rfl) (by kernel_rfl) 85 _ rfl (w.heap.size + 1) (#[.float .f32 ba, .float .f32 bh, .float .f32 bv]) 85 rfl (by simp) _ Try.underlying85 rfl info_par rfl rfl kd ?_
  simp only [Act.put, List.setIfInBounds_toArray, List.set_cons_zero, List.set_cons_succ]
  refine wpAnyH_ready (rs := [1]) (by kernel_rfl) (by simp) ?_
  refine callK 1 _ _ (.agg #[.int .u32 (nb aa : Int), .int .u32 (nb ah : Int), .int .u32 (nb av : Int)]) kd rfl (by rfl) 173 #[.agg #[.float .f32 aa, .float .f32 ah, .float .f32 av]] (fun w => by unfold execOp; go_simp) rfl rfl ?hc (fun w1 k1 => ?_) AllReadyH.nil
  case hc => exact iBitsOfLevel aa ah av H0.out H1.out H2.out _
  refine ⟨k1, ?_⟩
  simp only [Act.put, List.setIfInBounds_toArray, List.set_cons_zero, List.set_cons_succ]
  refine wpAnyH_ready (rs := [3]) (by kernel_rfl) (by simp) ?_
  refine callK 3 _ _ (.agg #[.int .u32 (nb ba : Int), .int .u32 (nb bh : Int), .int .u32 (nb bv : Int)]) k1 rfl (by rfl) 173 #[.agg #[.float .f32 ba, .float .f32 bh, .float .f32 bv]] (fun w => by unfold execOp; go_simp) rfl rfl ?hc (fun w2 k2 => ?_) AllReadyH.nil
  case hc => exact iBitsOfLevel ba bh bv H5.out H3.out H4.out _
  refine ⟨k2, ?_⟩
  simp only [Act.put, List.setIfInBounds_toArray, List.set_cons_zero, List.set_cons_succ]
  refine take_val 4 _ _ (.bool (sameP aa ah av ba bh bv)) rfl (by rfl) (by kernel_rfl) (by kernel_rfl) (by kernel_rfl) (fun w => run_binop_val _ _ _ _ (by rfl) (by rfl) (by simp [eqGuard]) (eq_lbits _ _ _ _ _ _ w)) rfl rfl k2 ?_
  simp only [Act.put, List.setIfInBounds_toArray, List.set_cons_zero, List.set_cons_succ]
  refine take_val 5 _ _ (.bool (sameP aa ah av ba bh bv)) rfl (by rfl) (by kernel_rfl) (by kernel_rfl) (by kernel_rfl) (fun w => by unfold execOp; go_simp) rfl rfl k2 ?_
  refine wpAnyH_done (by kernel_rfl) (NoPanic.normal ?_) _
  simp only [Act.put, List.setIfInBounds_toArray, List.set_cons_zero, List.set_cons_succ]
  go_wp2
  go_ret
  exact ⟨rfl, k2.1⟩

theorem run_toParcel1 (a : Act) (x0 : Operand) (v0 : Value) (h0 : a.eval x0 = v0) (d : Option Tmp) (ats : Array TypeId) (t : TypeId) (ps : String) (af : Array Edge) (gd : Option (Nat × Bool)) (w : World) :
    (execOp a.eval ⟨d, .call { callee := .value (.func 73), args := #[x0], argTypes := ats }, t, ps, af, gd⟩).run Try.prog w = .ok (.enter 73 #[v0]) w := by
  subst h0
  unfold execOp
  go_simp

theorem run_sSameParcel2 (a : Act) (x0 : Operand) (v0 : Value) (h0 : a.eval x0 = v0) (x1 : Operand) (v1 : Value) (h1 : a.eval x1 = v1) (d : Option Tmp) (ats : Array TypeId) (t : TypeId) (ps : String) (af : Array Edge) (gd : Option (Nat × Bool)) (w : World) :
    (execOp a.eval ⟨d, .call { callee := .value (.func 75), args := #[x0, x1], argTypes := ats }, t, ps, af, gd⟩).run Try.prog w = .ok (.enter 75 #[v0, v1]) w := by
  subst h0 h1
  unfold execOp
  go_simp

theorem run_iSameParcel2 (a : Act) (x0 : Operand) (v0 : Value) (h0 : a.eval x0 = v0) (x1 : Operand) (v1 : Value) (h1 : a.eval x1 = v1) (d : Option Tmp) (ats : Array TypeId) (t : TypeId) (ps : String) (af : Array Edge) (gd : Option (Nat × Bool)) (w : World) :
    (execOp a.eval ⟨d, .call { callee := .value (.func 76), args := #[x0, x1], argTypes := ats }, t, ps, af, gd⟩).run Try.prog w = .ok (.enter 76 #[v0, v1]) w := by
  subst h0 h1
  unfold execOp
  go_simp

set_option maxRecDepth 100000 in
set_option maxHeartbeats 2000000 in
theorem coreSameParcel (x0a x0h x0v : Nat) (x1a x1h x1v : Nat) (r0 : Bool)
    (hS : ∀ w, Calls Try.prog 75 #[.agg #[.float .f32 x0a, .float .f32 x0h, .float .f32 x0v], .agg #[.float .f32 x1a, .float .f32 x1h, .float .f32 x1v]] w fun e w' => e = .returned (.bool r0) ∧ Below w.heap.size w w')
    (hI : ∀ w, Calls Try.prog 76 #[.agg #[.float .f32 x0a, .float .f32 x0h, .float .f32 x0v], .agg #[.float .f32 x1a, .float .f32 x1h, .float .f32 x1v]] w fun e w' => e = .returned (.bool r0) ∧ Below w.heap.size w w') (w : World) :
    Calls Try.prog 16 #[.agg #[.float .f32 x0a, .float .f32 x0h, .float .f32 x0v], .agg #[.float .f32 x1a, .float .f32 x1h, .float .f32 x1v]] w fun e w' => e = .returned (.bool true) ∧ Below w.heap.size w w' := by
  have k0 : Hid (Kept w [(w.heap.size, #[.float .f32 x0a, .float .f32 x0h, .float .f32 x0v], 82), (w.heap.size + 1, #[.float .f32 x1a, .float .f32 x1h, .float .f32 x1v], 82)] ((w.alloc (.cells (#[.float .f32 x0a, .float .f32 x0h, .float .f32 x0v]) 82)).alloc (.cells (#[.float .f32 x1a, .float .f32 x1h, .float .f32 x1v]) 82))) := hid ((((Kept.nil w).push (#[.float .f32 x0a, .float .f32 x0h, .float .f32 x0v]) 82).push (#[.float .f32 x1a, .float .f32 x1h, .float .f32 x1v]) 82).sub (by simp))
  have HS := hid hS
  have HI := hid hI
  clear hS hI
  go_enter Try.func16, Try.ntmps16
  go_wp2_with fail
  rename_i Q1 K1 hK1
  have key1 : ∀  (w1 : World), Hid (Kept w [(w.heap.size, #[.float .f32 x0a, .float .f32 x0h, .float .f32 x0v], 82), (w.heap.size + 1, #[.float .f32 x1a, .float .f32 x1h, .float .f32 x1v], 82)] w1) → K1 { tmps := (.agg #[.float .f32 x0a, .float .f32 x0h, .float .f32 x0v] :: .agg #[.float .f32 x1a, .float .f32 x1h, .float .f32 x1v] :: .pointer (some ⟨w.heap.size, 0, none⟩) :: .pointer (some ⟨w.heap.size + 1, 0, none⟩) :: .bool false :: .bool r0 :: undef :: .agg (#[.float .f32 x0a, .float .f32 x0h, .float .f32 x0v]) :: .agg (#[.float .f32 x0a, .float .f32 x0h, .float .f32 x0v]) :: .agg (#[.float .f32 x1a, .float .f32 x1h, .float .f32 x1v]) :: .agg (#[.float .f32 x1a, .float .f32 x1h, .float .f32 x1v]) :: .bool r0 :: undef :: undef :: undef :: undef :: undef :: undef :: undef :: undef :: []).toArray, defers := [] } w1 := by
    intro  w1 k1
    clear k0
    go_wp2_with fail
    rename_i K2 hK2
    have key2 : ∀  (w2 : World), Hid (Kept w [(w.heap.size, #[.float .f32 x0a, .float .f32 x0h, .float .f32 x0v], 82), (w.heap.size + 1, #[.float .f32 x1a, .float .f32 x1h, .float .f32 x1v], 82)] w2) → K2 { tmps := (.agg #[.float .f32 x0a, .float .f32 x0h, .float .f32 x0v] :: .agg #[.float .f32 x1a, .float .f32 x1h, .float .f32 x1v] :: .pointer (some ⟨w.heap.size, 0, none⟩) :: .pointer (some ⟨w.heap.size + 1, 0, none⟩) :: .bool false :: .bool r0 :: .bool r0 :: .agg (#[.float .f32 x0a, .float .f32 x0h, .float .f32 x0v]) :: .agg (#[.float .f32 x0a, .float .f32 x0h, .float .f32 x0v]) :: .agg (#[.float .f32 x1a, .float .f32 x1h, .float .f32 x1v]) :: .agg (#[.float .f32 x1a, .float .f32 x1h, .float .f32 x1v]) :: .bool r0 :: .agg (#[.float .f32 x0a, .float .f32 x0h, .float .f32 x0v]) :: .agg (#[.float .f32 x0a, .float .f32 x0h, .float .f32 x0v]) :: .agg (#[.float .f32 x1a, .float .f32 x1h, .float .f32 x1v]) :: .agg (#[.float .f32 x1a, .float .f32 x1h, .float .f32 x1v]) :: .bool r0 :: undef :: undef :: undef :: []).toArray, defers := [] } w2 := by
      intro  w2 k2
      clear k1 HS HI
      cases r0
      all_goals go_wp2
      all_goals go_ret
      all_goals exact ⟨rfl, k2.out.1⟩
    refine region_kept (w0 := w) (l := [(w.heap.size, #[.float .f32 x0a, .float .f32 x0h, .float .f32 x0v], 82), (w.heap.size + 1, #[.float .f32 x1a, .float .f32 x1h, .float .f32 x1v], 82)]) 6 #[false, false, false, false, false, false] (by kernel_rfl) rfl rfl ?_
    have kd := k1.out.drew
    clear k1
    generalize w1.drew = wd at kd ⊢
    refine take_load 0 { tmps := (.agg #[.float .f32 x0a, .float .f32 x0h, .float .f32 x0v] :: .agg #[.float .f32 x1a, .float .f32 x1h, .float .f32 x1v] :: .pointer (some ⟨w.heap.size, 0, none⟩) :: .pointer (some ⟨w.heap.size + 1, 0, none⟩) :: .bool false :: .bool r0 :: undef :: .agg (#[.float .f32 x0a, .float .f32 x0h, .float .f32 x0v]) :: .agg (#[.float .f32 x0a, .float .f32 x0h, .float .f32 x0v]) :: .agg (#[.float .f32 x1a, .float .f32 x1h, .float .f32 x1v]) :: .agg (#[.float .f32 x1a, .float .f32 x1h, .float .f32 x1v]) :: .bool r0 :: .agg (#[.float .f32 x0a, .float .f32 x0h, .float .f32 x0v]) :: undef :: undef :: undef :: undef :: undef :: undef :: undef :: []).toArray, defers := [] } #[true, false, false, false, false, false] rfl (by rfl) (by kernel_rfl) (by kernel_rfl) (by kernel_rfl) 82 _ rfl (w.heap.size) (#[.float .f32 x0a, .float .f32 x0h, .float .f32 x0v]) 82 (by rfl) (by simp) _ Try.underlying82 rfl (info_lpar) (by rfl) (by rfl) (kd) ?_
    refine take_load 2 { tmps := (.agg #[.float .f32 x0a, .float .f32 x0h, .float .f32 x0v] :: .agg #[.float .f32 x1a, .float .f32 x1h, .float .f32 x1v] :: .pointer (some ⟨w.heap.size, 0, none⟩) :: .pointer (some ⟨w.heap.size + 1, 0, none⟩) :: .bool false :: .bool r0 :: undef :: .agg (#[.float .f32 x0a, .float .f32 x0h, .float .f32 x0v]) :: .agg (#[.float .f32 x0a, .float .f32 x0h, .float .f32 x0v]) :: .agg (#[.float .f32 x1a, .float .f32 x1h, .float .f32 x1v]) :: .agg (#[.float .f32 x1a, .float .f32 x1h, .float .f32 x1v]) :: .bool r0 :: .agg (#[.float .f32 x0a, .float .f32 x0h, .float .f32 x0v]) :: undef :: .agg (#[.float .f32 x1a, .float .f32 x1h, .float .f32 x1v]) :: undef :: undef :: undef :: undef :: undef :: []).toArray, defers := [] } #[true, false, true, false, false, false] rfl (by rfl) (by kernel_rfl) (by kernel_rfl) (by kernel_rfl) 82 _ rfl (w.heap.size + 1) (#[.float .f32 x1a, .float .f32 x1h, .float .f32 x1v]) 82 (by rfl) (by simp) _ Try.underlying82 rfl (info_lpar) (by rfl) (by rfl) (kd) ?_
    refine wpAnyH_ready (rs := [1]) (by kernel_rfl) (by simp) ?_
    refine callK 1 { tmps := (.agg #[.float .f32 x0a, .float .f32 x0h, .float .f32 x0v] :: .agg #[.float .f32 x1a, .float .f32 x1h, .float .f32 x1v] :: .pointer (some ⟨w.heap.size, 0, none⟩) :: .pointer (some ⟨w.heap.size + 1, 0, none⟩) :: .bool false :: .bool r0 :: undef :: .agg (#[.float .f32 x0a, .float .f32 x0h, .float .f32 x0v]) :: .agg (#[.float .f32 x0a, .float .f32 x0h, .float .f32 x0v]) :: .agg (#[.float .f32 x1a, .float .f32 x1h, .float .f32 x1v]) :: .agg (#[.float .f32 x1a, .float .f32 x1h, .float .f32 x1v]) :: .bool r0 :: .agg (#[.float .f32 x0a, .float .f32 x0h, .float .f32 x0v]) :: .agg (#[.float .f32 x0a, .float .f32 x0h, .float .f32 x0v]) :: .agg (#[.float .f32 x1a, .float .f32 x1h, .float .f32 x1v]) :: undef :: undef :: undef :: undef :: undef :: []).toArray, defers := [] } #[true, true, true, false, false, false] (.agg (#[.float .f32 x0a, .float .f32 x0h, .float .f32 x0v])) kd rfl (by rfl) 73 #[.agg (#[.float .f32 x0a, .float .f32 x0h, .float .f32 x0v])] (run_toParcel1 _ _ _ rfl _ _ _ _ _ _) (by rfl) (by rfl) (toParcel _ _ _ _) (fun w1 k1 => ?_) AllReadyH.nil
    refine ⟨k1, ?_⟩
    refine wpAnyH_ready (rs := [3]) (by kernel_rfl) (by simp) ?_
    refine callK 3 { tmps := (.agg #[.float .f32 x0a, .float .f32 x0h, .float .f32 x0v] :: .agg #[.float .f32 x1a, .float .f32 x1h, .float .f32 x1v] :: .pointer (some ⟨w.heap.size, 0, none⟩) :: .pointer (some ⟨w.heap.size + 1, 0, none⟩) :: .bool false :: .bool r0 :: undef :: .agg (#[.float .f32 x0a, .float .f32 x0h, .float .f32 x0v]) :: .agg (#[.float .f32 x0a, .float .f32 x0h, .float .f32 x0v]) :: .agg (#[.float .f32 x1a, .float .f32 x1h, .float .f32 x1v]) :: .agg (#[.float .f32 x1a, .float .f32 x1h, .float .f32 x1v]) :: .bool r0 :: .agg (#[.float .f32 x0a, .float .f32 x0h, .float .f32 x0v]) :: .agg (#[.float .f32 x0a, .float .f32 x0h, .float .f32 x0v]) :: .agg (#[.float .f32 x1a, .float .f32 x1h, .float .f32 x1v]) :: .agg (#[.float .f32 x1a, .float .f32 x1h, .float .f32 x1v]) :: undef :: undef :: undef :: undef :: []).toArray, defers := [] } #[true, true, true, true, false, false] (.agg (#[.float .f32 x1a, .float .f32 x1h, .float .f32 x1v])) k1 rfl (by rfl) 73 #[.agg (#[.float .f32 x1a, .float .f32 x1h, .float .f32 x1v])] (run_toParcel1 _ _ _ rfl _ _ _ _ _ _) (by rfl) (by rfl) (toParcel _ _ _ _) (fun w2 k2 => ?_) AllReadyH.nil
    refine ⟨k2, ?_⟩
    refine wpAnyH_ready (rs := [4]) (by kernel_rfl) (by simp) ?_
    refine callK 4 { tmps := (.agg #[.float .f32 x0a, .float .f32 x0h, .float .f32 x0v] :: .agg #[.float .f32 x1a, .float .f32 x1h, .float .f32 x1v] :: .pointer (some ⟨w.heap.size, 0, none⟩) :: .pointer (some ⟨w.heap.size + 1, 0, none⟩) :: .bool false :: .bool r0 :: undef :: .agg (#[.float .f32 x0a, .float .f32 x0h, .float .f32 x0v]) :: .agg (#[.float .f32 x0a, .float .f32 x0h, .float .f32 x0v]) :: .agg (#[.float .f32 x1a, .float .f32 x1h, .float .f32 x1v]) :: .agg (#[.float .f32 x1a, .float .f32 x1h, .float .f32 x1v]) :: .bool r0 :: .agg (#[.float .f32 x0a, .float .f32 x0h, .float .f32 x0v]) :: .agg (#[.float .f32 x0a, .float .f32 x0h, .float .f32 x0v]) :: .agg (#[.float .f32 x1a, .float .f32 x1h, .float .f32 x1v]) :: .agg (#[.float .f32 x1a, .float .f32 x1h, .float .f32 x1v]) :: .bool r0 :: undef :: undef :: undef :: []).toArray, defers := [] } #[true, true, true, true, true, false] (.bool r0) k2 rfl (by rfl) 76 #[.agg (#[.float .f32 x0a, .float .f32 x0h, .float .f32 x0v]), .agg (#[.float .f32 x1a, .float .f32 x1h, .float .f32 x1v])] (run_iSameParcel2 _ _ _ rfl _ _ rfl _ _ _ _ _ _) (by rfl) (by rfl) (HI.out _) (fun w3 k3 => ?_) AllReadyH.nil
    refine ⟨k3, ?_⟩
    refine take_val 5 { tmps := (.agg #[.float .f32 x0a, .float .f32 x0h, .float .f32 x0v] :: .agg #[.float .f32 x1a, .float .f32 x1h, .float .f32 x1v] :: .pointer (some ⟨w.heap.size, 0, none⟩) :: .pointer (some ⟨w.heap.size + 1, 0, none⟩) :: .bool false :: .bool r0 :: .bool r0 :: .agg (#[.float .f32 x0a, .float .f32 x0h, .float .f32 x0v]) :: .agg (#[.float .f32 x0a, .float .f32 x0h, .float .f32 x0v]) :: .agg (#[.float .f32 x1a, .float .f32 x1h, .float .f32 x1v]) :: .agg (#[.float .f32 x1a, .float .f32 x1h, .float .f32 x1v]) :: .bool r0 :: .agg (#[.float .f32 x0a, .float .f32 x0h, .float .f32 x0v]) :: .agg (#[.float .f32 x0a, .float .f32 x0h, .float .f32 x0v]) :: .agg (#[.float .f32 x1a, .float .f32 x1h, .float .f32 x1v]) :: .agg (#[.float .f32 x1a, .float .f32 x1h, .float .f32 x1v]) :: .bool r0 :: undef :: undef :: undef :: []).toArray, defers := [] } #[true, true, true, true, true, true] (.bool r0) rfl (by rfl) (by kernel_rfl) (by kernel_rfl) (by kernel_rfl) (fun w => by rfl) (by rfl) (by rfl) (k3) ?_
    exact wpAnyH_done (by kernel_rfl) (NoPanic.normal (key2  _ (hid k3))) _
  refine region_kept (w0 := w) (l := [(w.heap.size, #[.float .f32 x0a, .float .f32 x0h, .float .f32 x0v], 82), (w.heap.size + 1, #[.float .f32 x1a, .float .f32 x1h, .float .f32 x1v], 82)]) 6 #[false, false, false, false, false, false] (by kernel_rfl) rfl rfl ?_
  have kd := k0.out.drew
  clear k0
  generalize ((w.alloc (.cells (#[.float .f32 x0a, .float .f32 x0h, .float .f32 x0v]) 82)).alloc (.cells (#[.float .f32 x1a, .float .f32 x1h, .float .f32 x1v]) 82)).drew = wd at kd ⊢
  refine take_load 0 { tmps := (.agg #[.float .f32 x0a, .float .f32 x0h, .float .f32 x0v] :: .agg #[.float .f32 x1a, .float .f32 x1h, .float .f32 x1v] :: .pointer (some ⟨w.heap.size, 0, none⟩) :: .pointer (some ⟨w.heap.size + 1, 0, none⟩) :: .bool false :: undef :: undef :: .agg (#[.float .f32 x0a, .float .f32 x0h, .float .f32 x0v]) :: undef :: undef :: undef :: undef :: undef :: undef :: undef :: undef :: undef :: undef :: undef :: undef :: []).toArray, defers := [] } #[true, false, false, false, false, false] rfl (by rfl) (by kernel_rfl) (by kernel_rfl) (by kernel_rfl) 82 _ rfl (w.heap.size) (#[.float .f32 x0a, .float .f32 x0h, .float .f32 x0v]) 82 (by rfl) (by simp) _ Try.underlying82 rfl (info_lpar) (by rfl) (by rfl) (kd) ?_
  refine take_load 2 { tmps := (.agg #[.float .f32 x0a, .float .f32 x0h, .float .f32 x0v] :: .agg #[.float .f32 x1a, .float .f32 x1h, .float .f32 x1v] :: .pointer (some ⟨w.heap.size, 0, none⟩) :: .pointer (some ⟨w.heap.size + 1, 0, none⟩) :: .bool false :: undef :: undef :: .agg (#[.float .f32 x0a, .float .f32 x0h, .float .f32 x0v]) :: undef :: .agg (#[.float .f32 x1a, .float .f32 x1h, .float .f32 x1v]) :: undef :: undef :: undef :: undef :: undef :: undef :: undef :: undef :: undef :: undef :: []).toArray, defers := [] } #[true, false, true, false, false, false] rfl (by rfl) (by kernel_rfl) (by kernel_rfl) (by kernel_rfl) 82 _ rfl (w.heap.size + 1) (#[.float .f32 x1a, .float .f32 x1h, .float .f32 x1v]) 82 (by rfl) (by simp) _ Try.underlying82 rfl (info_lpar) (by rfl) (by rfl) (kd) ?_
  refine wpAnyH_ready (rs := [1]) (by kernel_rfl) (by simp) ?_
  refine callK 1 { tmps := (.agg #[.float .f32 x0a, .float .f32 x0h, .float .f32 x0v] :: .agg #[.float .f32 x1a, .float .f32 x1h, .float .f32 x1v] :: .pointer (some ⟨w.heap.size, 0, none⟩) :: .pointer (some ⟨w.heap.size + 1, 0, none⟩) :: .bool false :: undef :: undef :: .agg (#[.float .f32 x0a, .float .f32 x0h, .float .f32 x0v]) :: .agg (#[.float .f32 x0a, .float .f32 x0h, .float .f32 x0v]) :: .agg (#[.float .f32 x1a, .float .f32 x1h, .float .f32 x1v]) :: undef :: undef :: undef :: undef :: undef :: undef :: undef :: undef :: undef :: undef :: []).toArray, defers := [] } #[true, true, true, false, false, false] (.agg (#[.float .f32 x0a, .float .f32 x0h, .float .f32 x0v])) kd rfl (by rfl) 73 #[.agg (#[.float .f32 x0a, .float .f32 x0h, .float .f32 x0v])] (run_toParcel1 _ _ _ rfl _ _ _ _ _ _) (by rfl) (by rfl) (toParcel _ _ _ _) (fun w1 k1 => ?_) AllReadyH.nil
  refine ⟨k1, ?_⟩
  refine wpAnyH_ready (rs := [3]) (by kernel_rfl) (by simp) ?_
  refine callK 3 { tmps := (.agg #[.float .f32 x0a, .float .f32 x0h, .float .f32 x0v] :: .agg #[.float .f32 x1a, .float .f32 x1h, .float .f32 x1v] :: .pointer (some ⟨w.heap.size, 0, none⟩) :: .pointer (some ⟨w.heap.size + 1, 0, none⟩) :: .bool false :: undef :: undef :: .agg (#[.float .f32 x0a, .float .f32 x0h, .float .f32 x0v]) :: .agg (#[.float .f32 x0a, .float .f32 x0h, .float .f32 x0v]) :: .agg (#[.float .f32 x1a, .float .f32 x1h, .float .f32 x1v]) :: .agg (#[.float .f32 x1a, .float .f32 x1h, .float .f32 x1v]) :: undef :: undef :: undef :: undef :: undef :: undef :: undef :: undef :: undef :: []).toArray, defers := [] } #[true, true, true, true, false, false] (.agg (#[.float .f32 x1a, .float .f32 x1h, .float .f32 x1v])) k1 rfl (by rfl) 73 #[.agg (#[.float .f32 x1a, .float .f32 x1h, .float .f32 x1v])] (run_toParcel1 _ _ _ rfl _ _ _ _ _ _) (by rfl) (by rfl) (toParcel _ _ _ _) (fun w2 k2 => ?_) AllReadyH.nil
  refine ⟨k2, ?_⟩
  refine wpAnyH_ready (rs := [4]) (by kernel_rfl) (by simp) ?_
  refine callK 4 { tmps := (.agg #[.float .f32 x0a, .float .f32 x0h, .float .f32 x0v] :: .agg #[.float .f32 x1a, .float .f32 x1h, .float .f32 x1v] :: .pointer (some ⟨w.heap.size, 0, none⟩) :: .pointer (some ⟨w.heap.size + 1, 0, none⟩) :: .bool false :: undef :: undef :: .agg (#[.float .f32 x0a, .float .f32 x0h, .float .f32 x0v]) :: .agg (#[.float .f32 x0a, .float .f32 x0h, .float .f32 x0v]) :: .agg (#[.float .f32 x1a, .float .f32 x1h, .float .f32 x1v]) :: .agg (#[.float .f32 x1a, .float .f32 x1h, .float .f32 x1v]) :: .bool r0 :: undef :: undef :: undef :: undef :: undef :: undef :: undef :: undef :: []).toArray, defers := [] } #[true, true, true, true, true, false] (.bool r0) k2 rfl (by rfl) 75 #[.agg (#[.float .f32 x0a, .float .f32 x0h, .float .f32 x0v]), .agg (#[.float .f32 x1a, .float .f32 x1h, .float .f32 x1v])] (run_sSameParcel2 _ _ _ rfl _ _ rfl _ _ _ _ _ _) (by rfl) (by rfl) (HS.out _) (fun w3 k3 => ?_) AllReadyH.nil
  refine ⟨k3, ?_⟩
  refine take_val 5 { tmps := (.agg #[.float .f32 x0a, .float .f32 x0h, .float .f32 x0v] :: .agg #[.float .f32 x1a, .float .f32 x1h, .float .f32 x1v] :: .pointer (some ⟨w.heap.size, 0, none⟩) :: .pointer (some ⟨w.heap.size + 1, 0, none⟩) :: .bool false :: .bool r0 :: undef :: .agg (#[.float .f32 x0a, .float .f32 x0h, .float .f32 x0v]) :: .agg (#[.float .f32 x0a, .float .f32 x0h, .float .f32 x0v]) :: .agg (#[.float .f32 x1a, .float .f32 x1h, .float .f32 x1v]) :: .agg (#[.float .f32 x1a, .float .f32 x1h, .float .f32 x1v]) :: .bool r0 :: undef :: undef :: undef :: undef :: undef :: undef :: undef :: undef :: []).toArray, defers := [] } #[true, true, true, true, true, true] (.bool r0) rfl (by rfl) (by kernel_rfl) (by kernel_rfl) (by kernel_rfl) (fun w => by rfl) (by rfl) (by rfl) (k3) ?_
  exact wpAnyH_done (by kernel_rfl) (NoPanic.normal (key1  _ (hid k3))) _

theorem lawSameParcel (aa ah av : Nat) (h0 : aa < 4294967296) (h1 : ah < 4294967296) (h2 : av < 4294967296) (ba bh bv : Nat) (h5 : ba < 4294967296) (h3 : bh < 4294967296) (h4 : bv < 4294967296) (w : World) :
    Calls Try.prog 16 #[.agg #[.float .f32 aa, .float .f32 ah, .float .f32 av], .agg #[.float .f32 ba, .float .f32 bh, .float .f32 bv]] w fun e w' => e = .returned (.bool true) ∧ Below w.heap.size w w' :=
  coreSameParcel aa ah av ba bh bv (sameP aa ah av ba bh bv) (sSameParcel aa ah av ba bh bv h0 h1 h2 h5 h3 h4) (iSameParcel aa ah av ba bh bv h0 h1 h2 h5 h3 h4) w

theorem words_cons : ∀ (v : List Char) (r : List Char), (∀ c ∈ v, c ≠ Char.ofNat 32) → wordsSigns (v ++ Char.ofNat 32 :: r) = v :: wordsSigns r
  | [], r, _ => rfl
  | c :: v, r, h => by
    have ih := words_cons v r (fun x hx => h x (by simp [hx]))
    have hc : c ≠ Char.ofNat 32 := h c (by simp)
    show wordsSigns (c :: (v ++ Char.ofNat 32 :: r)) = _
    rw [wordsSigns.eq_3 _ _ (fun e => hc e), ih]

def w0 : List Nat := [104, 97, 114, 110, 101, 115, 115]

def w1 : List Nat := [52, 52, 52, 55, 100, 49, 55, 54, 55, 100, 52, 57, 98, 51, 52, 55, 48, 49, 101, 48, 102, 51, 48, 51, 97, 48, 54, 51, 97, 100, 56, 98, 53, 54, 56, 52, 57, 100, 101, 53, 102, 54, 51, 50, 101, 48, 55, 52, 97, 53, 55, 101, 57, 51, 102, 53, 55, 101, 50, 50, 56, 50, 97, 55]

def w2 : List Nat := [99, 117, 116]

def w3 : List Nat := [97, 116, 32, 108, 111, 111, 112, 46, 101, 120, 97, 109, 112, 108, 101, 47, 103, 48, 49, 50, 50, 52, 47, 108, 97, 119, 115, 46, 70, 110, 69, 120, 97, 99, 116, 84, 104, 105, 114, 100, 82, 111, 111, 116, 32, 108, 111, 111, 112, 46, 101, 120, 97, 109, 112, 108, 101, 47, 103, 48, 49, 50, 50, 52, 47, 108, 97, 119, 115, 46, 70, 110, 69, 120, 97, 99, 116, 83, 104, 105, 102, 116, 77, 97, 115, 115, 101, 115, 32, 108, 111, 111, 112, 46, 101, 120, 97, 109, 112, 108, 101, 47, 103, 48, 49, 50, 50, 52, 47, 108, 97, 119, 115, 46, 70, 110, 69, 120, 97, 99, 116, 71, 114, 111, 119, 79, 110, 99, 101, 32, 108, 111, 111, 112, 46, 101, 120, 97, 109, 112, 108, 101, 47, 103, 48, 49, 50, 50, 52, 47, 108, 97, 119, 115, 46, 70, 110, 69, 120, 97, 99, 116, 71, 114, 111, 119, 83, 116, 101, 112, 115, 32, 108, 111, 111, 112, 46, 101, 120, 97, 109, 112, 108, 101, 47, 103, 48, 49, 50, 50, 52, 47, 108, 97, 119, 115, 46, 70, 110, 69, 120, 97, 99, 116, 83, 116, 101, 112, 115, 84, 111, 68, 114, 121, 32, 108, 111, 111, 112, 46, 101, 120, 97, 109, 112, 108, 101, 47, 103, 48, 49, 50, 50, 52, 47, 108, 97, 119, 115, 46, 70, 110, 69, 120, 97, 99, 116, 69, 118, 101, 110, 116, 115, 79, 102, 32, 108, 111, 111, 112, 46, 101, 120, 97, 109, 112, 108, 101, 47, 103, 48, 49, 50, 50, 52, 47, 108, 97, 119, 115, 46, 70, 110, 69, 120, 97, 99, 116, 76, 111, 115, 115, 101, 115, 79, 102, 32, 108, 111, 111, 112, 46, 101, 120, 97, 109, 112, 108, 101, 47, 103, 48, 49, 50, 50, 52, 47, 108, 97, 119, 115, 46, 70, 110, 69, 120, 97, 99, 116, 67, 111, 108, 108, 105, 100, 101, 32, 108, 111, 111, 112, 46, 101, 120, 97, 109, 112, 108, 101, 47, 103, 48, 49, 50, 50, 52, 47, 108, 97, 119, 115, 46, 70, 110, 69, 120, 97, 99, 116, 67, 111, 108, 108, 105, 100, 101, 83, 116, 101, 112, 115, 32, 108, 111, 111, 112, 46, 101, 120, 97, 109, 112, 108, 101, 47, 103, 48, 49, 50, 50, 52, 47, 108, 97, 119, 115, 46, 70, 110, 69, 120, 97, 99, 116, 82, 97, 105, 110, 77, 97, 100, 101, 32, 108, 111, 111, 112, 46, 101, 120, 97, 109, 112, 108, 101, 47, 103, 48, 49, 50, 50, 52, 47, 108, 97, 119, 115, 46, 70, 110, 69, 120, 97, 99, 116, 67, 111, 108, 108, 105, 100, 101, 80, 97, 105, 114, 115, 32, 108, 111, 111, 112, 46, 101, 120, 97, 109, 112, 108, 101, 47, 103, 48, 49, 50, 50, 52, 47, 108, 97, 119, 115, 46, 70, 110, 69, 120, 97, 99, 116, 68, 114, 97, 119, 80, 97, 105, 114, 115, 32, 108, 111, 111, 112, 46, 101, 120, 97, 109, 112, 108, 101, 47, 103, 48, 49, 50, 50, 52, 47, 108, 97, 119, 115, 46, 70, 110, 69, 120, 97, 99, 116, 86, 97, 108, 105, 100, 80, 97, 114, 99, 101, 108, 32, 108, 111, 111, 112, 46, 101, 120, 97, 109, 112, 108, 101, 47, 103, 48, 49, 50, 50, 52, 47, 108, 97, 119, 115, 46, 70, 110, 69, 120, 97, 99, 116, 83, 97, 109, 101, 80, 97, 114, 99, 101, 108, 32, 108, 111, 111, 112, 46, 101, 120, 97, 109, 112, 108, 101, 47, 103, 48, 49, 50, 50, 52, 47, 108, 97, 119, 115, 46, 70, 110, 69, 120, 97, 99, 116, 83, 101, 116, 116, 108, 101, 65, 105, 114, 32, 108, 111, 111, 112, 46, 101, 120, 97, 109, 112, 108, 101, 47, 103, 48, 49, 50, 50, 52, 47, 108, 97, 119, 115, 46, 70, 110, 69, 120, 97, 99, 116, 82, 97, 105, 115, 101, 68, 114, 121, 32, 108, 111, 111, 112, 46, 101, 120, 97, 109, 112, 108, 101, 47, 103, 48, 49, 50, 50, 52, 47, 108, 97, 119, 115, 46, 70, 110, 69, 120, 97, 99, 116, 82, 97, 105, 115, 101, 77, 111, 105, 115, 116, 32, 108, 111, 111, 112, 46, 101, 120, 97, 109, 112, 108, 101, 47, 103, 48, 49, 50, 50, 52, 47, 108, 97, 119, 115, 46, 70, 110, 69, 120, 97, 99, 116, 66, 97, 115, 101, 79, 102, 32, 108, 111, 111, 112, 46, 101, 120, 97, 109, 112, 108, 101, 47, 103, 48, 49, 50, 50, 52, 47, 108, 97, 119, 115, 46, 70, 110, 69, 120, 97, 99, 116, 77, 105, 120, 80, 97, 114, 99, 101, 108, 115, 32, 108, 111, 111, 112, 46, 101, 120, 97, 109, 112, 108, 101, 47, 103, 48, 49, 50, 50, 52, 47, 108, 97, 119, 115, 46, 70, 110, 69, 120, 97, 99, 116, 86, 97, 108, 105, 100, 83, 111, 117, 110, 100, 105, 110, 103, 32, 108, 111, 111, 112, 46, 101, 120, 97, 109, 112, 108, 101, 47, 103, 48, 49, 50, 50, 52, 47, 108, 97, 119, 115, 46, 70, 110, 69, 120, 97, 99, 116, 83, 97, 109, 101, 83, 111, 117, 110, 100, 105, 110, 103, 32, 108, 111, 111, 112, 46, 101, 120, 97, 109, 112, 108, 101, 47, 103, 48, 49, 50, 50, 52, 47, 108, 97, 119, 115, 46, 70, 110, 69, 120, 97, 99, 116, 69, 118, 101, 110, 83, 111, 117, 110, 100, 105, 110, 103, 32, 108, 111, 111, 112, 46, 101, 120, 97, 109, 112, 108, 101, 47, 103, 48, 49, 50, 50, 52, 47, 108, 97, 119, 115, 46, 70, 110, 69, 120, 97, 99, 116, 65, 105, 114, 65, 116, 32, 108, 111, 111, 112, 46, 101, 120, 97, 109, 112, 108, 101, 47, 103, 48, 49, 50, 50, 52, 47, 108, 97, 119, 115, 46, 70, 110, 69, 120, 97, 99, 116, 76, 105, 102, 116, 79, 102, 32, 108, 111, 111, 112, 46, 101, 120, 97, 109, 112, 108, 101, 47, 103, 48, 49, 50, 50, 52, 47, 108, 97, 119, 115, 46, 70, 110, 69, 120, 97, 99, 116, 82, 105, 115, 101, 73, 110, 32, 108, 111, 111, 112, 46, 101, 120, 97, 109, 112, 108, 101, 47, 103, 48, 49, 50, 50, 52, 47, 108, 97, 119, 115, 46, 70, 110, 69, 120, 97, 99, 116, 70, 105, 114, 115, 116, 85, 110, 115, 116, 101, 97, 100, 121, 32, 108, 111, 111, 112, 46, 101, 120, 97, 109, 112, 108, 101, 47, 103, 48, 49, 50, 50, 52, 47, 108, 97, 119, 115, 46, 70, 110, 69, 120, 97, 99, 116, 83, 116, 101, 97, 100, 121, 83, 111, 117, 110, 100, 105, 110, 103, 32, 108, 111, 111, 112, 46, 101, 120, 97, 109, 112, 108, 101, 47, 103, 48, 49, 50, 50, 52, 47, 108, 97, 119, 115, 46, 70, 110, 69, 120, 97, 99, 116, 87, 97, 114, 109, 76, 111, 119, 101, 115, 116, 32, 108, 111, 111, 112, 46, 101, 120, 97, 109, 112, 108, 101, 47, 103, 48, 49, 50, 50, 52, 47, 108, 97, 119, 115, 46, 70, 110, 69, 120, 97, 99, 116, 86, 97, 112, 111, 117, 114, 65, 98, 111, 118, 101, 32, 108, 111, 111, 112, 46, 101, 120, 97, 109, 112, 108, 101, 47, 103, 48, 49, 50, 50, 52, 47, 108, 97, 119, 115, 46, 70, 110, 69, 120, 97, 99, 116, 72, 101, 105, 103, 104, 116, 79, 102, 72, 101, 97, 116]

def letters (l : List Nat) : List Char := l.map Char.ofNat

theorem head_reads : Try.prog.initOrder = String.ofList (letters w0 ++ Char.ofNat 32 :: (letters w1 ++ Char.ofNat 32 :: (letters w2 ++ Char.ofNat 32 :: letters w3))) := by kernel_rfl

theorem no_blank {l : List Nat} (h : l.all (fun n => Char.ofNat n != Char.ofNat 32) = true) : ∀ c ∈ letters l, c ≠ Char.ofNat 32 := by
  intro c hc
  obtain ⟨n, hn, rfl⟩ := List.mem_map.1 hc
  have := List.all_eq_true.1 h n hn
  simpa using this

theorem h0 : letters w0 = "harness".toList := by kernel_rfl

theorem h2 : letters w2 = "cut".toList := by kernel_rfl

theorem sums : isSumSigns (letters w1) = true := by kernel_rfl

theorem words : wordsSigns Try.prog.initOrder.toList = "harness".toList :: letters w1 :: "cut".toList :: wordsSigns (letters w3) := by
  rw [head_reads, String.toList_ofList, words_cons _ _ (no_blank (by decide +kernel)), words_cons _ _ (no_blank (by decide +kernel)), words_cons _ _ (no_blank (by decide +kernel)), h0, h2]

theorem behind : ∃ r, behindMainWord (wordsSigns Try.prog.initOrder.toList) = "cut".toList :: r := by
  refine ⟨wordsSigns (letters w3), ?_⟩
  rw [words]
  generalize wordsSigns (letters w3) = r
  have hs := sums
  generalize letters w1 = v at hs
  unfold behindMainWord
  simp [hs]

theorem not_later : Try.prog.laysLater = false := by kernel_rfl

theorem no_reflect : Try.prog.bearsReflect = false := by kernel_rfl

theorem no_doors : Try.prog.doorFits [] = true := by kernel_rfl

theorem strips (r : List (List Char)) : stripLifts liftWords ("cut".toList :: r) = ([], "cut".toList :: r) := by kernel_rfl

theorem may_enter_of (P : Program) (r : List (List Char)) (h : behindMainWord (wordsSigns P.initOrder.toList) = "cut".toList :: r) (h1 : P.laysLater = false) (h2 : P.bearsReflect = false) (h3 : P.doorFits [] = true) : P.mayEnter = true := by
  unfold Program.mayEnter
  rw [h]
  dsimp only
  rw [strips, h1, h2, h3]
  kernel_rfl

theorem lifts_final_of (P : Program) (r : List (List Char)) (h : behindMainWord (wordsSigns P.initOrder.toList) = "cut".toList :: r) : P.liftsFinal = false := by
  unfold Program.liftsFinal Program.headLifts
  rw [h]
  dsimp only
  rw [strips]
  kernel_rfl

theorem made_of (P : Program) (r : List (List Char)) (h : behindMainWord (wordsSigns P.initOrder.toList) = "cut".toList :: r) : P.make = some .cut := by
  unfold Program.make
  rw [h]
  kernel_rfl

theorem may_enter : Try.prog.mayEnter = true := let ⟨r, h⟩ := behind; may_enter_of _ r h not_later no_reflect no_doors

theorem lifts_final : Try.prog.liftsFinal = false := let ⟨r, h⟩ := behind; lifts_final_of _ r h

theorem made : Try.prog.make = some .cut := let ⟨r, h⟩ := behind; made_of _ r h

theorem laid : laidOutB Try.prog = true := by kernel_rfl

theorem rowed : mapsRowed Try.prog = true := by kernel_rfl

theorem no_stops : Try.prog.stops = [] := by kernel_rfl

theorem no_knobs : Try.prog.stopKnobs = [] := by kernel_rfl

theorem plain_keys : Try.prog.plainKeys = false := by kernel_rfl

theorem stops_heard : Try.prog.stopsHeard = true := by kernel_rfl

theorem arr2 {α : Type} {cs : Array α} (h : cs.size = 2) : ∃ c0 c1, cs = #[c0, c1] := by
  obtain ⟨l⟩ := cs
  match l, h with
  | [a, b], _ => exact ⟨a, b, rfl⟩

theorem own : ownKnob Try.prog.godebug = none := by kernel_rfl

theorem rda : Try.prog.readableRec 28 = true ∧ 28 < Try.prog.types.size := ⟨by kernel_rfl, of_decide_eq_true (by kernel_rfl)⟩

theorem rdf : Try.prog.readableRec 22 = true ∧ 22 < Try.prog.types.size := ⟨by kernel_rfl, of_decide_eq_true (by kernel_rfl)⟩

theorem rdA : Try.prog.readableRec 37 = true ∧ 37 < Try.prog.types.size := ⟨by kernel_rfl, of_decide_eq_true (by kernel_rfl)⟩

theorem rdi : Try.prog.readableRec 2 = true ∧ 2 < Try.prog.types.size := ⟨by kernel_rfl, of_decide_eq_true (by kernel_rfl)⟩

theorem rdb : Try.prog.readableRec 62 = true ∧ 62 < Try.prog.types.size := ⟨by kernel_rfl, of_decide_eq_true (by kernel_rfl)⟩

theorem rdp : Try.prog.readableRec 175 = true ∧ 175 < Try.prog.types.size := ⟨by kernel_rfl, of_decide_eq_true (by kernel_rfl)⟩

theorem cells3 : Try.prog.cellsOf 82 = 3 := by kernel_rfl

theorem types3 : Try.prog.cellTypes Try.prog.depth 82 = some (List.replicate 3 22) := by kernel_rfl

theorem rdq : Try.prog.readableRec 82 = true ∧ 82 < Try.prog.types.size := ⟨by kernel_rfl, of_decide_eq_true (by kernel_rfl)⟩

theorem vls3 (c : Nat → Nat) : vls 3 (flw c) = #[.float .f32 (c 0), .float .f32 (c 1), .float .f32 (c 2)] := rfl

theorem rdk : Try.prog.readableRec 48 = true ∧ 48 < Try.prog.types.size := ⟨by kernel_rfl, of_decide_eq_true (by kernel_rfl)⟩
end Go.Proofs.Ytlccmhkjfnmdiaa

namespace Go.Proofs.Ytlccmhkjfnmdiaa.fnExactSameParcel
open Go.RowKit Go.Fl Go.ChangeShapes Go.WideShapes Go.ChangeAt

theorem closed : joinedFacts Try.prog 16 Try.f16 Rows.fnExactSameParcelSpec Rows.fnExactSameParcelRow = true := by
  unfold joinedFacts
  simp only [Bool.and_eq_true]
  exact ⟨⟨⟨⟨⟨⟨⟨⟨⟨⟨⟨⟨⟨⟨⟨⟨⟨⟨⟨⟨⟨⟨⟨⟨⟨⟨⟨⟨⟨⟨⟨(by as_aux_lemma => kernel_rfl),
    laid⟩,
    rowed⟩,
    (by as_aux_lemma => kernel_rfl)⟩,
    (by as_aux_lemma => kernel_rfl)⟩,
    (by as_aux_lemma => kernel_rfl)⟩,
    (by rw [no_stops]; rfl)⟩,
    (by as_aux_lemma => kernel_rfl)⟩,
    (by rw [no_knobs]; rfl)⟩,
    (by as_aux_lemma => kernel_rfl)⟩,
    (by as_aux_lemma => kernel_rfl)⟩,
    (by as_aux_lemma => kernel_rfl)⟩,
    (by as_aux_lemma => kernel_rfl)⟩,
    (by as_aux_lemma => kernel_rfl)⟩,
    (by as_aux_lemma => kernel_rfl)⟩,
    (by as_aux_lemma => kernel_rfl)⟩,
    (by as_aux_lemma => kernel_rfl)⟩,
    (by as_aux_lemma => kernel_rfl)⟩,
    (by as_aux_lemma => kernel_rfl)⟩,
    (by as_aux_lemma => kernel_rfl)⟩,
    (by as_aux_lemma => kernel_rfl)⟩,
    (by as_aux_lemma => kernel_rfl)⟩,
    (show (Rows.fnExactSameParcelRow.plainKeys == Try.prog.plainKeys) = true by rw [plain_keys]; rfl)⟩,
    (by as_aux_lemma => kernel_rfl)⟩,
    stops_heard⟩,
    may_enter⟩,
    (show (Rows.fnExactSameParcelRow.lifted == Try.prog.liftsFinal) = true by rw [lifts_final]; rfl)⟩,
    (show (Try.prog.make == some Rows.fnExactSameParcelRow.make) = true by rw [made]; rfl)⟩,
    (by as_aux_lemma => kernel_rfl)⟩,
    (by as_aux_lemma => kernel_rfl)⟩,
    (by as_aux_lemma => kernel_rfl)⟩,
    (by as_aux_lemma => kernel_rfl)⟩

set_option maxRecDepth 100000 in
theorem lifted (os : Os) (started : os.Started) (H : Type) (enc : TypeId × Value → H) :
    ReturnsInHanded {} Try.checked os 16 .any (Rows.fnExactSameParcelSpec.pre6 enc Try.prog Try.f16 Rows.fnExactSameParcelRow.domain false) (Rows.fnExactSameParcelSpec.post enc Try.prog Try.f16 false true false false) := by
  refine LawFrame.lifted (C := Try.checked) (fn := Try.f16) (n := 2) (tb := 4) started own (by kernel_rfl) Try.func16 laid ?_ rfl rfl ?_ rfl Try.underlying4
    (ChangeSpec.witness6 (enc := enc) (C := Try.checked) false ⟨#[], #[.agg #[.float .f32 0, .float .f32 0, .float .f32 0], .agg #[.float .f32 0, .float .f32 0, .float .f32 0]], []⟩ 8 (by kernel_rfl) (by kernel_rfl) (by kernel_rfl) (by kernel_rfl)) ?_
  · intro t ht
    simp only [Try.params16, List.mem_cons, List.not_mem_nil, or_false] at ht
    rcases ht with rfl | rfl <;> first | exact rda | exact rdf | exact rdi | exact rdA | exact rdb | exact rdp | exact rdk | exact rdq
  · intro ds hd
    match ds, hd with
    | [_, _], _ => rfl
  · intro W base args ds ps hval hn _
    obtain ⟨v0, v1, rfl⟩ : ∃ v0 v1, args = #[v0, v1] := arr2 hn
    obtain ⟨c0, rfl, hb0⟩ := open_floats Try.underlying82 rfl Try.underlying22 cells3 types3 (hval 0 82 v0 rfl rfl)
    obtain ⟨c1, rfl, hb1⟩ := open_floats Try.underlying82 rfl Try.underlying22 cells3 types3 (hval 1 82 v1 rfl rfl)
    simp only [vls3]
    exact lawSameParcel (c0 0) (c0 1) (c0 2) (hb0 0 (by decide)) (hb0 1 (by decide)) (hb0 2 (by decide)) (c1 0) (c1 1) (c1 2) (hb1 0 (by decide)) (hb1 1 (by decide)) (hb1 2 (by decide)) W

theorem over : Rows.fnExactSameParcelRow.holds Try.pinned (OpenSpec.ofChange Rows.fnExactSameParcelSpec) :=
  OpenClaim.holds_of_wide 16 Try.f16 rfl rfl rfl rfl rfl rfl rfl ⟨rfl, rfl, rfl, rfl, rfl⟩ rfl rfl rfl rfl rfl (by kernel_rfl) Try.func16 closed
    (of_decide_eq_true (by kernel_rfl)) (by unfold Func.isWrapper; rw [if_neg (by decide +kernel)]; exact ⟨rfl, rfl⟩)
    (fun os started H enc _ => lifted os started H enc)

theorem proved : Rows.FnExactSameParcelSaid := over
#print axioms proved
end Go.Proofs.Ytlccmhkjfnmdiaa.fnExactSameParcel
