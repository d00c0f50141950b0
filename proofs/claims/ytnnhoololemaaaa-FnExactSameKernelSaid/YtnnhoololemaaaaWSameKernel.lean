import Derived.Test.YtnnhoololemaaaaBSameKernel
import Derived.Test.YtnnhoololemaaaaChecked
import Derived.Test.YtnnhoololemaaaaRows
import Derived.Laws.FloatArith
import Derived.ProofKit
import Derived.WalkKit
import Derived.WalkLawsBesides
import Derived.WalkSpells
import Derived.Deep.QuietTactic
import Derived.BigQuiet
import Derived.Deep.RegionHeld3
import Derived.ChangeKeysEq
import Derived.Laws.BitsAllLaws
import Derived.Deep.MidRow
import Derived.StillTailTactics
import Derived.Deep.WholeRow
import Derived.OpenShut
/- The law FnExactSameKernel of chapter 1: at every argument the call returns true, and what was there before it is as it was. -/
namespace Go.Proofs.Ytnnhoololemaaaa
open Go.RowKit Go.Fl

@[go_sem] theorem ext_f64bits (y : Nat) (w : World) : (callFunc 203 #[.float .f64 y]).run Try.prog w = .ok (.value (.int .u64 y)) w := by
  rw [run_callFunc_extern Try.func203 (by kernel_rfl) (by kernel_rfl) (by kernel_rfl) (e := Extern.MathFloatBits.float64bits) (by kernel_rfl)]
  rfl

@[go_sem] theorem ext_f64from (n : Int) (w : World) : (callFunc 202 #[.int .u64 n]).run Try.prog w = .ok (.value (.float .f64 n.toNat)) w := by
  rw [run_callFunc_extern Try.func202 (by kernel_rfl) (by kernel_rfl) (by kernel_rfl) (e := Extern.MathFloatBits.float64frombits) (by kernel_rfl)]
  rfl

theorem hid {p : Prop} (h : p) : Hid p := h

theorem isNaN_f64 (y : Nat) (w : World) :
    Calls Try.prog 187 #[.float .f64 y] w fun e w' => e = .returned (.bool (FloatKind.f64.format.order y y != some .eq)) ∧ w = w' := by
  go_enter Try.func187, Try.ntmps187
  go_wp2
  go_ret
  exact ⟨rfl, rfl⟩

theorem info_f32 : ∃ i, Try.prog.info? 22 = some i ∧ i.size = 1 := by
  have h : (Try.prog.info? 22).map (·.size) = some 1 := by kernel_rfl
  cases hi : Try.prog.info? 22 with
  | none => rw [hi] at h; cases h
  | some i => rw [hi] at h; exact ⟨i, rfl, Option.some.inj h⟩

theorem ix (T : TypeId) (hT : Try.prog.underlying T = some (.array 20 22)) (c : Nat → Nat) (k : Nat) (hk : k < 20) (w : World) :
    (Instr.index T (.agg (fls c)) (.int .i64 (k : Int))).run Try.prog w = .ok (.float .f32 (c k)) w := by
  obtain ⟨i, h1, h2⟩ := info_f32
  exact run_index_arr hT Try.underlying22 rfl h1 h2 _ _ hk _ (fls_get c hk) w

theorem info_arr : (Try.prog.info? 29).map (·.size) = some 20 := by kernel_rfl

@[go_sem] theorem ext_f32bits (y : Nat) (w : World) : (callFunc 183 #[.float .f32 y]).run Try.prog w = .ok (.value (.int .u32 y)) w := by
  rw [run_callFunc_extern Try.func183 (by kernel_rfl) (by kernel_rfl) (by kernel_rfl) (e := Extern.MathFloatBits.float32bits) (by kernel_rfl)]
  rfl

theorem info_a20 : (Try.prog.info? 28).map (·.size) = some 20 := by kernel_rfl

theorem back {P : Program} {f : FuncId} {args : Array Value} {w : World} {v : Value} (h : Calls P f args w fun e w' => e = .returned v ∧ w = w') : Calls P f args w fun e w' => e = .returned v ∧ w' = w :=
  h.mono fun _ _ ⟨a, b⟩ => ⟨a, b.symm⟩

theorem sSame (a b : Nat) (ha : a < 4294967296) (hb : b < 4294967296) (w : World) :
    Calls Try.prog 132 #[.float .f32 a, .float .f32 b] w fun e w' => e = .returned (.bool (sameB a b)) ∧ w = w' := by
  have n1 := neq_self a ha
  have n2 := neq_self b hb
  have hq : ((a : Int) == (b : Int)) = decide (a = b) := by
    by_cases e : a = b
    · subst e; simp
    · simp [e]; omega
  have hs : sameB a b = if (nanB a || nanB b) = true then nanB a && nanB b else decide (a = b) := rfl
  have Hs := hid hs
  have Hq := hid hq
  clear ha hb hs hq
  rcases h1 : nanB a with _ | _ <;> rcases h2 : nanB b with _ | _ <;> rw [h1] at n1 <;> rw [h2] at n2 <;> rw [Hs.out, h1, h2] <;> clear Hs h1 h2
  · go_enter Try.func132, Try.ntmps132
    go_wp2
    go_ret
    exact ⟨by simp [← Hq.out], rfl⟩
  · go_enter Try.func132, Try.ntmps132
    go_wp2
    go_ret
    exact ⟨by simp, rfl⟩
  · go_enter Try.func132, Try.ntmps132
    go_wp2
    go_ret
    exact ⟨by simp, rfl⟩
  · go_enter Try.func132, Try.ntmps132
    go_wp2
    go_ret
    exact ⟨by simp, rfl⟩

theorem iBits (x : Nat) (hx : x < 4294967296) (w : World) :
    Calls Try.prog 215 #[.float .f32 x] w fun e w' => e = .returned (.int .u32 (nb x : Int)) ∧ Below w.heap.size w w' := by
  have hnb : nb x = if nanB x = true then 2143289344 else x := rfl
  rcases hn : nanB x with _ | _
  · have hle : mg x ≤ INF := by simpa [nanB] using hn
    rw [hn] at hnb
    have Hnb := hid hnb
    rcases Nat.lt_or_eq_of_le hle with h | h
    · have hc := fun w => run_conv_wid (P := Try.prog) w 22 26 x hx Try.underlying22 Try.underlying26 h
      obtain ⟨_, _, m, e, hr⟩ := read_wid_fin hx h
      have Hn := hid (show (FloatKind.f64.format.order (wid x) (wid x) != some .eq) = false by
        show (D.order (wid x) (wid x) != some .eq) = false
        rw [order_self hr]; rfl)
      clear hnb hn hle h hr hx
      go_enter Try.func215, Try.ntmps215
      go_wp2_with (go_at_call 187; refine (isNaN_f64 (wid x) _).mono ?_; rintro e w' ⟨rfl, rfl⟩; rw [Hn.out])
      go_ret
      exact ⟨by rw [Hnb.out]; simp, Below.refl _ _⟩
    · obtain ⟨z, hc, h1, h2⟩ := run_conv_inf (P := Try.prog) w 22 26 x hx Try.underlying22 Try.underlying26 h
      have hr : D.read z = .infinity (decide (9223372036854775808 ≤ z)) := by rw [read_signD h2, h1, read_DINF]
      have Hn := hid (show (FloatKind.f64.format.order z z != some .eq) = false by
        show (D.order z z != some .eq) = false
        rw [order_inf hr]; rfl)
      clear hnb hn hle h hr hx h1 h2
      go_enter Try.func215, Try.ntmps215
      go_wp2_with (go_at_call 187; refine (isNaN_f64 z _).mono ?_; rintro e w' ⟨rfl, rfl⟩; rw [Hn.out])
      go_ret
      exact ⟨by rw [Hnb.out]; simp, Below.refl _ _⟩
  · have h : INF < mg x := by simpa [nanB] using hn
    rw [hn] at hnb
    have Hnb := hid hnb
    obtain ⟨z, hc, h1, _⟩ := run_conv_nan (P := Try.prog) w 22 26 x Try.underlying22 Try.underlying26 h
    obtain ⟨s, t, hr⟩ := read_nanD h1
    have Hn := hid (show (FloatKind.f64.format.order z z != some .eq) = true by
      show (D.order z z != some .eq) = true
      rw [order_nan hr]; rfl)
    clear hnb hn h hr hx h1
    go_enter Try.func215, Try.ntmps215
    go_wp2_with (go_at_call 187; refine (isNaN_f64 z _).mono ?_; rintro e w' ⟨rfl, rfl⟩; rw [Hn.out])
    go_ret
    exact ⟨by rw [Hnb.out]; simp, (Below.refl _ _).drew⟩

/-- A whole array stored: the world behind it under a name of its own. -/
theorem store_abs {P : Program} {ops : Array Oper} {rest : List Oper} {o : Oper} {a : Act} {w : World} {Q : Exit → Act → World → Prop} (hgd : o.guard = none) (ty : TypeId) (x y : Operand) (ho : o.op = .store ty x y)
    (g : Nat) (d : Nat → Nat) (hx : a.eval x = .pointer (some ⟨g, 0, none⟩)) (hy : a.eval y = .agg (fls d)) (t : TypeId) (old : Nat → Nat) (hg : arrAt w g old t) (hi : (P.info? ty).map (·.size) = some 20)
    (h : ∀ w', w' = w.setRow g (fls d) → wpList P ops Q rest (a.put o.dst undef) w') : wpList P ops Q (o :: rest) a w :=
  wpList_store_row hgd ty x y ho g (fls d) hx hy t (fls old) hg (by rw [fls_size]; exact hi) (by simp) (fls_one d) (h _ rfl)

set_option maxRecDepth 100000 in
theorem toA20 (c : Nat → Nat) (w : World) :
    Calls Try.prog 36 #[.agg (fls c)] w fun e w' => e = .returned (.agg (fls c)) ∧ Below w.heap.size w w' := by
  have b0 : Below w.heap.size w (w.alloc (.cells (fls c) 28)) := (Below.refl _ _).alloc (Nat.le_refl _) _
  have a0 := hid (arrAt.new w c 28)
  go_enter Try.func36, Try.ntmps36
  go_wp2
  go_loopw [4] (fun i wr => ∃ k : Nat, k ≤ 20 ∧ i = .int .i64 k ∧ Hid (arrAt wr w.heap.size c 28) ∧ Hid (arrAt wr (w.heap.size + 1) (fun _ => 0) 28) ∧ Hid (arrAt wr (w.heap.size + 1 + 1) (cut c k) 28) ∧ Hid (Below w.heap.size w wr)) (fun i _ => 20 - (intOf i).toNat)
  case atStart =>
    refine ⟨0, by omega, rfl, hid ((a0.out.alloc _).alloc _), hid ?_, hid ?_, hid ((b0.alloc (by simp) _).alloc (by simp; omega) _)⟩
    · have := arrAt.new (w.alloc (.cells (fls c) 28)) (fun _ => 0) 28
      have e : (w.alloc (.cells (fls c) 28)).heap.size = w.heap.size + 1 := by simp
      rw [e] at this
      exact this.alloc _
    · have := arrAt.new ((w.alloc (.cells (fls c) 28)).alloc (.cells (fls fun _ => 0) 28)) (fun _ => 0) 28
      have e : ((w.alloc (.cells (fls c) 28)).alloc (.cells (fls fun _ => 0) 28)).heap.size = w.heap.size + 1 + 1 := by simp
      rw [e] at this
      exact this.ext (fun i _ => (cut_zero' c i).symm)
  case round =>
    obtain ⟨k, hk, rfl, h0, h1, h2, hb⟩ := hrel
    by_cases hlt : k < 20
    · have q0 := h0.out.cell hlt
      have q2 := h2.out.cell hlt
      have f2 := h2.out.frozen k
      go_wp2
      go_roundw
      case rel => exact ⟨k + 1, by omega, by go_num, hid (h0.out.setOther (by simp; omega) _), hid (h1.out.setOther (by simp) _), hid ((h2.out.set k (c k)).ext (fun i _ => cut_succ c k i)), hid (hb.out.setCell (by simp; omega) _)⟩
      case measure => simp [intOf]; omega
    · obtain rfl : k = 20 := by omega
      have h2' := hid (h2.out.ext (cut_all c))
      clear h2
      go_wp2_with (first | (refine wpList_load_row rfl 28 _ rfl (w.heap.size + 1 + 1) rfl 28 (fls c) (0, 0) _ h2'.out Try.underlying28 rfl (by rw [fls_size]; exact info_a20) ?_) | (refine wpList_store_row rfl 28 _ _ rfl (w.heap.size + 1) (fls c) rfl rfl 28 _ h1.out (by rw [fls_size]; exact info_a20) (by simp) (fls_one c) ?_))
      exact bodyPost_ret (results_cell_row rfl _ _ (w.heap.size + 1) 28 (fls c) (0, 0) _ rfl (h1.out.setRow c) Try.underlying28 rfl (by rw [fls_size]; exact info_a20)) rfl ⟨rfl, below_row hb.out (by omega) _⟩

theorem info_kern : (Try.prog.info? 53).map (·.size) = some 400 := by kernel_rfl

theorem info_k20 : (Try.prog.info? 51).map (·.size) = some 400 := by kernel_rfl

@[go_sem] theorem zero_kern : Try.zeroCells53 = vls 400 (flw fun _ => 0) := by kernel_rfl

set_option maxRecDepth 100000 in
theorem toKernel (c : Nat → Nat) (w : World) :
    Calls Try.prog 51 #[.agg (vls 400 (flw c))] w fun e w' => e = .returned (.agg (vls 400 (flw c))) ∧ Below w.heap.size w w' := by
  have A0 := hid (((vAt.new w 400 (flw c) 51).alloc (.cells (vls 400 (flw fun _ => 0)) 53)).alloc (.cells (vls 400 (flw fun _ => 0)) 53))
  have A1 := hid ((vAt.new1 w (.cells (vls 400 (flw c)) 51) 400 (flw fun _ => 0) 53).alloc (.cells (vls 400 (flw fun _ => 0)) 53))
  have A2 := hid (vAt.new2 w (.cells (vls 400 (flw c)) 51) (.cells (vls 400 (flw fun _ => 0)) 53) 400 (flw fun _ => 0) 53)
  have b0 := boxed3 w (.cells (vls 400 (flw c)) 51) (.cells (vls 400 (flw fun _ => 0)) 53) (.cells (vls 400 (flw fun _ => 0)) 53)
  go_enter Try.func51, Try.ntmps51
  go_wp2_with fail
  go_loopw [4] (fun i wr => ∃ k : Nat, k ≤ 20 ∧ i = .int .i64 k ∧ Hid (vAt wr w.heap.size 400 (flw c) 51) ∧ Hid (vAt wr (w.heap.size + 1) 400 (flw fun _ => 0) 53) ∧ Hid (vAt wr (w.heap.size + 1 + 1) 400 (flw (rowsP c (fun _ => 0) k)) 53) ∧ Hid (Below w.heap.size w wr)) (fun i _ => 20 - (intOf i).toNat)
  case atStart => exact ⟨0, by omega, rfl, A0, A1, hid (A2.out.ext fun i _ => by unfold flw; rw [rowsP_zero]), hid b0⟩
  case round =>
    obtain ⟨k, hk, rfl, h0, h1, h2, hb⟩ := hrel
    by_cases hlt : k < 20
    · go_wp2_with (refine wpList_load_krow rfl 28 _ rfl w.heap.size k rfl c 51 h0.out hlt _ Try.underlying28 rfl info_a20 ?_)
      refine (toA20 (rowK c k) _).mono ?_
      rintro e w1 ⟨rfl, hb1⟩
      have g0 := hid (h0.out.stay hb1)
      have g1 := hid (h1.out.stay hb1)
      have g2 := hid (h2.out.stay hb1)
      have c1 := stp hb.out (Nat.le_refl _) hb1
      have n0 := hid (g0.out.setPartOther (k := w.heap.size + 1 + 1) (by omega) (k * 20) (fls (rowK c k)).toList)
      have n1 := hid (g1.out.setPartOther (k := w.heap.size + 1 + 1) (by omega) (k * 20) (fls (rowK c k)).toList)
      have n2 := hid g2.out.setKRow
      have nb := below_cells (g := w.heap.size + 1 + 1) (by omega) (fls (rowK c k)).toList (k * 20) c1
      clear h0 h1 h2 hb
      go_wp2_with (refine wpList_store_krow rfl 28 _ _ rfl (w.heap.size + 1 + 1) k (rowK c k) rfl rfl (rowsP c (fun _ => 0) k) 53 g2.out hlt info_a20 ?_; intro w9 hw9; rw [← hw9] at n0 n1 n2 nb; clear hw9 g0 g1 g2)
      go_roundw
      case rel => exact ⟨k + 1, by omega, by go_num, n0, n1, n2, hid nb⟩
      case measure => simp [intOf]; omega
    · obtain rfl : k = 20 := by omega
      have h2' := hid (h2.out.ext (d := flw c) fun i hi => by unfold flw; rw [rowsP_all _ _ i hi])
      clear h2
      go_wp2_with (first | (refine wpList_load_row rfl 53 _ rfl (w.heap.size + 1 + 1) rfl 53 (vls 400 (flw c)) (0, 0) _ h2'.out Try.underlying53 rfl (by rw [vls_size]; exact info_kern) ?_) | (refine wpList_store_row rfl 53 _ _ rfl (w.heap.size + 1) (vls 400 (flw c)) rfl rfl 53 _ h1.out (by rw [vls_size]; exact info_kern) (by simp) (vls_one (flw_one c)) ?_))
      exact bodyPost_ret (results_cell_row rfl _ _ (w.heap.size + 1) 53 (vls 400 (flw c)) (0, 0) _ rfl (h1.out.setRow (flw c)) Try.underlying53 rfl (by rw [vls_size]; exact info_kern)) rfl ⟨rfl, below_row hb.out (by omega) _⟩

theorem sSame_is (a b : Nat) (ha : a < 4294967296) (hb : b < 4294967296) (q : Bool) (hq : sameB a b = q) (w : World) :
    Calls Try.prog 132 #[.float .f32 a, .float .f32 b] w fun e w' => e = .returned (.bool q) ∧ w = w' := hq ▸ sSame a b ha hb w

theorem info_u32 : ∃ i, Try.prog.info? 101 = some i ∧ i.size = 1 := by
  have h : (Try.prog.info? 101).map (·.size) = some 1 := by kernel_rfl
  cases hi : Try.prog.info? 101 with
  | none => rw [hi] at h; cases h
  | some i => rw [hi] at h; exact ⟨i, rfl, Option.some.inj h⟩

theorem info_u20 : (Try.prog.info? 136).map (·.size) = some 20 := by kernel_rfl

set_option maxRecDepth 100000 in
theorem iBitsOfSizes (c : Nat → Nat) (hc : ∀ i, i < 20 → c i < 4294967296) (w : World) :
    Calls Try.prog 200 #[.agg (fls c)] w fun e w' => e = .returned (.agg (vls 20 (ilv fun i => nb (c i)))) ∧ Below w.heap.size w w' := by
  have A0 := hid (((arrAt.new w c 29).alloc (.cells (vls 20 fun _ => .int .u32 0) 136)).alloc (.cells (vls 20 fun _ => .int .u32 0) 136))
  have A1 := hid ((vAt.new1 w (.cells (fls c) 29) 20 (fun _ => .int .u32 0) 136).alloc (.cells (vls 20 fun _ => .int .u32 0) 136))
  have A2 := hid (vAt.new2 w (.cells (fls c) 29) (.cells (vls 20 fun _ => .int .u32 0) 136) 20 (fun _ => .int .u32 0) 136)
  have b0 := boxed3 w (.cells (fls c) 29) (.cells (vls 20 fun _ => .int .u32 0) 136) (.cells (vls 20 fun _ => .int .u32 0) 136)
  have HC := hid hc
  clear hc
  go_enter Try.func200, Try.ntmps200
  go_wp2_with (refine wpList_load_row rfl 29 _ rfl (w.heap.size) rfl 29 (fls c) (0, 0) _ A0.out Try.underlying29 rfl (by rw [fls_size]; exact info_arr) ?_)
  go_loopw [7] (fun i wr => ∃ k : Nat, k ≤ 20 ∧ i = .int .i64 k ∧ Hid (vAt wr (w.heap.size + 1) 20 (fun _ => .int .u32 0) 136) ∧ Hid (vAt wr (w.heap.size + 1 + 1) 20 (prtV (ilv fun i => nb (c i)) (fun _ => .int .u32 0) k) 136) ∧ Hid (Below w.heap.size w wr)) (fun i _ => 20 - (intOf i).toNat)
  case atStart => exact ⟨0, by omega, rfl, A1, hid (A2.out.ext (fun i _ => (prtV_zero (ilv fun i => nb (c i)) (fun _ => .int .u32 0) i).symm)), hid b0⟩
  case round =>
    obtain ⟨k, hk, rfl, h1, h2, hb⟩ := hrel
    by_cases hlt : k < 20
    · have hix := ix 29 Try.underlying29 c k hlt
      go_wp2_with fail
      refine (iBits (c k) (HC.out k hlt) _).mono ?_
      rintro e w1 ⟨rfl, hb1⟩
      have B1 := hid (h1.out.stay hb1)
      have B2 := hid (h2.out.stay hb1)
      have q2 := B2.out.cell hlt
      have f2 := B2.out.frozen k
      go_wp2
      go_roundw
      case rel => exact ⟨k + 1, by omega, by go_num, hid (B1.out.setOther (by simp) _), hid ((B2.out.set k (.int .u32 (nb (c k)))).ext (fun i _ => prtV_succ (ilv fun i => nb (c i)) _ k i)), hid ((stp hb.out (Nat.le_refl _) hb1).setCell (by simp; omega) _)⟩
      case measure => simp [intOf]; omega
    · obtain rfl : k = 20 := by omega
      have g2 := hid (h2.out.ext (prtV_all _ _ 20))
      clear h2
      go_wp2_with (first | (refine wpList_load_row rfl 136 _ rfl (w.heap.size + 1 + 1) rfl 136 (vls 20 (ilv fun i => nb (c i))) (0, 0) _ g2.out Try.underlying136 rfl (by rw [vls_size]; exact info_u20) ?_) | (refine wpList_store_row rfl 136 _ _ rfl (w.heap.size + 1) (vls 20 (ilv fun i => nb (c i))) rfl rfl 136 _ h1.out (by rw [vls_size]; exact info_u20) (by simp) (vls_one (fun _ => rfl)) ?_))
      exact bodyPost_ret (results_cell_row rfl _ _ (w.heap.size + 1) 136 (vls 20 (ilv fun i => nb (c i))) (0, 0) _ rfl (h1.out.setRow _) Try.underlying136 rfl (by rw [vls_size]; exact info_u20)) rfl ⟨rfl, below_row hb.out (by omega) _⟩

theorem ixk (c : Nat → Nat) (k : Nat) (hk : k < 20) (w : World) :
    (Instr.index 53 (.agg (vls 400 (flw c))) (.int .i64 (k : Int))).run Try.prog w = .ok (.agg (fls (rowK c k))) w :=
  run_index_row Try.underlying53 Try.underlying28 rfl info_a20 400 (flw c) k hk (by omega) w

theorem run_toKernel1 (a : Act) (x0 : Operand) (v0 : Value) (h0 : a.eval x0 = v0) (d : Option Tmp) (ats : Array TypeId) (t : TypeId) (ps : String) (af : Array Edge) (gd : Option (Nat × Bool)) (w : World) :
    (execOp a.eval ⟨d, .call { callee := .value (.func 51), args := #[x0], argTypes := ats }, t, ps, af, gd⟩).run Try.prog w = .ok (.enter 51 #[v0]) w := by
  subst h0
  unfold execOp
  go_simp

theorem info_u400 : (Try.prog.info? 137).map (·.size) = some 400 := by kernel_rfl

@[go_sem] theorem zero_u400 : Try.zeroCells137 = vls 400 (fun _ => .int .u32 0) := by kernel_rfl

set_option maxHeartbeats 1000000 in
set_option maxRecDepth 100000 in
theorem iBitsOfKernel (c : Nat → Nat) (hc : ∀ i, i < 400 → c i < 4294967296) (w : World) :
    Calls Try.prog 133 #[.agg (vls 400 (flw c))] w fun e w' => e = .returned (.agg (vls 400 (ilv fun n => nb (c n)))) ∧ Below w.heap.size w w' := by
  have A0 := hid (((vAt.new w 400 (flw c) 53).alloc (.cells (vls 400 fun _ => .int .u32 0) 137)).alloc (.cells (vls 400 fun _ => .int .u32 0) 137))
  have A1 := hid ((vAt.new1 w (.cells (vls 400 (flw c)) 53) 400 (fun _ => .int .u32 0) 137).alloc (.cells (vls 400 fun _ => .int .u32 0) 137))
  have A2 := hid (vAt.new2 w (.cells (vls 400 (flw c)) 53) (.cells (vls 400 fun _ => .int .u32 0) 137) 400 (fun _ => .int .u32 0) 137)
  have b0 := boxed3 w (.cells (vls 400 (flw c)) 53) (.cells (vls 400 fun _ => .int .u32 0) 137) (.cells (vls 400 fun _ => .int .u32 0) 137)
  have HC := hid hc
  clear hc
  go_enter Try.func133, Try.ntmps133
  go_wp2_with (refine wpList_load_row rfl 53 _ rfl (w.heap.size) rfl 53 (vls 400 (flw c)) (0, 0) _ A0.out Try.underlying53 rfl (by rw [vls_size]; exact info_kern) ?_)
  go_loopw [7] (fun i wr => ∃ k : Nat, k ≤ 20 ∧ i = .int .i64 k ∧ Hid (vAt wr (w.heap.size + 1 + 1) 400 (bitsP c k) 137) ∧ Hid (vAt wr (w.heap.size + 1) 400 (fun _ => .int .u32 0) 137) ∧ Hid (Below w.heap.size w wr)) (fun i _ => 20 - (intOf i).toNat)
  case atStart => exact ⟨0, by omega, rfl, hid (A2.out.ext fun i _ => (bitsP_zero c i).symm), A1, hid b0⟩
  case round =>
    obtain ⟨k, hk, rfl, g2, g1, hb⟩ := hrel
    by_cases hlt : k < 20
    · have HK := hid hlt
      have hk3 : (k : Int) < 20 := by omega
      have hix := ixk c k hlt
      have N0 := hid (arrAt.new wr (fun _ => 0) 28)
      have P0 := hid (N0.out.setRow (rowK c k))
      have n2 := hid ((g2.out.alloc (.cells (fls fun _ => 0) 28)).setRowOther (k := wr.heap.size) (Nat.ne_of_lt g2.out.lt) (fls (rowK c k)))
      have n1 := hid ((g1.out.alloc (.cells (fls fun _ => 0) 28)).setRowOther (k := wr.heap.size) (Nat.ne_of_lt g1.out.lt) (fls (rowK c k)))
      have nb1 := below_row (hb.out.alloc hb.out.size (.cells (fls fun _ => 0) 28)) hb.out.size (g := wr.heap.size) (fls (rowK c k))
      clear A0 A1 A2
      have tok1 : True := trivial
      go_wp2_with (first | (have _t := P1; refine wpList_load_row rfl 28 _ rfl (wr.heap.size) rfl 28 (fls (rowK c k)) (0, 0) _ P1.out Try.underlying28 rfl (by rw [fls_size]; exact info_a20) ?_) | (have _t := tok1; refine store_abs rfl 28 _ _ rfl wr.heap.size (rowK c k) rfl rfl 28 _ N0.out info_a20 ?_; intro w9 hw9; rw [← hw9] at P0 n2 n1 nb1; clear hw9 N0 g1 g2 hb tok1; have P1 := hid P0.out))
      refine (iBitsOfSizes (rowK c k) (fun i hi => HC.out _ (by have := HK.out; omega)) _).mono ?_
      rintro e w3 ⟨rfl, hb3⟩
      have n2 := hid (n2.out.stay hb3)
      have n1 := hid (n1.out.stay hb3)
      have nb2 := stp nb1 (Nat.le_refl _) hb3
      rw [show (vls 20 (ilv fun i => nb (rowK c k i))) = vls 20 (bitRow c k) from rfl]
      have m2 := hid n2.out.setBits
      have m1 := hid (n1.out.setPartOther (k := w.heap.size + 1 + 1) (by simp) (k * 20) (vls 20 (bitRow c k)).toList)
      have mb := below_cells (g := w.heap.size + 1 + 1) (by omega) (vls 20 (bitRow c k)).toList (k * 20) nb2
      have hkk := HK.out
      clear hix P0 P1
      have tok2 : True := trivial
      go_wp2_with (have _t := tok2; refine wpList_store_bits rfl 136 _ _ rfl (w.heap.size + 1 + 1) k c rfl rfl 137 n2.out hkk info_u20 ?_; intro w9 hw9; rw [← hw9] at m2 m1 mb; clear hw9 n2 n1 nb1 nb2 tok2)
      go_roundw
      case rel => exact ⟨k + 1, by omega, by go_num, m2, m1, hid mb⟩
      case measure => simp [intOf]; omega
    · obtain rfl : k = 20 := by omega
      have n2 := hid (g2.out.ext (d := ilv fun n => nb (c n)) fun n hn => bitsP_all c n hn)
      clear g2
      go_wp2_with (first | (refine wpList_load_row rfl 137 _ rfl (w.heap.size + 1 + 1) rfl 137 (vls 400 (ilv fun n => nb (c n))) (0, 0) _ n2.out Try.underlying137 rfl (by rw [vls_size]; exact info_u400) ?_) | (refine wpList_store_row rfl 137 _ _ rfl (w.heap.size + 1) (vls 400 (ilv fun n => nb (c n))) rfl rfl 137 _ g1.out (by rw [vls_size]; exact info_u400) (by simp) (vls_one (fun _ => rfl)) ?_))
      exact bodyPost_ret (results_cell_row rfl _ _ (w.heap.size + 1) 137 (vls 400 (ilv fun n => nb (c n))) (0, 0) _ rfl (g1.out.setRow (ilv fun n => nb (c n))) Try.underlying137 rfl (by rw [vls_size]; exact info_u400)) rfl ⟨rfl, below_row hb.out (by omega) _⟩

theorem eq_bits400 (c d : Nat → Nat) (w : World) : (binOp .eql 137 (.agg (vls 400 (ilv c))) (.agg (vls 400 (ilv d)))).run Try.prog w = .ok (.bool (eqB c d)) w := by
  have hR : (Try.prog.info? 136).map (·.size) = some 20 := info_u20
  cases hi : Try.prog.info? 136 with
  | none => rw [hi] at hR; cases hR
  | some iR =>
    rw [hi] at hR
    obtain ⟨iE, h1, _⟩ := info_u32
    exact run_eq_bits Try.underlying137 Try.underlying136 Try.underlying101 hi (by simpa using hR) h1 (by kernel_rfl) (by kernel_rfl) c d w

theorem run_bits (a : Act) (p : Tmp) (v : Value) (hx : a.eval (.tmp p) = v) (d : Option Tmp) (ats : Array TypeId) (t : TypeId) (ps : String) (af : Array Edge) (gd : Option (Nat × Bool)) (w : World) :
    (execOp a.eval ⟨d, .call { callee := .value (.func 133), args := #[.tmp p], argTypes := ats }, t, ps, af, gd⟩).run Try.prog w = .ok (.enter 133 #[v]) w := by
  have hx' : a.tmps[p]?.getD undef = v := by rw [← hx]; simp [Act.eval]
  clear hx
  unfold execOp
  go_simp

set_option maxHeartbeats 1000000 in
set_option maxRecDepth 100000 in
theorem iSameKernel (c d : Nat → Nat) (hc : ∀ i, i < 400 → c i < 4294967296) (hd : ∀ i, i < 400 → d i < 4294967296) (w : World) :
    Calls Try.prog 54 #[.agg (vls 400 (flw c)), .agg (vls 400 (flw d))] w fun e w' => e = .returned (.bool (sameK c d)) ∧ Below w.heap.size w w' := by
  have k0 : Hid (Kept w [(w.heap.size, vls 400 (flw c), 53), (w.heap.size + 1, vls 400 (flw d), 53)] ((w.alloc (.cells (vls 400 (flw c)) 53)).alloc (.cells (vls 400 (flw d)) 53))) := hid ((((Kept.nil w).push _ _).push _ _).sub (by simp))
  have HC := hid hc
  have HD := hid hd
  clear hc hd
  go_enter Try.func54, Try.ntmps54
  go_wp2_with fail
  refine region_kept (w0 := w) (l := [(w.heap.size, vls 400 (flw c), 53), (w.heap.size + 1, vls 400 (flw d), 53)]) 6 #[false, false, false, false, false, false] (by kernel_rfl) rfl rfl ?_
  have kd := k0.out.drew
  clear k0
  generalize ((w.alloc (.cells (vls 400 (flw c)) 53)).alloc (.cells (vls 400 (flw d)) 53)).drew = wd at kd ⊢
  refine take_load 0 _ _ rfl (by rfl) (by kernel_rfl) (by kernel_rfl) (by kernel_rfl) 53 _ rfl w.heap.size (vls 400 (flw c)) 53 (by rfl) (by simp) _ Try.underlying53 rfl (by rw [vls_size]; exact info_kern) rfl rfl kd ?_
  refine take_load 2 _ _ rfl (by rfl) (by kernel_rfl) (by kernel_rfl) (by kernel_rfl) 53 _ rfl (w.heap.size + 1) (vls 400 (flw d)) 53 (by rfl) (by simp) _ Try.underlying53 rfl (by rw [vls_size]; exact info_kern) rfl rfl kd ?_
  simp only [Act.put, List.setIfInBounds_toArray, List.set_cons_zero, List.set_cons_succ]
  refine wpAnyH_ready (rs := [1]) (by kernel_rfl) (by simp) ?_
  refine callK 1 _ _ (.agg (vls 400 (ilv fun n => nb (c n)))) kd rfl (by rfl) 133 #[.agg (vls 400 (flw c))] (fun w => run_bits _ 5 _ (by rfl) _ _ _ _ _ _ w) rfl rfl ?hc (fun w1 k1 => ?_) AllReadyH.nil
  case hc => exact iBitsOfKernel c HC.out _
  refine ⟨k1, ?_⟩
  simp only [Act.put, List.setIfInBounds_toArray, List.set_cons_zero, List.set_cons_succ]
  refine wpAnyH_ready (rs := [3]) (by kernel_rfl) (by simp) ?_
  refine callK 3 _ _ (.agg (vls 400 (ilv fun n => nb (d n)))) k1 rfl (by rfl) 133 #[.agg (vls 400 (flw d))] (fun w => run_bits _ 7 _ (by rfl) _ _ _ _ _ _ w) rfl rfl ?hc2 (fun w2 k2 => ?_) AllReadyH.nil
  case hc2 => exact iBitsOfKernel d HD.out _
  refine ⟨k2, ?_⟩
  simp only [Act.put, List.setIfInBounds_toArray, List.set_cons_zero, List.set_cons_succ]
  refine take_val 4 _ _ (.bool (eqB (fun n => nb (c n)) (fun n => nb (d n)))) rfl (by rfl) (by kernel_rfl) (by kernel_rfl) (by kernel_rfl) (fun w => run_binop_val _ _ _ _ (by rfl) (by rfl) (run_eqGuard_agg _ _ _ _ _ _ _ (by kernel_rfl)) (eq_bits400 _ _ w)) rfl rfl k2 ?_
  refine take_val 5 _ _ (.bool (eqB (fun n => nb (c n)) (fun n => nb (d n)))) rfl (by rfl) (by kernel_rfl) (by kernel_rfl) (by kernel_rfl) (fun w => by rfl) rfl rfl k2 ?_
  refine wpAnyH_done (by kernel_rfl) (NoPanic.normal ?_) _
  simp only [Act.put, List.setIfInBounds_toArray, List.set_cons_zero, List.set_cons_succ]
  rw [eqB_same]
  go_wp2
  go_ret
  exact ⟨rfl, k2.1⟩

set_option maxHeartbeats 1000000 in
set_option maxRecDepth 100000 in
theorem sSameKernel (c d : Nat → Nat) (hc : ∀ i, i < 400 → c i < 4294967296) (hd : ∀ i, i < 400 → d i < 4294967296) (w : World) :
    Calls Try.prog 53 #[.agg (vls 400 (flw c)), .agg (vls 400 (flw d))] w fun e w' => e = .returned (.bool (sameK c d)) ∧ Below w.heap.size w w' := by
  have A0 := hid ((vAt.new w 400 (flw c) 53).alloc (.cells (vls 400 (flw d)) 53))
  have A1 := hid (vAt.new1 w (.cells (vls 400 (flw c)) 53) 400 (flw d) 53)
  have b0 := boxed2 w (.cells (vls 400 (flw c)) 53) (.cells (vls 400 (flw d)) 53)
  have HC := hid hc
  have HD := hid hd
  clear hc hd
  go_enter Try.func53, Try.ntmps53
  go_wp2_with fail
  go_loopw [5] (fun i wr => ∃ k : Nat, k ≤ 20 ∧ i = .int .i64 k ∧ Hid (∀ i j, i < k → j < 20 → sameB (c (i * 20 + j)) (d (i * 20 + j)) = true) ∧ Hid (vAt wr w.heap.size 400 (flw c) 53) ∧ Hid (vAt wr (w.heap.size + 1) 400 (flw d) 53) ∧ Hid (Below w.heap.size w wr)) (fun i _ => 20 - (intOf i).toNat)
  case atStart => exact ⟨0, by omega, rfl, hid (fun i j hi => by omega), A0, A1, hid b0⟩
  case round =>
    obtain ⟨k, hk, rfl, hA, h0, h1, hb⟩ := hrel
    clear A0 A1 b0
    by_cases hlt : k < 20
    · have HK := hid hlt
      have hk3 : (k : Int) < 20 := by omega
      go_wp2_with fail
      go_loopw [6] (fun i wr => ∃ j : Nat, j ≤ 20 ∧ i = .int .i64 j ∧ Hid (∀ i, i < j → sameB (c (k * 20 + i)) (d (k * 20 + i)) = true) ∧ Hid (vAt wr w.heap.size 400 (flw c) 53) ∧ Hid (vAt wr (w.heap.size + 1) 400 (flw d) 53) ∧ Hid (Below w.heap.size w wr)) (fun i _ => 20 - (intOf i).toNat)
      case atStart => exact ⟨0, by omega, rfl, hid (fun i hi => by omega), h0, h1, hb⟩
      case round =>
        clear h0 h1 hb
        obtain ⟨j, hj, rfl, hR, h0, h1, hb⟩ := hrel
        by_cases hlj : j < 20
        · have HJ := hid hlj
          have hj3 : (j : Int) < 20 := by omega
          have q0 := h0.out.fcell (k := k * 20 + j) (by omega)
          have q1 := h1.out.fcell (k := k * 20 + j) (by omega)
          rcases hs : sameB (c (k * 20 + j)) (d (k * 20 + j)) with _ | _
          · have HS := hid hs
            clear hs
            go_wp2_with fail
            go_quiet ((go_at_call 132; exact Calls.quiet_of_same (back (sSame_is _ _ (HC.out _ (by have := HK.out; have := HJ.out; omega)) (HD.out _ (by have := HK.out; have := HJ.out; omega)) false HS.out _))))
            go_wp2
            go_ret
            exact ⟨by rw [sameK_f HK.out HJ.out HS.out]; rfl, below_drewN hb.out _⟩
          · have HS := hid hs
            have HR2 : Hid (∀ i, i < j + 1 → sameB (c (k * 20 + i)) (d (k * 20 + i)) = true) := hid (all_step hR.out hs)
            clear hs
            go_wp2_with fail
            go_quiet ((go_at_call 132; exact Calls.quiet_of_same (back (sSame_is _ _ (HC.out _ (by have := HK.out; have := HJ.out; omega)) (HD.out _ (by have := HK.out; have := HJ.out; omega)) true HS.out _))))
            go_wp2
            go_roundw
            case rel => exact ⟨j + 1, by omega, by go_num, HR2, h0, h1, hid (below_drewN hb.out _)⟩
            case measure => simp [intOf]; omega
        · obtain rfl : j = 20 := by omega
          have HA2 : Hid (∀ i j, i < k + 1 → j < 20 → sameB (c (i * 20 + j)) (d (i * 20 + j)) = true) := hid fun i j hi hj => by
            rcases Nat.lt_or_eq_of_le (Nat.le_of_lt_succ hi) with h | h
            · exact hA.out i j h hj
            · rw [h]; exact hR.out j hj
          go_wp2
          go_roundw
          case rel => exact ⟨k + 1, by omega, by go_num, HA2, h0, h1, hb⟩
          case measure => simp [intOf]; omega
    · obtain rfl : k = 20 := by omega
      have HT := hid (sameK_t hA.out)
      go_wp2
      go_ret
      exact ⟨by rw [HT.out]; rfl, hb.out⟩

theorem run_sSameKernel2 (a : Act) (x0 : Operand) (v0 : Value) (h0 : a.eval x0 = v0) (x1 : Operand) (v1 : Value) (h1 : a.eval x1 = v1) (d : Option Tmp) (ats : Array TypeId) (t : TypeId) (ps : String) (af : Array Edge) (gd : Option (Nat × Bool)) (w : World) :
    (execOp a.eval ⟨d, .call { callee := .value (.func 53), args := #[x0, x1], argTypes := ats }, t, ps, af, gd⟩).run Try.prog w = .ok (.enter 53 #[v0, v1]) w := by
  subst h0 h1
  unfold execOp
  go_simp

theorem run_iSameKernel2 (a : Act) (x0 : Operand) (v0 : Value) (h0 : a.eval x0 = v0) (x1 : Operand) (v1 : Value) (h1 : a.eval x1 = v1) (d : Option Tmp) (ats : Array TypeId) (t : TypeId) (ps : String) (af : Array Edge) (gd : Option (Nat × Bool)) (w : World) :
    (execOp a.eval ⟨d, .call { callee := .value (.func 54), args := #[x0, x1], argTypes := ats }, t, ps, af, gd⟩).run Try.prog w = .ok (.enter 54 #[v0, v1]) w := by
  subst h0 h1
  unfold execOp
  go_simp

set_option maxRecDepth 100000 in
set_option maxHeartbeats 2000000 in
theorem coreSameKernel (x0 : Nat → Nat) (x1 : Nat → Nat) (r0 : Bool)
    (hS : ∀ w, Calls Try.prog 53 #[.agg (vls 400 (flw x0)), .agg (vls 400 (flw x1))] w fun e w' => e = .returned (.bool r0) ∧ Below w.heap.size w w')
    (hI : ∀ w, Calls Try.prog 54 #[.agg (vls 400 (flw x0)), .agg (vls 400 (flw x1))] w fun e w' => e = .returned (.bool r0) ∧ Below w.heap.size w w') (w : World) :
    Calls Try.prog 10 #[.agg (vls 400 (flw x0)), .agg (vls 400 (flw x1))] w fun e w' => e = .returned (.bool true) ∧ Below w.heap.size w w' := by
  have k0 : Hid (Kept w [(w.heap.size, vls 400 (flw x0), 51), (w.heap.size + 1, vls 400 (flw x1), 51)] ((w.alloc (.cells (vls 400 (flw x0)) 51)).alloc (.cells (vls 400 (flw x1)) 51))) := hid ((((Kept.nil w).push (vls 400 (flw x0)) 51).push (vls 400 (flw x1)) 51).sub (by simp))
  have HS := hid hS
  have HI := hid hI
  clear hS hI
  go_enter Try.func10, Try.ntmps10
  go_wp2_with fail
  rename_i Q1 K1 hK1
  have key1 : ∀  (w1 : World), Hid (Kept w [(w.heap.size, vls 400 (flw x0), 51), (w.heap.size + 1, vls 400 (flw x1), 51)] w1) → K1 { tmps := (.agg (vls 400 (flw x0)) :: .agg (vls 400 (flw x1)) :: .pointer (some ⟨w.heap.size, 0, none⟩) :: .pointer (some ⟨w.heap.size + 1, 0, none⟩) :: .bool false :: .bool r0 :: undef :: .agg (vls 400 (flw x0)) :: .agg (vls 400 (flw x0)) :: .agg (vls 400 (flw x1)) :: .agg (vls 400 (flw x1)) :: .bool r0 :: undef :: undef :: undef :: undef :: undef :: undef :: undef :: undef :: []).toArray, defers := [] } w1 := by
    intro  w1 k1
    clear k0
    go_wp2_with fail
    rename_i K2 hK2
    have key2 : ∀  (w2 : World), Hid (Kept w [(w.heap.size, vls 400 (flw x0), 51), (w.heap.size + 1, vls 400 (flw x1), 51)] w2) → K2 { tmps := (.agg (vls 400 (flw x0)) :: .agg (vls 400 (flw x1)) :: .pointer (some ⟨w.heap.size, 0, none⟩) :: .pointer (some ⟨w.heap.size + 1, 0, none⟩) :: .bool false :: .bool r0 :: .bool r0 :: .agg (vls 400 (flw x0)) :: .agg (vls 400 (flw x0)) :: .agg (vls 400 (flw x1)) :: .agg (vls 400 (flw x1)) :: .bool r0 :: .agg (vls 400 (flw x0)) :: .agg (vls 400 (flw x0)) :: .agg (vls 400 (flw x1)) :: .agg (vls 400 (flw x1)) :: .bool r0 :: undef :: undef :: undef :: []).toArray, defers := [] } w2 := by
      intro  w2 k2
      clear k1 HS HI
      cases r0
      all_goals go_wp2
      all_goals go_ret
      all_goals exact ⟨rfl, k2.out.1⟩
    refine region_kept (w0 := w) (l := [(w.heap.size, vls 400 (flw x0), 51), (w.heap.size + 1, vls 400 (flw x1), 51)]) 6 #[false, false, false, false, false, false] (by kernel_rfl) rfl rfl ?_
    have kd := k1.out.drew
    clear k1
    generalize w1.drew = wd at kd ⊢
    refine take_load 0 { tmps := (.agg (vls 400 (flw x0)) :: .agg (vls 400 (flw x1)) :: .pointer (some ⟨w.heap.size, 0, none⟩) :: .pointer (some ⟨w.heap.size + 1, 0, none⟩) :: .bool false :: .bool r0 :: undef :: .agg (vls 400 (flw x0)) :: .agg (vls 400 (flw x0)) :: .agg (vls 400 (flw x1)) :: .agg (vls 400 (flw x1)) :: .bool r0 :: .agg (vls 400 (flw x0)) :: undef :: undef :: undef :: undef :: undef :: undef :: undef :: []).toArray, defers := [] } #[true, false, false, false, false, false] rfl (by rfl) (by kernel_rfl) (by kernel_rfl) (by kernel_rfl) 51 _ rfl (w.heap.size) (vls 400 (flw x0)) 51 (by rfl) (by simp) _ Try.underlying51 rfl (by rw [vls_size]; exact info_k20) (by rfl) (by rfl) (kd) ?_
    refine take_load 2 { tmps := (.agg (vls 400 (flw x0)) :: .agg (vls 400 (flw x1)) :: .pointer (some ⟨w.heap.size, 0, none⟩) :: .pointer (some ⟨w.heap.size + 1, 0, none⟩) :: .bool false :: .bool r0 :: undef :: .agg (vls 400 (flw x0)) :: .agg (vls 400 (flw x0)) :: .agg (vls 400 (flw x1)) :: .agg (vls 400 (flw x1)) :: .bool r0 :: .agg (vls 400 (flw x0)) :: undef :: .agg (vls 400 (flw x1)) :: undef :: undef :: undef :: undef :: undef :: []).toArray, defers := [] } #[true, false, true, false, false, false] rfl (by rfl) (by kernel_rfl) (by kernel_rfl) (by kernel_rfl) 51 _ rfl (w.heap.size + 1) (vls 400 (flw x1)) 51 (by rfl) (by simp) _ Try.underlying51 rfl (by rw [vls_size]; exact info_k20) (by rfl) (by rfl) (kd) ?_
    refine wpAnyH_ready (rs := [1]) (by kernel_rfl) (by simp) ?_
    refine callK 1 { tmps := (.agg (vls 400 (flw x0)) :: .agg (vls 400 (flw x1)) :: .pointer (some ⟨w.heap.size, 0, none⟩) :: .pointer (some ⟨w.heap.size + 1, 0, none⟩) :: .bool false :: .bool r0 :: undef :: .agg (vls 400 (flw x0)) :: .agg (vls 400 (flw x0)) :: .agg (vls 400 (flw x1)) :: .agg (vls 400 (flw x1)) :: .bool r0 :: .agg (vls 400 (flw x0)) :: .agg (vls 400 (flw x0)) :: .agg (vls 400 (flw x1)) :: undef :: undef :: undef :: undef :: undef :: []).toArray, defers := [] } #[true, true, true, false, false, false] (.agg (vls 400 (flw x0))) kd rfl (by rfl) 51 #[.agg (vls 400 (flw x0))] (run_toKernel1 _ _ _ rfl _ _ _ _ _ _) (by rfl) (by rfl) (toKernel _ _) (fun w1 k1 => ?_) AllReadyH.nil
    refine ⟨k1, ?_⟩
    refine wpAnyH_ready (rs := [3]) (by kernel_rfl) (by simp) ?_
    refine callK 3 { tmps := (.agg (vls 400 (flw x0)) :: .agg (vls 400 (flw x1)) :: .pointer (some ⟨w.heap.size, 0, none⟩) :: .pointer (some ⟨w.heap.size + 1, 0, none⟩) :: .bool false :: .bool r0 :: undef :: .agg (vls 400 (flw x0)) :: .agg (vls 400 (flw x0)) :: .agg (vls 400 (flw x1)) :: .agg (vls 400 (flw x1)) :: .bool r0 :: .agg (vls 400 (flw x0)) :: .agg (vls 400 (flw x0)) :: .agg (vls 400 (flw x1)) :: .agg (vls 400 (flw x1)) :: undef :: undef :: undef :: undef :: []).toArray, defers := [] } #[true, true, true, true, false, false] (.agg (vls 400 (flw x1))) k1 rfl (by rfl) 51 #[.agg (vls 400 (flw x1))] (run_toKernel1 _ _ _ rfl _ _ _ _ _ _) (by rfl) (by rfl) (toKernel _ _) (fun w2 k2 => ?_) AllReadyH.nil
    refine ⟨k2, ?_⟩
    refine wpAnyH_ready (rs := [4]) (by kernel_rfl) (by simp) ?_
    refine callK 4 { tmps := (.agg (vls 400 (flw x0)) :: .agg (vls 400 (flw x1)) :: .pointer (some ⟨w.heap.size, 0, none⟩) :: .pointer (some ⟨w.heap.size + 1, 0, none⟩) :: .bool false :: .bool r0 :: undef :: .agg (vls 400 (flw x0)) :: .agg (vls 400 (flw x0)) :: .agg (vls 400 (flw x1)) :: .agg (vls 400 (flw x1)) :: .bool r0 :: .agg (vls 400 (flw x0)) :: .agg (vls 400 (flw x0)) :: .agg (vls 400 (flw x1)) :: .agg (vls 400 (flw x1)) :: .bool r0 :: undef :: undef :: undef :: []).toArray, defers := [] } #[true, true, true, true, true, false] (.bool r0) k2 rfl (by rfl) 54 #[.agg (vls 400 (flw x0)), .agg (vls 400 (flw x1))] (run_iSameKernel2 _ _ _ rfl _ _ rfl _ _ _ _ _ _) (by rfl) (by rfl) (HI.out _) (fun w3 k3 => ?_) AllReadyH.nil
    refine ⟨k3, ?_⟩
    refine take_val 5 { tmps := (.agg (vls 400 (flw x0)) :: .agg (vls 400 (flw x1)) :: .pointer (some ⟨w.heap.size, 0, none⟩) :: .pointer (some ⟨w.heap.size + 1, 0, none⟩) :: .bool false :: .bool r0 :: .bool r0 :: .agg (vls 400 (flw x0)) :: .agg (vls 400 (flw x0)) :: .agg (vls 400 (flw x1)) :: .agg (vls 400 (flw x1)) :: .bool r0 :: .agg (vls 400 (flw x0)) :: .agg (vls 400 (flw x0)) :: .agg (vls 400 (flw x1)) :: .agg (vls 400 (flw x1)) :: .bool r0 :: undef :: undef :: undef :: []).toArray, defers := [] } #[true, true, true, true, true, true] (.bool r0) rfl (by rfl) (by kernel_rfl) (by kernel_rfl) (by kernel_rfl) (fun w => by rfl) (by rfl) (by rfl) (k3) ?_
    exact wpAnyH_done (by kernel_rfl) (NoPanic.normal (key2  _ (hid k3))) _
  refine region_kept (w0 := w) (l := [(w.heap.size, vls 400 (flw x0), 51), (w.heap.size + 1, vls 400 (flw x1), 51)]) 6 #[false, false, false, false, false, false] (by kernel_rfl) rfl rfl ?_
  have kd := k0.out.drew
  clear k0
  generalize ((w.alloc (.cells (vls 400 (flw x0)) 51)).alloc (.cells (vls 400 (flw x1)) 51)).drew = wd at kd ⊢
  refine take_load 0 { tmps := (.agg (vls 400 (flw x0)) :: .agg (vls 400 (flw x1)) :: .pointer (some ⟨w.heap.size, 0, none⟩) :: .pointer (some ⟨w.heap.size + 1, 0, none⟩) :: .bool false :: undef :: undef :: .agg (vls 400 (flw x0)) :: undef :: undef :: undef :: undef :: undef :: undef :: undef :: undef :: undef :: undef :: undef :: undef :: []).toArray, defers := [] } #[true, false, false, false, false, false] rfl (by rfl) (by kernel_rfl) (by kernel_rfl) (by kernel_rfl) 51 _ rfl (w.heap.size) (vls 400 (flw x0)) 51 (by rfl) (by simp) _ Try.underlying51 rfl (by rw [vls_size]; exact info_k20) (by rfl) (by rfl) (kd) ?_
  refine take_load 2 { tmps := (.agg (vls 400 (flw x0)) :: .agg (vls 400 (flw x1)) :: .pointer (some ⟨w.heap.size, 0, none⟩) :: .pointer (some ⟨w.heap.size + 1, 0, none⟩) :: .bool false :: undef :: undef :: .agg (vls 400 (flw x0)) :: undef :: .agg (vls 400 (flw x1)) :: undef :: undef :: undef :: undef :: undef :: undef :: undef :: undef :: undef :: undef :: []).toArray, defers := [] } #[true, false, true, false, false, false] rfl (by rfl) (by kernel_rfl) (by kernel_rfl) (by kernel_rfl) 51 _ rfl (w.heap.size + 1) (vls 400 (flw x1)) 51 (by rfl) (by simp) _ Try.underlying51 rfl (by rw [vls_size]; exact info_k20) (by rfl) (by rfl) (kd) ?_
  refine wpAnyH_ready (rs := [1]) (by kernel_rfl) (by simp) ?_
  refine callK 1 { tmps := (.agg (vls 400 (flw x0)) :: .agg (vls 400 (flw x1)) :: .pointer (some ⟨w.heap.size, 0, none⟩) :: .pointer (some ⟨w.heap.size + 1, 0, none⟩) :: .bool false :: undef :: undef :: .agg (vls 400 (flw x0)) :: .agg (vls 400 (flw x0)) :: .agg (vls 400 (flw x1)) :: undef :: undef :: undef :: undef :: undef :: undef :: undef :: undef :: undef :: undef :: []).toArray, defers := [] } #[true, true, true, false, false, false] (.agg (vls 400 (flw x0))) kd rfl (by rfl) 51 #[.agg (vls 400 (flw x0))] (run_toKernel1 _ _ _ rfl _ _ _ _ _ _) (by rfl) (by rfl) (toKernel _ _) (fun w1 k1 => ?_) AllReadyH.nil
  refine ⟨k1, ?_⟩
  refine wpAnyH_ready (rs := [3]) (by kernel_rfl) (by simp) ?_
  refine callK 3 { tmps := (.agg (vls 400 (flw x0)) :: .agg (vls 400 (flw x1)) :: .pointer (some ⟨w.heap.size, 0, none⟩) :: .pointer (some ⟨w.heap.size + 1, 0, none⟩) :: .bool false :: undef :: undef :: .agg (vls 400 (flw x0)) :: .agg (vls 400 (flw x0)) :: .agg (vls 400 (flw x1)) :: .agg (vls 400 (flw x1)) :: undef :: undef :: undef :: undef :: undef :: undef :: undef :: undef :: undef :: []).toArray, defers := [] } #[true, true, true, true, false, false] (.agg (vls 400 (flw x1))) k1 rfl (by rfl) 51 #[.agg (vls 400 (flw x1))] (run_toKernel1 _ _ _ rfl _ _ _ _ _ _) (by rfl) (by rfl) (toKernel _ _) (fun w2 k2 => ?_) AllReadyH.nil
  refine ⟨k2, ?_⟩
  refine wpAnyH_ready (rs := [4]) (by kernel_rfl) (by simp) ?_
  refine callK 4 { tmps := (.agg (vls 400 (flw x0)) :: .agg (vls 400 (flw x1)) :: .pointer (some ⟨w.heap.size, 0, none⟩) :: .pointer (some ⟨w.heap.size + 1, 0, none⟩) :: .bool false :: undef :: undef :: .agg (vls 400 (flw x0)) :: .agg (vls 400 (flw x0)) :: .agg (vls 400 (flw x1)) :: .agg (vls 400 (flw x1)) :: .bool r0 :: undef :: undef :: undef :: undef :: undef :: undef :: undef :: undef :: []).toArray, defers := [] } #[true, true, true, true, true, false] (.bool r0) k2 rfl (by rfl) 53 #[.agg (vls 400 (flw x0)), .agg (vls 400 (flw x1))] (run_sSameKernel2 _ _ _ rfl _ _ rfl _ _ _ _ _ _) (by rfl) (by rfl) (HS.out _) (fun w3 k3 => ?_) AllReadyH.nil
  refine ⟨k3, ?_⟩
  refine take_val 5 { tmps := (.agg (vls 400 (flw x0)) :: .agg (vls 400 (flw x1)) :: .pointer (some ⟨w.heap.size, 0, none⟩) :: .pointer (some ⟨w.heap.size + 1, 0, none⟩) :: .bool false :: .bool r0 :: undef :: .agg (vls 400 (flw x0)) :: .agg (vls 400 (flw x0)) :: .agg (vls 400 (flw x1)) :: .agg (vls 400 (flw x1)) :: .bool r0 :: undef :: undef :: undef :: undef :: undef :: undef :: undef :: undef :: []).toArray, defers := [] } #[true, true, true, true, true, true] (.bool r0) rfl (by rfl) (by kernel_rfl) (by kernel_rfl) (by kernel_rfl) (fun w => by rfl) (by rfl) (by rfl) (k3) ?_
  exact wpAnyH_done (by kernel_rfl) (NoPanic.normal (key1  _ (hid k3))) _

theorem lawSameKernel (c : Nat → Nat) (hb : ∀ i, i < 400 → c i < 4294967296) (d : Nat → Nat) (hd : ∀ i, i < 400 → d i < 4294967296) (w : World) :
    Calls Try.prog 10 #[.agg (vls 400 (flw c)), .agg (vls 400 (flw d))] w fun e w' => e = .returned (.bool true) ∧ Below w.heap.size w w' :=
  coreSameKernel c d (sameK c d) (sSameKernel c d hb hd) (iSameKernel c d hb hd) w

theorem words_cons : ∀ (v : List Char) (r : List Char), (∀ c ∈ v, c ≠ Char.ofNat 32) → wordsSigns (v ++ Char.ofNat 32 :: r) = v :: wordsSigns r
  | [], r, _ => rfl
  | c :: v, r, h => by
    have ih := words_cons v r (fun x hx => h x (by simp [hx]))
    have hc : c ≠ Char.ofNat 32 := h c (by simp)
    show wordsSigns (c :: (v ++ Char.ofNat 32 :: r)) = _
    rw [wordsSigns.eq_3 _ _ (fun e => hc e), ih]

def w0 : List Nat := [104, 97, 114, 110, 101, 115, 115]

def w1 : List Nat := [97, 97, 48, 52, 102, 49, 99, 51, 50, 54, 56, 53, 56, 53, 102, 57, 99, 56, 55, 101, 50, 56, 99, 101, 57, 99, 99, 99, 52, 98, 56, 57, 52, 51, 53, 102, 101, 102, 99, 51, 54, 98, 102, 57, 51, 50, 53, 51, 57, 101, 54, 98, 50, 101, 98, 55, 50, 53, 53, 97, 54, 51, 54, 55]

def w2 : List Nat := [99, 117, 116]

def w3 : List Nat := [97, 116, 32, 108, 111, 111, 112, 46, 101, 120, 97, 109, 112, 108, 101, 47, 103, 48, 49, 50, 50, 52, 47, 108, 97, 119, 115, 46, 70, 110, 69, 120, 97, 99, 116, 84, 104, 105, 114, 100, 82, 111, 111, 116, 32, 108, 111, 111, 112, 46, 101, 120, 97, 109, 112, 108, 101, 47, 103, 48, 49, 50, 50, 52, 47, 108, 97, 119, 115, 46, 70, 110, 69, 120, 97, 99, 116, 83, 104, 105, 102, 116, 77, 97, 115, 115, 101, 115, 32, 108, 111, 111, 112, 46, 101, 120, 97, 109, 112, 108, 101, 47, 103, 48, 49, 50, 50, 52, 47, 108, 97, 119, 115, 46, 70, 110, 69, 120, 97, 99, 116, 71, 97, 105, 110, 115, 65, 116, 32, 108, 111, 111, 112, 46, 101, 120, 97, 109, 112, 108, 101, 47, 103, 48, 49, 50, 50, 52, 47, 108, 97, 119, 115, 46, 70, 110, 69, 120, 97, 99, 116, 71, 114, 111, 119, 79, 110, 99, 101, 32, 108, 111, 111, 112, 46, 101, 120, 97, 109, 112, 108, 101, 47, 103, 48, 49, 50, 50, 52, 47, 108, 97, 119, 115, 46, 70, 110, 69, 120, 97, 99, 116, 71, 114, 111, 119, 83, 116, 101, 112, 115, 32, 108, 111, 111, 112, 46, 101, 120, 97, 109, 112, 108, 101, 47, 103, 48, 49, 50, 50, 52, 47, 108, 97, 119, 115, 46, 70, 110, 69, 120, 97, 99, 116, 83, 116, 101, 112, 115, 84, 111, 68, 114, 121, 32, 108, 111, 111, 112, 46, 101, 120, 97, 109, 112, 108, 101, 47, 103, 48, 49, 50, 50, 52, 47, 108, 97, 119, 115, 46, 70, 110, 69, 120, 97, 99, 116, 86, 97, 108, 105, 100, 75, 101, 114, 110, 101, 108, 32, 108, 111, 111, 112, 46, 101, 120, 97, 109, 112, 108, 101, 47, 103, 48, 49, 50, 50, 52, 47, 108, 97, 119, 115, 46, 70, 110, 69, 120, 97, 99, 116, 83, 97, 109, 101, 75, 101, 114, 110, 101, 108, 32, 108, 111, 111, 112, 46, 101, 120, 97, 109, 112, 108, 101, 47, 103, 48, 49, 50, 50, 52, 47, 108, 97, 119, 115, 46, 70, 110, 69, 120, 97, 99, 116, 70, 97, 108, 108, 79, 102, 32, 108, 111, 111, 112, 46, 101, 120, 97, 109, 112, 108, 101, 47, 103, 48, 49, 50, 50, 52, 47, 108, 97, 119, 115, 46, 70, 110, 69, 120, 97, 99, 116, 70, 108, 97, 116, 75, 101, 114, 110, 101, 108, 32, 108, 111, 111, 112, 46, 101, 120, 97, 109, 112, 108, 101, 47, 103, 48, 49, 50, 50, 52, 47, 108, 97, 119, 115, 46, 70, 110, 69, 120, 97, 99, 116, 83, 117, 109, 75, 101, 114, 110, 101, 108, 32, 108, 111, 111, 112, 46, 101, 120, 97, 109, 112, 108, 101, 47, 103, 48, 49, 50, 50, 52, 47, 108, 97, 119, 115, 46, 70, 110, 69, 120, 97, 99, 116, 70, 97, 108, 108, 75, 101, 114, 110, 101, 108, 32, 108, 111, 111, 112, 46, 101, 120, 97, 109, 112, 108, 101, 47, 103, 48, 49, 50, 50, 52, 47, 108, 97, 119, 115, 46, 70, 110, 69, 120, 97, 99, 116, 65, 100, 100, 75, 101, 114, 110, 101, 108, 115, 32, 108, 111, 111, 112, 46, 101, 120, 97, 109, 112, 108, 101, 47, 103, 48, 49, 50, 50, 52, 47, 108, 97, 119, 115, 46, 70, 110, 69, 120, 97, 99, 116, 83, 99, 97, 108, 101, 75, 101, 114, 110, 101, 108, 32, 108, 111, 111, 112, 46, 101, 120, 97, 109, 112, 108, 101, 47, 103, 48, 49, 50, 50, 52, 47, 108, 97, 119, 115, 46, 70, 110, 69, 120, 97, 99, 116, 69, 118, 101, 110, 116, 115, 79, 102, 32, 108, 111, 111, 112, 46, 101, 120, 97, 109, 112, 108, 101, 47, 103, 48, 49, 50, 50, 52, 47, 108, 97, 119, 115, 46, 70, 110, 69, 120, 97, 99, 116, 76, 111, 115, 115, 101, 115, 79, 102, 32, 108, 111, 111, 112, 46, 101, 120, 97, 109, 112, 108, 101, 47, 103, 48, 49, 50, 50, 52, 47, 108, 97, 119, 115, 46, 70, 110, 69, 120, 97, 99, 116, 67, 111, 108, 108, 105, 100, 101, 32, 108, 111, 111, 112, 46, 101, 120, 97, 109, 112, 108, 101, 47, 103, 48, 49, 50, 50, 52, 47, 108, 97, 119, 115, 46, 70, 110, 69, 120, 97, 99, 116, 67, 111, 108, 108, 105, 100, 101, 83, 116, 101, 112, 115, 32, 108, 111, 111, 112, 46, 101, 120, 97, 109, 112, 108, 101, 47, 103, 48, 49, 50, 50, 52, 47, 108, 97, 119, 115, 46, 70, 110, 69, 120, 97, 99, 116, 82, 97, 105, 110, 77, 97, 100, 101, 32, 108, 111, 111, 112, 46, 101, 120, 97, 109, 112, 108, 101, 47, 103, 48, 49, 50, 50, 52, 47, 108, 97, 119, 115, 46, 70, 110, 69, 120, 97, 99, 116, 66, 114, 101, 97, 107, 67, 108, 97, 115, 115, 32, 108, 111, 111, 112, 46, 101, 120, 97, 109, 112, 108, 101, 47, 103, 48, 49, 50, 50, 52, 47, 108, 97, 119, 115, 46, 70, 110, 69, 120, 97, 99, 116, 66, 114, 101, 97, 107, 76, 97, 114, 103, 101, 32, 108, 111, 111, 112, 46, 101, 120, 97, 109, 112, 108, 101, 47, 103, 48, 49, 50, 50, 52, 47, 108, 97, 119, 115, 46, 70, 110, 69, 120, 97, 99, 116, 86, 97, 108, 105, 100, 66, 111, 120, 32, 108, 111, 111, 112, 46, 101, 120, 97, 109, 112, 108, 101, 47, 103, 48, 49, 50, 50, 52, 47, 108, 97, 119, 115, 46, 70, 110, 69, 120, 97, 99, 116, 77, 97, 115, 115, 79, 102, 66, 111, 120, 32, 108, 111, 111, 112, 46, 101, 120, 97, 109, 112, 108, 101, 47, 103, 48, 49, 50, 50, 52, 47, 108, 97, 119, 115, 46, 70, 110, 69, 120, 97, 99, 116, 83, 105, 122, 101, 115, 79, 102, 66, 111, 120, 32, 108, 111, 111, 112, 46, 101, 120, 97, 109, 112, 108, 101, 47, 103, 48, 49, 50, 50, 52, 47, 108, 97, 119, 115, 46, 70, 110, 69, 120, 97, 99, 116, 67, 111, 108, 108, 105, 100, 101, 80, 97, 105, 114, 32, 108, 111, 111, 112, 46, 101, 120, 97, 109, 112, 108, 101, 47, 103, 48, 49, 50, 50, 52, 47, 108, 97, 119, 115, 46, 70, 110, 69, 120, 97, 99, 116, 67, 111, 108, 108, 105, 100, 101, 80, 97, 105, 114, 115, 32, 108, 111, 111, 112, 46, 101, 120, 97, 109, 112, 108, 101, 47, 103, 48, 49, 50, 50, 52, 47, 108, 97, 119, 115, 46, 70, 110, 69, 120, 97, 99, 116, 68, 114, 97, 119, 80, 97, 105, 114, 115, 32, 108, 111, 111, 112, 46, 101, 120, 97, 109, 112, 108, 101, 47, 103, 48, 49, 50, 50, 52, 47, 108, 97, 119, 115, 46, 70, 110, 69, 120, 97, 99, 116, 71, 97, 116, 104, 101, 114, 68, 117, 115, 116]

def letters (l : List Nat) : List Char := l.map Char.ofNat

theorem head_reads : Try.prog.initOrder = String.ofList (letters w0 ++ Char.ofNat 32 :: (letters w1 ++ Char.ofNat 32 :: (letters w2 ++ Char.ofNat 32 :: letters w3))) := by kernel_rfl

theorem no_blank {l : List Nat} (h : l.all (fun n => Char.ofNat n != Char.ofNat 32) = true) : ∀ c ∈ letters l, c ≠ Char.ofNat 32 := by
  intro c hc
  obtain ⟨n, hn, rfl⟩ := List.mem_map.1 hc
  have := List.all_eq_true.1 h n hn
  simpa using this

theorem h0 : letters w0 = "harness".toList := by kernel_rfl

theorem h2 : letters w2 = "cut".toList := by kernel_rfl

theorem sums : isSumSigns (letters w1) = true := by kernel_rfl

theorem words : wordsSigns Try.prog.initOrder.toList = "harness".toList :: letters w1 :: "cut".toList :: wordsSigns (letters w3) := by
  rw [head_reads, String.toList_ofList, words_cons _ _ (no_blank (by decide +kernel)), words_cons _ _ (no_blank (by decide +kernel)), words_cons _ _ (no_blank (by decide +kernel)), h0, h2]

theorem behind : ∃ r, behindMainWord (wordsSigns Try.prog.initOrder.toList) = "cut".toList :: r := by
  refine ⟨wordsSigns (letters w3), ?_⟩
  rw [words]
  generalize wordsSigns (letters w3) = r
  have hs := sums
  generalize letters w1 = v at hs
  unfold behindMainWord
  simp [hs]

theorem not_later : Try.prog.laysLater = false := by kernel_rfl

theorem no_reflect : Try.prog.bearsReflect = false := by kernel_rfl

theorem no_doors : Try.prog.doorFits [] = true := by kernel_rfl

theorem strips (r : List (List Char)) : stripLifts liftWords ("cut".toList :: r) = ([], "cut".toList :: r) := by kernel_rfl

theorem may_enter_of (P : Program) (r : List (List Char)) (h : behindMainWord (wordsSigns P.initOrder.toList) = "cut".toList :: r) (h1 : P.laysLater = false) (h2 : P.bearsReflect = false) (h3 : P.doorFits [] = true) : P.mayEnter = true := by
  unfold Program.mayEnter
  rw [h]
  dsimp only
  rw [strips, h1, h2, h3]
  kernel_rfl

theorem lifts_final_of (P : Program) (r : List (List Char)) (h : behindMainWord (wordsSigns P.initOrder.toList) = "cut".toList :: r) : P.liftsFinal = false := by
  unfold Program.liftsFinal Program.headLifts
  rw [h]
  dsimp only
  rw [strips]
  kernel_rfl

theorem made_of (P : Program) (r : List (List Char)) (h : behindMainWord (wordsSigns P.initOrder.toList) = "cut".toList :: r) : P.make = some .cut := by
  unfold Program.make
  rw [h]
  kernel_rfl

theorem may_enter : Try.prog.mayEnter = true := let ⟨r, h⟩ := behind; may_enter_of _ r h not_later no_reflect no_doors

theorem lifts_final : Try.prog.liftsFinal = false := let ⟨r, h⟩ := behind; lifts_final_of _ r h

theorem made : Try.prog.make = some .cut := let ⟨r, h⟩ := behind; made_of _ r h

theorem laid : laidOutB Try.prog = true := by kernel_rfl

theorem rowed : mapsRowed Try.prog = true := by kernel_rfl

theorem no_stops : Try.prog.stops = [] := by kernel_rfl

theorem no_knobs : Try.prog.stopKnobs = [] := by kernel_rfl

theorem plain_keys : Try.prog.plainKeys = false := by kernel_rfl

theorem stops_heard : Try.prog.stopsHeard = true := by kernel_rfl

theorem arr2 {α : Type} {cs : Array α} (h : cs.size = 2) : ∃ c0 c1, cs = #[c0, c1] := by
  obtain ⟨l⟩ := cs
  match l, h with
  | [a, b], _ => exact ⟨a, b, rfl⟩

theorem own : ownKnob Try.prog.godebug = none := by kernel_rfl

theorem rda : Try.prog.readableRec 28 = true ∧ 28 < Try.prog.types.size := ⟨by kernel_rfl, of_decide_eq_true (by kernel_rfl)⟩

theorem rdf : Try.prog.readableRec 22 = true ∧ 22 < Try.prog.types.size := ⟨by kernel_rfl, of_decide_eq_true (by kernel_rfl)⟩

theorem rdA : Try.prog.readableRec 40 = true ∧ 40 < Try.prog.types.size := ⟨by kernel_rfl, of_decide_eq_true (by kernel_rfl)⟩

theorem rdi : Try.prog.readableRec 2 = true ∧ 2 < Try.prog.types.size := ⟨by kernel_rfl, of_decide_eq_true (by kernel_rfl)⟩

theorem rdb : Try.prog.readableRec 76 = true ∧ 76 < Try.prog.types.size := ⟨by kernel_rfl, of_decide_eq_true (by kernel_rfl)⟩

theorem rdp : Try.prog.readableRec 86 = true ∧ 86 < Try.prog.types.size := ⟨by kernel_rfl, of_decide_eq_true (by kernel_rfl)⟩

theorem cells400 : Try.prog.cellsOf 51 = 400 := by kernel_rfl

theorem types400 : Try.prog.cellTypes Try.prog.depth 51 = some (List.replicate 400 22) := by kernel_rfl

theorem rdk : Try.prog.readableRec 51 = true ∧ 51 < Try.prog.types.size := ⟨by kernel_rfl, of_decide_eq_true (by kernel_rfl)⟩
end Go.Proofs.Ytnnhoololemaaaa

namespace Go.Proofs.Ytnnhoololemaaaa.fnExactSameKernel
open Go.RowKit Go.Fl Go.ChangeShapes Go.WideShapes Go.ChangeAt

theorem closed : joinedFacts Try.prog 10 Try.f10 Rows.fnExactSameKernelSpec Rows.fnExactSameKernelRow = true := by
  unfold joinedFacts
  simp only [Bool.and_eq_true]
  exact ⟨⟨⟨⟨⟨⟨⟨⟨⟨⟨⟨⟨⟨⟨⟨⟨⟨⟨⟨⟨⟨⟨⟨⟨⟨⟨⟨⟨⟨⟨⟨(by as_aux_lemma => kernel_rfl),
    laid⟩,
    rowed⟩,
    (by as_aux_lemma => kernel_rfl)⟩,
    (by as_aux_lemma => kernel_rfl)⟩,
    (by as_aux_lemma => kernel_rfl)⟩,
    (by rw [no_stops]; rfl)⟩,
    (by as_aux_lemma => kernel_rfl)⟩,
    (by rw [no_knobs]; rfl)⟩,
    (by as_aux_lemma => kernel_rfl)⟩,
    (by as_aux_lemma => kernel_rfl)⟩,
    (by as_aux_lemma => kernel_rfl)⟩,
    (by as_aux_lemma => kernel_rfl)⟩,
    (by as_aux_lemma => kernel_rfl)⟩,
    (by as_aux_lemma => kernel_rfl)⟩,
    (by as_aux_lemma => kernel_rfl)⟩,
    (by as_aux_lemma => kernel_rfl)⟩,
    (by as_aux_lemma => kernel_rfl)⟩,
    (by as_aux_lemma => kernel_rfl)⟩,
    (by as_aux_lemma => kernel_rfl)⟩,
    (by as_aux_lemma => kernel_rfl)⟩,
    (by as_aux_lemma => kernel_rfl)⟩,
    (show (Rows.fnExactSameKernelRow.plainKeys == Try.prog.plainKeys) = true by rw [plain_keys]; rfl)⟩,
    (by as_aux_lemma => kernel_rfl)⟩,
    stops_heard⟩,
    may_enter⟩,
    (show (Rows.fnExactSameKernelRow.lifted == Try.prog.liftsFinal) = true by rw [lifts_final]; rfl)⟩,
    (show (Try.prog.make == some Rows.fnExactSameKernelRow.make) = true by rw [made]; rfl)⟩,
    (by as_aux_lemma => kernel_rfl)⟩,
    (by as_aux_lemma => kernel_rfl)⟩,
    (by as_aux_lemma => kernel_rfl)⟩,
    (by as_aux_lemma => kernel_rfl)⟩

set_option maxRecDepth 100000 in
theorem lifted (os : Os) (started : os.Started) (H : Type) (enc : TypeId × Value → H) :
    ReturnsInHanded {} Try.checked os 10 .any (Rows.fnExactSameKernelSpec.pre6 enc Try.prog Try.f10 Rows.fnExactSameKernelRow.domain false) (Rows.fnExactSameKernelSpec.post enc Try.prog Try.f10 false true false false) := by
  refine LawFrame.lifted (C := Try.checked) (fn := Try.f10) (n := 2) (tb := 4) started own (by kernel_rfl) Try.func10 laid ?_ rfl rfl ?_ rfl Try.underlying4
    (ChangeSpec.witness6 (enc := enc) (C := Try.checked) false ⟨#[], #[.agg (Array.replicate 400 (.float .f32 0)), .agg (Array.replicate 400 (.float .f32 0))], []⟩ 8 (by kernel_rfl) (by kernel_rfl) (by kernel_rfl) (by kernel_rfl)) ?_
  · intro t ht
    simp only [Try.params10, List.mem_cons, List.not_mem_nil, or_false] at ht
    rcases ht with rfl | rfl <;> first | exact rda | exact rdf | exact rdi | exact rdA | exact rdb | exact rdp | exact rdk
  · intro ds hd
    match ds, hd with
    | [_, _], _ => rfl
  · intro W base args ds ps hval hn _
    obtain ⟨v0, v1, rfl⟩ : ∃ v0 v1, args = #[v0, v1] := arr2 hn
    obtain ⟨c0, rfl, hb0⟩ := open_floats Try.underlying51 rfl Try.underlying22 cells400 types400 (hval 0 51 v0 rfl rfl)
    obtain ⟨c1, rfl, hb1⟩ := open_floats Try.underlying51 rfl Try.underlying22 cells400 types400 (hval 1 51 v1 rfl rfl)
    exact lawSameKernel c0 hb0 c1 hb1 W

theorem over : Rows.fnExactSameKernelRow.holds Try.pinned (OpenSpec.ofChange Rows.fnExactSameKernelSpec) :=
  OpenClaim.holds_of_wide 10 Try.f10 rfl rfl rfl rfl rfl rfl rfl ⟨rfl, rfl, rfl, rfl, rfl⟩ rfl rfl rfl rfl rfl (by kernel_rfl) Try.func10 closed
    (of_decide_eq_true (by kernel_rfl)) (by unfold Func.isWrapper; rw [if_neg (by decide +kernel)]; exact ⟨rfl, rfl⟩)
    (fun os started H enc _ => lifted os started H enc)

theorem proved : Rows.FnExactSameKernelSaid := over
#print axioms proved
end Go.Proofs.Ytnnhoololemaaaa.fnExactSameKernel
