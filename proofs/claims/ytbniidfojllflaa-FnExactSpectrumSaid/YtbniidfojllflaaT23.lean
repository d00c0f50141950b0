import Derived.Test.YtbniidfojllflaaT22
import Derived.Test.YtbniidfojllflaaLibE
namespace Go.Proofs.Ytbniidfojllflaa
open Go.RowKit Go.Fl

set_option maxRecDepth 100000 in
theorem sTakeShare_bad (c : Nat → Nat) (hb : ∀ i, i < 20 → c i < 4294967296) (h : ¬ Amts c) (n : Int) (x : Nat) (w : World) :
    Calls Try.prog 69 #[.agg (fls c), .int .i64 n, .float .f32 x] w fun e w' => e = .returned (.tuple #[.agg (fls (fun _ => 0)), .float .f32 0, .int .i64 1]) ∧ Below w.heap.size w w' := by
  have A0 := hid ((arrAt.new w c 26).alloc (.cells (fls (fun _ => 0)) 26))
  have A1 := hid (new1 w (.cells (fls c) 26) (fun _ => 0) 26)
  have b0 := boxed2 w (.cells (fls c) 26) (.cells (fls (fun _ => 0)) 26)
  have Hhb := hid hb
  have Hh := hid h
  clear hb h
  go_enter Try.func69, Try.ntmps69
  go_wp2_with fail
  refine (sOk_f c Hhb.out Hh.out _ w.heap.size 26 A0.out).mono ?_
  rintro e w0 ⟨rfl, hb0⟩
  have A0 := hid (A0.out.stay hb0)
  have A1 := hid (A1.out.stay hb0)
  have c0 := stp b0 (Nat.le_refl _) hb0
  go_wp2_with (first | (refine wpList_store_row rfl 26 _ _ rfl (w.heap.size + 1) (fls (fun _ => 0)) rfl rfl 26 _ A1.out (by rw [fls_size]; exact info_arr) (by simp) (fls_one (fun _ => 0)) ?_))
  have A0 := hid (A0.out.setRowOther (k := w.heap.size + 1) (by simp; try omega) (fls (fun _ => 0)))
  have A1 := hid (A1.out.setRow (fun _ => 0))
  have c0 := below_row c0 (by simp; try omega) (g := w.heap.size + 1) (fls (fun _ => 0))
  exact bodyPost_ret (results_row_tmp2 rfl _ _ (w.heap.size + 1) 26 (fls (fun _ => 0)) (0, 0) _ rfl A1.out Try.underlying26 rfl (by rw [fls_size]; exact info_arr)) rfl ⟨rfl, c0⟩

set_option maxRecDepth 100000 in
theorem sTakeShare_class (c : Nat → Nat) (h : Amts c) (n : Int) (hn : ¬ (0 ≤ n ∧ n < 20)) (x : Nat) (w : World) :
    Calls Try.prog 69 #[.agg (fls c), .int .i64 n, .float .f32 x] w fun e w' => e = .returned (.tuple #[.agg (fls (fun _ => 0)), .float .f32 0, .int .i64 2]) ∧ Below w.heap.size w w' := by
  have A0 := hid ((arrAt.new w c 26).alloc (.cells (fls (fun _ => 0)) 26))
  have A1 := hid (new1 w (.cells (fls c) 26) (fun _ => 0) 26)
  have b0 := boxed2 w (.cells (fls c) 26) (.cells (fls (fun _ => 0)) 26)
  have Hh := hid h
  have Hhn := hid hn
  clear h hn
  go_enter Try.func69, Try.ntmps69
  go_wp2_with fail
  refine (sOk_t c Hh.out _ w.heap.size 26 A0.out).mono ?_
  rintro e w0 ⟨rfl, rfl⟩
  go_wp2_with fail
  refine (sClass_f n Hhn.out _).mono ?_
  rintro e w1 ⟨rfl, rfl⟩
  go_wp2_with (first | (refine wpList_store_row rfl 26 _ _ rfl (w.heap.size + 1) (fls (fun _ => 0)) rfl rfl 26 _ A1.out (by rw [fls_size]; exact info_arr) (by simp) (fls_one (fun _ => 0)) ?_))
  have A0 := hid (A0.out.setRowOther (k := w.heap.size + 1) (by simp; try omega) (fls (fun _ => 0)))
  have A1 := hid (A1.out.setRow (fun _ => 0))
  have b0 := below_row b0 (by simp; try omega) (g := w.heap.size + 1) (fls (fun _ => 0))
  exact bodyPost_ret (results_row_tmp2 rfl _ _ (w.heap.size + 1) 26 (fls (fun _ => 0)) (0, 0) _ rfl A1.out Try.underlying26 rfl (by rw [fls_size]; exact info_arr)) rfl ⟨rfl, b0⟩

set_option maxRecDepth 100000 in
theorem sTakeShare_share (c : Nat → Nat) (h : Amts c) (k : Nat) (hk : k < 20) (x : Nat) (hx : x < 4294967296) (hn : ¬ Share x) (w : World) :
    Calls Try.prog 69 #[.agg (fls c), .int .i64 (k : Int), .float .f32 x] w fun e w' => e = .returned (.tuple #[.agg (fls (fun _ => 0)), .float .f32 0, .int .i64 2]) ∧ Below w.heap.size w w' := by
  have A0 := hid ((arrAt.new w c 26).alloc (.cells (fls (fun _ => 0)) 26))
  have A1 := hid (new1 w (.cells (fls c) 26) (fun _ => 0) 26)
  have b0 := boxed2 w (.cells (fls c) 26) (.cells (fls (fun _ => 0)) 26)
  have Hh := hid h
  have Hhn := hid hn
  have Hhx := hid hx
  clear h hn hx
  go_enter Try.func69, Try.ntmps69
  go_wp2_with fail
  refine (sOk_t c Hh.out _ w.heap.size 26 A0.out).mono ?_
  rintro e w0 ⟨rfl, rfl⟩
  go_wp2_with fail
  refine (sClass_t k hk _).mono ?_
  rintro e w1 ⟨rfl, rfl⟩
  go_wp2_with fail
  refine (sShare_f x Hhx.out Hhn.out _).mono ?_
  rintro e w2 ⟨rfl, hb2⟩
  have A0 := hid (A0.out.stay hb2)
  have A1 := hid (A1.out.stay hb2)
  have c2 := stp b0 (Nat.le_refl _) hb2
  go_wp2_with (first | (refine wpList_store_row rfl 26 _ _ rfl (w.heap.size + 1) (fls (fun _ => 0)) rfl rfl 26 _ A1.out (by rw [fls_size]; exact info_arr) (by simp) (fls_one (fun _ => 0)) ?_))
  have A0 := hid (A0.out.setRowOther (k := w.heap.size + 1) (by simp; try omega) (fls (fun _ => 0)))
  have A1 := hid (A1.out.setRow (fun _ => 0))
  have c2 := below_row c2 (by simp; try omega) (g := w.heap.size + 1) (fls (fun _ => 0))
  exact bodyPost_ret (results_row_tmp2 rfl _ _ (w.heap.size + 1) 26 (fls (fun _ => 0)) (0, 0) _ rfl A1.out Try.underlying26 rfl (by rw [fls_size]; exact info_arr)) rfl ⟨rfl, c2⟩

set_option maxRecDepth 100000 in
theorem iTakeShare_bad (c : Nat → Nat) (hb : ∀ i, i < 20 → c i < 4294967296) (h : ¬ Amts c) (n : Int) (x : Nat) (w : World) :
    Calls Try.prog 70 #[.agg (fls c), .int .i64 n, .float .f32 x] w fun e w' => e = .returned (.tuple #[.agg (fls (fun _ => 0)), .float .f32 0, .int .i64 1]) ∧ Below w.heap.size w w' := by
  have A0 := hid ((arrAt.new w c 26).alloc (.cells (fls (fun _ => 0)) 26))
  have A1 := hid (new1 w (.cells (fls c) 26) (fun _ => 0) 26)
  have b0 := boxed2 w (.cells (fls c) 26) (.cells (fls (fun _ => 0)) 26)
  have Hhb := hid hb
  have Hh := hid h
  clear hb h
  go_enter Try.func70, Try.ntmps70
  go_wp2_with (first | (refine wpList_load_row rfl 26 _ rfl (w.heap.size) rfl 26 (fls c) (0, 0) _ A0.out Try.underlying26 rfl (by rw [fls_size]; exact info_arr) ?_))
  refine (validSizes_f c Hhb.out Hh.out _).mono ?_
  rintro e w0 ⟨rfl, hb0⟩
  have A0 := hid (A0.out.stay hb0)
  have A1 := hid (A1.out.stay hb0)
  have c0 := stp b0 (Nat.le_refl _) hb0
  go_wp2_with (first | (refine wpList_store_row rfl 26 _ _ rfl (w.heap.size + 1) (fls (fun _ => 0)) rfl rfl 26 _ A1.out (by rw [fls_size]; exact info_arr) (by simp) (fls_one (fun _ => 0)) ?_))
  have A0 := hid (A0.out.setRowOther (k := w.heap.size + 1) (by simp; try omega) (fls (fun _ => 0)))
  have A1 := hid (A1.out.setRow (fun _ => 0))
  have c0 := below_row c0 (by simp; try omega) (g := w.heap.size + 1) (fls (fun _ => 0))
  exact bodyPost_ret (results_row_tmp2 rfl _ _ (w.heap.size + 1) 26 (fls (fun _ => 0)) (0, 0) _ rfl A1.out Try.underlying26 rfl (by rw [fls_size]; exact info_arr)) rfl ⟨rfl, c0⟩

set_option maxRecDepth 100000 in
theorem iTakeShare_class (c : Nat → Nat) (h : Amts c) (n : Int) (hn : ¬ (0 ≤ n ∧ n < 20)) (x : Nat) (w : World) :
    Calls Try.prog 70 #[.agg (fls c), .int .i64 n, .float .f32 x] w fun e w' => e = .returned (.tuple #[.agg (fls (fun _ => 0)), .float .f32 0, .int .i64 2]) ∧ Below w.heap.size w w' := by
  have A0 := hid ((arrAt.new w c 26).alloc (.cells (fls (fun _ => 0)) 26))
  have A1 := hid (new1 w (.cells (fls c) 26) (fun _ => 0) 26)
  have b0 := boxed2 w (.cells (fls c) 26) (.cells (fls (fun _ => 0)) 26)
  have Hh := hid h
  have Hhn := hid hn
  clear h hn
  go_enter Try.func70, Try.ntmps70
  go_wp2_with (first | (refine wpList_load_row rfl 26 _ rfl (w.heap.size) rfl 26 (fls c) (0, 0) _ A0.out Try.underlying26 rfl (by rw [fls_size]; exact info_arr) ?_))
  refine (validSizes_t c Hh.out _).mono ?_
  rintro e w0 ⟨rfl, hb0⟩
  have A0 := hid (A0.out.stay hb0)
  have A1 := hid (A1.out.stay hb0)
  have c0 := stp b0 (Nat.le_refl _) hb0
  go_wp2_with fail
  refine (isClass_f n Hhn.out _).mono ?_
  rintro e w1 ⟨rfl, rfl⟩
  go_wp2_with (first | (refine wpList_store_row rfl 26 _ _ rfl (w.heap.size + 1) (fls (fun _ => 0)) rfl rfl 26 _ A1.out (by rw [fls_size]; exact info_arr) (by simp) (fls_one (fun _ => 0)) ?_))
  have A0 := hid (A0.out.setRowOther (k := w.heap.size + 1) (by simp; try omega) (fls (fun _ => 0)))
  have A1 := hid (A1.out.setRow (fun _ => 0))
  have c0 := below_row c0 (by simp; try omega) (g := w.heap.size + 1) (fls (fun _ => 0))
  exact bodyPost_ret (results_row_tmp2 rfl _ _ (w.heap.size + 1) 26 (fls (fun _ => 0)) (0, 0) _ rfl A1.out Try.underlying26 rfl (by rw [fls_size]; exact info_arr)) rfl ⟨rfl, c0⟩

set_option maxRecDepth 100000 in
theorem iTakeShare_share (c : Nat → Nat) (h : Amts c) (k : Nat) (hk : k < 20) (x : Nat) (hx : x < 4294967296) (hn : ¬ Share x) (w : World) :
    Calls Try.prog 70 #[.agg (fls c), .int .i64 (k : Int), .float .f32 x] w fun e w' => e = .returned (.tuple #[.agg (fls (fun _ => 0)), .float .f32 0, .int .i64 2]) ∧ Below w.heap.size w w' := by
  have A0 := hid ((arrAt.new w c 26).alloc (.cells (fls (fun _ => 0)) 26))
  have A1 := hid (new1 w (.cells (fls c) 26) (fun _ => 0) 26)
  have b0 := boxed2 w (.cells (fls c) 26) (.cells (fls (fun _ => 0)) 26)
  have Hh := hid h
  have Hhn := hid hn
  have Hhx := hid hx
  clear h hn hx
  go_enter Try.func70, Try.ntmps70
  go_wp2_with (first | (refine wpList_load_row rfl 26 _ rfl (w.heap.size) rfl 26 (fls c) (0, 0) _ A0.out Try.underlying26 rfl (by rw [fls_size]; exact info_arr) ?_))
  refine (validSizes_t c Hh.out _).mono ?_
  rintro e w0 ⟨rfl, hb0⟩
  have A0 := hid (A0.out.stay hb0)
  have A1 := hid (A1.out.stay hb0)
  have c0 := stp b0 (Nat.le_refl _) hb0
  go_wp2_with fail
  refine (isClass_t k hk _).mono ?_
  rintro e w1 ⟨rfl, rfl⟩
  go_wp2_with fail
  refine (iShare_f x Hhx.out Hhn.out _).mono ?_
  rintro e w2 ⟨rfl, hb2⟩
  have A0 := hid (A0.out.stay hb2)
  have A1 := hid (A1.out.stay hb2)
  have c2 := stp c0 (Nat.le_refl _) hb2
  go_wp2_with (first | (refine wpList_store_row rfl 26 _ _ rfl (w.heap.size + 1) (fls (fun _ => 0)) rfl rfl 26 _ A1.out (by rw [fls_size]; exact info_arr) (by simp) (fls_one (fun _ => 0)) ?_))
  have A0 := hid (A0.out.setRowOther (k := w.heap.size + 1) (by simp; try omega) (fls (fun _ => 0)))
  have A1 := hid (A1.out.setRow (fun _ => 0))
  have c2 := below_row c2 (by simp; try omega) (g := w.heap.size + 1) (fls (fun _ => 0))
  exact bodyPost_ret (results_row_tmp2 rfl _ _ (w.heap.size + 1) 26 (fls (fun _ => 0)) (0, 0) _ rfl A1.out Try.underlying26 rfl (by rw [fls_size]; exact info_arr)) rfl ⟨rfl, c2⟩

theorem loose {P : Program} {f : FuncId} {args : Array Value} {w : World} {v : Value} (h : Calls P f args w fun e w' => e = .returned v ∧ w = w') : Calls P f args w fun e w' => e = .returned v ∧ Below w.heap.size w w' :=
  h.mono fun _ _ ⟨a, b⟩ => ⟨a, b ▸ Below.refl _ _⟩

/-- A whole array stored: the world behind it under a name of its own. -/
theorem store_abs {P : Program} {ops : Array Oper} {rest : List Oper} {o : Oper} {a : Act} {w : World} {Q : Exit → Act → World → Prop} (hgd : o.guard = none) (ty : TypeId) (x y : Operand) (ho : o.op = .store ty x y)
    (g : Nat) (d : Nat → Nat) (hx : a.eval x = .pointer (some ⟨g, 0, none⟩)) (hy : a.eval y = .agg (fls d)) (t : TypeId) (old : Nat → Nat) (hg : arrAt w g old t) (hi : (P.info? ty).map (·.size) = some 20)
    (h : ∀ w', w' = w.setRow g (fls d) → wpList P ops Q rest (a.put o.dst undef) w') : wpList P ops Q (o :: rest) a w :=
  wpList_store_row hgd ty x y ho g (fls d) hx hy t (fls old) hg (by rw [fls_size]; exact hi) (by simp) (fls_one d) (h _ rfl)

def left (c : Nat → Nat) (k x : Nat) : Nat → Nat := upd c k (fsub (c k) (fmul x (c k)))
theorem left_amt {c : Nat → Nat} (h : Amts c) {k x : Nat} (hk : k < 20) (hx : Share x) : Amts (left c k x) := by
  intro i hi
  unfold left upd
  by_cases e : i = k
  · subst e
    rw [if_pos rfl]
    have h1 := amtB_iff.1 (h i hi)
    have := fsub_le h1 (fmul_le hx h1)
    exact amtB_iff.2 (by omega)
  · rw [if_neg e]; exact h i hi

set_option maxRecDepth 100000 in
theorem sTakeShare_ok (c : Nat → Nat) (h : Amts c) (k : Nat) (hk : k < 20) (x : Nat) (hx : Share x) (w : World) :
    Calls Try.prog 69 #[.agg (fls c), .int .i64 (k : Int), .float .f32 x] w fun e w' => e = .returned (.tuple #[.agg (fls (left c k x)), .float .f32 (fmul x (c k)), .int .i64 0]) ∧ Below w.heap.size w w' := by
  have hck := amtB_iff.1 (h k hk)
  have hmul := fun w => run_mul (P := Try.prog) 24 (share_amt hx) (h k hk) w
  have hsub := fun w => run_sub (P := Try.prog) 24 hck (fmul_le hx hck) w
  clear hck
  have A0 := hid ((arrAt.new w c 26).alloc (.cells (fls (fun _ => 0)) 26))
  have A1 := hid (new1 w (.cells (fls c) 26) (fun _ => 0) 26)
  have b0 := boxed2 w (.cells (fls c) 26) (.cells (fls (fun _ => 0)) 26)
  have Hh := hid h
  have Hhx := hid hx
  clear h hx
  go_enter Try.func69, Try.ntmps69
  go_wp2_with fail
  refine (loose (sOk_t c Hh.out _ w.heap.size 26 A0.out)).mono ?_
  rintro e w0 ⟨rfl, hb0⟩
  have A0 := hid (A0.out.stay hb0)
  have A1 := hid (A1.out.stay hb0)
  have c0 := stp b0 (Nat.le_refl _) hb0
  go_wp2_with fail
  refine (sClass_t k hk _).mono ?_
  rintro e w1 ⟨rfl, rfl⟩
  go_wp2_with fail
  refine (sShare_t x Hhx.out _).mono ?_
  rintro e w2 ⟨rfl, rfl⟩
  have q0 := A0.out.cell hk
  have f0 := A0.out.frozen k
  have A3 := hid (A0.out.set k (fsub (c k) (fmul x (c k))))
  have A4 := hid (A1.out.setOther (a := ⟨w.heap.size, k, none⟩) (by simp) (.float .f32 (fsub (c k) (fmul x (c k)))))
  have b3 := hid (c0.setCell (p := ⟨w.heap.size, k, none⟩) (Nat.le_refl _) (.float .f32 (fsub (c k) (fmul x (c k)))))
  go_wp2_with (first | (refine wpList_load_row rfl 26 _ rfl (w.heap.size) rfl 26 (fls (left c k x)) (0, 0) _ A3.out Try.underlying26 rfl (by rw [fls_size]; exact info_arr) ?_) | (refine wpList_store_row rfl 26 _ _ rfl (w.heap.size + 1) (fls (left c k x)) rfl rfl 26 _ A4.out (by rw [fls_size]; exact info_arr) (by simp) (fls_one (left c k x)) ?_))
  exact bodyPost_ret (results_row_tmp2 rfl _ _ (w.heap.size + 1) 26 (fls (left c k x)) (0, 0) _ rfl (A4.out.setRow (left c k x)) Try.underlying26 rfl (by rw [fls_size]; exact info_arr)) rfl ⟨rfl, below_row b3.out (by simp) _⟩

set_option maxRecDepth 100000 in
theorem iTakeShare_ok (c : Nat → Nat) (h : Amts c) (k : Nat) (hk : k < 20) (x : Nat) (hx : Share x) (w : World) :
    Calls Try.prog 70 #[.agg (fls c), .int .i64 (k : Int), .float .f32 x] w fun e w' => e = .returned (.tuple #[.agg (fls (left c k x)), .float .f32 (fmul x (c k)), .int .i64 0]) ∧ Below w.heap.size w w' := by
  have hck := amtB_iff.1 (h k hk)
  have hmul := fun w => run_mul (P := Try.prog) 24 (share_amt hx) (h k hk) w
  have hsub := fun w => run_sub (P := Try.prog) 24 hck (fmul_le hx hck) w
  clear hck
  have A0 := hid ((arrAt.new w c 26).alloc (.cells (fls (fun _ => 0)) 26))
  have A1 := hid (new1 w (.cells (fls c) 26) (fun _ => 0) 26)
  have b0 := boxed2 w (.cells (fls c) 26) (.cells (fls (fun _ => 0)) 26)
  have Hh := hid h
  have Hhx := hid hx
  clear h hx
  go_enter Try.func70, Try.ntmps70
  go_wp2_with (first | (refine wpList_load_row rfl 26 _ rfl (w.heap.size) rfl 26 (fls c) (0, 0) _ A0.out Try.underlying26 rfl (by rw [fls_size]; exact info_arr) ?_))
  refine (validSizes_t c Hh.out _).mono ?_
  rintro e w0 ⟨rfl, hb0⟩
  have A0 := hid (A0.out.stay hb0)
  have A1 := hid (A1.out.stay hb0)
  have c0 := stp b0 (Nat.le_refl _) hb0
  go_wp2_with fail
  refine (isClass_t k hk _).mono ?_
  rintro e w1 ⟨rfl, rfl⟩
  go_wp2_with fail
  refine (iShare_t x Hhx.out _).mono ?_
  rintro e w2 ⟨rfl, rfl⟩
  have lx := A0.out.lt
  have ly := A1.out.lt
  have N0 := hid (arrAt.new w0 (fun _ => 0) 26)
  have P0 := hid (N0.out.setRow c)
  have B1 := hid ((A1.out.alloc (.cells (fls fun _ => 0) 26)).setRowOther (k := w0.heap.size) (Nat.ne_of_lt ly) (fls c))
  have B0 := hid ((A0.out.alloc (.cells (fls fun _ => 0) 26)).setRowOther (k := w0.heap.size) (Nat.ne_of_lt lx) (fls c))
  have bX : Below w.heap.size w ((w0.alloc (.cells (fls fun _ => 0) 26)).setRow w0.heap.size (fls c)) := below_row (c0.alloc c0.size _) c0.size _
  have LY := hid ly
  clear lx ly
  have tok1 : True := trivial
  go_wp2_with (first | (have _t := P1; (refine wpList_load_row rfl 26 _ rfl (w0.heap.size) rfl 26 (fls (left c k x)) (0, 0) _ P1.out Try.underlying26 rfl (by rw [fls_size]; exact info_arr) ?_)) | (have _t := P1; (refine wpList_store_row rfl 26 _ _ rfl (w.heap.size + 1) (fls (left c k x)) rfl rfl 26 _ B2.out (by rw [fls_size]; exact info_arr) (by simp) (fls_one (left c k x)) ?_)) | (refine wpList_load_row rfl 26 _ rfl (w.heap.size) rfl 26 (fls c) (0, 0) _ A0.out Try.underlying26 rfl (by rw [fls_size]; exact info_arr) ?_) | (have _t := tok1; refine store_abs rfl 26 _ _ rfl w0.heap.size c rfl rfl 26 _ N0.out info_arr ?_; intro w9 hw9; rw [← hw9] at P0 B0 B1 bX; clear hw9; clear N0; have q0 := B0.out.cell hk; have q1 := P0.out.cell hk; have f1 := P0.out.frozen k; have P1 := hid (P0.out.set k (fsub (c k) (fmul x (c k)))); have B2 := hid (B1.out.setOther (a := ⟨w0.heap.size, k, none⟩) (Nat.ne_of_lt LY.out) (.float .f32 (fsub (c k) (fmul x (c k))))); have bY := hid (bX.setCell (p := ⟨w0.heap.size, k, none⟩) c0.size (.float .f32 (fsub (c k) (fmul x (c k))))); clear hb0 b0 tok1))
  exact bodyPost_ret (results_row_tmp2 rfl _ _ (w.heap.size + 1) 26 (fls (left c k x)) (0, 0) _ rfl (B2.out.setRow (left c k x)) Try.underlying26 rfl (by rw [fls_size]; exact info_arr)) rfl ⟨rfl, below_row bY.out (by omega) _⟩

set_option maxRecDepth 100000 in
theorem coreTakeShare (x0 : Nat → Nat) (x1 : Int) (x2 : Nat) (r0 : Nat → Nat) (hl0 : ∀ i, i < 20 → r0 i < 4294967296) (hf0 : ∀ i, i < 20 → finB (r0 i) = true) (r1 : Nat) (hl1 : r1 < 4294967296) (hf1 : finB r1 = true) (r2 : Int)
    (hS : ∀ w, Calls Try.prog 69 #[.agg (fls x0), .int .i64 x1, .float .f32 x2] w fun e w' => e = .returned (.tuple #[.agg (fls r0), .float .f32 r1, .int .i64 r2]) ∧ Below w.heap.size w w')
    (hI : ∀ w, Calls Try.prog 70 #[.agg (fls x0), .int .i64 x1, .float .f32 x2] w fun e w' => e = .returned (.tuple #[.agg (fls r0), .float .f32 r1, .int .i64 r2]) ∧ Below w.heap.size w w') (w : World) :
    Calls Try.prog 19 #[.agg (fls x0), .int .i64 x1, .float .f32 x2] w fun e w' => e = .returned (.bool true) ∧ Below w.heap.size w w' := by
  have A0 := hid (arrAt.new w x0 25)
  have b0 := boxed w (.cells (fls x0) 25)
  have HS := hid hS
  have HI := hid hI
  clear hS hI
  have Hl0 := hid hl0
  have Hf0 := hid hf0
  clear hl0 hf0
  have hc1 := fun w => run_conv_wid (P := Try.prog) w 24 51 r1 hl1 Try.underlying24 Try.underlying51 (finB_iff.1 hf1)
  have Hl1 := hid hl1
  have Hf1 := hid hf1
  clear hl1 hf1
  go_enter Try.func19, Try.ntmps19
  go_wp2_with (first | (refine wpList_load_row rfl 25 _ rfl (w.heap.size) rfl 25 (fls x0) (0, 0) _ A0.out Try.underlying25 rfl (by rw [fls_size]; exact info_a20) ?_))
  refine (toSizes x0 _).mono ?_
  rintro e u0 ⟨rfl, hbu0⟩
  have bu0 := stp b0 (Nat.le_refl _) hbu0
  have Au0 := hid (A0.out.stay hbu0)
  go_wp2_with fail
  refine (HS.out _).mono ?_
  rintro e v0 ⟨rfl, hbv0⟩
  have bv0 := stp bu0 (Nat.le_refl _) hbv0
  have Av0 := hid (Au0.out.stay hbv0)
  have N0 := hid (arrAt.new v0 (fun _ => 0) 26)
  have R0 := hid (N0.out.setRow r0)
  have AX0 := hid ((Av0.out.alloc (.cells (fls fun _ => 0) 26)).setRowOther (k := v0.heap.size) (Nat.ne_of_lt Av0.out.lt) (fls r0))
  have bX0 : Below w.heap.size w ((v0.alloc (.cells (fls fun _ => 0) 26)).setRow v0.heap.size (fls r0)) := below_row (bv0.alloc bv0.size _) bv0.size _
  go_wp2_with (first | (refine wpList_load_row rfl 25 _ rfl (w.heap.size) rfl 25 (fls x0) (0, 0) _ AX0.out Try.underlying25 rfl (by rw [fls_size]; exact info_a20) ?_) | (refine wpList_store_row rfl 26 _ _ rfl (v0.heap.size) (fls r0) rfl rfl 26 _ N0.out (by rw [fls_size]; exact info_arr) (by simp) (fls_one r0) ?_))
  refine (toSizes x0 _).mono ?_
  rintro e u1 ⟨rfl, hbu1⟩
  have bu1 := stp bX0 (Nat.le_refl _) hbu1
  have Au1 := hid (AX0.out.stay hbu1)
  go_wp2_with fail
  refine (HI.out _).mono ?_
  rintro e v1 ⟨rfl, hbv1⟩
  have bv1 := stp bu1 (Nat.le_refl _) hbv1
  have Av1 := hid (Au1.out.stay hbv1)
  have R1 := hid ((R0.out.stay hbu1).stay hbv1)
  have N1 := hid (arrAt.new v1 (fun _ => 0) 26)
  have T1 := hid (N1.out.setRow r0)
  have R2 := hid ((R1.out.alloc (.cells (fls fun _ => 0) 26)).setRowOther (k := v1.heap.size) (Nat.ne_of_lt R1.out.lt) (fls r0))
  have bX1 : Below w.heap.size w ((v1.alloc (.cells (fls fun _ => 0) 26)).setRow v1.heap.size (fls r0)) := below_row (bv1.alloc bv1.size _) bv1.size _
  go_wp2_with (first | (refine wpList_store_row rfl 26 _ _ rfl (v1.heap.size) (fls r0) rfl rfl 26 _ N1.out (by rw [fls_size]; exact info_arr) (by simp) (fls_one r0) ?_) | (refine wpList_load_row rfl 26 _ rfl (v1.heap.size) rfl 26 (fls r0) (0, 0) _ T1.out Try.underlying26 rfl (by rw [fls_size]; exact info_arr) ?_) | (refine wpList_load_row rfl 26 _ rfl (v0.heap.size) rfl 26 (fls r0) (0, 0) _ R2.out Try.underlying26 rfl (by rw [fls_size]; exact info_arr) ?_))
  refine (eqSizes r0 Hl0.out Hf0.out _).mono ?_
  rintro e z ⟨rfl, hbz⟩
  have bz := stp bX1 (Nat.le_refl _) hbz
  go_wp2_with fail
  refine (sameFloat r1 Hl1.out Hf1.out _).mono ?_
  rintro e z1 ⟨rfl, rfl⟩
  go_wp2
  go_ret
  exact ⟨rfl, bz⟩

theorem lawTakeShare (c : Nat → Nat) (hb : ∀ i, i < 20 → c i < 4294967296) (n : Int) (_h1 : -9223372036854775808 ≤ n) (_h2 : n ≤ 9223372036854775807) (x : Nat) (hx : x < 4294967296) (w : World) :
    Calls Try.prog 19 #[.agg (fls c), .int .i64 n, .float .f32 x] w fun e w' => e = .returned (.bool true) ∧ Below w.heap.size w w' := by
  by_cases h : Amts c
  · by_cases hn : 0 ≤ n ∧ n < 20
    · obtain ⟨k, rfl⟩ := Int.eq_ofNat_of_zero_le hn.1
      have hk : k < 20 := by omega
      by_cases hs : Share x
      · have hA := left_amt h hk hs
        have h1 := amtB_iff.1 (h k hk)
        have hm : amtB (fmul x (c k)) = true := amtB_iff.2 (by have := fmul_le hs h1; omega)
        exact coreTakeShare c k x (left c k x) (fun i hi => amt_lt (hA i hi)) (fun i hi => amt_fin (hA i hi)) (fmul x (c k)) (amt_lt hm) (amt_fin hm) 0 (sTakeShare_ok c h k hk x hs) (iTakeShare_ok c h k hk x hs) w
      · exact coreTakeShare c k x (fun _ => 0) zl zf 0 (by decide) (by decide) 2 (sTakeShare_share c h k hk x hx hs) (iTakeShare_share c h k hk x hx hs) w
    · exact coreTakeShare c n x (fun _ => 0) zl zf 0 (by decide) (by decide) 2 (sTakeShare_class c h n hn x) (iTakeShare_class c h n hn x) w
  · exact coreTakeShare c n x (fun _ => 0) zl zf 0 (by decide) (by decide) 1 (sTakeShare_bad c hb h n x) (iTakeShare_bad c hb h n x) w

end Go.Proofs.Ytbniidfojllflaa
