import Derived.Test.YtbniidfojllflaaLibF
/- The weights of a spectrum: closed facts at twenty classes round twenty. No program. -/
namespace Go.Fl
def wY (k m : Nat) : Nat := fdiv (floatOfInt .f32 ((k : Int) - (m : Int))) 1073741824
def wQ (k m : Nat) : Nat := fmul (wY k m) (wY k m)
def wZ (k m : Nat) : Nat := fadd 1065353216 (wQ k m)
def wP (k m : Nat) : Nat := fmul (wZ k m) (wZ k m)
def wgt (k m : Nat) : Nat := fdiv 1065353216 (wP k m)
def wOk (k m : Nat) : Bool :=
  (S.div (floatOfInt .f32 ((k : Int) - (m : Int))) 1073741824 == some (wY k m)) && (S.mul (wY k m) (wY k m) == some (wQ k m)) && amtB (wQ k m) && amtB (wZ k m) && amtB (wP k m) && (wP k m != 0) && amtB (wgt k m) && (wgt k m != 0)
theorem all_ok : ((List.range 20).all fun k => (List.range 20).all fun m => wOk k m) = true := by decide +kernel
theorem w_ok {k m : Nat} (hk : k < 20) (hm : m < 20) : wOk k m = true := by
  have h1 := List.all_eq_true.1 all_ok k (List.mem_range.2 hk)
  exact List.all_eq_true.1 h1 m (List.mem_range.2 hm)
theorem w_facts {k m : Nat} (hk : k < 20) (hm : m < 20) : S.div (floatOfInt .f32 ((k : Int) - (m : Int))) 1073741824 = some (wY k m) ∧ S.mul (wY k m) (wY k m) = some (wQ k m) ∧ amtB (wQ k m) = true ∧ amtB (wZ k m) = true ∧ amtB (wP k m) = true ∧ wP k m ≠ 0 ∧ amtB (wgt k m) = true ∧ wgt k m ≠ 0 := by
  have h := w_ok hk hm
  simp only [wOk, Bool.and_eq_true, beq_iff_eq, bne_iff_ne] at h
  obtain ⟨⟨⟨⟨⟨⟨⟨a, b⟩, c⟩, d⟩, e⟩, f⟩, g⟩, i⟩ := h
  exact ⟨a, b, c, d, e, f, g, i⟩
def wg (m : Nat) : Nat → Nat := fun k => wgt k m
/-- The sum of all weights. -/
def wOk2 (m : Nat) : Bool := amtB (sumF (wg m) 19) && (sumF (wg m) 19 != 0)
theorem all_ok2 : ((List.range 20).all fun m => wOk2 m) = true := by decide +kernel
theorem wsum {m : Nat} (hm : m < 20) : amtB (sumF (wg m) 19) = true ∧ sumF (wg m) 19 ≠ 0 := by
  have h := List.all_eq_true.1 all_ok2 m (List.mem_range.2 hm)
  simp only [wOk2, Bool.and_eq_true, bne_iff_ne] at h
  exact h
end Go.Fl
namespace Go.Fl
theorem wg_amt {m : Nat} (hm : m < 20) {i : Nat} (hi : i < 20) : amtB (wg m i) = true := (w_facts hi hm).2.2.2.2.2.2.1
/-- The numbers of a spectrum. -/
def spq (x m : Nat) : Nat → Nat := fun i => fdiv (fmul x (wg m i)) (sumF (wg m) 19)
theorem spq_nn {x m i : Nat} (hx : amtB x = true) (hm : m < 20) (hi : i < 20) : nnB (spq x m i) = true := (div_eq (mul_eq hx (wg_amt hm hi)).2 (wsum hm).1 (wsum hm).2).2
end Go.Fl
