import Derived.Test.YtbniidfojllflaaArr
/- What the model draws where a single or a double is a NaN. No program. -/
namespace Go.Fl
open Ieee

def finB (x : Nat) : Bool := decide (mg x < INF)
def amtB (x : Nat) : Bool := decide (x < INF)

theorem finB_iff {x : Nat} : finB x = true ↔ mg x < INF := by simp [finB]
theorem amtB_iff {x : Nat} : amtB x = true ↔ x < INF := by simp [amtB]
theorem finB_iff' {x : Nat} : finB x = false ↔ INF ≤ mg x := by simp [finB]
theorem amtB_iff' {x : Nat} : amtB x = false ↔ INF ≤ x := by simp [amtB]
theorem amt_fin {x : Nat} (h : amtB x = true) : finB x = true := by
  rw [amtB_iff, INF_val] at h; rw [finB_iff, INF_val]; unfold mg; omega

section
variable {P : Program} (w : World)

/-- The cut of a drawn NaN. -/
theorem cut_nan32 (x y t : Nat) : INF < mg ((Question.nanBits .f32 x y).cut t) ∧ (Question.nanBits .f32 x y).cut t < 4294967296 := by
  simp only [Question.cut, INF_val]
  unfold mg
  have h1 : t % 2 < 2 := Nat.mod_lt _ (by decide)
  have h2 : (t / 2) % (2 ^ 23 - 1) < 2 ^ 23 - 1 := Nat.mod_lt _ (by decide)
  simp only [Nat.reducePow, Nat.reduceSub] at h2 ⊢
  generalize t % 2 = a at *
  generalize t / 2 % _ = b at *
  have : a = 0 ∨ a = 1 := by omega
  rcases this with rfl | rfl <;> omega

theorem cut_nanConv64 (x t : Nat) : DINF < (Question.nanConv .f64 x).cut t % 9223372036854775808 ∧ (Question.nanConv .f64 x).cut t < 18446744073709551616 := by
  simp only [Question.cut, DINF_val]
  have h1 : t % 2 < 2 := Nat.mod_lt _ (by decide)
  have h2 : (t / 2) % (2 ^ 52 - 1) < 2 ^ 52 - 1 := Nat.mod_lt _ (by decide)
  simp only [Nat.reducePow, Nat.reduceSub] at h2 ⊢
  generalize t % 2 = a at *
  generalize t / 2 % _ = b at *
  have : a = 0 ∨ a = 1 := by omega
  rcases this with rfl | rfl <;> omega

/-- An invalid operation on singles draws a NaN. -/
theorem run_arith_nan (op : BinOp) (hop : op = .add ∨ op = .sub ∨ op = .mul ∨ op = .quo) (t : TypeId) (x y : Nat) (h : floatBits op .f32 x y = none) :
    ∃ z, (binOp op t (.float .f32 x) (.float .f32 y)).run P w = .ok (.float .f32 z) w.drew ∧ INF < mg z ∧ z < 4294967296 := by
  refine ⟨(Question.nanBits .f32 x y).cut (w.tape w.drawn (.nanBits .f32 x y)), ?_, cut_nan32 _ _ _⟩
  unfold floatBits at h
  rcases hop with rfl | rfl | rfl | rfl <;> simp only at h <;> simp [binOp, Op.floatArith, h, Question.forced]

theorem run_conv_nan (src dst : TypeId) (x : Nat) (hs : (P.underlying src) = some (.float .f32)) (hd : P.underlying dst = some (.float .f64)) (h : INF < mg x) :
    ∃ z, (convert src dst (.float .f32 x)).run P w = .ok (.float .f64 z) w.drew ∧ DINF < z % 9223372036854775808 ∧ z < 18446744073709551616 := by
  refine ⟨(Question.nanConv .f64 x).cut (w.tape w.drawn (.nanConv .f64 x)), ?_, cut_nanConv64 _ _⟩
  obtain ⟨s, t, e⟩ := read_nan h
  have e' : FloatKind.f32.decode x = .nan s t := e
  simp [convert, run_underlying hs, run_underlying hd, Conv.floatToFloat, e', Question.forced]

/-- A single that is no NaN widens to one double. -/
theorem run_conv_wid (src dst : TypeId) (x : Nat) (hx : x < 4294967296) (hs : (P.underlying src) = some (.float .f32)) (hd : P.underlying dst = some (.float .f64)) (h : mg x < INF) :
    (convert src dst (.float .f32 x)).run P w = .ok (.float .f64 (wid x)) w := by
  refine run_convert_float_float w src dst .f32 .f64 x (wid x) (by rw [hs]; rfl) hd ?_
  obtain ⟨m, e, h1, h2⟩ := read_fin hx h
  obtain ⟨_, _, m', e', h3⟩ := read_wid_fin hx h
  unfold floatToFloatBits
  rw [if_neg (by decide)]
  have e1 : FloatKind.f32.decode x = .number (decide (2147483648 ≤ x)) m e := h2
  rw [e1]
  have e2 : FloatKind.f64.encode (.number (decide (2147483648 ≤ x)) m e) = wid x := by unfold wid; rw [h2]; rfl
  simp only [e2]
  have e3 : FloatKind.f64.decode (wid x) = .number (decide (2147483648 ≤ x)) m' e' := h3
  rw [e3]
  simp [Datum.isInfinity]

theorem run_conv_inf (src dst : TypeId) (x : Nat) (hx : x < 4294967296) (hs : (P.underlying src) = some (.float .f32)) (hd : P.underlying dst = some (.float .f64)) (h : mg x = INF) :
    ∃ z, (convert src dst (.float .f32 x)).run P w = .ok (.float .f64 z) w ∧ z % 9223372036854775808 = DINF ∧ z < 18446744073709551616 := by
  have e1 : FloatKind.f32.decode x = .infinity (decide (2147483648 ≤ x)) := by
    show S.read x = _
    rw [read_sign hx, h, read_INF]
  refine ⟨FloatKind.f64.encode (.infinity (decide (2147483648 ≤ x))), run_convert_float_float w src dst .f32 .f64 x _ (by rw [hs]; rfl) hd ?_, ?_, ?_⟩
  · unfold floatToFloatBits
    rw [if_neg (by decide), e1]
  · generalize decide (2147483648 ≤ x) = b
    cases b <;> decide
  · generalize decide (2147483648 ≤ x) = b
    cases b <;> decide
end
end Go.Fl
