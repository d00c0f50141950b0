import Derived.Test.YtbniidfojllflaaT10
namespace Go.Proofs.Ytbniidfojllflaa
open Go.RowKit Go.Fl

def Amts (c : Nat → Nat) : Prop := ∀ i, i < 20 → amtB (c i) = true

set_option maxRecDepth 100000 in
theorem sCountOf_ok (c : Nat → Nat) (h : Amts c) (w : World) :
    Calls Try.prog 60 #[.agg (fls c)] w fun e w' => e = .returned (told (sumF c 19)) ∧ Below w.heap.size w w' := by
  have A0 := hid (arrAt.new w c 26)
  have b0 := boxed w (.cells (fls c) 26)
  have hn : ∀ i, i < 20 → nnB (c i) = true := fun i hi => amt_nn (h i hi)
  have Hn := hid hn
  have H := hid h
  have hx := hid (nn_lt (sumF_nn 19 (fun i hi => hn i (by omega))))
  clear h hn
  rcases hf : finB (sumF c 19) with _ | _
  · have Hf := hid hf
    rw [told_f hf]
    clear hf
    go_enter Try.func60, Try.ntmps60
    go_wp2_with fail
    refine (sOk_t c H.out _ w.heap.size 26 A0.out).mono ?_
    rintro e w1 ⟨rfl, rfl⟩
    go_wp2_with fail
    refine (sCount c Hn.out _ w.heap.size 26 A0.out).mono ?_
    rintro e w1 ⟨rfl, rfl⟩
    go_wp2_with fail
    refine (sTold_f _ hx.out Hf.out _).mono ?_
    rintro e w1 ⟨rfl, hb⟩
    go_wp2
    go_ret2
    exact ⟨rfl, stp b0 (Nat.le_refl _) hb⟩
  · have Hf := hid hf
    rw [told_t hf]
    clear hf
    go_enter Try.func60, Try.ntmps60
    go_wp2_with fail
    refine (sOk_t c H.out _ w.heap.size 26 A0.out).mono ?_
    rintro e w1 ⟨rfl, rfl⟩
    go_wp2_with fail
    refine (sCount c Hn.out _ w.heap.size 26 A0.out).mono ?_
    rintro e w1 ⟨rfl, rfl⟩
    go_wp2_with fail
    refine (sTold_t _ hx.out Hf.out _).mono ?_
    rintro e w1 ⟨rfl, rfl⟩
    go_wp2
    go_ret2
    exact ⟨rfl, b0⟩
end Go.Proofs.Ytbniidfojllflaa
