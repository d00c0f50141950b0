import Derived.Test.YtbniidfojllflaaHeads
import Derived.Test.YtbniidfojllflaaFrame
import Derived.Test.YtbniidfojllflaaArr
/- What every law's frame over this program asks once. -/
namespace Go.Proofs.Ytbniidfojllflaa
open Go.RowKit Go.Fl
theorem arr1 {α : Type} {cs : Array α} (h : cs.size = 1) : ∃ c0, cs = #[c0] := by
  obtain ⟨l⟩ := cs
  match l, h with
  | [a], _ => exact ⟨a, rfl⟩
theorem arr2 {α : Type} {cs : Array α} (h : cs.size = 2) : ∃ c0 c1, cs = #[c0, c1] := by
  obtain ⟨l⟩ := cs
  match l, h with
  | [a, b], _ => exact ⟨a, b, rfl⟩
theorem arr3 {α : Type} {cs : Array α} (h : cs.size = 3) : ∃ c0 c1 c2, cs = #[c0, c1, c2] := by
  obtain ⟨l⟩ := cs
  match l, h with
  | [a, b, c], _ => exact ⟨a, b, c, rfl⟩
theorem own : ownKnob Try.prog.godebug = none := by kernel_rfl
theorem cells20 : Try.prog.cellsOf 25 = 20 := by kernel_rfl
theorem types20 : Try.prog.cellTypes Try.prog.depth 25 = some (List.replicate 20 24) := by kernel_rfl
theorem rda : Try.prog.readableRec 25 = true ∧ 25 < Try.prog.types.size := ⟨by kernel_rfl, of_decide_eq_true (by kernel_rfl)⟩
theorem rdf : Try.prog.readableRec 24 = true ∧ 24 < Try.prog.types.size := ⟨by kernel_rfl, of_decide_eq_true (by kernel_rfl)⟩
theorem rdi : Try.prog.readableRec 2 = true ∧ 2 < Try.prog.types.size := ⟨by kernel_rfl, of_decide_eq_true (by kernel_rfl)⟩
end Go.Proofs.Ytbniidfojllflaa
