/-
  DERIVED. GIVEN WITH THE SEED: THE PROGRAM's TIES (one call each: nine closed facts by the kernel) AND EACH ROW's TIE, after the 31st guide's Derived/Test/Toyas{Tie, Card}.lean. No idea stands in it: it is a product of the set-up. Laid BY PROGRAM, IN A SANDBOX (cutbox-door.mjs). By AI agents, Wed Nov 11 2026. No macro, syntax, notation, axiom, sorry.
-/
import Derived.Test.YtllkjockdogagaaDoorRows
import Derived.LaidByTextLater
import Derived.SevenTiedAt
import Derived.LaidSub
import Derived.LaidOnce
namespace Go.Proofs.YtllkjockdogagaaDoor
open Go
set_option maxRecDepth 100000
theorem seatTie1 : Tryd.prog.laidByTextLater [("loop.example/g01224/impl.errUnfit", Rows.laid_loop_example_g01224_impl_errUnfit), ("loop.example/g01224/impl.errBeyond", Rows.laid_loop_example_g01224_impl_errBeyond), ("loop.example/g01224/impl.errCrowded", Rows.laid_loop_example_g01224_impl_errCrowded), ("loop.example/g01224/impl.errNoText", Rows.laid_loop_example_g01224_impl_errNoText), ("loop.example/g01224/impl.errNowhere", Rows.laid_loop_example_g01224_impl_errNowhere)] [.sentinel, .sentinel, .sentinel, .sentinel, .sentinel] true :=
  Program.laidByTextLater_by_one 104 8 2 (by kernel_rfl) (by kernel_rfl) (by kernel_rfl) (by kernel_rfl) (by kernel_rfl) (by kernel_rfl) (fun _ _ => by kernel_rfl)
theorem noOwnUnsafe : Tryd.pinned.checked.prog.headLifts.contains "ownunsafe" = false := by kernel_rfl
theorem tie : Tryd.prog.laidByTextLater [("loop.example/g01224/impl.errUnfit", Rows.laid_loop_example_g01224_impl_errUnfit), ("loop.example/g01224/impl.errBeyond", Rows.laid_loop_example_g01224_impl_errBeyond), ("loop.example/g01224/impl.errCrowded", Rows.laid_loop_example_g01224_impl_errCrowded), ("loop.example/g01224/impl.errNoText", Rows.laid_loop_example_g01224_impl_errNoText), ("loop.example/g01224/impl.errNowhere", Rows.laid_loop_example_g01224_impl_errNowhere)] [.sentinel, .sentinel, .sentinel, .sentinel, .sentinel] true :=
  Program.laidByTextLater.sub seatTie1 ["loop.example/g01224/impl.errUnfit", "loop.example/g01224/impl.errBeyond", "loop.example/g01224/impl.errCrowded", "loop.example/g01224/impl.errNoText", "loop.example/g01224/impl.errNowhere"] (by kernel_rfl) (by kernel_rfl)
theorem fnExactEchoAt_row_tie : Rows.fnExactEchoAtRow.laidByTextAt .later Tryd.pinned [.sentinel, .sentinel, .sentinel, .sentinel, .sentinel] true :=
  OpenClaim.laidByTextAt_later rfl rfl tie noOwnUnsafe
theorem fnExactStrongestCell_row_tie : Rows.fnExactStrongestCellRow.laidByTextAt .later Tryd.pinned [.sentinel, .sentinel, .sentinel, .sentinel, .sentinel] true :=
  OpenClaim.laidByTextAt_later rfl rfl tie noOwnUnsafe
theorem fnExactFoldSpeed_row_tie : Rows.fnExactFoldSpeedRow.laidByTextAt .later Tryd.pinned [.sentinel, .sentinel, .sentinel, .sentinel, .sentinel] true :=
  OpenClaim.laidByTextAt_later rfl rfl tie noOwnUnsafe
theorem fnExactLoudnessOf_row_tie : Rows.fnExactLoudnessOfRow.laidByTextAt .later Tryd.pinned [.sentinel, .sentinel, .sentinel, .sentinel, .sentinel] true :=
  OpenClaim.laidByTextAt_later rfl rfl tie noOwnUnsafe
theorem fnExactEchoAtUpto_row_tie : Rows.fnExactEchoAtUptoRow.laidByTextAt .later Tryd.pinned [.sentinel, .sentinel, .sentinel, .sentinel, .sentinel] true :=
  OpenClaim.laidByTextAt_later rfl rfl tie noOwnUnsafe
theorem fnExactStrongestCellUpto_row_tie : Rows.fnExactStrongestCellUptoRow.laidByTextAt .later Tryd.pinned [.sentinel, .sentinel, .sentinel, .sentinel, .sentinel] true :=
  OpenClaim.laidByTextAt_later rfl rfl tie noOwnUnsafe
theorem fnExactFoldSpeedUpto_row_tie : Rows.fnExactFoldSpeedUptoRow.laidByTextAt .later Tryd.pinned [.sentinel, .sentinel, .sentinel, .sentinel, .sentinel] true :=
  OpenClaim.laidByTextAt_later rfl rfl tie noOwnUnsafe
theorem fnExactLoudnessOfUpto_row_tie : Rows.fnExactLoudnessOfUptoRow.laidByTextAt .later Tryd.pinned [.sentinel, .sentinel, .sentinel, .sentinel, .sentinel] true :=
  OpenClaim.laidByTextAt_later rfl rfl tie noOwnUnsafe
end Go.Proofs.YtllkjockdogagaaDoor
