/-
  DERIVED. GIVEN WITH THE SEED: THE PROGRAM's TIES (one call each: nine closed facts by the kernel) AND EACH ROW's TIE, after the 31st guide's Derived/Test/Toyas{Tie, Card}.lean. No idea stands in it: it is a product of the set-up. Laid BY PROGRAM, IN A SANDBOX (cutbox-door.mjs). By AI agents, Wed Nov 11 2026. No macro, syntax, notation, axiom, sorry.
-/
import Derived.Test.YtniadajcdldfkaaDoorRows
import Derived.LaidByTextLater
import Derived.SevenTiedAt
import Derived.LaidSub
import Derived.LaidOnce
namespace Go.Proofs.YtniadajcdldfkaaDoor
open Go
set_option maxRecDepth 100000
theorem seatTie1 : Tryd.prog.laidByTextLater [("errors.errorType", Rows.laid_errors_errorType), ("pouch/tensor.errRank", Rows.laid_pouch_tensor_errRank), ("pouch/tensor.errDim", Rows.laid_pouch_tensor_errDim), ("pouch/flate.ErrEnd", Rows.laid_pouch_flate_ErrEnd), ("pouch/flate.ErrMost", Rows.laid_pouch_flate_ErrMost), ("pouch/archive.ErrMost", Rows.laid_pouch_archive_ErrMost), ("pouch/archive.ErrSum", Rows.laid_pouch_archive_ErrSum), ("pouch/view.errStrides", Rows.laid_pouch_view_errStrides), ("pouch/view.errWidth", Rows.laid_pouch_view_errWidth), ("pouch/view.errMany", Rows.laid_pouch_view_errMany), ("pouch/view.errFrom", Rows.laid_pouch_view_errFrom), ("pouch/view.errFar", Rows.laid_pouch_view_errFar), ("pouch/view.errOutside", Rows.laid_pouch_view_errOutside)] [.handle, .sentinel, .sentinel, .sentinel, .sentinel, .sentinel, .sentinel, .sentinel, .sentinel, .sentinel, .sentinel, .sentinel, .sentinel] true :=
  Program.laidByTextLater_by_one 244 8 2 (by kernel_rfl) (by kernel_rfl) (by kernel_rfl) (by kernel_rfl) (by kernel_rfl) (by kernel_rfl) (fun _ _ => by kernel_rfl)
theorem noOwnUnsafe : Tryd.pinned.checked.prog.headLifts.contains "ownunsafe" = false := by kernel_rfl
theorem tie : Tryd.prog.laidByTextLater [("errors.errorType", Rows.laid_errors_errorType), ("pouch/tensor.errRank", Rows.laid_pouch_tensor_errRank), ("pouch/tensor.errDim", Rows.laid_pouch_tensor_errDim), ("pouch/flate.ErrEnd", Rows.laid_pouch_flate_ErrEnd), ("pouch/flate.ErrMost", Rows.laid_pouch_flate_ErrMost), ("pouch/archive.ErrMost", Rows.laid_pouch_archive_ErrMost), ("pouch/archive.ErrSum", Rows.laid_pouch_archive_ErrSum), ("pouch/view.errStrides", Rows.laid_pouch_view_errStrides), ("pouch/view.errWidth", Rows.laid_pouch_view_errWidth), ("pouch/view.errMany", Rows.laid_pouch_view_errMany), ("pouch/view.errFrom", Rows.laid_pouch_view_errFrom), ("pouch/view.errFar", Rows.laid_pouch_view_errFar), ("pouch/view.errOutside", Rows.laid_pouch_view_errOutside)] [.handle, .sentinel, .sentinel, .sentinel, .sentinel, .sentinel, .sentinel, .sentinel, .sentinel, .sentinel, .sentinel, .sentinel, .sentinel] true :=
  Program.laidByTextLater.sub seatTie1 ["errors.errorType", "pouch/tensor.errRank", "pouch/tensor.errDim", "pouch/flate.ErrEnd", "pouch/flate.ErrMost", "pouch/archive.ErrMost", "pouch/archive.ErrSum", "pouch/view.errStrides", "pouch/view.errWidth", "pouch/view.errMany", "pouch/view.errFrom", "pouch/view.errFar", "pouch/view.errOutside"] (by kernel_rfl) (by kernel_rfl)
theorem rows_row_tie : Rows.rowsRow.laidByTextAt .later Tryd.pinned [.handle, .sentinel, .sentinel, .sentinel, .sentinel, .sentinel, .sentinel, .sentinel, .sentinel, .sentinel, .sentinel, .sentinel, .sentinel] true :=
  OpenClaim.laidByTextAt_later rfl rfl tie noOwnUnsafe
theorem rowsUpto_row_tie : Rows.rowsUptoRow.laidByTextAt .later Tryd.pinned [.handle, .sentinel, .sentinel, .sentinel, .sentinel, .sentinel, .sentinel, .sentinel, .sentinel, .sentinel, .sentinel, .sentinel, .sentinel] true :=
  OpenClaim.laidByTextAt_later rfl rfl tie noOwnUnsafe
end Go.Proofs.YtniadajcdldfkaaDoor
