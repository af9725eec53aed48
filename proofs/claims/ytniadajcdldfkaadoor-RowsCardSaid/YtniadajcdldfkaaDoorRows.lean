/-
  NARROWER THAN 'FOR EVERY INPUT', by the rows' own cells (each row's printed sentence says how): Rows: laid.
  DERIVED. THE GIVEN ROWS OF THIS SEAT. 1 by the template 'for every input the law returns true; each argument reads behind the call as it read before'; 0 by the template 'total and deterministic' (their statements: YtniadajcdldfkaaDoorTotals.lean).
  GIVEN WITH THE SEED: the statements are not yours to turn. If you find one false, say at which input.
  Laid BY PROGRAM, IN A SANDBOX (cutbox-rows.mjs): the forced cells as the released guide's own fill.sh prints them over the translation 110b7b9fc0e74e7c… (all of the seat's roots in one cut). By AI agents, Wed Nov 11 2026. No macro, syntax, notation, axiom, sorry.
-/
import Derived.Test.YtniadajcdldfkaaDoorChecked
import GoSem.Claim
import GoSem.ClaimJoined
import GoSem.ClaimMapViews
import Derived.JoinedTies
import Derived.KernelRfl
namespace Go.Proofs.YtniadajcdldfkaaDoor
/- THE CELL 'sum', in the pinned program and in every row, IS THE sha256 OF THE DUMP (.gsa) THAT YtniadajcdldfkaaDoorProg.lean LOADS. Nothing in Lean hashes anything: it is a label: what it is worth is what the hold of that sum in a sandbox is worth. -/
noncomputable def Tryd.pinned : Pinned := { name := "ytniadajcdldfkaadoor", sum := "110b7b9fc0e74e7c5d735632612a5d9cc7261008eb0ab733bd98ee1e6daaac79", checked := Tryd.checked }
namespace Rows
def none {H : Type} : Left H := { results := [], args := [] }

/- WHAT THE LISTED PACKAGE-LEVEL VARIABLES READ AS WHEN THE CALL BEGINS. Each datum BY PROGRAM (the guide's laid-datum.mjs) off the statement by which the dump's own 'gosem.cut.vars' lays the variable. In a bare row this is a premise. The card (YtniadajcdldfkaaDoorCards.lean) ties it to the program's text. -/
def laid_errors_errorType {H : Type} : DataW H := .iface "internal/reflectlite.rtype" (.agg [.ptr (.lit (.string [101, 114, 114, 111, 114]))])
def laid_pouch_tensor_errRank {H : Type} : DataW H := .iface "*errors.errorString" (.ptr (.agg [.lit (.string [97, 32, 115, 104, 97, 112, 101, 32, 111, 102, 32, 116, 111, 111, 32, 109, 97, 110, 121, 32, 110, 117, 109, 98, 101, 114, 115])]))
def laid_pouch_tensor_errDim {H : Type} : DataW H := .iface "*errors.errorString" (.ptr (.agg [.lit (.string [97, 32, 110, 117, 109, 98, 101, 114, 32, 116, 104, 97, 116, 32, 110, 111, 32, 115, 104, 97, 112, 101, 32, 104, 97, 115])]))
def laid_pouch_flate_ErrEnd {H : Type} : DataW H := .iface "*errors.errorString" (.ptr (.agg [.lit (.string [116, 104, 101, 32, 98, 105, 116, 115, 32, 97, 114, 101, 32, 97, 116, 32, 116, 104, 101, 105, 114, 32, 101, 110, 100])]))
def laid_pouch_flate_ErrMost {H : Type} : DataW H := .iface "*errors.errorString" (.ptr (.agg [.lit (.string [109, 111, 114, 101, 32, 98, 121, 116, 101, 115, 32, 116, 104, 97, 110, 32, 97, 114, 101, 32, 119, 97, 110, 116, 101, 100])]))
def laid_pouch_archive_ErrMost {H : Type} : DataW H := .iface "*errors.errorString" (.ptr (.agg [.lit (.string [97, 32, 102, 105, 108, 101, 32, 116, 104, 97, 116, 32, 105, 115, 32, 108, 111, 110, 103, 101, 114, 32, 116, 104, 97, 110, 32, 105, 115, 32, 119, 97, 110, 116, 101, 100])]))
def laid_pouch_archive_ErrSum {H : Type} : DataW H := .iface "*errors.errorString" (.ptr (.agg [.lit (.string [97, 32, 102, 105, 108, 101, 32, 111, 102, 32, 97, 110, 111, 116, 104, 101, 114, 32, 115, 117, 109])]))
def laid_pouch_view_errStrides {H : Type} : DataW H := .iface "*errors.errorString" (.ptr (.agg [.lit (.string [110, 111, 116, 32, 97, 115, 32, 109, 97, 110, 121, 32, 115, 116, 114, 105, 100, 101, 115, 32, 97, 115, 32, 116, 104, 101, 32, 115, 104, 97, 112, 101, 32, 104, 97, 115, 32, 110, 117, 109, 98, 101, 114, 115])]))
def laid_pouch_view_errWidth {H : Type} : DataW H := .iface "*errors.errorString" (.ptr (.agg [.lit (.string [97, 32, 119, 105, 100, 116, 104, 32, 116, 104, 97, 116, 32, 110, 111, 32, 105, 116, 101, 109, 32, 104, 97, 115])]))
def laid_pouch_view_errMany {H : Type} : DataW H := .iface "*errors.errorString" (.ptr (.agg [.lit (.string [109, 111, 114, 101, 32, 98, 121, 116, 101, 115, 32, 116, 104, 97, 110, 32, 109, 97, 121, 32, 98, 101, 32, 118, 105, 101, 119, 101, 100])]))
def laid_pouch_view_errFrom {H : Type} : DataW H := .iface "*errors.errorString" (.ptr (.agg [.lit (.string [97, 32, 98, 101, 103, 105, 110, 110, 105, 110, 103, 32, 116, 104, 97, 116, 32, 105, 115, 32, 110, 111, 116, 32, 105, 110, 32, 116, 104, 101, 32, 98, 121, 116, 101, 115])]))
def laid_pouch_view_errFar {H : Type} : DataW H := .iface "*errors.errorString" (.ptr (.agg [.lit (.string [97, 32, 115, 116, 114, 105, 100, 101, 32, 116, 104, 97, 116, 32, 108, 101, 97, 100, 115, 32, 98, 101, 121, 111, 110, 100, 32, 97, 108, 108, 32, 98, 121, 116, 101, 115])]))
def laid_pouch_view_errOutside {H : Type} : DataW H := .iface "*errors.errorString" (.ptr (.agg [.lit (.string [97, 110, 32, 105, 116, 101, 109, 32, 116, 104, 97, 116, 32, 100, 111, 101, 115, 32, 110, 111, 116, 32, 108, 105, 101, 32, 105, 110, 32, 116, 104, 101, 32, 98, 121, 116, 101, 115])]))

/-- 'pouchlaw.Rows': WHATEVER THE INPUT: true; the input reads as it did. -/
def rowsSpec : ChangeSpec := { name := "rows", fn := fun _ => fun
  | [d] => { results := [.lit (.bool true)], args := [d] }
  | _ => none }
def rowsRow : OpenClaim := { program := "ytniadajcdldfkaadoor", sum := "110b7b9fc0e74e7c5d735632612a5d9cc7261008eb0ab733bd98ee1e6daaac79", func := "pouch/pouchlaw.Rows", spec := "rows", inPlace := ["internal/abi.NoEscape", "internal/reflectlite.ValueOf", "(internal/reflectlite.Value).Type", "(internal/reflectlite.Value).IsNil", "internal/reflectlite.TypeOf", "(internal/reflectlite.Value).Elem", "(internal/reflectlite.Value).Set"], unfollowed := true, recurses := true, named := ["pouch/view.errOutside", "pouch/view.errStrides", "pouch/view.errWidth", "pouch/view.errMany", "pouch/view.errFrom", "pouch/view.errFar", "pouch/tensor.errRank", "pouch/tensor.errDim", "pouch/flate.ErrEnd", "pouch/flate.ErrMost", "pouch/archive.ErrMost", "pouch/archive.ErrSum", "errors.errorType"], apart := false, laid := [("errors.errorType", laid_errors_errorType), ("pouch/tensor.errRank", laid_pouch_tensor_errRank), ("pouch/tensor.errDim", laid_pouch_tensor_errDim), ("pouch/flate.ErrEnd", laid_pouch_flate_ErrEnd), ("pouch/flate.ErrMost", laid_pouch_flate_ErrMost), ("pouch/archive.ErrMost", laid_pouch_archive_ErrMost), ("pouch/archive.ErrSum", laid_pouch_archive_ErrSum), ("pouch/view.errStrides", laid_pouch_view_errStrides), ("pouch/view.errWidth", laid_pouch_view_errWidth), ("pouch/view.errMany", laid_pouch_view_errMany), ("pouch/view.errFrom", laid_pouch_view_errFrom), ("pouch/view.errFar", laid_pouch_view_errFar), ("pouch/view.errOutside", laid_pouch_view_errOutside)] }
def RowsSaid : Prop := rowsRow.holds Tryd.pinned (OpenSpec.ofChange rowsSpec)

/-- ITS FALSE NEIGHBOUR: 'it returns false'. Refute it at one input. -/
def rowsWrong : ChangeSpec := { name := "rows", fn := fun _ => fun
  | [d] => { results := [.lit (.bool false)], args := [d] }
  | _ => none }
def RowsWrongFalsely : Prop := rowsRow.holds Tryd.pinned (OpenSpec.ofChange rowsWrong)

/- THE SECOND FORM. 'bulk': how many values and letters a reading holds, each counted each time it is reached (what is shared counts as often as it is met; a slice's spare places count too). A statement '..UptoSaid' is the law's where the arguments, and the package variables that the reading takes, are together of bulk at most 1048576: NARROWER than '..Said'. Prove '..Said' where nothing that the law and all that it calls make is longer than what came in: it says more and counts as full. Else prove '..UptoSaid'. A law counts once. -/
mutual
def uptoBulk {H : Type} : DataW H → Nat
  | .lit (.string bytes) => bytes.length + 1
  | .lit _ => 1
  | .nil => 1
  | .ptr d => uptoBulk d + 1
  | .slice elems spare => uptoBulkAll elems + uptoBulkAll spare + 1
  | .agg parts => uptoBulkAll parts + 1
  | .iface _ d => uptoBulk d + 1
  | .map entries => uptoBulkEntries entries + 1
  | .held _ => 1
def uptoBulkAll {H : Type} : List (DataW H) → Nat
  | [] => 0
  | d :: r => uptoBulk d + uptoBulkAll r
def uptoBulkEntries {H : Type} : List (Lit × DataW H) → Nat
  | [] => 0
  | x :: r => uptoBulkEntry x + uptoBulkEntries r
def uptoBulkEntry {H : Type} : Lit × DataW H → Nat
  | (.string bytes, d) => bytes.length + uptoBulk d + 1
  | (_, d) => uptoBulk d + 1
 end
def uptoSmall : (H : Type) → List (DataW H) → Bool := fun _ ds => decide (uptoBulkAll ds ≤ 1048576)
def OpenSpec.upto (s : _root_.Go.ChangeSpec) : _root_.Go.OpenSpec := { _root_.Go.OpenSpec.ofChange s with cond := some uptoSmall }

/-- 'pouchlaw.Rows', WHERE WHAT IT READS IS OF BULK AT MOST 1048576: true; the input reads as it did. -/
def rowsUptoRow : OpenClaim := { program := "ytniadajcdldfkaadoor", sum := "110b7b9fc0e74e7c5d735632612a5d9cc7261008eb0ab733bd98ee1e6daaac79", func := "pouch/pouchlaw.Rows", spec := "rows", inPlace := ["internal/abi.NoEscape", "internal/reflectlite.ValueOf", "(internal/reflectlite.Value).Type", "(internal/reflectlite.Value).IsNil", "internal/reflectlite.TypeOf", "(internal/reflectlite.Value).Elem", "(internal/reflectlite.Value).Set"], unfollowed := true, recurses := true, named := ["pouch/view.errOutside", "pouch/view.errStrides", "pouch/view.errWidth", "pouch/view.errMany", "pouch/view.errFrom", "pouch/view.errFar", "pouch/tensor.errRank", "pouch/tensor.errDim", "pouch/flate.ErrEnd", "pouch/flate.ErrMost", "pouch/archive.ErrMost", "pouch/archive.ErrSum", "errors.errorType"], apart := false, laid := [("errors.errorType", laid_errors_errorType), ("pouch/tensor.errRank", laid_pouch_tensor_errRank), ("pouch/tensor.errDim", laid_pouch_tensor_errDim), ("pouch/flate.ErrEnd", laid_pouch_flate_ErrEnd), ("pouch/flate.ErrMost", laid_pouch_flate_ErrMost), ("pouch/archive.ErrMost", laid_pouch_archive_ErrMost), ("pouch/archive.ErrSum", laid_pouch_archive_ErrSum), ("pouch/view.errStrides", laid_pouch_view_errStrides), ("pouch/view.errWidth", laid_pouch_view_errWidth), ("pouch/view.errMany", laid_pouch_view_errMany), ("pouch/view.errFrom", laid_pouch_view_errFrom), ("pouch/view.errFar", laid_pouch_view_errFar), ("pouch/view.errOutside", laid_pouch_view_errOutside)], narrowed := true }
def RowsUptoSaid : Prop := rowsUptoRow.holds Tryd.pinned (OpenSpec.upto rowsSpec)

end Rows
end Go.Proofs.YtniadajcdldfkaaDoor
