import Derived.Test.YtniadajcdldfkaaDoorRows
import Derived.Stop.LaidTwo
import Derived.LaidSub
import Derived.Below
namespace Go.Proofs.YtniadajcdldfkaaDoor
open Go.RowKit

theorem lt_of_cell {w : World} {p : Addr} {v : Value} (h : w.cell? p = some v) : p.block < w.heap.size := by
  rcases Nat.lt_or_ge p.block w.heap.size with k | k
  · exact k
  · simp [World.cell?, Array.getElem?_eq_none k] at h

/-- The cells of an error of errors.New's make lie at a. -/
def SentAt (w : World) (a : Addr) : Prop := ∃ c t, w.heap[a.block]? = some (.cells c t (0, 0))
theorem SentAt.lt {w : World} {a : Addr} (h : SentAt w a) : a.block < w.heap.size := by
  obtain ⟨c, t, h⟩ := h
  exact (Array.getElem?_eq_some_iff.1 h).1
theorem SentAt.below {w w' : World} {a : Addr} (h : SentAt w a) (hb : Below w.heap.size w w') : SentAt w' a := by
  have hn := h.lt
  obtain ⟨c, t, h⟩ := h
  exact ⟨c, t, (hb.block _ hn).trans h⟩

theorem Tryd.cellsES : Tryd.prog.cellsOf 135 = 1 := by kernel_rfl
theorem Tryd.cellsStr : Tryd.prog.cellsOf 9 = 1 := by kernel_rfl
theorem Tryd.star : "*" ++ "errors.errorString" = "*errors.errorString" := by decide
theorem Tryd.rowES (u : TypeId) (h : Tryd.prog.typeName? 3 u = some "*errors.errorString") : u = 108 :=
  typeName_ptr_named (nm := "errors.errorString") (by rw [Tryd.star]; kernel_rfl) (by kernel_rfl) (by decide) u (by rw [Tryd.star]; exact h)

def Two (W : World) (g0 g1 : Nat) : Prop := ∃ a0 a1, W.cell? ⟨g0, 0, none⟩ = some (.iface 108 (.pointer (some a0))) ∧ W.cell? ⟨g1, 0, none⟩ = some (.iface 108 (.pointer (some a1))) ∧ a0 ≠ a1 ∧ SentAt W a0 ∧ SentAt W a1

/-- Two sentinels of the list. -/
theorem sent_two {W : World} (h : laidMetH Tryd.prog Rows.rowsRow.laid W) (n0 n1 : String) (g0 g1 : Nat) (x0 x1 : List UInt8)
    (hf : ((Rows.rowsRow.laid.filter fun x => x.1 == n0 || x.1 == n1).filter fun x => x.2.handleName?.isNone) = [(n0, .iface "*errors.errorString" (.ptr (.agg [.lit (.string x0)]))), (n1, .iface "*errors.errorString" (.ptr (.agg [.lit (.string x1)])))])
    (hg0 : Tryd.prog.globalNamed n0 = some g0) (ht0 : (Tryd.prog.globals[g0]?).map (·.type) = some 34) (hg1 : Tryd.prog.globalNamed n1 = some g1) (ht1 : (Tryd.prog.globals[g1]?).map (·.type) = some 34) :
    Two W g0 g1 := by
  have h1 := (laidMetH_iff.1 (laidMetH.filter (fun x => x.1 == n0 || x.1 == n1) h)).1
  rw [hf] at h1
  obtain ⟨a0, a1, s0, s1, c0, c1, t0, t1, hv0, hv1, _, _, _, _, _, _, hne, hb0, hb1⟩ := laid_sentinels2 h1 hg0 ht0 hg1 ht1 Tryd.underlying34 Tryd.rowES Tryd.underlying108 Tryd.underlying135 rfl rfl Tryd.underlying9 Tryd.cellsES Tryd.cellsStr
  exact ⟨a0, a1, by simpa using World.var?_cell hg0 hv0 0, by simpa using World.var?_cell hg1 hv1 0, hne, ⟨c0, t0, hb0⟩, ⟨c1, t1, hb1⟩⟩

theorem two0_0 {W : World} (h : laidMetH Tryd.prog Rows.rowsRow.laid W) : Two W 11 1 := sent_two h "pouch/tensor.errRank" "pouch/flate.ErrEnd" 11 1 [97, 32, 115, 104, 97, 112, 101, 32, 111, 102, 32, 116, 111, 111, 32, 109, 97, 110, 121, 32, 110, 117, 109, 98, 101, 114, 115] [116, 104, 101, 32, 98, 105, 116, 115, 32, 97, 114, 101, 32, 97, 116, 32, 116, 104, 101, 105, 114, 32, 101, 110, 100] (by kernel_rfl) (by kernel_rfl) (by kernel_rfl) (by kernel_rfl) (by kernel_rfl)
theorem two0_1 {W : World} (h : laidMetH Tryd.prog Rows.rowsRow.laid W) : Two W 11 2 := sent_two h "pouch/tensor.errRank" "pouch/flate.ErrMost" 11 2 [97, 32, 115, 104, 97, 112, 101, 32, 111, 102, 32, 116, 111, 111, 32, 109, 97, 110, 121, 32, 110, 117, 109, 98, 101, 114, 115] [109, 111, 114, 101, 32, 98, 121, 116, 101, 115, 32, 116, 104, 97, 110, 32, 97, 114, 101, 32, 119, 97, 110, 116, 101, 100] (by kernel_rfl) (by kernel_rfl) (by kernel_rfl) (by kernel_rfl) (by kernel_rfl)
theorem two0_2 {W : World} (h : laidMetH Tryd.prog Rows.rowsRow.laid W) : Two W 11 3 := sent_two h "pouch/tensor.errRank" "pouch/archive.ErrMost" 11 3 [97, 32, 115, 104, 97, 112, 101, 32, 111, 102, 32, 116, 111, 111, 32, 109, 97, 110, 121, 32, 110, 117, 109, 98, 101, 114, 115] [97, 32, 102, 105, 108, 101, 32, 116, 104, 97, 116, 32, 105, 115, 32, 108, 111, 110, 103, 101, 114, 32, 116, 104, 97, 110, 32, 105, 115, 32, 119, 97, 110, 116, 101, 100] (by kernel_rfl) (by kernel_rfl) (by kernel_rfl) (by kernel_rfl) (by kernel_rfl)
theorem two0_3 {W : World} (h : laidMetH Tryd.prog Rows.rowsRow.laid W) : Two W 11 4 := sent_two h "pouch/tensor.errRank" "pouch/archive.ErrSum" 11 4 [97, 32, 115, 104, 97, 112, 101, 32, 111, 102, 32, 116, 111, 111, 32, 109, 97, 110, 121, 32, 110, 117, 109, 98, 101, 114, 115] [97, 32, 102, 105, 108, 101, 32, 111, 102, 32, 97, 110, 111, 116, 104, 101, 114, 32, 115, 117, 109] (by kernel_rfl) (by kernel_rfl) (by kernel_rfl) (by kernel_rfl) (by kernel_rfl)
theorem two1_0 {W : World} (h : laidMetH Tryd.prog Rows.rowsRow.laid W) : Two W 12 1 := sent_two h "pouch/tensor.errDim" "pouch/flate.ErrEnd" 12 1 [97, 32, 110, 117, 109, 98, 101, 114, 32, 116, 104, 97, 116, 32, 110, 111, 32, 115, 104, 97, 112, 101, 32, 104, 97, 115] [116, 104, 101, 32, 98, 105, 116, 115, 32, 97, 114, 101, 32, 97, 116, 32, 116, 104, 101, 105, 114, 32, 101, 110, 100] (by kernel_rfl) (by kernel_rfl) (by kernel_rfl) (by kernel_rfl) (by kernel_rfl)
theorem two1_1 {W : World} (h : laidMetH Tryd.prog Rows.rowsRow.laid W) : Two W 12 2 := sent_two h "pouch/tensor.errDim" "pouch/flate.ErrMost" 12 2 [97, 32, 110, 117, 109, 98, 101, 114, 32, 116, 104, 97, 116, 32, 110, 111, 32, 115, 104, 97, 112, 101, 32, 104, 97, 115] [109, 111, 114, 101, 32, 98, 121, 116, 101, 115, 32, 116, 104, 97, 110, 32, 97, 114, 101, 32, 119, 97, 110, 116, 101, 100] (by kernel_rfl) (by kernel_rfl) (by kernel_rfl) (by kernel_rfl) (by kernel_rfl)
theorem two1_2 {W : World} (h : laidMetH Tryd.prog Rows.rowsRow.laid W) : Two W 12 3 := sent_two h "pouch/tensor.errDim" "pouch/archive.ErrMost" 12 3 [97, 32, 110, 117, 109, 98, 101, 114, 32, 116, 104, 97, 116, 32, 110, 111, 32, 115, 104, 97, 112, 101, 32, 104, 97, 115] [97, 32, 102, 105, 108, 101, 32, 116, 104, 97, 116, 32, 105, 115, 32, 108, 111, 110, 103, 101, 114, 32, 116, 104, 97, 110, 32, 105, 115, 32, 119, 97, 110, 116, 101, 100] (by kernel_rfl) (by kernel_rfl) (by kernel_rfl) (by kernel_rfl) (by kernel_rfl)
theorem two1_3 {W : World} (h : laidMetH Tryd.prog Rows.rowsRow.laid W) : Two W 12 4 := sent_two h "pouch/tensor.errDim" "pouch/archive.ErrSum" 12 4 [97, 32, 110, 117, 109, 98, 101, 114, 32, 116, 104, 97, 116, 32, 110, 111, 32, 115, 104, 97, 112, 101, 32, 104, 97, 115] [97, 32, 102, 105, 108, 101, 32, 111, 102, 32, 97, 110, 111, 116, 104, 101, 114, 32, 115, 117, 109] (by kernel_rfl) (by kernel_rfl) (by kernel_rfl) (by kernel_rfl) (by kernel_rfl)
theorem two2_0 {W : World} (h : laidMetH Tryd.prog Rows.rowsRow.laid W) : Two W 1 5 := sent_two h "pouch/flate.ErrEnd" "pouch/view.errStrides" 1 5 [116, 104, 101, 32, 98, 105, 116, 115, 32, 97, 114, 101, 32, 97, 116, 32, 116, 104, 101, 105, 114, 32, 101, 110, 100] [110, 111, 116, 32, 97, 115, 32, 109, 97, 110, 121, 32, 115, 116, 114, 105, 100, 101, 115, 32, 97, 115, 32, 116, 104, 101, 32, 115, 104, 97, 112, 101, 32, 104, 97, 115, 32, 110, 117, 109, 98, 101, 114, 115] (by kernel_rfl) (by kernel_rfl) (by kernel_rfl) (by kernel_rfl) (by kernel_rfl)
theorem two2_1 {W : World} (h : laidMetH Tryd.prog Rows.rowsRow.laid W) : Two W 2 5 := sent_two h "pouch/flate.ErrMost" "pouch/view.errStrides" 2 5 [109, 111, 114, 101, 32, 98, 121, 116, 101, 115, 32, 116, 104, 97, 110, 32, 97, 114, 101, 32, 119, 97, 110, 116, 101, 100] [110, 111, 116, 32, 97, 115, 32, 109, 97, 110, 121, 32, 115, 116, 114, 105, 100, 101, 115, 32, 97, 115, 32, 116, 104, 101, 32, 115, 104, 97, 112, 101, 32, 104, 97, 115, 32, 110, 117, 109, 98, 101, 114, 115] (by kernel_rfl) (by kernel_rfl) (by kernel_rfl) (by kernel_rfl) (by kernel_rfl)
theorem two2_2 {W : World} (h : laidMetH Tryd.prog Rows.rowsRow.laid W) : Two W 3 5 := sent_two h "pouch/archive.ErrMost" "pouch/view.errStrides" 3 5 [97, 32, 102, 105, 108, 101, 32, 116, 104, 97, 116, 32, 105, 115, 32, 108, 111, 110, 103, 101, 114, 32, 116, 104, 97, 110, 32, 105, 115, 32, 119, 97, 110, 116, 101, 100] [110, 111, 116, 32, 97, 115, 32, 109, 97, 110, 121, 32, 115, 116, 114, 105, 100, 101, 115, 32, 97, 115, 32, 116, 104, 101, 32, 115, 104, 97, 112, 101, 32, 104, 97, 115, 32, 110, 117, 109, 98, 101, 114, 115] (by kernel_rfl) (by kernel_rfl) (by kernel_rfl) (by kernel_rfl) (by kernel_rfl)
theorem two2_3 {W : World} (h : laidMetH Tryd.prog Rows.rowsRow.laid W) : Two W 4 5 := sent_two h "pouch/archive.ErrSum" "pouch/view.errStrides" 4 5 [97, 32, 102, 105, 108, 101, 32, 111, 102, 32, 97, 110, 111, 116, 104, 101, 114, 32, 115, 117, 109] [110, 111, 116, 32, 97, 115, 32, 109, 97, 110, 121, 32, 115, 116, 114, 105, 100, 101, 115, 32, 97, 115, 32, 116, 104, 101, 32, 115, 104, 97, 112, 101, 32, 104, 97, 115, 32, 110, 117, 109, 98, 101, 114, 115] (by kernel_rfl) (by kernel_rfl) (by kernel_rfl) (by kernel_rfl) (by kernel_rfl)
theorem two3_0 {W : World} (h : laidMetH Tryd.prog Rows.rowsRow.laid W) : Two W 1 6 := sent_two h "pouch/flate.ErrEnd" "pouch/view.errWidth" 1 6 [116, 104, 101, 32, 98, 105, 116, 115, 32, 97, 114, 101, 32, 97, 116, 32, 116, 104, 101, 105, 114, 32, 101, 110, 100] [97, 32, 119, 105, 100, 116, 104, 32, 116, 104, 97, 116, 32, 110, 111, 32, 105, 116, 101, 109, 32, 104, 97, 115] (by kernel_rfl) (by kernel_rfl) (by kernel_rfl) (by kernel_rfl) (by kernel_rfl)
theorem two3_1 {W : World} (h : laidMetH Tryd.prog Rows.rowsRow.laid W) : Two W 2 6 := sent_two h "pouch/flate.ErrMost" "pouch/view.errWidth" 2 6 [109, 111, 114, 101, 32, 98, 121, 116, 101, 115, 32, 116, 104, 97, 110, 32, 97, 114, 101, 32, 119, 97, 110, 116, 101, 100] [97, 32, 119, 105, 100, 116, 104, 32, 116, 104, 97, 116, 32, 110, 111, 32, 105, 116, 101, 109, 32, 104, 97, 115] (by kernel_rfl) (by kernel_rfl) (by kernel_rfl) (by kernel_rfl) (by kernel_rfl)
theorem two3_2 {W : World} (h : laidMetH Tryd.prog Rows.rowsRow.laid W) : Two W 3 6 := sent_two h "pouch/archive.ErrMost" "pouch/view.errWidth" 3 6 [97, 32, 102, 105, 108, 101, 32, 116, 104, 97, 116, 32, 105, 115, 32, 108, 111, 110, 103, 101, 114, 32, 116, 104, 97, 110, 32, 105, 115, 32, 119, 97, 110, 116, 101, 100] [97, 32, 119, 105, 100, 116, 104, 32, 116, 104, 97, 116, 32, 110, 111, 32, 105, 116, 101, 109, 32, 104, 97, 115] (by kernel_rfl) (by kernel_rfl) (by kernel_rfl) (by kernel_rfl) (by kernel_rfl)
theorem two3_3 {W : World} (h : laidMetH Tryd.prog Rows.rowsRow.laid W) : Two W 4 6 := sent_two h "pouch/archive.ErrSum" "pouch/view.errWidth" 4 6 [97, 32, 102, 105, 108, 101, 32, 111, 102, 32, 97, 110, 111, 116, 104, 101, 114, 32, 115, 117, 109] [97, 32, 119, 105, 100, 116, 104, 32, 116, 104, 97, 116, 32, 110, 111, 32, 105, 116, 101, 109, 32, 104, 97, 115] (by kernel_rfl) (by kernel_rfl) (by kernel_rfl) (by kernel_rfl) (by kernel_rfl)
theorem two4_0 {W : World} (h : laidMetH Tryd.prog Rows.rowsRow.laid W) : Two W 1 7 := sent_two h "pouch/flate.ErrEnd" "pouch/view.errMany" 1 7 [116, 104, 101, 32, 98, 105, 116, 115, 32, 97, 114, 101, 32, 97, 116, 32, 116, 104, 101, 105, 114, 32, 101, 110, 100] [109, 111, 114, 101, 32, 98, 121, 116, 101, 115, 32, 116, 104, 97, 110, 32, 109, 97, 121, 32, 98, 101, 32, 118, 105, 101, 119, 101, 100] (by kernel_rfl) (by kernel_rfl) (by kernel_rfl) (by kernel_rfl) (by kernel_rfl)
theorem two4_1 {W : World} (h : laidMetH Tryd.prog Rows.rowsRow.laid W) : Two W 2 7 := sent_two h "pouch/flate.ErrMost" "pouch/view.errMany" 2 7 [109, 111, 114, 101, 32, 98, 121, 116, 101, 115, 32, 116, 104, 97, 110, 32, 97, 114, 101, 32, 119, 97, 110, 116, 101, 100] [109, 111, 114, 101, 32, 98, 121, 116, 101, 115, 32, 116, 104, 97, 110, 32, 109, 97, 121, 32, 98, 101, 32, 118, 105, 101, 119, 101, 100] (by kernel_rfl) (by kernel_rfl) (by kernel_rfl) (by kernel_rfl) (by kernel_rfl)
theorem two4_2 {W : World} (h : laidMetH Tryd.prog Rows.rowsRow.laid W) : Two W 3 7 := sent_two h "pouch/archive.ErrMost" "pouch/view.errMany" 3 7 [97, 32, 102, 105, 108, 101, 32, 116, 104, 97, 116, 32, 105, 115, 32, 108, 111, 110, 103, 101, 114, 32, 116, 104, 97, 110, 32, 105, 115, 32, 119, 97, 110, 116, 101, 100] [109, 111, 114, 101, 32, 98, 121, 116, 101, 115, 32, 116, 104, 97, 110, 32, 109, 97, 121, 32, 98, 101, 32, 118, 105, 101, 119, 101, 100] (by kernel_rfl) (by kernel_rfl) (by kernel_rfl) (by kernel_rfl) (by kernel_rfl)
theorem two4_3 {W : World} (h : laidMetH Tryd.prog Rows.rowsRow.laid W) : Two W 4 7 := sent_two h "pouch/archive.ErrSum" "pouch/view.errMany" 4 7 [97, 32, 102, 105, 108, 101, 32, 111, 102, 32, 97, 110, 111, 116, 104, 101, 114, 32, 115, 117, 109] [109, 111, 114, 101, 32, 98, 121, 116, 101, 115, 32, 116, 104, 97, 110, 32, 109, 97, 121, 32, 98, 101, 32, 118, 105, 101, 119, 101, 100] (by kernel_rfl) (by kernel_rfl) (by kernel_rfl) (by kernel_rfl) (by kernel_rfl)
theorem two5_0 {W : World} (h : laidMetH Tryd.prog Rows.rowsRow.laid W) : Two W 1 8 := sent_two h "pouch/flate.ErrEnd" "pouch/view.errFrom" 1 8 [116, 104, 101, 32, 98, 105, 116, 115, 32, 97, 114, 101, 32, 97, 116, 32, 116, 104, 101, 105, 114, 32, 101, 110, 100] [97, 32, 98, 101, 103, 105, 110, 110, 105, 110, 103, 32, 116, 104, 97, 116, 32, 105, 115, 32, 110, 111, 116, 32, 105, 110, 32, 116, 104, 101, 32, 98, 121, 116, 101, 115] (by kernel_rfl) (by kernel_rfl) (by kernel_rfl) (by kernel_rfl) (by kernel_rfl)
theorem two5_1 {W : World} (h : laidMetH Tryd.prog Rows.rowsRow.laid W) : Two W 2 8 := sent_two h "pouch/flate.ErrMost" "pouch/view.errFrom" 2 8 [109, 111, 114, 101, 32, 98, 121, 116, 101, 115, 32, 116, 104, 97, 110, 32, 97, 114, 101, 32, 119, 97, 110, 116, 101, 100] [97, 32, 98, 101, 103, 105, 110, 110, 105, 110, 103, 32, 116, 104, 97, 116, 32, 105, 115, 32, 110, 111, 116, 32, 105, 110, 32, 116, 104, 101, 32, 98, 121, 116, 101, 115] (by kernel_rfl) (by kernel_rfl) (by kernel_rfl) (by kernel_rfl) (by kernel_rfl)
theorem two5_2 {W : World} (h : laidMetH Tryd.prog Rows.rowsRow.laid W) : Two W 3 8 := sent_two h "pouch/archive.ErrMost" "pouch/view.errFrom" 3 8 [97, 32, 102, 105, 108, 101, 32, 116, 104, 97, 116, 32, 105, 115, 32, 108, 111, 110, 103, 101, 114, 32, 116, 104, 97, 110, 32, 105, 115, 32, 119, 97, 110, 116, 101, 100] [97, 32, 98, 101, 103, 105, 110, 110, 105, 110, 103, 32, 116, 104, 97, 116, 32, 105, 115, 32, 110, 111, 116, 32, 105, 110, 32, 116, 104, 101, 32, 98, 121, 116, 101, 115] (by kernel_rfl) (by kernel_rfl) (by kernel_rfl) (by kernel_rfl) (by kernel_rfl)
theorem two5_3 {W : World} (h : laidMetH Tryd.prog Rows.rowsRow.laid W) : Two W 4 8 := sent_two h "pouch/archive.ErrSum" "pouch/view.errFrom" 4 8 [97, 32, 102, 105, 108, 101, 32, 111, 102, 32, 97, 110, 111, 116, 104, 101, 114, 32, 115, 117, 109] [97, 32, 98, 101, 103, 105, 110, 110, 105, 110, 103, 32, 116, 104, 97, 116, 32, 105, 115, 32, 110, 111, 116, 32, 105, 110, 32, 116, 104, 101, 32, 98, 121, 116, 101, 115] (by kernel_rfl) (by kernel_rfl) (by kernel_rfl) (by kernel_rfl) (by kernel_rfl)
theorem two6_0 {W : World} (h : laidMetH Tryd.prog Rows.rowsRow.laid W) : Two W 1 9 := sent_two h "pouch/flate.ErrEnd" "pouch/view.errFar" 1 9 [116, 104, 101, 32, 98, 105, 116, 115, 32, 97, 114, 101, 32, 97, 116, 32, 116, 104, 101, 105, 114, 32, 101, 110, 100] [97, 32, 115, 116, 114, 105, 100, 101, 32, 116, 104, 97, 116, 32, 108, 101, 97, 100, 115, 32, 98, 101, 121, 111, 110, 100, 32, 97, 108, 108, 32, 98, 121, 116, 101, 115] (by kernel_rfl) (by kernel_rfl) (by kernel_rfl) (by kernel_rfl) (by kernel_rfl)
theorem two6_1 {W : World} (h : laidMetH Tryd.prog Rows.rowsRow.laid W) : Two W 2 9 := sent_two h "pouch/flate.ErrMost" "pouch/view.errFar" 2 9 [109, 111, 114, 101, 32, 98, 121, 116, 101, 115, 32, 116, 104, 97, 110, 32, 97, 114, 101, 32, 119, 97, 110, 116, 101, 100] [97, 32, 115, 116, 114, 105, 100, 101, 32, 116, 104, 97, 116, 32, 108, 101, 97, 100, 115, 32, 98, 101, 121, 111, 110, 100, 32, 97, 108, 108, 32, 98, 121, 116, 101, 115] (by kernel_rfl) (by kernel_rfl) (by kernel_rfl) (by kernel_rfl) (by kernel_rfl)
theorem two6_2 {W : World} (h : laidMetH Tryd.prog Rows.rowsRow.laid W) : Two W 3 9 := sent_two h "pouch/archive.ErrMost" "pouch/view.errFar" 3 9 [97, 32, 102, 105, 108, 101, 32, 116, 104, 97, 116, 32, 105, 115, 32, 108, 111, 110, 103, 101, 114, 32, 116, 104, 97, 110, 32, 105, 115, 32, 119, 97, 110, 116, 101, 100] [97, 32, 115, 116, 114, 105, 100, 101, 32, 116, 104, 97, 116, 32, 108, 101, 97, 100, 115, 32, 98, 101, 121, 111, 110, 100, 32, 97, 108, 108, 32, 98, 121, 116, 101, 115] (by kernel_rfl) (by kernel_rfl) (by kernel_rfl) (by kernel_rfl) (by kernel_rfl)
theorem two6_3 {W : World} (h : laidMetH Tryd.prog Rows.rowsRow.laid W) : Two W 4 9 := sent_two h "pouch/archive.ErrSum" "pouch/view.errFar" 4 9 [97, 32, 102, 105, 108, 101, 32, 111, 102, 32, 97, 110, 111, 116, 104, 101, 114, 32, 115, 117, 109] [97, 32, 115, 116, 114, 105, 100, 101, 32, 116, 104, 97, 116, 32, 108, 101, 97, 100, 115, 32, 98, 101, 121, 111, 110, 100, 32, 97, 108, 108, 32, 98, 121, 116, 101, 115] (by kernel_rfl) (by kernel_rfl) (by kernel_rfl) (by kernel_rfl) (by kernel_rfl)
theorem two7_0 {W : World} (h : laidMetH Tryd.prog Rows.rowsRow.laid W) : Two W 1 0 := sent_two h "pouch/flate.ErrEnd" "pouch/view.errOutside" 1 0 [116, 104, 101, 32, 98, 105, 116, 115, 32, 97, 114, 101, 32, 97, 116, 32, 116, 104, 101, 105, 114, 32, 101, 110, 100] [97, 110, 32, 105, 116, 101, 109, 32, 116, 104, 97, 116, 32, 100, 111, 101, 115, 32, 110, 111, 116, 32, 108, 105, 101, 32, 105, 110, 32, 116, 104, 101, 32, 98, 121, 116, 101, 115] (by kernel_rfl) (by kernel_rfl) (by kernel_rfl) (by kernel_rfl) (by kernel_rfl)
theorem two7_1 {W : World} (h : laidMetH Tryd.prog Rows.rowsRow.laid W) : Two W 2 0 := sent_two h "pouch/flate.ErrMost" "pouch/view.errOutside" 2 0 [109, 111, 114, 101, 32, 98, 121, 116, 101, 115, 32, 116, 104, 97, 110, 32, 97, 114, 101, 32, 119, 97, 110, 116, 101, 100] [97, 110, 32, 105, 116, 101, 109, 32, 116, 104, 97, 116, 32, 100, 111, 101, 115, 32, 110, 111, 116, 32, 108, 105, 101, 32, 105, 110, 32, 116, 104, 101, 32, 98, 121, 116, 101, 115] (by kernel_rfl) (by kernel_rfl) (by kernel_rfl) (by kernel_rfl) (by kernel_rfl)
theorem two7_2 {W : World} (h : laidMetH Tryd.prog Rows.rowsRow.laid W) : Two W 3 0 := sent_two h "pouch/archive.ErrMost" "pouch/view.errOutside" 3 0 [97, 32, 102, 105, 108, 101, 32, 116, 104, 97, 116, 32, 105, 115, 32, 108, 111, 110, 103, 101, 114, 32, 116, 104, 97, 110, 32, 105, 115, 32, 119, 97, 110, 116, 101, 100] [97, 110, 32, 105, 116, 101, 109, 32, 116, 104, 97, 116, 32, 100, 111, 101, 115, 32, 110, 111, 116, 32, 108, 105, 101, 32, 105, 110, 32, 116, 104, 101, 32, 98, 121, 116, 101, 115] (by kernel_rfl) (by kernel_rfl) (by kernel_rfl) (by kernel_rfl) (by kernel_rfl)
theorem two7_3 {W : World} (h : laidMetH Tryd.prog Rows.rowsRow.laid W) : Two W 4 0 := sent_two h "pouch/archive.ErrSum" "pouch/view.errOutside" 4 0 [97, 32, 102, 105, 108, 101, 32, 111, 102, 32, 97, 110, 111, 116, 104, 101, 114, 32, 115, 117, 109] [97, 110, 32, 105, 116, 101, 109, 32, 116, 104, 97, 116, 32, 100, 111, 101, 115, 32, 110, 111, 116, 32, 108, 105, 101, 32, 105, 110, 32, 116, 104, 101, 32, 98, 121, 116, 101, 115] (by kernel_rfl) (by kernel_rfl) (by kernel_rfl) (by kernel_rfl) (by kernel_rfl)

theorem Tryd.et : Tryd.prog.globalNamed "errors.errorType" = some 10 := by kernel_rfl
theorem Tryd.rt : (Tryd.prog.cutTypes.find? (·.1 == "internal/reflectlite.rtype")).map (·.2) = some 91 := by kernel_rfl
theorem Tryd.oneRow : ((List.range 147).filter fun t => Tryd.prog.rowNamed t [101, 114, 114, 111, 114]) = [34] := by kernel_rfl
theorem Tryd.typesSize : Tryd.prog.types.size = 147 := by kernel_rfl

/-- What errors.errorType holds. -/
theorem handle_of_laid {W : World} (h : laidMetH Tryd.prog Rows.rowsRow.laid W) : W.cell? ⟨10, 0, none⟩ = some (.iface 91 (.agg #[.pointer (some ⟨13, 34, none⟩)])) := by
  have h' := (laidMetH_iff.1 h).2
  obtain ⟨name, u, ty, e1, e2, e3, e4, e5⟩ := h' ("errors.errorType", Rows.laid_errors_errorType) (List.mem_filter.2 ⟨by simp [Rows.rowsRow], by rfl⟩)
  have en : name = [101, 114, 114, 111, 114] := (Option.some.inj e1).symm
  subst en
  obtain rfl := Option.some.inj (Tryd.rt.symm.trans e2)
  have hm : ty ∈ (List.range 147).filter fun t => Tryd.prog.rowNamed t [101, 114, 114, 111, 114] := List.mem_filter.2 ⟨List.mem_range.2 (by rw [← Tryd.typesSize]; exact e3), e4⟩
  rw [Tryd.oneRow] at hm
  obtain rfl := List.mem_singleton.1 hm
  have hh : typeHandle Tryd.prog 34 = .pointer (some ⟨13, 34, none⟩) := by kernel_rfl
  rw [hh] at e5
  simpa using World.var?_cell Tryd.et e5 0

/-- The global of a sentinel holds an error of errors.New's make that is none of the asked ones. -/
def Told (W : World) (g : Nat) : Prop := ∃ a, W.cell? ⟨g, 0, none⟩ = some (.iface 108 (.pointer (some a))) ∧ SentAt W a ∧ (∀ b, W.cell? ⟨1, 0, none⟩ = some (.iface 108 (.pointer (some b))) → a ≠ b) ∧ (∀ b, W.cell? ⟨2, 0, none⟩ = some (.iface 108 (.pointer (some b))) → a ≠ b) ∧ (∀ b, W.cell? ⟨3, 0, none⟩ = some (.iface 108 (.pointer (some b))) → a ≠ b) ∧ (∀ b, W.cell? ⟨4, 0, none⟩ = some (.iface 108 (.pointer (some b))) → a ≠ b)

/-- pouch/tensor.errRank -/
theorem told0 {W : World} (h : laidMetH Tryd.prog Rows.rowsRow.laid W) : Told W 11 := by
  obtain ⟨a0, b0, ha0, hb0, hne0, hs0, _⟩ := two0_0 h
  obtain ⟨a1, b1, ha1, hb1, hne1, hs1, _⟩ := two0_1 h
  rw [ha0] at ha1
  injection ha1 with ha1
  injection ha1 with _ ha1
  injection ha1 with ha1
  injection ha1 with ha1
  subst ha1
  obtain ⟨a2, b2, ha2, hb2, hne2, hs2, _⟩ := two0_2 h
  rw [ha0] at ha2
  injection ha2 with ha2
  injection ha2 with _ ha2
  injection ha2 with ha2
  injection ha2 with ha2
  subst ha2
  obtain ⟨a3, b3, ha3, hb3, hne3, hs3, _⟩ := two0_3 h
  rw [ha0] at ha3
  injection ha3 with ha3
  injection ha3 with _ ha3
  injection ha3 with ha3
  injection ha3 with ha3
  subst ha3
  exact ⟨a0, ha0, hs0, fun b hb => by rw [hb0] at hb; injection hb with hb; injection hb with _ hb; injection hb with hb; injection hb with hb; subst hb; exact hne0, fun b hb => by rw [hb1] at hb; injection hb with hb; injection hb with _ hb; injection hb with hb; injection hb with hb; subst hb; exact hne1, fun b hb => by rw [hb2] at hb; injection hb with hb; injection hb with _ hb; injection hb with hb; injection hb with hb; subst hb; exact hne2, fun b hb => by rw [hb3] at hb; injection hb with hb; injection hb with _ hb; injection hb with hb; injection hb with hb; subst hb; exact hne3⟩

/-- pouch/tensor.errDim -/
theorem told1 {W : World} (h : laidMetH Tryd.prog Rows.rowsRow.laid W) : Told W 12 := by
  obtain ⟨a0, b0, ha0, hb0, hne0, hs0, _⟩ := two1_0 h
  obtain ⟨a1, b1, ha1, hb1, hne1, hs1, _⟩ := two1_1 h
  rw [ha0] at ha1
  injection ha1 with ha1
  injection ha1 with _ ha1
  injection ha1 with ha1
  injection ha1 with ha1
  subst ha1
  obtain ⟨a2, b2, ha2, hb2, hne2, hs2, _⟩ := two1_2 h
  rw [ha0] at ha2
  injection ha2 with ha2
  injection ha2 with _ ha2
  injection ha2 with ha2
  injection ha2 with ha2
  subst ha2
  obtain ⟨a3, b3, ha3, hb3, hne3, hs3, _⟩ := two1_3 h
  rw [ha0] at ha3
  injection ha3 with ha3
  injection ha3 with _ ha3
  injection ha3 with ha3
  injection ha3 with ha3
  subst ha3
  exact ⟨a0, ha0, hs0, fun b hb => by rw [hb0] at hb; injection hb with hb; injection hb with _ hb; injection hb with hb; injection hb with hb; subst hb; exact hne0, fun b hb => by rw [hb1] at hb; injection hb with hb; injection hb with _ hb; injection hb with hb; injection hb with hb; subst hb; exact hne1, fun b hb => by rw [hb2] at hb; injection hb with hb; injection hb with _ hb; injection hb with hb; injection hb with hb; subst hb; exact hne2, fun b hb => by rw [hb3] at hb; injection hb with hb; injection hb with _ hb; injection hb with hb; injection hb with hb; subst hb; exact hne3⟩

/-- pouch/view.errStrides -/
theorem told2 {W : World} (h : laidMetH Tryd.prog Rows.rowsRow.laid W) : Told W 5 := by
  obtain ⟨b0, a0, hb0, ha0, hne0, _, hs0⟩ := two2_0 h
  obtain ⟨b1, a1, hb1, ha1, hne1, _, hs1⟩ := two2_1 h
  rw [ha0] at ha1
  injection ha1 with ha1
  injection ha1 with _ ha1
  injection ha1 with ha1
  injection ha1 with ha1
  subst ha1
  obtain ⟨b2, a2, hb2, ha2, hne2, _, hs2⟩ := two2_2 h
  rw [ha0] at ha2
  injection ha2 with ha2
  injection ha2 with _ ha2
  injection ha2 with ha2
  injection ha2 with ha2
  subst ha2
  obtain ⟨b3, a3, hb3, ha3, hne3, _, hs3⟩ := two2_3 h
  rw [ha0] at ha3
  injection ha3 with ha3
  injection ha3 with _ ha3
  injection ha3 with ha3
  injection ha3 with ha3
  subst ha3
  exact ⟨a0, ha0, hs0, fun b hb => by rw [hb0] at hb; injection hb with hb; injection hb with _ hb; injection hb with hb; injection hb with hb; subst hb; exact fun e => hne0 e.symm, fun b hb => by rw [hb1] at hb; injection hb with hb; injection hb with _ hb; injection hb with hb; injection hb with hb; subst hb; exact fun e => hne1 e.symm, fun b hb => by rw [hb2] at hb; injection hb with hb; injection hb with _ hb; injection hb with hb; injection hb with hb; subst hb; exact fun e => hne2 e.symm, fun b hb => by rw [hb3] at hb; injection hb with hb; injection hb with _ hb; injection hb with hb; injection hb with hb; subst hb; exact fun e => hne3 e.symm⟩

/-- pouch/view.errWidth -/
theorem told3 {W : World} (h : laidMetH Tryd.prog Rows.rowsRow.laid W) : Told W 6 := by
  obtain ⟨b0, a0, hb0, ha0, hne0, _, hs0⟩ := two3_0 h
  obtain ⟨b1, a1, hb1, ha1, hne1, _, hs1⟩ := two3_1 h
  rw [ha0] at ha1
  injection ha1 with ha1
  injection ha1 with _ ha1
  injection ha1 with ha1
  injection ha1 with ha1
  subst ha1
  obtain ⟨b2, a2, hb2, ha2, hne2, _, hs2⟩ := two3_2 h
  rw [ha0] at ha2
  injection ha2 with ha2
  injection ha2 with _ ha2
  injection ha2 with ha2
  injection ha2 with ha2
  subst ha2
  obtain ⟨b3, a3, hb3, ha3, hne3, _, hs3⟩ := two3_3 h
  rw [ha0] at ha3
  injection ha3 with ha3
  injection ha3 with _ ha3
  injection ha3 with ha3
  injection ha3 with ha3
  subst ha3
  exact ⟨a0, ha0, hs0, fun b hb => by rw [hb0] at hb; injection hb with hb; injection hb with _ hb; injection hb with hb; injection hb with hb; subst hb; exact fun e => hne0 e.symm, fun b hb => by rw [hb1] at hb; injection hb with hb; injection hb with _ hb; injection hb with hb; injection hb with hb; subst hb; exact fun e => hne1 e.symm, fun b hb => by rw [hb2] at hb; injection hb with hb; injection hb with _ hb; injection hb with hb; injection hb with hb; subst hb; exact fun e => hne2 e.symm, fun b hb => by rw [hb3] at hb; injection hb with hb; injection hb with _ hb; injection hb with hb; injection hb with hb; subst hb; exact fun e => hne3 e.symm⟩

/-- pouch/view.errMany -/
theorem told4 {W : World} (h : laidMetH Tryd.prog Rows.rowsRow.laid W) : Told W 7 := by
  obtain ⟨b0, a0, hb0, ha0, hne0, _, hs0⟩ := two4_0 h
  obtain ⟨b1, a1, hb1, ha1, hne1, _, hs1⟩ := two4_1 h
  rw [ha0] at ha1
  injection ha1 with ha1
  injection ha1 with _ ha1
  injection ha1 with ha1
  injection ha1 with ha1
  subst ha1
  obtain ⟨b2, a2, hb2, ha2, hne2, _, hs2⟩ := two4_2 h
  rw [ha0] at ha2
  injection ha2 with ha2
  injection ha2 with _ ha2
  injection ha2 with ha2
  injection ha2 with ha2
  subst ha2
  obtain ⟨b3, a3, hb3, ha3, hne3, _, hs3⟩ := two4_3 h
  rw [ha0] at ha3
  injection ha3 with ha3
  injection ha3 with _ ha3
  injection ha3 with ha3
  injection ha3 with ha3
  subst ha3
  exact ⟨a0, ha0, hs0, fun b hb => by rw [hb0] at hb; injection hb with hb; injection hb with _ hb; injection hb with hb; injection hb with hb; subst hb; exact fun e => hne0 e.symm, fun b hb => by rw [hb1] at hb; injection hb with hb; injection hb with _ hb; injection hb with hb; injection hb with hb; subst hb; exact fun e => hne1 e.symm, fun b hb => by rw [hb2] at hb; injection hb with hb; injection hb with _ hb; injection hb with hb; injection hb with hb; subst hb; exact fun e => hne2 e.symm, fun b hb => by rw [hb3] at hb; injection hb with hb; injection hb with _ hb; injection hb with hb; injection hb with hb; subst hb; exact fun e => hne3 e.symm⟩

/-- pouch/view.errFrom -/
theorem told5 {W : World} (h : laidMetH Tryd.prog Rows.rowsRow.laid W) : Told W 8 := by
  obtain ⟨b0, a0, hb0, ha0, hne0, _, hs0⟩ := two5_0 h
  obtain ⟨b1, a1, hb1, ha1, hne1, _, hs1⟩ := two5_1 h
  rw [ha0] at ha1
  injection ha1 with ha1
  injection ha1 with _ ha1
  injection ha1 with ha1
  injection ha1 with ha1
  subst ha1
  obtain ⟨b2, a2, hb2, ha2, hne2, _, hs2⟩ := two5_2 h
  rw [ha0] at ha2
  injection ha2 with ha2
  injection ha2 with _ ha2
  injection ha2 with ha2
  injection ha2 with ha2
  subst ha2
  obtain ⟨b3, a3, hb3, ha3, hne3, _, hs3⟩ := two5_3 h
  rw [ha0] at ha3
  injection ha3 with ha3
  injection ha3 with _ ha3
  injection ha3 with ha3
  injection ha3 with ha3
  subst ha3
  exact ⟨a0, ha0, hs0, fun b hb => by rw [hb0] at hb; injection hb with hb; injection hb with _ hb; injection hb with hb; injection hb with hb; subst hb; exact fun e => hne0 e.symm, fun b hb => by rw [hb1] at hb; injection hb with hb; injection hb with _ hb; injection hb with hb; injection hb with hb; subst hb; exact fun e => hne1 e.symm, fun b hb => by rw [hb2] at hb; injection hb with hb; injection hb with _ hb; injection hb with hb; injection hb with hb; subst hb; exact fun e => hne2 e.symm, fun b hb => by rw [hb3] at hb; injection hb with hb; injection hb with _ hb; injection hb with hb; injection hb with hb; subst hb; exact fun e => hne3 e.symm⟩

/-- pouch/view.errFar -/
theorem told6 {W : World} (h : laidMetH Tryd.prog Rows.rowsRow.laid W) : Told W 9 := by
  obtain ⟨b0, a0, hb0, ha0, hne0, _, hs0⟩ := two6_0 h
  obtain ⟨b1, a1, hb1, ha1, hne1, _, hs1⟩ := two6_1 h
  rw [ha0] at ha1
  injection ha1 with ha1
  injection ha1 with _ ha1
  injection ha1 with ha1
  injection ha1 with ha1
  subst ha1
  obtain ⟨b2, a2, hb2, ha2, hne2, _, hs2⟩ := two6_2 h
  rw [ha0] at ha2
  injection ha2 with ha2
  injection ha2 with _ ha2
  injection ha2 with ha2
  injection ha2 with ha2
  subst ha2
  obtain ⟨b3, a3, hb3, ha3, hne3, _, hs3⟩ := two6_3 h
  rw [ha0] at ha3
  injection ha3 with ha3
  injection ha3 with _ ha3
  injection ha3 with ha3
  injection ha3 with ha3
  subst ha3
  exact ⟨a0, ha0, hs0, fun b hb => by rw [hb0] at hb; injection hb with hb; injection hb with _ hb; injection hb with hb; injection hb with hb; subst hb; exact fun e => hne0 e.symm, fun b hb => by rw [hb1] at hb; injection hb with hb; injection hb with _ hb; injection hb with hb; injection hb with hb; subst hb; exact fun e => hne1 e.symm, fun b hb => by rw [hb2] at hb; injection hb with hb; injection hb with _ hb; injection hb with hb; injection hb with hb; subst hb; exact fun e => hne2 e.symm, fun b hb => by rw [hb3] at hb; injection hb with hb; injection hb with _ hb; injection hb with hb; injection hb with hb; subst hb; exact fun e => hne3 e.symm⟩

/-- pouch/view.errOutside -/
theorem told7 {W : World} (h : laidMetH Tryd.prog Rows.rowsRow.laid W) : Told W 0 := by
  obtain ⟨b0, a0, hb0, ha0, hne0, _, hs0⟩ := two7_0 h
  obtain ⟨b1, a1, hb1, ha1, hne1, _, hs1⟩ := two7_1 h
  rw [ha0] at ha1
  injection ha1 with ha1
  injection ha1 with _ ha1
  injection ha1 with ha1
  injection ha1 with ha1
  subst ha1
  obtain ⟨b2, a2, hb2, ha2, hne2, _, hs2⟩ := two7_2 h
  rw [ha0] at ha2
  injection ha2 with ha2
  injection ha2 with _ ha2
  injection ha2 with ha2
  injection ha2 with ha2
  subst ha2
  obtain ⟨b3, a3, hb3, ha3, hne3, _, hs3⟩ := two7_3 h
  rw [ha0] at ha3
  injection ha3 with ha3
  injection ha3 with _ ha3
  injection ha3 with ha3
  injection ha3 with ha3
  subst ha3
  exact ⟨a0, ha0, hs0, fun b hb => by rw [hb0] at hb; injection hb with hb; injection hb with _ hb; injection hb with hb; injection hb with hb; subst hb; exact fun e => hne0 e.symm, fun b hb => by rw [hb1] at hb; injection hb with hb; injection hb with _ hb; injection hb with hb; injection hb with hb; subst hb; exact fun e => hne1 e.symm, fun b hb => by rw [hb2] at hb; injection hb with hb; injection hb with _ hb; injection hb with hb; injection hb with hb; subst hb; exact fun e => hne2 e.symm, fun b hb => by rw [hb3] at hb; injection hb with hb; injection hb with _ hb; injection hb with hb; injection hb with hb; subst hb; exact fun e => hne3 e.symm⟩

/-- pouch/flate.ErrEnd -/
theorem asked0 {W : World} (h : laidMetH Tryd.prog Rows.rowsRow.laid W) : ∃ b, W.cell? ⟨1, 0, none⟩ = some (.iface 108 (.pointer (some b))) ∧ SentAt W b := by
  obtain ⟨_, _, _, hb, _, _, hs⟩ := two0_0 h
  exact ⟨_, hb, hs⟩

/-- pouch/flate.ErrMost -/
theorem asked1 {W : World} (h : laidMetH Tryd.prog Rows.rowsRow.laid W) : ∃ b, W.cell? ⟨2, 0, none⟩ = some (.iface 108 (.pointer (some b))) ∧ SentAt W b := by
  obtain ⟨_, _, _, hb, _, _, hs⟩ := two0_1 h
  exact ⟨_, hb, hs⟩

/-- pouch/archive.ErrMost -/
theorem asked2 {W : World} (h : laidMetH Tryd.prog Rows.rowsRow.laid W) : ∃ b, W.cell? ⟨3, 0, none⟩ = some (.iface 108 (.pointer (some b))) ∧ SentAt W b := by
  obtain ⟨_, _, _, hb, _, _, hs⟩ := two0_2 h
  exact ⟨_, hb, hs⟩

/-- pouch/archive.ErrSum -/
theorem asked3 {W : World} (h : laidMetH Tryd.prog Rows.rowsRow.laid W) : ∃ b, W.cell? ⟨4, 0, none⟩ = some (.iface 108 (.pointer (some b))) ∧ SentAt W b := by
  obtain ⟨_, _, _, hb, _, _, hs⟩ := two0_3 h
  exact ⟨_, hb, hs⟩

end Go.Proofs.YtniadajcdldfkaaDoor
