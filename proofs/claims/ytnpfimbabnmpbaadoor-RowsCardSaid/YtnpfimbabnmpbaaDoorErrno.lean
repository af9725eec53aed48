import Derived.Test.YtnpfimbabnmpbaaDoorAs
import Derived.Test.YtnpfimbabnmpbaaDoorLaid
namespace Go.Proofs.YtnpfimbabnmpbaaDoor
open Go.RowKit

set_option maxHeartbeats 1000000 in
/-- What errnoOf answers to a view's error. -/
theorem errno_view (w : World) (pb : Nat) (a aE aM : Addr) (hg : w.cell? ⟨8, 0, none⟩ = some (.iface 85 (.agg #[.pointer (some ⟨11, 34, none⟩)])))
    (hE : w.cell? ⟨1, 0, none⟩ = some (.iface 102 (.pointer (some aE)))) (hM : w.cell? ⟨2, 0, none⟩ = some (.iface 102 (.pointer (some aM)))) (sE : SentAt w aE) (sM : SentAt w aM) (sA : SentAt w a) (neE : a ≠ aE) (neM : a ≠ aM)
    (h1 : w.cell? ⟨pb, 0, none⟩ = some (.iface 102 (.pointer (some a)))) :
    Calls Tryd.prog 7 #[.iface 40 (.pointer (some ⟨pb, 0, none⟩))] w fun e w' => e = .returned (.int .i64 6) ∧ Below w.heap.size w w' := by
  have hB2 : Below w.heap.size w ((((w.alloc (.cells #[.pointer none] 52)).alloc (.cells #[.pointer none] 40)).alloc (.cells #[.pointer none] 53)).alloc (.cells #[.pointer none] 54)) := ((((Below.refl _ w).alloc (Nat.le_refl _) _).alloc (by simp) _).alloc (by simp; omega) _).alloc (by simp; omega) _
  have t1 : ((((w.alloc (.cells #[.pointer none] 52)).alloc (.cells #[.pointer none] 40)).alloc (.cells #[.pointer none] 53)).alloc (.cells #[.pointer none] 54)).cell? ⟨w.heap.size + 1, 0, none⟩ = some (.pointer none) := by simp [go_sem]
  have t2 : ((((w.alloc (.cells #[.pointer none] 52)).alloc (.cells #[.pointer none] 40)).alloc (.cells #[.pointer none] 53)).alloc (.cells #[.pointer none] 54)).frozen? ⟨w.heap.size + 1, 0, none⟩ = false := by simp [go_sem]
  have hsz : ((((w.alloc (.cells #[.pointer none] 52)).alloc (.cells #[.pointer none] 40)).alloc (.cells #[.pointer none] 53)).alloc (.cells #[.pointer none] 54)).heap.size = w.heap.size + 1 + 1 + 1 + 1 := by simp
  obtain ⟨W2, hW2⟩ : ∃ W2, ((((w.alloc (.cells #[.pointer none] 52)).alloc (.cells #[.pointer none] 40)).alloc (.cells #[.pointer none] 53)).alloc (.cells #[.pointer none] 54)) = W2 := ⟨_, rfl⟩
  rw [hW2] at t1 t2 hsz
  rw [hW2] at hB2
  have hg' := (hB2.cell (p := ⟨8, 0, none⟩) (lt_of_cell hg)).trans hg
  have hE' := (hB2.cell (p := ⟨1, 0, none⟩) (lt_of_cell hE)).trans hE
  have hM' := (hB2.cell (p := ⟨2, 0, none⟩) (lt_of_cell hM)).trans hM
  have h1' := (hB2.cell (p := ⟨pb, 0, none⟩) (lt_of_cell h1)).trans h1
  obtain ⟨cE, tE, bE⟩ := sE.below hB2
  obtain ⟨cM, tM, bM⟩ := sM.below hB2
  obtain ⟨ca, ta, bA⟩ := sA.below hB2
  clear hg hE hM h1 sE sM sA
  go_enter Tryd.func7, Tryd.ntmps7
  go_wp2_with (first
    | (go_at_call 12; refine (is_wrap0_other pb 0 aE a ca cE ta tE _ h1' neE bA bE).mono ?_; clear neE; rintro e w' ⟨rfl, rfl⟩)
    | (go_at_call 12; refine (is_wrap0_other pb 0 aM a ca cM ta tM _ h1' neM bA bM).mono ?_; clear neM; rintro e w' ⟨rfl, rfl⟩)
    | (go_at_call 13; refine (as_miss0_0 pb 0 a ⟨w.heap.size, 0, none⟩ _ hg' h1').mono ?_; clear h1'; rintro e w3 ⟨rfl, hb3⟩; have hg3 := (hb3.cell (p := ⟨8, 0, none⟩) (lt_of_cell hg')).trans hg'; have t1' := (hb3.cell (p := ⟨w.heap.size + 1, 0, none⟩) (lt_of_cell t1)).trans t1; have t2' := (hb3.frozen (p := ⟨w.heap.size + 1, 0, none⟩) (lt_of_cell t1)).trans t2)
    | (go_at_call 13; refine (as_hit0_1 ⟨pb, 0, none⟩ ⟨w.heap.size + 1, 0, none⟩ _ _ w.heap.size (Nat.le_succ _) hg3 t1' t2').mono ?_; clear hg3; rintro e w4 ⟨rfl, hb4⟩))
  go_ret
  exact ⟨rfl, (hB2.trans (hb3.mono hB2.size)).trans hb4⟩

/-- What errnoOf answers to no error. -/
theorem errno_nil (w : World) : Calls Tryd.prog 7 #[.nilIface] w fun e w' => e = .returned (.int .i64 0) ∧ Below w.heap.size w w' := by
  go_enter Tryd.func7, Tryd.ntmps7
  go_wp2
  go_ret
  exact ⟨rfl, ((((Below.refl _ w).alloc (Nat.le_refl _) _).alloc (by simp) _).alloc (by simp; omega) _).alloc (by simp; omega) _⟩

/-- A sentinel that is none of those that errors.Is is asked for. -/
def Sentinel (W0 : World) (x : Value) : Prop := ∃ a g, x = .iface 102 (.pointer (some a)) ∧ W0.cell? ⟨g, 0, none⟩ = some (.iface 102 (.pointer (some a))) ∧ Told W0 g

/-- The error of a view: its own new cell holds such a sentinel. -/
def ViewErr (W0 w : World) (v : Value) : Prop := ∃ pb a g, v = .iface 40 (.pointer (some ⟨pb, 0, none⟩)) ∧ w.cell? ⟨pb, 0, none⟩ = some (.iface 102 (.pointer (some a))) ∧ W0.cell? ⟨g, 0, none⟩ = some (.iface 102 (.pointer (some a))) ∧ Told W0 g

theorem errno_of {W0 : World} (h0 : laidMetH Tryd.prog Rows.rowsRow.laid W0) {w : World} (hb : Below W0.heap.size W0 w) {v : Value} (hv : ViewErr W0 w v) :
    Calls Tryd.prog 7 #[v] w fun e w' => e = .returned (.int .i64 6) ∧ Below w.heap.size w w' := by
  obtain ⟨pb, a, g, rfl, h1, h2, a', h3, h4, nE, nM⟩ := hv
  obtain rfl : a' = a := by rw [h3] at h2; simpa using h2
  obtain ⟨bE, hE, sE⟩ := asked0 h0
  obtain ⟨bM, hM, sM⟩ := asked1 h0
  have hg := handle_of_laid h0
  exact errno_view w pb a' bE bM ((hb.cell (p := ⟨8, 0, none⟩) (lt_of_cell hg)).trans hg) ((hb.cell (p := ⟨1, 0, none⟩) (lt_of_cell hE)).trans hE) ((hb.cell (p := ⟨2, 0, none⟩) (lt_of_cell hM)).trans hM)
    (sE.below hb) (sM.below hb) (h4.below hb) (nE _ hE) (nM _ hM) h1
end Go.Proofs.YtnpfimbabnmpbaaDoor
