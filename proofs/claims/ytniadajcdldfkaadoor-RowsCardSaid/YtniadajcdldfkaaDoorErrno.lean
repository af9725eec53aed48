import Derived.Test.YtniadajcdldfkaaDoorAs0
import Derived.Test.YtniadajcdldfkaaDoorAs1
import Derived.Test.YtniadajcdldfkaaDoorAs2
import Derived.Test.YtniadajcdldfkaaDoorAs3
import Derived.Test.YtniadajcdldfkaaDoorAs4
import Derived.Test.YtniadajcdldfkaaDoorLaid
namespace Go.Proofs.YtniadajcdldfkaaDoor
open Go.RowKit

set_option maxHeartbeats 2000000 in
/-- What errnoOf answers to a view's error. -/
theorem errno_view (w : World) (pb : Nat) (a aE aM aA aS : Addr) (hg : w.cell? ⟨10, 0, none⟩ = some (.iface 91 (.agg #[.pointer (some ⟨13, 34, none⟩)])))
    (hE : w.cell? ⟨1, 0, none⟩ = some (.iface 108 (.pointer (some aE)))) (hM : w.cell? ⟨2, 0, none⟩ = some (.iface 108 (.pointer (some aM)))) (hA : w.cell? ⟨3, 0, none⟩ = some (.iface 108 (.pointer (some aA)))) (hS : w.cell? ⟨4, 0, none⟩ = some (.iface 108 (.pointer (some aS))))
    (sE : SentAt w aE) (neE : a ≠ aE) (sM : SentAt w aM) (neM : a ≠ aM) (sA : SentAt w aA) (neA : a ≠ aA) (sS : SentAt w aS) (neS : a ≠ aS) (s0 : SentAt w a)
    (h1 : w.cell? ⟨pb, 0, none⟩ = some (.iface 108 (.pointer (some a)))) :
    Calls Tryd.prog 7 #[.iface 40 (.pointer (some ⟨pb, 0, none⟩))] w fun e w' => e = .returned (.int .i64 6) ∧ Below w.heap.size w w' := by
  have hB : Below w.heap.size w (((((((w.alloc (.cells #[.pointer none] 52)).alloc (.cells #[.pointer none] 53)).alloc (.cells #[.pointer none] 54)).alloc (.cells #[.pointer none] 55)).alloc (.cells #[.pointer none] 40)).alloc (.cells #[.pointer none] 56)).alloc (.cells #[.pointer none] 57)) := ((((((((Below.refl _ w).alloc (Nat.le_refl _) _).alloc (by simp) _).alloc (by simp; omega) _).alloc (by simp; omega) _).alloc (by simp; omega) _).alloc (by simp; omega) _).alloc (by simp; omega) _)
  have t1 : (((((((w.alloc (.cells #[.pointer none] 52)).alloc (.cells #[.pointer none] 53)).alloc (.cells #[.pointer none] 54)).alloc (.cells #[.pointer none] 55)).alloc (.cells #[.pointer none] 40)).alloc (.cells #[.pointer none] 56)).alloc (.cells #[.pointer none] 57)).cell? ⟨w.heap.size + 4, 0, none⟩ = some (.pointer none) := by simp [go_sem]
  have t2 : (((((((w.alloc (.cells #[.pointer none] 52)).alloc (.cells #[.pointer none] 53)).alloc (.cells #[.pointer none] 54)).alloc (.cells #[.pointer none] 55)).alloc (.cells #[.pointer none] 40)).alloc (.cells #[.pointer none] 56)).alloc (.cells #[.pointer none] 57)).frozen? ⟨w.heap.size + 4, 0, none⟩ = false := by simp [go_sem]
  obtain ⟨W0, hW0⟩ : ∃ W0, (((((((w.alloc (.cells #[.pointer none] 52)).alloc (.cells #[.pointer none] 53)).alloc (.cells #[.pointer none] 54)).alloc (.cells #[.pointer none] 55)).alloc (.cells #[.pointer none] 40)).alloc (.cells #[.pointer none] 56)).alloc (.cells #[.pointer none] 57)) = W0 := ⟨_, rfl⟩
  rw [hW0] at hB t1 t2
  have B0 : Below W0.heap.size W0 W0 := Below.refl _ _
  have hg0 := (hB.cell (p := ⟨10, 0, none⟩) (lt_of_cell hg)).trans hg
  have h10 := (hB.cell (p := ⟨pb, 0, none⟩) (lt_of_cell h1)).trans h1
  go_enter Tryd.func7, Tryd.ntmps7
  go_wp2_with (first
    | (go_at_call 12; refine (as_miss0_0 pb 0 a ⟨w.heap.size, 0, none⟩ _ hg0 h10).mono ?_; clear hg0 h10; rintro e w1 ⟨rfl, b0⟩; have B1 := B0.trans (b0.mono B0.size); clear b0; have hg1 := ((hB.trans (B1.mono hB.size)).cell (p := ⟨10, 0, none⟩) (lt_of_cell hg)).trans hg; have h11 := ((hB.trans (B1.mono hB.size)).cell (p := ⟨pb, 0, none⟩) (lt_of_cell h1)).trans h1)
    | (go_at_call 12; refine (as_miss0_1 pb 0 a ⟨w.heap.size + 1, 0, none⟩ _ hg1 h11).mono ?_; clear hg1 h11; rintro e w2 ⟨rfl, b1⟩; have B2 := B1.trans (b1.mono B1.size); clear b1; have hg2 := ((hB.trans (B2.mono hB.size)).cell (p := ⟨10, 0, none⟩) (lt_of_cell hg)).trans hg; have h12 := ((hB.trans (B2.mono hB.size)).cell (p := ⟨pb, 0, none⟩) (lt_of_cell h1)).trans h1)
    | (go_at_call 12; refine (as_miss0_2 pb 0 a ⟨w.heap.size + 2, 0, none⟩ _ hg2 h12).mono ?_; clear hg2 h12; rintro e w3 ⟨rfl, b2⟩; have B3 := B2.trans (b2.mono B2.size); clear b2; have hg3 := ((hB.trans (B3.mono hB.size)).cell (p := ⟨10, 0, none⟩) (lt_of_cell hg)).trans hg; have h13 := ((hB.trans (B3.mono hB.size)).cell (p := ⟨pb, 0, none⟩) (lt_of_cell h1)).trans h1)
    | (go_at_call 12; refine (as_miss0_3 pb 0 a ⟨w.heap.size + 3, 0, none⟩ _ hg3 h13).mono ?_; clear hg3 h13; rintro e w4 ⟨rfl, b3⟩; have B4 := B3.trans (b3.mono B3.size); clear b3; have C := hB.trans (B4.mono hB.size); have hgZ := (C.cell (p := ⟨10, 0, none⟩) (lt_of_cell hg)).trans hg; have h1Z := (C.cell (p := ⟨pb, 0, none⟩) (lt_of_cell h1)).trans h1; have hEZ := (C.cell (p := ⟨1, 0, none⟩) (lt_of_cell hE)).trans hE; obtain ⟨cE, tE, bE⟩ := sE.below C; have hMZ := (C.cell (p := ⟨2, 0, none⟩) (lt_of_cell hM)).trans hM; obtain ⟨cM, tM, bM⟩ := sM.below C; have hAZ := (C.cell (p := ⟨3, 0, none⟩) (lt_of_cell hA)).trans hA; obtain ⟨cA, tA, bA⟩ := sA.below C; have hSZ := (C.cell (p := ⟨4, 0, none⟩) (lt_of_cell hS)).trans hS; obtain ⟨cS, tS, bS⟩ := sS.below C; obtain ⟨c0, t0, bb0⟩ := s0.below C; have t1Z := (B4.cell (p := ⟨w.heap.size + 4, 0, none⟩) (lt_of_cell t1)).trans t1; have t2Z := (B4.frozen (p := ⟨w.heap.size + 4, 0, none⟩) (lt_of_cell t1)).trans t2)
    | (go_at_call 13; refine (is_wrap0_other pb 0 aE a c0 cE t0 tE _ h1Z neE bb0 bE).mono ?_; clear neE; rintro e w' ⟨rfl, rfl⟩)
    | (go_at_call 13; refine (is_wrap0_other pb 0 aM a c0 cM t0 tM _ h1Z neM bb0 bM).mono ?_; clear neM; rintro e w' ⟨rfl, rfl⟩)
    | (go_at_call 13; refine (is_wrap0_other pb 0 aA a c0 cA t0 tA _ h1Z neA bb0 bA).mono ?_; clear neA; rintro e w' ⟨rfl, rfl⟩)
    | (go_at_call 13; refine (is_wrap0_other pb 0 aS a c0 cS t0 tS _ h1Z neS bb0 bS).mono ?_; clear neS; rintro e w' ⟨rfl, rfl⟩)
    | (go_at_call 12; refine (as_hit0_4 ⟨pb, 0, none⟩ ⟨w.heap.size + 4, 0, none⟩ _ _ w.heap.size (Nat.le_add_right _ _) hgZ t1Z t2Z).mono ?_; clear hgZ; rintro e wH ⟨rfl, bH⟩))
  go_ret
  exact ⟨rfl, C.trans bH⟩

/-- What errnoOf answers to no error. -/
theorem errno_nil (w : World) : Calls Tryd.prog 7 #[.nilIface] w fun e w' => e = .returned (.int .i64 0) ∧ Below w.heap.size w w' := by
  go_enter Tryd.func7, Tryd.ntmps7
  go_wp2
  go_ret
  exact ⟨rfl, ((((((((Below.refl _ w).alloc (Nat.le_refl _) _).alloc (by simp) _).alloc (by simp; omega) _).alloc (by simp; omega) _).alloc (by simp; omega) _).alloc (by simp; omega) _).alloc (by simp; omega) _)⟩

/-- A sentinel that is none of those that errors.Is is asked for. -/
def Sentinel (W0 : World) (x : Value) : Prop := ∃ a g, x = .iface 108 (.pointer (some a)) ∧ W0.cell? ⟨g, 0, none⟩ = some (.iface 108 (.pointer (some a))) ∧ Told W0 g

/-- The error of a view: its own new cell holds such a sentinel. -/
def ViewErr (W0 w : World) (v : Value) : Prop := ∃ pb a g, v = .iface 40 (.pointer (some ⟨pb, 0, none⟩)) ∧ w.cell? ⟨pb, 0, none⟩ = some (.iface 108 (.pointer (some a))) ∧ W0.cell? ⟨g, 0, none⟩ = some (.iface 108 (.pointer (some a))) ∧ Told W0 g

theorem errno_of {W0 : World} (h0 : laidMetH Tryd.prog Rows.rowsRow.laid W0) {w : World} (hb : Below W0.heap.size W0 w) {v : Value} (hv : ViewErr W0 w v) :
    Calls Tryd.prog 7 #[v] w fun e w' => e = .returned (.int .i64 6) ∧ Below w.heap.size w w' := by
  obtain ⟨pb, a, g, rfl, h1, h2, a', h3, h4, nE, nM, nA, nS⟩ := hv
  obtain rfl : a' = a := by rw [h3] at h2; simpa using h2
  obtain ⟨bE, hE, sE⟩ := asked0 h0
  obtain ⟨bM, hM, sM⟩ := asked1 h0
  obtain ⟨bA, hA, sA⟩ := asked2 h0
  obtain ⟨bS, hS, sS⟩ := asked3 h0
  have hg := handle_of_laid h0
  exact errno_view w pb a' bE bM bA bS ((hb.cell (p := ⟨10, 0, none⟩) (lt_of_cell hg)).trans hg)
    ((hb.cell (p := ⟨1, 0, none⟩) (lt_of_cell hE)).trans hE) ((hb.cell (p := ⟨2, 0, none⟩) (lt_of_cell hM)).trans hM) ((hb.cell (p := ⟨3, 0, none⟩) (lt_of_cell hA)).trans hA) ((hb.cell (p := ⟨4, 0, none⟩) (lt_of_cell hS)).trans hS)
    (sE.below hb) (nE _ hE) (sM.below hb) (nM _ hM) (sA.below hb) (nA _ hA) (sS.below hb) (nS _ hS) (h4.below hb) h1
end Go.Proofs.YtniadajcdldfkaaDoor
