import Derived.Test.YtniadajcdldfkaaDoorCnt
namespace Go.Proofs.YtniadajcdldfkaaDoor
open Go.RowKit

set_option maxRecDepth 100000 in
set_option maxHeartbeats 2000000 in
theorem items_one {W0 w : World} (h0 : laidMetH Tryd.prog Rows.rowsRow.laid W0) (hb : Below W0.heap.size W0 w) (n : Int) (sb so sc : Nat) (hn : -9223372036854775808 ≤ n ∧ n ≤ 9223372036854775807) (hc1 : w.cell? ⟨sb, so, none⟩ = some (.int .i64 n)) :
    ItemsDoes W0 w (.slice (some ⟨sb, so, none⟩) 1 sc) (decide (0 ≤ n ∧ n ≤ 9999)) n.toNat := by
  unfold ItemsDoes
  have hwn : wrap64 n = n := by unfold wrap64; omega
  obtain ⟨a1, t1, s1⟩ := told_at hb (told1 h0)
  have hn' := hid hn
  clear h0 hb hn
  go_enter Tryd.func14, Tryd.ntmps14
  go_wp2
  refine wp_loop_rounds 2 ?_
  rw [rounds_succ]
  go_wp2
  all_goals (try go_quiet (fail))
  all_goals (try go_wp2)
  all_goals (try rw [rounds_succ])
  all_goals (try go_wp2)
  all_goals go_ret2
  all_goals (first
    | exact ⟨below_drewN (Below.refl _ w) _, .inr ⟨decide_eq_false (by omega), _, rfl, s1⟩⟩
    | exact ⟨Below.refl _ w, .inl ⟨decide_eq_true (by omega), by rw [Int.toNat_of_nonneg (by omega)]; rfl⟩⟩)

set_option maxRecDepth 100000 in
set_option maxHeartbeats 2000000 in
theorem items_two {W0 w : World} (h0 : laidMetH Tryd.prog Rows.rowsRow.laid W0) (hb : Below W0.heap.size W0 w) (a b : Int) (sb so sc : Nat) (ha : -9223372036854775808 ≤ a ∧ a ≤ 9223372036854775807) (hc1 : w.cell? ⟨sb, so, none⟩ = some (.int .i64 a)) (hc2 : w.cell? ⟨sb, so + 1, none⟩ = some (.int .i64 b)) :
    ItemsDoes W0 w (.slice (some ⟨sb, so, none⟩) 2 sc) (decide ((0 ≤ a ∧ a ≤ 9999) ∧ (0 ≤ b ∧ b ≤ 9999))) (a * b).toNat := by
  unfold ItemsDoes
  have hwn : wrap64 a = a := by unfold wrap64; omega
  obtain ⟨a1, t1, s1⟩ := told_at hb (told1 h0)
  clear h0 hb ha
  by_cases hgood : (0 ≤ a ∧ a ≤ 9999) ∧ (0 ≤ b ∧ b ≤ 9999)
  · obtain ⟨⟨e3, e4⟩, e5, e6⟩ := hgood
    have q1 : 0 ≤ a * b := Int.mul_nonneg (by omega) (by omega)
    have q2 : a * b ≤ 9999 * 9999 := Int.mul_le_mul (by omega) (by omega) (by omega) (by omega)
    have hwp : wrap64 (a * b) = a * b := by unfold wrap64; omega
    clear q2
    go_enter Tryd.func14, Tryd.ntmps14
    go_wp2
    refine wp_loop_rounds 3 ?_
    rw [rounds_succ]
    go_wp2
    rw [rounds_succ]
    go_wp2
    rw [rounds_succ]
    go_wp2
    go_ret2
    exact ⟨Below.refl _ w, .inl ⟨decide_eq_true ⟨⟨e3, e4⟩, e5, e6⟩, by rw [Int.toNat_of_nonneg q1]; rw [hwp]; rfl⟩⟩
  · have hf := decide_eq_false hgood
    go_enter Tryd.func14, Tryd.ntmps14
    go_wp2
    refine wp_loop_rounds 3 ?_
    rw [rounds_succ]
    go_wp2
    all_goals (try go_quiet (fail))
    all_goals (try go_wp2)
    all_goals (try rw [rounds_succ])
    all_goals (try go_wp2)
    all_goals (try go_quiet (fail))
    all_goals (try go_wp2)
    all_goals (first
      | (go_ret2; exact ⟨below_drewN (Below.refl _ w) _, .inr ⟨hf, _, rfl, s1⟩⟩)
      | (exfalso; omega))

def farB (n st : Int) : Bool := decide (1 < n ∧ (600 < st ∨ st < -600))

set_option maxRecDepth 100000 in
set_option maxHeartbeats 2000000 in
theorem far_one {w : World} (wd frm n st : Int) (sb so sc tb tO tc : Nat) (f : Bool) (hc1 : w.cell? ⟨sb, so, none⟩ = some (.int .i64 n)) (hc2 : w.cell? ⟨tb, tO, none⟩ = some (.int .i64 st)) :
    FarDoes w (.agg (vcells wd frm sb so 1 sc tb tO 1 tc f)) (farB n st) := by
  unfold FarDoes
  have hB1 : Below w.heap.size w (w.alloc (.cells (vcells wd frm sb so 1 sc tb tO 1 tc f) 32)) := (Below.refl _ w).alloc (Nat.le_refl _) _
  have b1 : VBox (w.alloc (.cells (vcells wd frm sb so 1 sc tb tO 1 tc f) 32)) w.heap.size wd frm sb so 1 sc tb tO 1 tc f := World.alloc_heap_new _ _
  obtain ⟨W1, hW1⟩ : ∃ W1, w.alloc (.cells (vcells wd frm sb so 1 sc tb tO 1 tc f) 32) = W1 := ⟨_, rfl⟩
  rw [hW1] at hB1 b1
  have p2 := b1.c2
  have p3 := b1.c3
  have d1 := at_below hc1 hB1
  have d2 := at_below hc2 hB1
  clear hc1 hc2
  go_enter Tryd.func16, Tryd.ntmps16
  go_wp2
  refine wp_loop_rounds 2 ?_
  rw [rounds_succ]
  go_wp2
  all_goals (try rw [rounds_succ])
  all_goals (try go_wp2)
  all_goals go_ret
  all_goals (first
    | exact ⟨by rw [show farB n st = true from decide_eq_true (by omega)]; rfl, hB1⟩
    | exact ⟨by rw [show farB n st = false from decide_eq_false (by omega)]; rfl, hB1⟩)

set_option maxRecDepth 100000 in
set_option maxHeartbeats 2000000 in
theorem far_two {w : World} (wd frm a b c d : Int) (sb so sc tb tO tc : Nat) (f : Bool) (hc1 : w.cell? ⟨sb, so, none⟩ = some (.int .i64 a)) (hc1' : w.cell? ⟨sb, so + 1, none⟩ = some (.int .i64 b)) (hc2 : w.cell? ⟨tb, tO, none⟩ = some (.int .i64 c)) (hc2' : w.cell? ⟨tb, tO + 1, none⟩ = some (.int .i64 d)) :
    FarDoes w (.agg (vcells wd frm sb so 2 sc tb tO 2 tc f)) (farB a c || farB b d) := by
  unfold FarDoes
  have hB1 : Below w.heap.size w (w.alloc (.cells (vcells wd frm sb so 2 sc tb tO 2 tc f) 32)) := (Below.refl _ w).alloc (Nat.le_refl _) _
  have b1 : VBox (w.alloc (.cells (vcells wd frm sb so 2 sc tb tO 2 tc f) 32)) w.heap.size wd frm sb so 2 sc tb tO 2 tc f := World.alloc_heap_new _ _
  obtain ⟨W1, hW1⟩ : ∃ W1, w.alloc (.cells (vcells wd frm sb so 2 sc tb tO 2 tc f) 32) = W1 := ⟨_, rfl⟩
  rw [hW1] at hB1 b1
  have p2 := b1.c2
  have p3 := b1.c3
  have d1 := at_below hc1 hB1
  have d1' := at_below hc1' hB1
  have d2 := at_below hc2 hB1
  have d2' := at_below hc2' hB1
  clear hc1 hc2 hc1' hc2'
  go_enter Tryd.func16, Tryd.ntmps16
  go_wp2
  refine wp_loop_rounds 3 ?_
  rw [rounds_succ]
  go_wp2
  all_goals (try rw [rounds_succ])
  all_goals (try go_wp2)
  all_goals (try rw [rounds_succ])
  all_goals (try go_wp2)
  all_goals go_ret
  all_goals (first
    | exact ⟨by rw [show farB a c = true from decide_eq_true (by omega)]; rfl, hB1⟩
    | exact ⟨by rw [show farB b d = true from decide_eq_true (by omega), Bool.or_true]; rfl, hB1⟩
    | exact ⟨by rw [show farB a c = false from decide_eq_false (by omega), show farB b d = false from decide_eq_false (by omega)]; rfl, hB1⟩)
end Go.Proofs.YtniadajcdldfkaaDoor
