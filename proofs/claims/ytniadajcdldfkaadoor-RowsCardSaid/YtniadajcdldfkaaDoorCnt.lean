import Derived.Test.YtniadajcdldfkaaDoorBld
import Derived.Test.YtniadajcdldfkaaDoorBase
import Derived.BigQuiet
namespace Go.Proofs.YtniadajcdldfkaaDoor
open Go.RowKit

/-- A sentinel of the list, in a world that has grown since. -/
theorem told_at {W0 w : World} {g : Nat} (hb : Below W0.heap.size W0 w) (h : Told W0 g) : ∃ a, w.cell? ⟨g, 0, none⟩ = some (.iface 108 (.pointer (some a))) ∧ Sentinel W0 (.iface 108 (.pointer (some a))) := by
  have h' := h
  obtain ⟨a, h1, _⟩ := h
  exact ⟨a, (hb.cell (p := ⟨g, 0, none⟩) (lt_cell h1)).trans h1, a, g, rfl, h1, h'⟩

theorem at_below {w w' : World} {p : Addr} {v : Value} (h : w.cell? p = some v) (hb : Below w.heap.size w w') : w'.cell? p = some v := (hb.cell (p := p) (lt_cell h)).trans h

theorem width_does (w : World) (wd : Int) (b : Bool) (hb : decide (1 ≤ wd ∧ wd ≤ 16) = b) : Calls Tryd.prog 15 #[.int .i64 wd] w fun e w' => e = .returned (.bool b) ∧ w' = w := by
  subst hb
  go_enter Tryd.func15, Tryd.ntmps15
  go_wp2
  all_goals go_ret
  all_goals (refine ⟨?_, rfl⟩)
  all_goals (congr 2; simp; omega)

theorem below_drewN {B : Nat} {w w' : World} (h : Below B w w') (n : Nat) : Below B w (w'.drewN n) := ⟨h.os, h.tape, h.output, h.size, h.block⟩

def ItemsDoes (W0 w : World) (S : Value) (good : Bool) (m : Nat) : Prop :=
  Calls Tryd.prog 14 #[S] w fun e w' => Below w.heap.size w w' ∧ ((good = true ∧ e = .returned (.tuple #[.int .i64 m, .nilIface])) ∨ (good = false ∧ ∃ x, e = .returned (.tuple #[.int .i64 0, x]) ∧ Sentinel W0 x))
def FarDoes (w : World) (v : Value) (far : Bool) : Prop := Calls Tryd.prog 16 #[v] w fun e w' => e = .returned (.bool far) ∧ Below w.heap.size w w'

def okC (good far : Bool) (m : Nat) (wd frm len : Int) : Bool := good && (decide (1 ≤ wd ∧ wd ≤ 16 ∧ m * wd ≤ 600 ∧ 0 ≤ frm ∧ frm ≤ len) && (decide (m = 0) || !far))

theorem okC_true {good far : Bool} {m : Nat} {wd frm len : Int} (h1 : good = true) (h2 : 1 ≤ wd ∧ wd ≤ 16 ∧ m * wd ≤ 600 ∧ 0 ≤ frm ∧ frm ≤ len) (h3 : m = 0 ∨ far = false) : okC good far m wd frm len = true := by
  unfold okC
  rw [h1, decide_eq_true h2]
  rcases h3 with h | h
  · simp [h]
  · simp [h]
theorem okC_false {good far : Bool} {m : Nat} {wd frm len : Int} (h : ¬ (good = true ∧ (1 ≤ wd ∧ wd ≤ 16 ∧ m * wd ≤ 600 ∧ 0 ≤ frm ∧ frm ≤ len) ∧ (m = 0 ∨ far = false))) : okC good far m wd frm len = false := by
  cases hq : okC good far m wd frm len with
  | false => rfl
  | true =>
    unfold okC at hq
    simp only [Bool.and_eq_true, decide_eq_true_eq, Bool.or_eq_true, Bool.not_eq_true'] at hq
    exact absurd hq h

set_option maxRecDepth 100000 in
set_option maxHeartbeats 2000000 in
theorem count_good {W0 w : World} (h0 : laidMetH Tryd.prog Rows.rowsRow.laid W0) (hb : Below W0.heap.size W0 w) (wd frm len : Int) (sb so sn sc tb tO tc : Nat) (f good far : Bool) (m : Nat) (hm : m ≤ 99980001)
    (HI : ∀ w', Below w.heap.size w w' → ItemsDoes W0 w' (.slice (some ⟨sb, so, none⟩) sn sc) good m) (HF : ∀ w', Below w.heap.size w w' → FarDoes w' (.agg (vcells wd frm sb so sn sc tb tO sn tc f)) far)
    (e1 : 1 ≤ wd) (e2 : wd ≤ 16) : CountDoes W0 w (.agg (vcells wd frm sb so sn sc tb tO sn tc f)) len (okC good far m wd frm len) m := by
  unfold CountDoes
  have hB1 : Below w.heap.size w (w.alloc (.cells (vcells wd frm sb so sn sc tb tO sn tc f) 32)) := (Below.refl _ w).alloc (Nat.le_refl _) _
  have b1 : VBox (w.alloc (.cells (vcells wd frm sb so sn sc tb tO sn tc f) 32)) w.heap.size wd frm sb so sn sc tb tO sn tc f := World.alloc_heap_new _ _
  obtain ⟨W1, hW1⟩ : ∃ W1, w.alloc (.cells (vcells wd frm sb so sn sc tb tO sn tc f) 32) = W1 := ⟨_, rfl⟩
  rw [hW1] at hB1 b1
  have p2 := b1.c2
  have hwm : wrap64 ((m : Int) * wd) = (m : Int) * wd := by
    have h1 : 0 ≤ (m : Int) * wd := Int.mul_nonneg (by omega) (by omega)
    have h2 : (m : Int) * wd ≤ 99980001 * 16 := Int.mul_le_mul (by omega) (by omega) (by omega) (by omega)
    unfold wrap64; omega
  have HI' := HI _ hB1
  unfold ItemsDoes at HI'
  clear HI
  have h0' := hid h0
  have hb' := hid hb
  have HF' := hid HF
  have hB1' := hid hB1
  clear h0 hb HF hB1
  go_enter Tryd.func8, Tryd.ntmps8
  go_wp2_with (first
    | (go_at_call 14; refine HI'.mono ?_; clear HI'; rintro e w2 ⟨hb2, hcase⟩
       have hB2 := hid (hB1'.out.trans (hb2.mono hB1'.out.size))
       have B2 : VBox w2 w.heap.size wd frm sb so sn sc tb tO sn tc f := heap_below hb2 b1
       have q0 := B2.c0
       have q1 := B2.c1
       have q2 := B2.c2
       have q3 := B2.c3
       have q4 := B2.c4
       obtain ⟨a3, t3, s3⟩ := told_at (hb'.out.trans (hB2.out.mono hb'.out.size)) (told2 h0'.out)
       obtain ⟨a4, t4, s4⟩ := told_at (hb'.out.trans (hB2.out.mono hb'.out.size)) (told3 h0'.out)
       obtain ⟨a5, t5, s5⟩ := told_at (hb'.out.trans (hB2.out.mono hb'.out.size)) (told4 h0'.out)
       obtain ⟨a6, t6, s6⟩ := told_at (hb'.out.trans (hB2.out.mono hb'.out.size)) (told5 h0'.out)
       obtain ⟨a7, t7, s7⟩ := told_at (hb'.out.trans (hB2.out.mono hb'.out.size)) (told6 h0'.out)
       have hb2' := hid hb2
       clear hb2
       rcases hcase with ⟨hg, rfl⟩ | ⟨hg, x, rfl, ⟨a, g, rfl, hx2, hx3⟩⟩)
    | (go_at_call 15; refine (width_does _ _ true (decide_eq_true ⟨e1, e2⟩)).mono ?_; rintro e w' ⟨rfl, rfl⟩)
    | (go_at_call 16; refine (HF'.out _ hB2.out).mono ?_; rintro e w3 ⟨rfl, hb3⟩; have t7' := at_below t7 hb3))
  all_goals (try go_quiet (fail))
  all_goals (try go_wp2)
  all_goals go_ret2
  all_goals (first
    | exact ⟨below_drewN hB2.out _, .inr ⟨okC_false (by rintro ⟨-, ⟨_, _, _, _, _⟩, -⟩; omega), _, rfl, s4⟩⟩
    | exact ⟨below_drewN hB2.out _, .inr ⟨okC_false (by rintro ⟨-, ⟨_, _, _, _, _⟩, -⟩; omega), _, rfl, s5⟩⟩
    | exact ⟨below_drewN hB2.out _, .inr ⟨okC_false (by rintro ⟨-, ⟨_, _, _, _, _⟩, -⟩; omega), _, rfl, s6⟩⟩
    | exact ⟨below_drewN (hB2.out.trans (hb3.mono hB2.out.size)) _, .inr ⟨okC_false (by rintro ⟨-, -, h | h⟩; omega; simp_all), _, rfl, s7⟩⟩
    | exact ⟨hB2.out.trans (hb3.mono hB2.out.size), .inl ⟨okC_true hg ⟨by omega, by omega, by omega, by omega, by omega⟩ (.inr (by assumption)), rfl⟩⟩
    | exact ⟨hB2.out, .inl ⟨okC_true hg ⟨by omega, by omega, by omega, by omega, by omega⟩ (.inl (by omega)), rfl⟩⟩
    | exact ⟨hB2.out, .inr ⟨okC_false (by rintro ⟨h, -⟩; rw [hg] at h; cases h), _, rfl, a, g, rfl, hx2, hx3⟩⟩)

set_option maxRecDepth 100000 in
set_option maxHeartbeats 2000000 in
theorem count_bad {W0 w : World} (h0 : laidMetH Tryd.prog Rows.rowsRow.laid W0) (hb : Below W0.heap.size W0 w) (wd frm len : Int) (sb so sn sc tb tO tc : Nat) (f good far : Bool) (m : Nat)
    (HI : ∀ w', Below w.heap.size w w' → ItemsDoes W0 w' (.slice (some ⟨sb, so, none⟩) sn sc) good m) (HF : ∀ w', Below w.heap.size w w' → FarDoes w' (.agg (vcells wd frm sb so sn sc tb tO sn tc f)) far)
    (e1 : ¬ (1 ≤ wd ∧ wd ≤ 16)) : CountDoes W0 w (.agg (vcells wd frm sb so sn sc tb tO sn tc f)) len (okC good far m wd frm len) m := by
  unfold CountDoes
  have hB1 : Below w.heap.size w (w.alloc (.cells (vcells wd frm sb so sn sc tb tO sn tc f) 32)) := (Below.refl _ w).alloc (Nat.le_refl _) _
  have b1 : VBox (w.alloc (.cells (vcells wd frm sb so sn sc tb tO sn tc f) 32)) w.heap.size wd frm sb so sn sc tb tO sn tc f := World.alloc_heap_new _ _
  obtain ⟨W1, hW1⟩ : ∃ W1, w.alloc (.cells (vcells wd frm sb so sn sc tb tO sn tc f) 32) = W1 := ⟨_, rfl⟩
  rw [hW1] at hB1 b1
  have p2 := b1.c2
  have HI' := HI _ hB1
  unfold ItemsDoes at HI'
  clear HI
  have h0' := hid h0
  have hb' := hid hb
  have HF' := hid HF
  have hB1' := hid hB1
  clear h0 hb HF hB1
  go_enter Tryd.func8, Tryd.ntmps8
  go_wp2_with (first
    | (go_at_call 14; refine HI'.mono ?_; clear HI'; rintro e w2 ⟨hb2, hcase⟩
       have hB2 := hid (hB1'.out.trans (hb2.mono hB1'.out.size))
       have B2 : VBox w2 w.heap.size wd frm sb so sn sc tb tO sn tc f := heap_below hb2 b1
       have q0 := B2.c0
       have q1 := B2.c1
       have q2 := B2.c2
       have q3 := B2.c3
       have q4 := B2.c4
       obtain ⟨a3, t3, s3⟩ := told_at (hb'.out.trans (hB2.out.mono hb'.out.size)) (told2 h0'.out)
       obtain ⟨a4, t4, s4⟩ := told_at (hb'.out.trans (hB2.out.mono hb'.out.size)) (told3 h0'.out)
       obtain ⟨a5, t5, s5⟩ := told_at (hb'.out.trans (hB2.out.mono hb'.out.size)) (told4 h0'.out)
       obtain ⟨a6, t6, s6⟩ := told_at (hb'.out.trans (hB2.out.mono hb'.out.size)) (told5 h0'.out)
       obtain ⟨a7, t7, s7⟩ := told_at (hb'.out.trans (hB2.out.mono hb'.out.size)) (told6 h0'.out)
       have hb2' := hid hb2
       clear hb2
       rcases hcase with ⟨hg, rfl⟩ | ⟨hg, x, rfl, ⟨a, g, rfl, hx2, hx3⟩⟩)
    | (go_at_call 15; refine (width_does _ _ false (decide_eq_false e1)).mono ?_; rintro e w' ⟨rfl, rfl⟩)
    | (go_at_call 16; refine (HF'.out _ hB2.out).mono ?_; rintro e w3 ⟨rfl, hb3⟩; have t7' := at_below t7 hb3))
  all_goals (try go_quiet (fail))
  all_goals (try go_wp2)
  all_goals go_ret2
  all_goals (first
    | exact ⟨below_drewN hB2.out _, .inr ⟨okC_false (by rintro ⟨-, ⟨_, _, _, _, _⟩, -⟩; omega), _, rfl, s4⟩⟩
    | exact ⟨below_drewN hB2.out _, .inr ⟨okC_false (by rintro ⟨-, ⟨_, _, _, _, _⟩, -⟩; omega), _, rfl, s5⟩⟩
    | exact ⟨below_drewN hB2.out _, .inr ⟨okC_false (by rintro ⟨-, ⟨_, _, _, _, _⟩, -⟩; omega), _, rfl, s6⟩⟩
    | exact ⟨below_drewN (hB2.out.trans (hb3.mono hB2.out.size)) _, .inr ⟨okC_false (by rintro ⟨-, -, h | h⟩; omega; simp_all), _, rfl, s7⟩⟩
    | exact ⟨hB2.out.trans (hb3.mono hB2.out.size), .inl ⟨okC_true hg ⟨by omega, by omega, by omega, by omega, by omega⟩ (.inr (by assumption)), rfl⟩⟩
    | exact ⟨hB2.out, .inl ⟨okC_true hg ⟨by omega, by omega, by omega, by omega, by omega⟩ (.inl (by omega)), rfl⟩⟩
    | exact ⟨hB2.out, .inr ⟨okC_false (by rintro ⟨h, -⟩; rw [hg] at h; cases h), _, rfl, a, g, rfl, hx2, hx3⟩⟩)

theorem count_does {W0 w : World} (h0 : laidMetH Tryd.prog Rows.rowsRow.laid W0) (hb : Below W0.heap.size W0 w) (wd frm len : Int) (sb so sn sc tb tO tc : Nat) (f good far : Bool) (m : Nat) (hm : m ≤ 99980001)
    (HI : ∀ w', Below w.heap.size w w' → ItemsDoes W0 w' (.slice (some ⟨sb, so, none⟩) sn sc) good m) (HF : ∀ w', Below w.heap.size w w' → FarDoes w' (.agg (vcells wd frm sb so sn sc tb tO sn tc f)) far) :
    CountDoes W0 w (.agg (vcells wd frm sb so sn sc tb tO sn tc f)) len (okC good far m wd frm len) m := by
  by_cases h : 1 ≤ wd ∧ wd ≤ 16
  · exact count_good h0 hb wd frm len sb so sn sc tb tO tc f good far m hm HI HF h.1 h.2
  · exact count_bad h0 hb wd frm len sb so sn sc tb tO tc f good far m HI HF h
end Go.Proofs.YtniadajcdldfkaaDoor
