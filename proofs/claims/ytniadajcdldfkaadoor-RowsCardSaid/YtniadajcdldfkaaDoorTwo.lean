import Derived.Test.YtniadajcdldfkaaDoorPl
namespace Go.Proofs.YtniadajcdldfkaaDoor
open Go.RowKit

theorem wrap_small {x : Int} (h1 : -1000000000 ≤ x) (h2 : x ≤ 1000000000) : wrap64 x = x := by unfold wrap64; omega
theorem mul_small {x y : Int} (h1 : 0 ≤ x) (h2 : x ≤ 600) (h3 : -600 ≤ y) (h4 : y ≤ 600) : -360000 ≤ x * y ∧ x * y ≤ 360000 := by
  have a1 : x * y ≤ x * 600 := Int.mul_le_mul_of_nonneg_left h4 h1
  have a2 : x * (-600) ≤ x * y := Int.mul_le_mul_of_nonneg_left h3 h1
  omega

/-- A digit times its stride is small: the stride is, or there is one digit alone. -/
theorem digit_small {r n : Nat} {st : Int} (hr : r < n) (hn : n ≤ 600) (hst : 1 < n → -600 ≤ st ∧ st ≤ 600) : -360000 ≤ (r : Int) * st ∧ (r : Int) * st ≤ 360000 := by
  by_cases h1 : 1 < n
  · exact mul_small (by omega) (by omega) (hst h1).1 (hst h1).2
  · obtain rfl : r = 0 := by omega
    simp

theorem place_one {w : World} (wd frm st : Int) (n k : Nat) (sb so sc tb tO tc : Nat) (f : Bool)
    (hk : k < n) (hn : n ≤ 600) (hfrm : 0 ≤ frm ∧ frm ≤ 600) (hst : 1 < n → -600 ≤ st ∧ st ≤ 600) (hc1 : w.cell? ⟨sb, so, none⟩ = some (.int .i64 n)) (hc2 : w.cell? ⟨tb, tO, none⟩ = some (.int .i64 st)) :
    Calls Tryd.prog 18 #[.agg (vcells wd frm sb so 1 sc tb tO 1 tc f), .int .i64 k] w fun e w' => e = .returned (.int .i64 (frm + k * st)) ∧ Below w.heap.size w w' := by
  have h := place_does w wd frm sb so 1 sc tb tO tc f (by decide) (fun _ => n) (fun _ => st) k (by omega) (fun _ => by omega) (lt_cell hc1) (lt_cell hc2) (fun i => by match i with | 0 => exact hc1) (fun i => by match i with | 0 => exact hc2)
  have e : (walked (fun _ : Fin 1 => n) (fun _ => st) frm k (inOrder 1 f)).1 = frm + k * st := by
    have e1 : inOrder 1 f = [0] := by cases f <;> rfl
    have hs := digit_small hk hn hst
    rw [e1]
    show wrap64 (frm + wrap64 ((k : Int) % (n : Int) * st)) = _
    rw [Int.emod_eq_of_lt (by omega) (by omega), wrap_small (x := (k : Int) * st) (by omega) (by omega), wrap_small (by omega) (by omega)]
  rw [e] at h
  exact h

/-- Two digits, the quickest one first. -/
theorem two_digits (frm x y : Int) (q r k : Nat) (hk : k < q * r) (hn : q * r ≤ 600) (hfrm : 0 ≤ frm ∧ frm ≤ 600) (hx : 1 < q → -600 ≤ x ∧ x ≤ 600) (hy : 1 < r → -600 ≤ y ∧ y ≤ 600) :
    wrap64 (wrap64 (frm + wrap64 ((k : Int) % (q : Int) * x)) + wrap64 (((k / q : Nat) : Int) % (r : Int) * y)) = frm + (k : Int) % (q : Int) * x + (k : Int) / (q : Int) * y := by
  have z1 : 0 < q := Nat.pos_of_ne_zero (by rintro rfl; simp at hk)
  have z2 : 0 < r := Nat.pos_of_ne_zero (by rintro rfl; simp at hk)
  have z3 : q ≤ 600 := Nat.le_trans (Nat.le_mul_of_pos_right _ z2) hn
  have z4 : r ≤ 600 := Nat.le_trans (Nat.le_mul_of_pos_left _ z1) hn
  have z5 : k / q < r := Nat.div_lt_of_lt_mul hk
  have z6 : k % q < q := Nat.mod_lt _ z1
  have y5 : (k : Int) / (q : Int) = ((k / q : Nat) : Int) := by simp
  have y6 : (k : Int) % (q : Int) = ((k % q : Nat) : Int) := by simp
  rw [y5, y6]
  generalize k / q = u at *
  generalize k % q = v at *
  have s1 := digit_small z6 z3 hx
  have s2 := digit_small z5 z4 hy
  rw [Int.emod_eq_of_lt (a := (u : Int)) (by omega) (by omega), wrap_small (x := (v : Int) * x) (by omega) (by omega), wrap_small (x := (u : Int) * y) (by omega) (by omega), wrap_small (x := frm + (v : Int) * x) (by omega) (by omega), wrap_small (by omega) (by omega)]

theorem nums_two {w : World} {b o : Nat} {x y : Int} (h1 : w.cell? ⟨b, o, none⟩ = some (.int .i64 x)) (h2 : w.cell? ⟨b, o + 1, none⟩ = some (.int .i64 y)) : NumsAt w b o 2 (fun i => if i = 0 then x else y) := fun i => by
  match i with
  | 0 => exact h1
  | 1 => exact h2

theorem place_two {w : World} (wd frm c d : Int) (a b k : Nat) (sb so sc tb tO tc : Nat) (f : Bool)
    (hk : k < a * b) (hn : a * b ≤ 600) (hfrm : 0 ≤ frm ∧ frm ≤ 600) (hc : 1 < a → -600 ≤ c ∧ c ≤ 600) (hd : 1 < b → -600 ≤ d ∧ d ≤ 600) (hc1 : w.cell? ⟨sb, so, none⟩ = some (.int .i64 a)) (hc1' : w.cell? ⟨sb, so + 1, none⟩ = some (.int .i64 b)) (hc2 : w.cell? ⟨tb, tO, none⟩ = some (.int .i64 c)) (hc2' : w.cell? ⟨tb, tO + 1, none⟩ = some (.int .i64 d)) :
    Calls Tryd.prog 18 #[.agg (vcells wd frm sb so 2 sc tb tO 2 tc f), .int .i64 k] w fun e w' => e = .returned (.int .i64 (if f then frm + (k : Int) % (a : Int) * c + (k : Int) / (a : Int) * d else frm + (k : Int) % (b : Int) * d + (k : Int) / (b : Int) * c)) ∧ Below w.heap.size w w' := by
  have za : 0 < a := Nat.pos_of_ne_zero (by rintro rfl; simp at hk)
  have zb : 0 < b := Nat.pos_of_ne_zero (by rintro rfl; simp at hk)
  have hz : ∀ i : Fin 2, 0 < (if i = 0 then a else b) := fun i => by split <;> assumption
  have hnum : NumsAt w sb so 2 (fun i => (((if i = 0 then a else b) : Nat) : Int)) := fun i => by
    match i with
    | 0 => exact hc1
    | 1 => exact hc1'
  have h := place_does w wd frm sb so 2 sc tb tO tc f (by decide) (fun i => if i = 0 then a else b) (fun i => if i = 0 then c else d) k (by omega) hz (lt_cell hc1) (lt_cell hc2) hnum (nums_two hc2 hc2')
  have e : (walked (fun i : Fin 2 => if i = 0 then a else b) (fun i => if i = 0 then c else d) frm k (inOrder 2 f)).1 = if f then frm + (k : Int) % (a : Int) * c + (k : Int) / (a : Int) * d else frm + (k : Int) % (b : Int) * d + (k : Int) / (b : Int) * c := by
    cases f
    · have e1 : inOrder 2 false = [1, 0] := rfl
      rw [e1]
      exact two_digits frm d c b a k (by rw [Nat.mul_comm]; exact hk) (by rw [Nat.mul_comm]; exact hn) hfrm hd hc
    · have e1 : inOrder 2 true = [0, 1] := rfl
      rw [e1]
      exact two_digits frm c d a b k hk hn hfrm hc hd
  rw [e] at h
  exact h
end Go.Proofs.YtniadajcdldfkaaDoor
