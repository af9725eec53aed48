import Derived.Test.YtniadajcdldfkaaDoorRows
import Derived.Test.YtniadajcdldfkaaDoorMath
import Derived.WalkKit
import Derived.WalkSpells
import Derived.WalkLawsBesides
import Derived.Deep.CutRange
import Derived.Deep.DeepCutAuto
import Derived.Deep.LoopGhost
import Derived.Deep.RegionHeld3
namespace Go.Proofs.YtniadajcdldfkaaDoor
open Go.RowKit PouchTake

def bytes (l : List UInt8) : ByteArray := ⟨l.toArray⟩
theorem bytes_list (s : ByteArray) : bytes s.data.toList = s := by cases s; simp [bytes]
theorem list_bytes (l : List UInt8) : (bytes l).data.toList = l := by simp [bytes]
theorem size_list (s : ByteArray) : s.data.toList.length = s.size := by simp

def In64 (x : Int) : Prop := -9223372036854775808 ≤ x ∧ x ≤ 9223372036854775807

/-- What the listed variables hold when the call begins. -/
def Facts (W : World) : Prop := laidMetH Tryd.prog Rows.rowsRow.laid W

/-- One list of whole numbers lies in a world. -/
def IntsAt (w : World) (b o : Nat) (l : List Int) : Prop := ∀ i (h : i < l.length), w.cell? ⟨b, o + i, none⟩ = some (.int .i64 l[i]) ∧ In64 l[i]

theorem ints_one {w : World} {b o : Nat} {x : Int} (h : w.cell? ⟨b, o, none⟩ = some (.int .i64 x)) (hx : In64 x) : IntsAt w b o [x] := by
  intro i hi
  match i, hi with
  | 0, _ => exact ⟨h, hx⟩

theorem ints_two {w : World} {b o : Nat} {x y : Int} (h : w.cell? ⟨b, o, none⟩ = some (.int .i64 x)) (h' : w.cell? ⟨b, o + 1, none⟩ = some (.int .i64 y)) (hx : In64 x) (hy : In64 y) : IntsAt w b o [x, y] := by
  intro i hi
  match i, hi with
  | 0, _ => exact ⟨h, hx⟩
  | 1, _ => exact ⟨h', hy⟩

/-- What the call of Take must be shown to do. -/
def TakeDoes : Prop := ∀ (W0 : World), Facts W0 → ∀ (w : World), Below W0.heap.size W0 w → ∀ (s : ByteArray) (wd frm : Int) (f : Bool) (sb so sc tb tO tc : Nat) (sh st : List Int),
    s.size ≤ maxLen → In64 wd → In64 frm → IntsAt w sb so sh → IntsAt w tb tO st → 1 ≤ sh.length → sh.length ≤ 2 → st.length = sh.length →
    Calls Tryd.prog 4 #[.string s, .int .i64 wd, .int .i64 frm, .slice (some ⟨sb, so, none⟩) sh.length sc, .slice (some ⟨tb, tO, none⟩) st.length tc, .bool f] w fun e w' =>
      e = .returned (.tuple #[.string (bytes (take s.data.toList wd frm sh st f).1), .int .i64 (take s.data.toList wd frm sh st f).2]) ∧ Below w.heap.size w w'

theorem num_any (e : Int) (w : World) : Calls Tryd.prog 5 #[.int .i64 e] w fun r w' => r = .returned (.int .i64 e) ∧ w' = w := by
  go_enter Tryd.func5, Tryd.ntmps5
  go_wp2
  go_ret
  exact ⟨rfl, rfl⟩

theorem call_two (TD : TakeDoes) {W0 : World} (h0 : Facts W0) {w : World} (hb : Below W0.heap.size W0 w) {S : ByteArray} {A B l0 l1 m0 m1 : Int} (f : Bool) (hs : S.size ≤ maxLen) (hA : In64 A) (hB : In64 B) (hi : In64 l0 ∧ In64 l1 ∧ In64 m0 ∧ In64 m1) {sb sc tb tc : Nat}
    (h1 : w.cell? ⟨sb, 0, none⟩ = some (.int .i64 l0)) (h1' : w.cell? ⟨sb, 1, none⟩ = some (.int .i64 l1)) (h2 : w.cell? ⟨tb, 0, none⟩ = some (.int .i64 m0)) (h2' : w.cell? ⟨tb, 1, none⟩ = some (.int .i64 m1)) :
    Calls Tryd.prog 4 #[.string S, .int .i64 A, .int .i64 B, .slice (some ⟨sb, 0, none⟩) 2 sc, .slice (some ⟨tb, 0, none⟩) 2 tc, .bool f] w fun e w' =>
      e = .returned (.tuple #[.string (bytes (take S.data.toList A B [l0, l1] [m0, m1] f).1), .int .i64 (take S.data.toList A B [l0, l1] [m0, m1] f).2]) ∧ Below w.heap.size w w' :=
  TD W0 h0 w hb S A B f sb 0 sc tb 0 tc [l0, l1] [m0, m1] hs hA hB (ints_two h1 h1' hi.1 hi.2.1) (ints_two h2 h2' hi.2.2.1 hi.2.2.2) (by simp) (Nat.le_refl 2) rfl

theorem call_swap (TD : TakeDoes) {W0 : World} (h0 : Facts W0) {w : World} (hb : Below W0.heap.size W0 w) {S : ByteArray} {A B l0 l1 m0 m1 : Int} (f : Bool) (hs : S.size ≤ maxLen) (hA : In64 A) (hB : In64 B) (hi : In64 l0 ∧ In64 l1 ∧ In64 m0 ∧ In64 m1) {sb sc tb tc : Nat}
    (h1 : w.cell? ⟨sb, 0, none⟩ = some (.int .i64 l1)) (h1' : w.cell? ⟨sb, 1, none⟩ = some (.int .i64 l0)) (h2 : w.cell? ⟨tb, 0, none⟩ = some (.int .i64 m1)) (h2' : w.cell? ⟨tb, 1, none⟩ = some (.int .i64 m0)) :
    Calls Tryd.prog 4 #[.string S, .int .i64 A, .int .i64 B, .slice (some ⟨sb, 0, none⟩) 2 sc, .slice (some ⟨tb, 0, none⟩) 2 tc, .bool (!f)] w fun e w' =>
      e = .returned (.tuple #[.string (bytes (take S.data.toList A B [l0, l1] [m0, m1] f).1), .int .i64 (take S.data.toList A B [l0, l1] [m0, m1] f).2]) ∧ Below w.heap.size w w' := by
  rw [take_swap S.data.toList A B l0 l1 m0 m1 f]
  exact call_two TD h0 hb (!f) hs hA hB ⟨hi.2.1, hi.1, hi.2.2.2, hi.2.2.1⟩ h1 h1' h2 h2'

/-- A step that speaks of rows. -/
def Good (S : ByteArray) (A : Int) : Prop := S.size ≤ 600 ∧ 1 ≤ A ∧ A ≤ 16 ∧ (S.size : Int) % A = 0 ∧ 0 < S.size
instance (S : ByteArray) (A : Int) : Decidable (Good S A) := by unfold Good; infer_instance
def goodB (S : ByteArray) (A : Int) : Bool := decide (Good S A)

theorem Good.nums {S : ByteArray} {A : Int} (h : Good S A) : ∃ a n : Nat, A = a ∧ (S.size : Int) / A = n ∧ 1 ≤ a ∧ a ≤ 16 ∧ 1 ≤ n ∧ S.size = n * a := by
  obtain ⟨h1, h2, h3, h4, h5⟩ := h
  have e : (A.toNat : Int) = A := by omega
  have h4' : S.size % A.toNat = 0 := by
    rw [← e, ← Int.natCast_emod] at h4
    exact_mod_cast h4
  have hd := Nat.div_add_mod S.size A.toNat
  rw [h4', Nat.add_zero, Nat.mul_comm] at hd
  refine ⟨A.toNat, S.size / A.toNat, by omega, by rw [Int.natCast_ediv, e], by omega, by omega, ?_, hd.symm⟩
  rcases Nat.eq_zero_or_pos (S.size / A.toNat) with hz | hz
  · rw [hz] at hd; omega
  · exact hz

/-- What a row shows backwards. -/
def backOf (S : ByteArray) (A : Int) : ByteArray := bytes (back S.data.toList A.toNat ((S.size : Int) / A).toNat)

theorem backOf_size {S : ByteArray} {A : Int} (h : Good S A) : (backOf S A).size = S.size := by
  obtain ⟨a, n, rfl, hn, _, _, _, hS⟩ := h.nums
  unfold backOf
  rw [hn, ← size_list, list_bytes, Int.toNat_natCast, Int.toNat_natCast, back_len _ _ _ (by rw [size_list]; exact hS), hS]

theorem call_row (TD : TakeDoes) {W0 : World} (h0 : Facts W0) {w : World} (hb : Below W0.heap.size W0 w) {S : ByteArray} {A x : Int} (f : Bool) (hg : Good S A) (hx : x = (S.size : Int) / A) {sb so sc tb tO tc : Nat}
    (h1 : w.cell? ⟨sb, so, none⟩ = some (.int .i64 x)) (h2 : w.cell? ⟨tb, tO, none⟩ = some (.int .i64 A)) :
    Calls Tryd.prog 4 #[.string S, .int .i64 A, .int .i64 0, .slice (some ⟨sb, so, none⟩) 1 sc, .slice (some ⟨tb, tO, none⟩) 1 tc, .bool f] w fun e w' =>
      e = .returned (.tuple #[.string S, .int .i64 0]) ∧ Below w.heap.size w w' := by
  obtain ⟨a, n, rfl, hn, ha, ha2, hn1, hS⟩ := id hg.nums
  obtain ⟨g1, _, _, _, _⟩ := hg
  subst hx
  have hle : n ≤ n * a := Nat.le_mul_of_pos_right n ha
  have h64 : In64 ((S.size : Int) / (a : Int)) := by rw [hn]; unfold In64; omega
  have hc := TD W0 h0 w hb S a 0 f sb so sc tb tO tc [(S.size : Int) / (a : Int)] [(a : Int)] (by unfold maxLen; omega) (by unfold In64; omega) (by unfold In64; omega) (ints_one h1 h64) (ints_one h2 (by unfold In64; omega)) (by simp) (by simp) rfl
  rw [hn, take_row _ a n f ha ha2 hn1 (by rw [size_list]; exact hS) (by rw [size_list]; omega), bytes_list] at hc
  exact hc

theorem call_back (TD : TakeDoes) {W0 : World} (h0 : Facts W0) {w : World} (hb : Below W0.heap.size W0 w) {S : ByteArray} {A x y z : Int} (f : Bool) (hg : Good S A) (hx : x = (S.size : Int) / A) (hy : y = (S.size : Int) - A) (hz : z = -A) {sb so sc tb tO tc : Nat}
    (h1 : w.cell? ⟨sb, so, none⟩ = some (.int .i64 x)) (h2 : w.cell? ⟨tb, tO, none⟩ = some (.int .i64 z)) :
    Calls Tryd.prog 4 #[.string S, .int .i64 A, .int .i64 y, .slice (some ⟨sb, so, none⟩) 1 sc, .slice (some ⟨tb, tO, none⟩) 1 tc, .bool f] w fun e w' =>
      e = .returned (.tuple #[.string (backOf S A), .int .i64 0]) ∧ Below w.heap.size w w' := by
  obtain ⟨a, n, rfl, hn, ha, ha2, hn1, hS⟩ := id hg.nums
  obtain ⟨g1, _, _, _, _⟩ := hg
  subst hx hy hz
  have hle : n ≤ n * a := Nat.le_mul_of_pos_right n ha
  have h64 : In64 ((S.size : Int) / (a : Int)) := by rw [hn]; unfold In64; omega
  have hc := TD W0 h0 w hb S a ((S.size : Int) - a) f sb so sc tb tO tc [(S.size : Int) / (a : Int)] [-(a : Int)] (by unfold maxLen; omega) (by unfold In64; omega) (by unfold In64; omega) (ints_one h1 h64) (ints_one h2 (by unfold In64; omega)) (by simp) (by simp) rfl
  have hq := take_back S.data.toList a n f ha ha2 hn1 (by rw [size_list]; exact hS) (by rw [size_list]; omega)
  rw [size_list] at hq
  rw [hn, hq] at hc
  unfold backOf
  rw [hn]
  exact hc

theorem call_again (TD : TakeDoes) {W0 : World} (h0 : Facts W0) {w : World} (hb : Below W0.heap.size W0 w) {S : ByteArray} {A x y z : Int} (f : Bool) (hg : Good S A) (hx : x = (S.size : Int) / A) (hy : y = (S.size : Int) - A) (hz : z = -A) {sb so sc tb tO tc : Nat}
    (h1 : w.cell? ⟨sb, so, none⟩ = some (.int .i64 x)) (h2 : w.cell? ⟨tb, tO, none⟩ = some (.int .i64 z)) :
    Calls Tryd.prog 4 #[.string (backOf S A), .int .i64 A, .int .i64 y, .slice (some ⟨sb, so, none⟩) 1 sc, .slice (some ⟨tb, tO, none⟩) 1 tc, .bool f] w fun e w' =>
      e = .returned (.tuple #[.string S, .int .i64 0]) ∧ Below w.heap.size w w' := by
  have hbs := backOf_size hg
  obtain ⟨a, n, rfl, hn, ha, ha2, hn1, hS⟩ := id hg.nums
  obtain ⟨g1, _, _, _, _⟩ := hg
  subst hx hy hz
  have hle : n ≤ n * a := Nat.le_mul_of_pos_right n ha
  have h64 : In64 ((S.size : Int) / (a : Int)) := by rw [hn]; unfold In64; omega
  have hc := TD W0 h0 w hb (backOf S a) a ((S.size : Int) - a) f sb so sc tb tO tc [(S.size : Int) / (a : Int)] [-(a : Int)] (by unfold maxLen; omega) (by unfold In64; omega) (by unfold In64; omega) (ints_one h1 h64) (ints_one h2 (by unfold In64; omega)) (by simp) (by simp) rfl
  have hq := take_back_back S.data.toList a n f ha ha2 hn1 (by rw [size_list]; exact hS) (by rw [size_list]; omega)
  rw [size_list] at hq
  have hbl : (backOf S a).data.toList = back S.data.toList a n := by unfold backOf; rw [list_bytes, hn, Int.toNat_natCast, Int.toNat_natCast]
  rw [hn, hbl, hq, bytes_list] at hc
  exact hc

theorem wrap_quo {S : ByteArray} {A : Int} (h : Good S A) : wrap64 ((S.size : Int) / A) = (S.size : Int) / A := by
  obtain ⟨a, n, rfl, hn, ha, _, hn1, hS⟩ := id h.nums
  have hle : n ≤ n * a := Nat.le_mul_of_pos_right n ha
  have h6 := h.1
  rw [hn]; unfold wrap64; omega

/-- The step's own copy. -/
structure OC (w : World) (g : Nat) (A B : Int) (F : Bool) (S : ByteArray) (La : Option Addr) (Ln Lc : Nat) (Ma : Option Addr) (Mn Mc : Nat) : Prop where
  c1 : w.cell? ⟨g, 1, none⟩ = some (.int .i64 A)
  c2 : w.cell? ⟨g, 2, none⟩ = some (.int .i64 B)
  c3 : w.cell? ⟨g, 3, none⟩ = some (.bool F)
  c4 : w.cell? ⟨g, 4, none⟩ = some (.string S)
  c6 : w.cell? ⟨g, 6, none⟩ = some (.slice La Ln Lc)
  c7 : w.cell? ⟨g, 7, none⟩ = some (.slice Ma Mn Mc)
abbrev OB (K A B : Int) (F : Bool) (S T : ByteArray) (La : Option Addr) (Ln Lc : Nat) (Ma : Option Addr) (Mn Mc : Nat) : Obj :=
  .cells #[.int .i64 K, .int .i64 A, .int .i64 B, .bool F, .string S, .string T, .slice La Ln Lc, .slice Ma Mn Mc] 25
theorem OC.new (w : World) (K A B : Int) (F : Bool) (S T : ByteArray) (La : Option Addr) (Ln Lc : Nat) (Ma : Option Addr) (Mn Mc : Nat) :
    OC (w.alloc (OB K A B F S T La Ln Lc Ma Mn Mc)) w.heap.size A B F S La Ln Lc Ma Mn Mc := by
  constructor <;> simp [OB, go_sem]
theorem OC.keep {w w' : World} {g : Nat} {A B : Int} {F : Bool} {S : ByteArray} {La : Option Addr} {Ln Lc : Nat} {Ma : Option Addr} {Mn Mc : Nat} (p : OC w g A B F S La Ln Lc Ma Mn Mc) (h : Below w.heap.size w w') :
    OC w' g A B F S La Ln Lc Ma Mn Mc where
  c1 := cell_later h p.c1
  c2 := cell_later h p.c2
  c3 := cell_later h p.c3
  c4 := cell_later h p.c4
  c6 := cell_later h p.c6
  c7 := cell_later h p.c7
theorem grow2 (w : World) (o o' : Obj) : Below w.heap.size w ((w.alloc o).alloc o') := ((Below.refl _ _).alloc (Nat.le_refl _) _).alloc (by simp) _
theorem hid {p : Prop} (h : p) : Hid p := h

/-- An element of the script, as its cells. -/
structure OpCells (W : World) (b o : Nat) (K A B : Int) (F : Bool) (S T : ByteArray) (La : Option Addr) (Ln Lc : Nat) (Ma : Option Addr) (Mn Mc : Nat) : Prop where
  c0 : W.cell? ⟨b, o, none⟩ = some (.int .i64 K)
  c1 : W.cell? ⟨b, o + 1, none⟩ = some (.int .i64 A)
  c2 : W.cell? ⟨b, o + 2, none⟩ = some (.int .i64 B)
  c3 : W.cell? ⟨b, o + 3, none⟩ = some (.bool F)
  c4 : W.cell? ⟨b, o + 4, none⟩ = some (.string S)
  c5 : W.cell? ⟨b, o + 5, none⟩ = some (.string T)
  c6 : W.cell? ⟨b, o + 6, none⟩ = some (.slice La Ln Lc)
  c7 : W.cell? ⟨b, o + 7, none⟩ = some (.slice Ma Mn Mc)
  rA : In64 A
  rB : In64 B
  sS : S.size ≤ maxLen
  two : Ln = 2 → Mn = 2 → ∃ lb lo mb mo l0 l1 m0 m1, La = some ⟨lb, lo, none⟩ ∧ Ma = some ⟨mb, mo, none⟩ ∧
    (In64 l0 ∧ In64 l1 ∧ In64 m0 ∧ In64 m1) ∧ W.cell? ⟨lb, lo, none⟩ = some (.int .i64 l0) ∧ W.cell? ⟨lb, lo + 1, none⟩ = some (.int .i64 l1) ∧ W.cell? ⟨mb, mo, none⟩ = some (.int .i64 m0) ∧ W.cell? ⟨mb, mo + 1, none⟩ = some (.int .i64 m1)
theorem OpCells.keep {w w' : World} {b o : Nat} {K A B : Int} {F : Bool} {S T : ByteArray} {La : Option Addr} {Ln Lc : Nat} {Ma : Option Addr} {Mn Mc : Nat} (h : Below w.heap.size w w')
    (p : OpCells w b o K A B F S T La Ln Lc Ma Mn Mc) : OpCells w' b o K A B F S T La Ln Lc Ma Mn Mc where
  c0 := cell_later h p.c0
  c1 := cell_later h p.c1
  c2 := cell_later h p.c2
  c3 := cell_later h p.c3
  c4 := cell_later h p.c4
  c5 := cell_later h p.c5
  c6 := cell_later h p.c6
  c7 := cell_later h p.c7
  rA := p.rA
  rB := p.rB
  sS := p.sS
  two := fun h1 h2 => by
    obtain ⟨lb, lo, mb, mo, l0, l1, m0, m1, e1, e2, hi, k0, k1, k2, k3⟩ := p.two h1 h2
    exact ⟨lb, lo, mb, mo, l0, l1, m0, m1, e1, e2, hi, cell_later h k0, cell_later h k1, cell_later h k2, cell_later h k3⟩

theorem wrap_step {k : Nat} (h : (k : Int) < 1152921504606846976) : wrap64 ((k : Int) + 1) = (k : Int) + 1 := by unfold wrap64; omega

/-- A step that speaks of two indices. -/
def twoB (a b : Nat) : Bool := decide (a = 2 ∧ b = 2)

theorem call_sample (TD : TakeDoes) {W0 : World} (h0 : Facts W0) {w : World} (hb : Below W0.heap.size W0 w) {sb sc tb tc : Nat}
    (h1 : w.cell? ⟨sb, 0, none⟩ = some (.int .i64 2)) (h1' : w.cell? ⟨sb, 1, none⟩ = some (.int .i64 3)) (h2 : w.cell? ⟨tb, 0, none⟩ = some (.int .i64 3)) (h2' : w.cell? ⟨tb, 1, none⟩ = some (.int .i64 1)) :
    Calls Tryd.prog 4 #[.string ⟨#[97, 98, 99, 100, 101, 102]⟩, .int .i64 1, .int .i64 0, .slice (some ⟨sb, 0, none⟩) 2 sc, .slice (some ⟨tb, 0, none⟩) 2 tc, .bool true] w fun e w' =>
      e = .returned (.tuple #[.string ⟨#[97, 100, 98, 101, 99, 102]⟩, .int .i64 0]) ∧ Below w.heap.size w w' := by
  have hc := call_two TD h0 hb (S := ⟨#[97, 98, 99, 100, 101, 102]⟩) (A := 1) (B := 0) (l0 := 2) (l1 := 3) (m0 := 3) (m1 := 1) (sb := sb) (sc := sc) (tb := tb) (tc := tc) true (by unfold maxLen; exact Nat.le_of_ble_eq_true rfl) (by unfold In64; omega) (by unfold In64; omega) ⟨by unfold In64; omega, by unfold In64; omega, by unfold In64; omega, by unfold In64; omega⟩ h1 h1' h2 h2'
  rw [show take (ByteArray.mk #[97, 98, 99, 100, 101, 102]).data.toList 1 0 [2, 3] [3, 1] true = ([97, 100, 98, 101, 99, 102], 0) from take_sample] at hc
  exact hc

/-- A region of the function's text, by its number; the 'if' on a slot. -/
def regionOf (n : Nat) : Code → Option Code
  | .region i ops d => if i = n then some (.region i ops d) else none
  | .seq a b => match regionOf n a with
    | some c => some c
    | none => regionOf n b
  | .cond _ a b => match regionOf n a with
    | some c => some c
    | none => regionOf n b
  | .block _ c => regionOf n c
  | .loop c => regionOf n c
  | .scope c => regionOf n c
  | _ => none
def condOf (n : Nat) : Code → Option Code
  | .seq a b => match condOf n a with
    | some c => some c
    | none => condOf n b
  | .cond (.tmp t) a b => if t = n then some (.cond (.tmp t) a b) else match condOf n a with
    | some c => some c
    | none => condOf n b
  | .block _ c => condOf n c
  | .loop c => condOf n c
  | .scope c => condOf n c
  | _ => none
noncomputable def code5 : Code := (Tryd.f3.body.bind (regionOf 5)).getD .skip
noncomputable def code12 : Code := (Tryd.f3.body.bind (regionOf 12)).getD .skip
noncomputable def code13 : Code := (Tryd.f3.body.bind (regionOf 13)).getD .skip
noncomputable def code14 : Code := (Tryd.f3.body.bind (regionOf 14)).getD .skip
noncomputable def code159 : Code := (Tryd.f3.body.bind (condOf 159)).getD .skip
noncomputable def code60 : Code := (Tryd.f3.body.bind (condOf 60)).getD .skip

end Go.Proofs.YtniadajcdldfkaaDoor
