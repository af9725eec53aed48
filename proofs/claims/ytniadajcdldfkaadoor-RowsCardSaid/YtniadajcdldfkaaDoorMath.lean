/- The plain mathematics of a view (promise P7), told by lists: nothing of a dump stands here. -/
namespace PouchTake

abbrev Bytes := List UInt8

/-- How far each item lies from the first one, the last index going quickest. -/
def offs : List (Int × Int) → List Int
  | [] => [0]
  | (n, st) :: rest => (List.range n.toNat).flatMap fun i : Nat => (offs rest).map fun o => (i : Int) * st + o

/-- The pairs of a number of the shape and its stride, the quickest index last. -/
def dims (shape strides : List Int) (f : Bool) : List (Int × Int) :=
  if f then (shape.zip strides).reverse else shape.zip strides

def prod : List Int → Int
  | [] => 1
  | n :: l => n * prod l

/-- The width bytes from a place. -/
def piece (s : Bytes) (w p : Int) : Bytes := (s.drop p.toNat).take w.toNat

def lies (s : Bytes) (w p : Int) : Bool := decide (0 ≤ p) && decide (p + w ≤ s.length)

def fair (s : Bytes) (w frm : Int) (shape strides : List Int) (f : Bool) : Bool :=
  decide (shape.length ≤ 4) && shape.all (fun n => decide (0 ≤ n) && decide (n ≤ 9999)) && decide (strides.length = shape.length)
  && decide (1 ≤ w) && decide (w ≤ 16) && decide (prod shape ≤ 600) && decide (prod shape * w ≤ 600) && decide (0 ≤ frm) && decide (frm ≤ s.length)
  && (decide (prod shape = 0) || ((dims shape strides f).all (fun p => decide (p.1 ≤ 1) || (decide (-600 ≤ p.2) && decide (p.2 ≤ 600)))
      && (offs (dims shape strides f)).all (fun o => lies s w (frm + o))))

/-- What Take answers, by the document: the bytes, and the error's number. -/
def take (s : Bytes) (w frm : Int) (shape strides : List Int) (f : Bool) : Bytes × Int :=
  if 600 < s.length then ([], 1)
  else if fair s w frm shape strides f then ((offs (dims shape strides f)).flatMap fun o => piece s w (frm + o), 0)
  else ([], 6)

theorem prod_two (a b : Int) : prod [a, b] = prod [b, a] := by
  simp only [prod, Int.mul_one, Int.mul_comm]

/-- Two indices exchanged, with the other order: the same is shown. -/
theorem take_swap (s : Bytes) (w frm a b c d : Int) (f : Bool) : take s w frm [a, b] [c, d] f = take s w frm [b, a] [d, c] (!f) := by
  have hd : dims [a, b] [c, d] f = dims [b, a] [d, c] (!f) := by cases f <;> rfl
  have hp := prod_two a b
  have hf : fair s w frm [a, b] [c, d] f = fair s w frm [b, a] [d, c] (!f) := by
    unfold fair
    rw [hd, hp]
    simp only [List.all_cons, List.all_nil, List.length_cons, List.length_nil, Bool.and_true]
    rw [Bool.and_comm (decide (0 ≤ a) && decide (a ≤ 9999))]
  unfold take
  rw [hd, hf]

/-- One index: the places. -/
theorem offs_one (n st : Int) : offs [(n, st)] = (List.range n.toNat).map fun i : Nat => (i : Int) * st := by
  simp only [offs, List.map_cons, List.map_nil, Int.add_zero]
  generalize List.range n.toNat = l
  induction l with
  | nil => rfl
  | cons x l ih => simp [ih]

theorem dims_one (n st : Int) (f : Bool) : dims [n] [st] f = [(n, st)] := by cases f <;> rfl

/-- Pieces of one width, one behind the other: the k-th one. -/
theorem piece_of_pieces (g : Nat → Bytes) (w : Nat) : ∀ (n k : Nat), (∀ i, i < n → (g i).length = w) → k < n →
    (((List.range n).flatMap g).drop (k * w)).take w = g k := by
  intro n
  induction n generalizing g with
  | zero => intro k _ hk; omega
  | succ n ih =>
    intro k hg hk
    rw [List.range_succ_eq_map, List.flatMap_cons, List.flatMap_map]
    have h0 := hg 0 (by omega)
    cases k with
    | zero =>
      rw [Nat.zero_mul, List.drop_zero, List.take_append_of_le_length (by omega), List.take_of_length_le (by omega)]
    | succ k =>
      have e : (k + 1) * w = (g 0).length + k * w := by rw [h0, Nat.succ_mul]; omega
      rw [e, List.drop_append, List.drop_of_length_le (by omega), List.nil_append]
      have e2 : (g 0).length + k * w - (g 0).length = k * w := by omega
      rw [e2]
      exact ih (fun i => g (i + 1)) k (fun i hi => hg (i + 1) (by omega)) (by omega)

/-- A text is its pieces. -/
theorem pieces_all (w : Nat) : ∀ (n : Nat) (s : Bytes), s.length = n * w → (List.range n).flatMap (fun i => (s.drop (i * w)).take w) = s := by
  intro n
  induction n with
  | zero => intro s h; rw [Nat.zero_mul] at h; simp [List.length_eq_zero_iff.mp h]
  | succ n ih =>
    intro s h
    rw [List.range_succ_eq_map, List.flatMap_cons, List.flatMap_map]
    rw [Nat.succ_mul] at h
    have e := ih (s.drop w) (by rw [List.length_drop]; omega)
    rw [Nat.zero_mul, List.drop_zero]
    have e2 : (List.range n).flatMap (fun a => ((s.drop ((a.succ) * w)).take w)) = (List.range n).flatMap (fun i => ((s.drop w).drop (i * w)).take w) := by
      congr 1; funext a; rw [List.drop_drop, Nat.succ_mul, Nat.add_comm]
    rw [e2, e, List.take_append_drop]

theorem length_pieces (g : Nat → Bytes) (w : Nat) : ∀ (n : Nat), (∀ i, i < n → (g i).length = w) → ((List.range n).flatMap g).length = n * w := by
  intro n
  induction n with
  | zero => intro _; simp
  | succ n ih =>
    intro hg
    rw [List.range_succ, List.flatMap_append, List.length_append, ih (fun i hi => hg i (by omega)), Nat.succ_mul]
    simp [hg n (by omega)]


/-- The view of one index with a given stride, where each item lies in the text. -/
theorem take_line (s : Bytes) (w n : Nat) (frm st : Int) (f : Bool) (hw : 1 ≤ w) (hw2 : w ≤ 16) (hn : 1 ≤ n) (hnw : n * w ≤ 600) (hs : s.length ≤ 600)
    (h0 : 0 ≤ frm) (h1 : frm ≤ s.length) (hst : -600 ≤ st ∧ st ≤ 600) (hl : ∀ i : Nat, i < n → 0 ≤ frm + i * st ∧ frm + i * st + w ≤ s.length) :
    take s w frm [(n : Int)] [st] f = ((List.range n).flatMap fun i : Nat => piece s w (frm + i * st), 0) := by
  have hn2 : n ≤ 600 := Nat.le_trans (Nat.le_mul_of_pos_right n hw) hnw
  have hp : prod [(n : Int)] = n := Int.mul_one _
  have hpw : (n : Int) * (w : Int) ≤ 600 := by rw [← Int.natCast_mul]; omega
  have hf : fair s w frm [(n : Int)] [st] f = true := by
    unfold fair
    rw [hp, dims_one, offs_one]
    simp only [Bool.and_eq_true, Bool.or_eq_true, decide_eq_true_eq, List.all_eq_true, List.length_cons, List.length_nil, List.mem_singleton, List.mem_map, List.mem_range, lies]
    refine ⟨⟨⟨⟨⟨⟨⟨⟨⟨by omega, ?_⟩, trivial⟩, by omega⟩, by omega⟩, by omega⟩, hpw⟩, h0⟩, h1⟩, Or.inr ⟨?_, ?_⟩⟩
    · rintro x rfl; omega
    · rintro p rfl; exact Or.inr hst
    · rintro o ⟨i, hi, rfl⟩; exact hl i (by omega)
  unfold take
  rw [if_neg (by omega), if_pos hf, dims_one, offs_one, List.flatMap_map]
  rfl

theorem piece_len (s : Bytes) (w : Nat) (p : Int) (h0 : 0 ≤ p) (h : p + w ≤ s.length) : (piece s w p).length = w := by
  unfold piece
  rw [List.length_take, List.length_drop]
  omega

/-- A row forwards. -/
theorem take_row (s : Bytes) (w n : Nat) (f : Bool) (hw : 1 ≤ w) (hw2 : w ≤ 16) (hn : 1 ≤ n) (hl : s.length = n * w) (hs : s.length ≤ 600) :
    take s w 0 [(n : Int)] [(w : Int)] f = (s, 0) := by
  have hb : ∀ i : Nat, i < n → i * w + w ≤ s.length := fun i hi => by
    rw [hl, ← Nat.succ_mul]; exact Nat.mul_le_mul_right w hi
  rw [take_line s w n 0 w f hw hw2 hn (by omega) hs (by omega) (by omega) (by omega) (fun i hi => by have := hb i hi; have e : ((i * w : Nat) : Int) = (i : Int) * w := by simp
                                                                                                     omega)]
  have e : (fun i : Nat => piece s w (0 + (i : Int) * (w : Int))) = fun i : Nat => (s.drop (i * w)).take w := by
    funext i
    unfold piece
    have e2 : (0 + (i : Int) * (w : Int)).toNat = i * w := by
      rw [Int.zero_add, ← Int.natCast_mul, Int.toNat_natCast]
    rw [e2, Int.toNat_natCast]
  rw [e, pieces_all w n s hl]

/-- A row backwards: what is shown. -/
def back (s : Bytes) (w n : Nat) : Bytes := (List.range n).flatMap fun i : Nat => (s.drop ((n - 1 - i) * w)).take w

theorem mul_sub_one (n i w : Nat) (hi : i < n) : n * w = (n - 1 - i) * w + w + i * w := by
  have e : n = (n - 1 - i) + 1 + i := by omega
  calc n * w = ((n - 1 - i) + 1 + i) * w := by rw [← e]
    _ = (n - 1 - i) * w + w + i * w := by rw [Nat.add_mul, Nat.add_mul, Nat.one_mul]

theorem take_back (s : Bytes) (w n : Nat) (f : Bool) (hw : 1 ≤ w) (hw2 : w ≤ 16) (hn : 1 ≤ n) (hl : s.length = n * w) (hs : s.length ≤ 600) :
    take s w ((s.length : Int) - w) [(n : Int)] [-(w : Int)] f = (back s w n, 0) := by
  have hp : ∀ i : Nat, i < n → ((s.length : Int) - w) + (i : Int) * -(w : Int) = (((n - 1 - i) * w : Nat) : Int) := fun i hi => by
    have h := mul_sub_one n i w hi
    have e : ((i * w : Nat) : Int) = (i : Int) * w := by simp
    rw [Int.mul_neg, ← e]
    omega
  have hb : ∀ i : Nat, i < n → (n - 1 - i) * w + w ≤ s.length := fun i hi => by
    have h := mul_sub_one n i w hi
    omega
  have h0 := hb 0 (by omega)
  rw [take_line s w n _ (-(w : Int)) f hw hw2 hn (by omega) hs (by omega) (by omega) (by omega) (fun i hi => by have := hb i hi; rw [hp i hi]; omega)]
  congr 1
  unfold back
  have : ∀ (l : List Nat), (∀ i ∈ l, i < n) → l.flatMap (fun i : Nat => piece s w (((s.length : Int) - w) + (i : Int) * -(w : Int))) = l.flatMap fun i : Nat => (s.drop ((n - 1 - i) * w)).take w := by
    intro l
    induction l with
    | nil => intro _; rfl
    | cons x l ih =>
      intro h
      rw [List.flatMap_cons, List.flatMap_cons, ih (fun i hi => h i (List.mem_cons_of_mem _ hi)), hp x (h x List.mem_cons_self)]
      unfold piece
      rw [Int.toNat_natCast, Int.toNat_natCast]
  exact this _ (fun i hi => List.mem_range.mp hi)

theorem back_len (s : Bytes) (w n : Nat) (hl : s.length = n * w) : (back s w n).length = n * w := by
  refine length_pieces _ w n (fun i hi => ?_)
  have h := mul_sub_one n i w hi
  rw [List.length_take, List.length_drop]
  omega

/-- A row backwards, and backwards again. -/
theorem back_back (s : Bytes) (w n : Nat) (hl : s.length = n * w) : back (back s w n) w n = s := by
  have hg : ∀ i, i < n → ((s.drop ((n - 1 - i) * w)).take w).length = w := fun i hi => by
    have h := mul_sub_one n i w hi
    rw [List.length_take, List.length_drop]
    omega
  have : ∀ (l : List Nat), (∀ i ∈ l, i < n) → l.flatMap (fun i : Nat => ((back s w n).drop ((n - 1 - i) * w)).take w) = l.flatMap fun i : Nat => (s.drop (i * w)).take w := by
    intro l
    induction l with
    | nil => intro _; rfl
    | cons x l ih =>
      intro h
      have hx := h x List.mem_cons_self
      rw [List.flatMap_cons, List.flatMap_cons, ih (fun i hi => h i (List.mem_cons_of_mem _ hi))]
      have e := piece_of_pieces (fun i : Nat => (s.drop ((n - 1 - i) * w)).take w) w n (n - 1 - x) hg (by omega)
      have e2 : n - 1 - (n - 1 - x) = x := by omega
      simp only [e2] at e
      unfold back
      rw [e]
  have h2 := this (List.range n) (fun i hi => List.mem_range.mp hi)
  unfold back at h2 ⊢
  rw [h2, pieces_all w n s hl]

theorem take_back_back (s : Bytes) (w n : Nat) (f : Bool) (hw : 1 ≤ w) (hw2 : w ≤ 16) (hn : 1 ≤ n) (hl : s.length = n * w) (hs : s.length ≤ 600) :
    take (back s w n) w ((s.length : Int) - w) [(n : Int)] [-(w : Int)] f = (s, 0) := by
  have hb := back_len s w n hl
  have h := take_back (back s w n) w n f hw hw2 hn hb (by omega)
  rw [hb, ← hl, back_back s w n hl] at h
  exact h

/-- The document's own order: the first index quickest. -/
theorem take_sample : take [97, 98, 99, 100, 101, 102] 1 0 [2, 3] [3, 1] true = ([97, 100, 98, 101, 99, 102], 0) := by decide

end PouchTake
