import Derived.Test.YtniadajcdldfkaaDoorItm
import Derived.Test.YtniadajcdldfkaaDoorTwo
import Derived.Test.YtniadajcdldfkaaDoorMath
namespace Go.Proofs.YtniadajcdldfkaaDoor
open Go.RowKit PouchTake

def okOne (len wd frm n st : Int) : Bool :=
  decide (1 ≤ wd ∧ wd ≤ 16 ∧ 0 ≤ n ∧ n ≤ 600 ∧ n * wd ≤ 600 ∧ 0 ≤ frm ∧ frm ≤ len ∧ (n ≤ 1 ∨ (-600 ≤ st ∧ st ≤ 600)))
def okTwo (len wd frm a b c d : Int) : Bool :=
  decide (1 ≤ wd ∧ wd ≤ 16 ∧ 0 ≤ a ∧ a ≤ 9999 ∧ 0 ≤ b ∧ b ≤ 9999 ∧ a * b ≤ 600 ∧ a * b * wd ≤ 600 ∧ 0 ≤ frm ∧ frm ≤ len ∧ (a * b = 0 ∨ ((a ≤ 1 ∨ (-600 ≤ c ∧ c ≤ 600)) ∧ (b ≤ 1 ∨ (-600 ≤ d ∧ d ≤ 600)))))

theorem farB_false (n st : Int) : farB n st = false ↔ (n ≤ 1 ∨ (-600 ≤ st ∧ st ≤ 600)) := by
  unfold farB
  rw [decide_eq_false_iff_not]
  omega

theorem okC_one (len wd frm n st : Int) : okC (decide (0 ≤ n ∧ n ≤ 9999)) (farB n st) n.toNat wd frm len = okOne len wd frm n st := by
  rw [Bool.eq_iff_iff]
  unfold okC okOne
  simp only [Bool.and_eq_true, Bool.or_eq_true, Bool.not_eq_true', decide_eq_true_eq, farB_false]
  constructor
  · rintro ⟨⟨h1, h2⟩, ⟨h3, h4, h5, h6, h7⟩, h8⟩
    rw [Int.toNat_of_nonneg h1] at h5
    have : n * 1 ≤ n * wd := Int.mul_le_mul_of_nonneg_left h3 h1
    exact ⟨h3, h4, h1, by omega, h5, h6, h7, by omega⟩
  · rintro ⟨h3, h4, h1, h2, h5, h6, h7, h8⟩
    rw [Int.toNat_of_nonneg h1]
    exact ⟨⟨h1, by omega⟩, ⟨h3, h4, h5, h6, h7⟩, Or.inr h8⟩

theorem okC_two (len wd frm a b c d : Int) : okC (decide ((0 ≤ a ∧ a ≤ 9999) ∧ (0 ≤ b ∧ b ≤ 9999))) (farB a c || farB b d) (a * b).toNat wd frm len = okTwo len wd frm a b c d := by
  rw [Bool.eq_iff_iff]
  unfold okC okTwo
  simp only [Bool.and_eq_true, Bool.or_eq_true, Bool.not_eq_true', Bool.or_eq_false_iff, decide_eq_true_eq, farB_false]
  constructor
  · rintro ⟨⟨⟨h1, h2⟩, h1', h2'⟩, ⟨h3, h4, h5, h6, h7⟩, h8⟩
    have hab : 0 ≤ a * b := Int.mul_nonneg h1 h1'
    rw [Int.toNat_of_nonneg hab] at h5
    have : a * b * 1 ≤ a * b * wd := Int.mul_le_mul_of_nonneg_left h3 hab
    refine ⟨h3, h4, h1, h2, h1', h2', by omega, h5, h6, h7, ?_⟩
    rcases h8 with h | h
    · exact Or.inl (by omega)
    · exact Or.inr h
  · rintro ⟨h3, h4, h1, h2, h1', h2', h9, h5, h6, h7, h8⟩
    have hab : 0 ≤ a * b := Int.mul_nonneg h1 h1'
    rw [Int.toNat_of_nonneg hab]
    refine ⟨⟨⟨h1, h2⟩, h1', h2'⟩, ⟨h3, h4, h5, h6, h7⟩, ?_⟩
    rcases h8 with h | h
    · exact Or.inl (by omega)
    · exact Or.inr h

/-- The bytes that the walk puts together are the items of the document. -/
theorem piece_extract (s : ByteArray) (wd p : Int) (h0 : 0 ≤ p) (hw : 0 ≤ wd) : (s.extract p.toNat (p + wd).toNat).data.toList = piece s.data.toList wd p := by
  unfold piece
  rw [ByteArray.data_extract, Array.toList_extract, List.extract_eq_take_drop]
  congr 1
  omega

theorem outB_eq (s : ByteArray) (wd : Int) (hw : 0 ≤ wd) (l : List P64) (h : ∀ p ∈ l, Lies s wd p.1) : outB s wd l = (l.map (·.1)).flatMap fun p => piece s.data.toList wd p := by
  unfold outB
  rw [List.flatMap_map]
  induction l with
  | nil => rfl
  | cons x l ih =>
    rw [List.flatMap_cons, List.flatMap_cons, ih (fun p hp => h p (List.mem_cons_of_mem _ hp)), piece_extract s wd x.1 (h x (by simp)).1 hw]

theorem lies_iff (s : ByteArray) (wd p : Int) : lies s.data.toList wd p = true ↔ Lies s wd p := by
  unfold lies Lies
  rw [Bool.and_eq_true, decide_eq_true_eq, decide_eq_true_eq]
  simp

theorem fair_one (s : ByteArray) (wd frm n st : Int) (f : Bool) :
    fair s.data.toList wd frm [n] [st] f = true ↔ okOne s.size wd frm n st = true ∧ ∀ k : Nat, k < n.toNat → Lies s wd (frm + k * st) := by
  unfold fair okOne
  rw [dims_one, offs_one]
  simp only [Bool.and_eq_true, Bool.or_eq_true, decide_eq_true_eq, List.all_eq_true, List.length_cons, List.length_nil, List.mem_singleton, List.mem_map, List.mem_range, prod, Int.mul_one, forall_eq, lies_iff]
  have hsz : s.data.toList.length = s.size := by simp
  rw [hsz]
  constructor
  · rintro ⟨⟨⟨⟨⟨⟨⟨⟨⟨h1, h2⟩, h3⟩, h4⟩, h5⟩, h6⟩, h7⟩, h8⟩, h9⟩, h10⟩
    rcases h10 with h | ⟨h, h'⟩
    · exact ⟨by omega, fun k hk => by omega⟩
    · exact ⟨by omega, fun k hk => h' _ ⟨k, hk, rfl⟩⟩
  · rintro ⟨⟨h1, h2, h3, h4, h5, h6, h7, h8⟩, h9⟩
    refine ⟨⟨⟨⟨⟨⟨⟨⟨⟨by omega, ⟨h3, by omega⟩⟩, trivial⟩, h1⟩, h2⟩, h4⟩, h5⟩, h6⟩, h7⟩, Or.inr ⟨h8, ?_⟩⟩
    rintro o ⟨k, hk, rfl⟩
    exact h9 k hk

theorem range_mul {α : Type} (g : Nat → α) (b : Nat) : ∀ a : Nat, (List.range (a * b)).map g = (List.range a).flatMap fun i => (List.range b).map fun j => g (i * b + j)
  | 0 => by simp
  | a + 1 => by
    rw [Nat.succ_mul, List.range_add, List.map_append, range_mul g b a, List.range_succ, List.flatMap_append, List.flatMap_singleton, List.map_map]
    rfl

theorem flatMap_eq {α β : Type} {f g : α → List β} : ∀ {l : List α}, (∀ x ∈ l, f x = g x) → l.flatMap f = l.flatMap g
  | [], _ => rfl
  | x :: l, h => by rw [List.flatMap_cons, List.flatMap_cons, h x (by simp), flatMap_eq (fun y hy => h y (List.mem_cons_of_mem _ hy))]

/-- The offsets of two numbers, the quickest one last. -/
theorem offs_two (a b : Nat) (c d : Int) : offs [((a : Int), c), ((b : Int), d)] = (List.range (a * b)).map fun k : Nat => (k : Int) % (b : Int) * d + (k : Int) / (b : Int) * c := by
  rw [range_mul]
  have e : offs [((b : Int), d)] = (List.range b).map fun j : Nat => (j : Int) * d := by rw [offs_one, Int.toNat_natCast]
  rw [offs, e, Int.toNat_natCast]
  refine flatMap_eq (fun i _ => ?_)
  rw [List.map_map]
  refine List.map_congr_left (fun j hj => ?_)
  have hj' := List.mem_range.1 hj
  have e1 : (((i * b + j : Nat) : Int) % (b : Int)) = j := by
    rw [← Int.natCast_emod, Nat.mul_comm i b, Nat.mul_add_mod, Nat.mod_eq_of_lt hj']
  have e2 : (((i * b + j : Nat) : Int) / (b : Int)) = i := by
    rw [← Int.natCast_ediv, Nat.mul_comm i b, Nat.mul_add_div (by omega), Nat.div_eq_of_lt hj', Nat.add_zero]
  rw [e1, e2]
  simp only [Function.comp_apply]
  omega

/-- What a view with two numbers is, q being the number that goes quickest. -/
theorem fair_two (s : ByteArray) (wd frm : Int) (a b : Nat) (c d : Int) (f : Bool) :
    fair s.data.toList wd frm [(a : Int), (b : Int)] [c, d] f = true ↔ okTwo s.size wd frm a b c d = true ∧ ∀ o ∈ offs (dims [(a : Int), (b : Int)] [c, d] f), Lies s wd (frm + o) := by
  unfold fair okTwo
  have hsz : s.data.toList.length = s.size := by simp
  have hall : ((dims [(a : Int), (b : Int)] [c, d] f).all fun p => decide (p.1 ≤ 1) || (decide (-600 ≤ p.2) && decide (p.2 ≤ 600))) = true ↔ (((a : Int) ≤ 1 ∨ (-600 ≤ c ∧ c ≤ 600)) ∧ ((b : Int) ≤ 1 ∨ (-600 ≤ d ∧ d ≤ 600))) := by
    cases f
    · simp [dims]
    · simp [dims]
      omega
  have hno : (a : Int) * (b : Int) = 0 → offs (dims [(a : Int), (b : Int)] [c, d] f) = [] := by
    intro h
    have h' : a * b = 0 := by exact_mod_cast h
    cases f
    · show offs [((a : Int), c), ((b : Int), d)] = []
      rw [offs_two, h']
      rfl
    · show offs [((b : Int), d), ((a : Int), c)] = []
      rw [offs_two, Nat.mul_comm, h']
      rfl
  simp only [Bool.and_eq_true, Bool.or_eq_true, decide_eq_true_eq, hall, hsz, prod, Int.mul_one]
  simp only [List.all_eq_true, List.length_cons, List.length_nil, Bool.and_eq_true, decide_eq_true_eq, List.mem_cons, List.not_mem_nil, or_false, forall_eq_or_imp, forall_eq, lies_iff]
  constructor
  · rintro ⟨⟨⟨⟨⟨⟨⟨⟨⟨h1, h2⟩, h3⟩, h4⟩, h5⟩, h6⟩, h7⟩, h8⟩, h9⟩, h10⟩
    rcases h10 with h | ⟨h, h'⟩
    · refine ⟨⟨h4, h5, h2.1.1, h2.1.2, h2.2.1, h2.2.2, h6, h7, h8, h9, Or.inl h⟩, ?_⟩
      rw [hno h]
      simp
    · exact ⟨⟨h4, h5, h2.1.1, h2.1.2, h2.2.1, h2.2.2, h6, h7, h8, h9, Or.inr h⟩, h'⟩
  · rintro ⟨⟨h4, h5, h21, h22, h23, h24, h6, h7, h8, h9, h10⟩, h11⟩
    refine ⟨⟨⟨⟨⟨⟨⟨⟨⟨by omega, ⟨⟨h21, h22⟩, ⟨h23, h24⟩⟩⟩, trivial⟩, h4⟩, h5⟩, h6⟩, h7⟩, h8⟩, h9⟩, ?_⟩
    rcases h10 with h | h
    · exact Or.inl h
    · exact Or.inr ⟨h, h11⟩
end Go.Proofs.YtniadajcdldfkaaDoor
