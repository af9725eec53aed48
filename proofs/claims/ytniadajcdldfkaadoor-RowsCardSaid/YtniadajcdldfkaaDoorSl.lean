import Derived.Test.YtniadajcdldfkaaDoorIter
namespace Go.Proofs.YtniadajcdldfkaaDoor
open Go.RowKit Go.Shelf
attribute [local go_sem] Oper.semAt_some

/-- A list of whole numbers in a box of its own. -/
def SBox (W : World) (B b off len cap : Nat) : Prop := W.heap[B]? = some (.cells #[.slice (some ⟨b, off, none⟩) len cap] 23 (0, 0))
theorem SBox.c {W : World} {B b off len cap : Nat} (h : SBox W B b off len cap) : W.cell? ⟨B, 0, none⟩ = some (.slice (some ⟨b, off, none⟩) len cap) := by simp [World.cell?, show W.heap[B]? = _ from h]

/-- The numbers of a list. -/
def NumsAt (W : World) (b off len : Nat) (zs : Fin len → Int) : Prop := ∀ i : Fin len, W.cell? ⟨b, off + i.1, none⟩ = some (.int .i64 (zs i))
theorem NumsAt.below {n₀ : Nat} {W W' : World} {b off len : Nat} {zs : Fin len → Int} (hb : b < n₀) (hB : Below n₀ W W') (h : NumsAt W b off len zs) : NumsAt W' b off len zs := fun i => (hB.cell (p := ⟨b, off + i.1, none⟩) hb).trans (h i)

def upTo (len k : Nat) : List (Fin len) := (List.finRange len).take k
def downTo (len k : Nat) : List (Fin len) := (List.finRange len).reverse.take k
theorem upTo_succ {len k : Nat} (h : k < len) : upTo len (k + 1) = upTo len k ++ [⟨k, h⟩] := by
  unfold upTo
  rw [← List.take_append_getElem (by simpa using h)]
  simp
theorem downTo_succ {len k : Nat} (h : k < len) : downTo len (k + 1) = downTo len k ++ [⟨len - 1 - k, by omega⟩] := by
  unfold downTo
  rw [← List.take_append_getElem (by simpa using h)]
  simp
theorem upTo_length {len k : Nat} (h : k ≤ len) : (upTo len k).length = k := by simp [upTo]; omega
theorem downTo_length {len k : Nat} (h : k ≤ len) : (downTo len k).length = k := by simp [downTo]; omega

theorem upTo_all (len : Nat) : upTo len len = List.finRange len := List.take_of_length_le (by simp)
theorem downTo_all (len : Nat) : downTo len len = (List.finRange len).reverse := List.take_of_length_le (by simp)

set_option maxRecDepth 100000 in
set_option maxHeartbeats 2000000 in
theorem all1_in (n : Nat) (h1 : 1 ≤ n) (l Bs n₀ b off len cap : Nat) (hlen : len ≤ 4) (zs : Fin len → Int) (hb : b < n₀) (J Jx : List (Fin len) → World → Prop)
    (hY : ∀ pre (x : Fin len) W, J pre W → pre.length < len → YieldAt Fence.wide (n - 1) Tryd.prog l #[.int .i64 (x.1 : Int), .int .i64 (zs x)] W fun e W' =>
      (e = .returned (.bool true) ∧ J (pre ++ [x]) W' ∧ Kp n₀ Bs W W') ∨ (e = .returned (.bool false) ∧ Jx (pre ++ [x]) W'))
    (W : World) (hBs : SBox W Bs b off len cap) (hc : NumsAt W b off len zs) (h0 : J [] W) :
    CallsIn Fence.wide n Tryd.prog 32 #[.func (.yield l) #[] #[], .pointer (some ⟨Bs, 0, none⟩)] W fun e W' => (∃ v, e = .returned v) ∧
      ((∃ ys, ys = List.finRange len ∧ J ys W') ∨ (∃ pre, True ∧ Jx pre W')) := by
  have hs0 := hBs.c
  refine callsIn_of_wp Tryd.func32 rfl trivial ?_ rfl
  simp only [Tryd.ntmps32, List.size_toArray, List.length_cons, List.length_nil, Nat.reduceAdd, Nat.reduceSub, Array.replicate_succ, Array.replicate_zero, List.push_toArray, List.append_toArray, List.nil_append, List.cons_append]
  gi_wp2
  gi_loopw [7] (fun i wr => ∃ k : Nat, k ≤ len ∧ i = .int .i64 k ∧ J (upTo len k) wr ∧ Below n₀ W wr)
    (fun i _ => len - (intOf i).toNat)
  case atStart => exact ⟨0, Nat.zero_le _, rfl, h0, Below.refl _ _⟩
  case round =>
    obtain ⟨k, hk, rfl, hJs, hnx⟩ := hrel
    by_cases hlt : k < len
    · have hlt' : (k : Int) < (len : Int) := by omega
      have hw : wrap64 ((k : Int) + 1) = (k : Int) + 1 := by unfold wrap64; omega
      have hcx := (hc.below hb hnx) ⟨k, hlt⟩
      obtain ⟨fn, tmps, assign, body, hy, hR⟩ := hY _ ⟨k, hlt⟩ wr hJs (by rw [upTo_length hk]; exact hlt)
      dsimp only at hy hcx
      gi_wp2
      refine hR.mono ?_
      rintro e W3 (⟨rfl, hJ3, hk3⟩ | ⟨rfl, hJx3⟩)
      · gi_wp2
        go_roundw
        case rel => exact ⟨k + 1, by omega, rfl, by rw [upTo_succ hlt]; exact hJ3, hnx.trans hk3.1⟩
        case measure => simp [intOf]; omega
      · gi_wp2
        refine bodyPost_ret (results_none rfl _ _ _) rfl ?_
        exact ⟨⟨_, rfl⟩, .inr ⟨_, trivial, hJx3⟩⟩
    · obtain rfl : k = len := by omega
      gi_wp2
      go_end0
      exact ⟨⟨_, rfl⟩, .inl ⟨_, upTo_all _, hJs⟩⟩

set_option maxRecDepth 100000 in
set_option maxHeartbeats 2000000 in
theorem back1_in (n : Nat) (h1 : 1 ≤ n) (l Bs n₀ b off len cap : Nat) (hlen : len ≤ 4) (zs : Fin len → Int) (hb : b < n₀) (J Jx : List (Fin len) → World → Prop)
    (hY : ∀ pre (x : Fin len) W, J pre W → pre.length < len → YieldAt Fence.wide (n - 1) Tryd.prog l #[.int .i64 (x.1 : Int), .int .i64 (zs x)] W fun e W' =>
      (e = .returned (.bool true) ∧ J (pre ++ [x]) W' ∧ Kp n₀ Bs W W') ∨ (e = .returned (.bool false) ∧ Jx (pre ++ [x]) W'))
    (W : World) (hBs : SBox W Bs b off len cap) (hc : NumsAt W b off len zs) (h0 : J [] W) :
    CallsIn Fence.wide n Tryd.prog 33 #[.func (.yield l) #[] #[], .pointer (some ⟨Bs, 0, none⟩)] W fun e W' => (∃ v, e = .returned v) ∧
      ((∃ ys, ys = (List.finRange len).reverse ∧ J ys W') ∨ (∃ pre, True ∧ Jx pre W')) := by
  have hs0 := hBs.c
  have hw0 : wrap64 ((len : Int) - 1) = (len : Int) - 1 := by unfold wrap64; omega
  refine callsIn_of_wp Tryd.func33 rfl trivial ?_ rfl
  simp only [Tryd.ntmps33, List.size_toArray, List.length_cons, List.length_nil, Nat.reduceAdd, Nat.reduceSub, Array.replicate_succ, Array.replicate_zero, List.push_toArray, List.append_toArray, List.nil_append, List.cons_append]
  gi_wp2
  gi_loopw [3] (fun i wr => ∃ k j : Nat, k + j = len ∧ i = .int .i64 ((j : Int) - 1) ∧ J (downTo len k) wr ∧ Below n₀ W wr ∧ SBox wr Bs b off len cap)
    (fun i _ => (intOf i + 1).toNat)
  case atStart => exact ⟨0, len, by omega, rfl, h0, Below.refl _ _, hBs⟩
  case round =>
    obtain ⟨k, j, hk, rfl, hJs, hnx, hsb⟩ := hrel
    cases j with
    | zero =>
      obtain rfl : k = len := by omega
      gi_wp2
      go_end0
      exact ⟨⟨_, rfl⟩, .inl ⟨_, downTo_all _, hJs⟩⟩
    | succ j =>
      have hsc := hsb.c
      have e0 : (((j + 1 : Nat) : Int) - 1) = (j : Int) := by omega
      rw [e0]
      have hge : (0 : Int) ≤ (j : Int) := by omega
      have hlt' : (j : Int) < (len : Int) := by omega
      have hw : wrap64 ((j : Int) - 1) = (j : Int) - 1 := by unfold wrap64; omega
      have hj : (⟨len - 1 - k, by omega⟩ : Fin len) = ⟨j, by omega⟩ := by apply Fin.ext; simp; omega
      have hcx := (hc.below hb hnx) ⟨j, by omega⟩
      obtain ⟨fn, tmps, assign, body, hy, hR⟩ := hY _ ⟨j, by omega⟩ wr hJs (by rw [downTo_length (by omega)]; omega)
      dsimp only at hy hcx
      gi_wp2
      refine hR.mono ?_
      rintro e W3 (⟨rfl, hJ3, hk3⟩ | ⟨rfl, hJx3⟩)
      · gi_wp2
        go_roundw
        case rel => exact ⟨k + 1, j, by omega, rfl, by rw [downTo_succ (by omega), hj]; exact hJ3, hnx.trans hk3.1, hk3.2.trans hsb⟩
        case measure => simp [intOf]
      · gi_wp2
        refine bodyPost_ret (results_none rfl _ _ _) rfl ?_
        exact ⟨⟨_, rfl⟩, .inr ⟨_, trivial, hJx3⟩⟩

theorem all_in (n : Nat) (a : Option Addr) (len cap : Nat) (w : World) :
    CallsIn Fence.wide n Tryd.prog 30 #[.slice a len cap] w fun e w' => e = .returned (.func (.func 32) #[] #[.pointer (some ⟨w.heap.size, 0, none⟩)]) ∧ w' = w.alloc (.cells #[.slice a len cap] 23) := by
  refine callsIn_of_wp Tryd.func30 rfl trivial ?_ rfl
  simp only [Tryd.ntmps30, List.size_toArray, List.length_cons, List.length_nil, Nat.reduceAdd, Nat.reduceSub, Array.replicate_succ, Array.replicate_zero, List.push_toArray, List.append_toArray, List.nil_append, List.cons_append]
  gi_wp2
  go_ret
  exact ⟨rfl, rfl⟩

theorem back_in (n : Nat) (a : Option Addr) (len cap : Nat) (w : World) :
    CallsIn Fence.wide n Tryd.prog 31 #[.slice a len cap] w fun e w' => e = .returned (.func (.func 33) #[] #[.pointer (some ⟨w.heap.size, 0, none⟩)]) ∧ w' = w.alloc (.cells #[.slice a len cap] 23) := by
  refine callsIn_of_wp Tryd.func31 rfl trivial ?_ rfl
  simp only [Tryd.ntmps31, List.size_toArray, List.length_cons, List.length_nil, Nat.reduceAdd, Nat.reduceSub, Array.replicate_succ, Array.replicate_zero, List.push_toArray, List.append_toArray, List.nil_append, List.cons_append]
  gi_wp2
  go_ret
  exact ⟨rfl, rfl⟩

/-- Which indices come, in which order. -/
def inOrder (len : Nat) (f : Bool) : List (Fin len) := if f then List.finRange len else (List.finRange len).reverse
/-- Which of the two closures goes through them. -/
def goerOf (f : Bool) : Nat := if f then 32 else 33

theorem goer_stops (n : Nat) (h1 : 1 ≤ n) (Bs n₀ b off len cap : Nat) (hlen : len ≤ 4) (zs : Fin len → Int) (hb : b < n₀) (f : Bool) (w : World) (hn₀ : n₀ ≤ w.heap.size) (hBs : SBox w Bs b off len cap) (hc : NumsAt w b off len zs) :
    SeqStopsK Fence.wide n Tryd.prog (goerOf f) #[.pointer (some ⟨Bs, 0, none⟩)] (fun x : Fin len => #[Value.int .i64 (x.1 : Int), Value.int .i64 (zs x)]) (Kp n₀ Bs) (fun ys => ys = inOrder len f) (fun _ => True) len w := fun l J Jx W hW _ _ hY h0 => by
  have hs := (hW.block _ (Array.getElem?_eq_some_iff.1 hBs).1).trans hBs
  have hn := hc.below hb (hW.mono hn₀)
  cases f
  · exact back1_in n h1 l Bs n₀ b off len cap hlen zs hb J Jx hY W hs hn h0
  · exact all1_in n h1 l Bs n₀ b off len cap hlen zs hb J Jx hY W hs hn h0
end Go.Proofs.YtniadajcdldfkaaDoor
