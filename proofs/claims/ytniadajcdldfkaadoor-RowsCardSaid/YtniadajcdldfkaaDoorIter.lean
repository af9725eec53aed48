import Derived.RangeFuncNested
import Derived.RangeFuncBound
import Derived.RangeFuncCalls
import Derived.RangeFuncLeaves
import Derived.RangeFuncBox
import Derived.Shelf.Abstract
import Derived.Shelf.RegionOpen
import Derived.WalkKit
import Derived.OwnWalkIn
import Derived.TacticsInMore
import Derived.LoopNIn
import Derived.LoopIn
import Derived.Test.YtniadajcdldfkaaDoorOwn
import Derived.Test.YtniadajcdldfkaaDoorRows
import Derived.Test.YtniadajcdldfkaaDoorChecked
namespace Go.Proofs.YtniadajcdldfkaaDoor
open Go.RowKit Go.Shelf
attribute [local go_sem] Oper.semAt_some

theorem lt_cell {w : World} {p : Addr} {v : Value} (h : w.cell? p = some v) : p.block < w.heap.size := World.block_lt_of_cell? _ _ h

theorem grown_of_below {W W' : World} (h : Below W.heap.size W W') : W.grownBy W' none := ⟨h.os, h.tape, h.output, h.size, fun k hk _ => h.block k hk⟩

theorem range_prefix {k m : Nat} (h : k ≤ m) : List.range k <+: List.range m := by
  refine ⟨(List.range (m - k)).map (k + ·), ?_⟩
  rw [← List.range_add, Nat.add_sub_cancel' h]

/-- What a round of this iterator must keep: what lay below n₀, and the iterator's own box. -/
def Kp (n₀ Bv : Nat) (W W' : World) : Prop := Below n₀ W W' ∧ W'.heap[Bv]? = W.heap[Bv]?
theorem Kp.t {n₀ Bv : Nat} {A B C : World} (h : Kp n₀ Bv A B) (k : Kp n₀ Bv B C) : Kp n₀ Bv A C := ⟨h.1.trans k.1, k.2.trans h.2⟩

/-- The cells of a view's box. -/
abbrev vcells (wd frm : Int) (sb so sn sc tb tO tn tc : Nat) (f : Bool) : Array Value := #[.int .i64 wd, .int .i64 frm, .slice (some ⟨sb, so, none⟩) sn sc, .slice (some ⟨tb, tO, none⟩) tn tc, .bool f]

/-- A place: far from the ends of an int. -/
abbrev P64 := { x : Int // -1000000 ≤ x ∧ x ≤ 1000000 }

/-- What the call of place does, in every world that has grown since W. -/
def PlaceDoes (n₀ : Nat) (W : World) (v : Value) (m : Nat) (pl : Nat → P64) : Prop := ∀ W', Below n₀ W W' → ∀ k : Nat, k < m → Calls Tryd.prog 18 #[v, .int .i64 k] W' fun e w' => e = .returned (.int .i64 (pl k).1) ∧ Below W'.heap.size W' w'

set_option maxRecDepth 100000 in
set_option maxHeartbeats 1000000 in
theorem places1_in (n : Nat) (h1 : 1 ≤ n) (l Bi Bv n₀ m : Nat) (hm : m ≤ 600) (pl : Nat → P64) (wd frm : Int) (sb so sn sc tb tO tn tc : Nat) (f : Bool) (J Jx : List P64 → World → Prop) (W : World) (hn₀ : n₀ ≤ W.heap.size)
    (hY : ∀ pre x W1, J pre W1 → pre.length < m → YieldAt Fence.wide (n - 1) Tryd.prog l #[.int .i64 x.1] W1 fun e W' =>
      (e = .returned (.bool true) ∧ J (pre ++ [x]) W' ∧ Kp n₀ Bv W1 W') ∨ (e = .returned (.bool false) ∧ Jx (pre ++ [x]) W'))
    (hJ : AbidesFrom W.heap.size J)
    (hBi : W.cell? ⟨Bi, 0, none⟩ = some (.int .i64 m)) (hBv : W.heap[Bv]? = some (.cells (vcells wd frm sb so sn sc tb tO tn tc f) 32 (0, 0)))
    (HP : PlaceDoes n₀ W (.agg (vcells wd frm sb so sn sc tb tO tn tc f)) m pl) (h0 : J [] W) :
    CallsIn Fence.wide n Tryd.prog 17 #[.func (.yield l) #[] #[], .pointer (some ⟨Bi, 0, none⟩), .pointer (some ⟨Bv, 0, none⟩)] W fun e W' => (∃ v, e = .returned v) ∧
      ((∃ ys, ys = (List.range m).map pl ∧ J ys W') ∨ (∃ pre, pre <+: (List.range m).map pl ∧ Jx pre W')) := by
  refine callsIn_of_wp Tryd.func17 rfl trivial ?_ rfl
  simp only [Tryd.ntmps17, List.size_toArray, List.length_cons, List.length_nil, Nat.reduceAdd, Nat.reduceSub, Array.replicate_succ, Array.replicate_zero, List.push_toArray, List.append_toArray, List.nil_append, List.cons_append]
  gi_wp2
  gi_loopw [6] (fun p wr => ∃ k : Nat, k ≤ m ∧ p = .int .i64 k ∧ Below n₀ W wr ∧ W.heap.size ≤ wr.heap.size ∧ wr.heap[Bv]? = some (.cells (vcells wd frm sb so sn sc tb tO tn tc f) 32 (0, 0)) ∧ J ((List.range k).map pl) wr)
    (fun p _ => m - (intOf p).toNat)
  case atStart =>
    exact ⟨0, by omega, rfl, Below.refl _ _, Nat.le_refl _, hBv, h0⟩
  case round =>
    obtain ⟨k, hk, rfl, hB, hsz, hv, hJs⟩ := hrel
    have c0 : wr.cell? ⟨Bv, 0, none⟩ = some (.int .i64 wd) := by simp [World.cell?, hv]
    have c1 : wr.cell? ⟨Bv, 1, none⟩ = some (.int .i64 frm) := by simp [World.cell?, hv]
    have c2 : wr.cell? ⟨Bv, 2, none⟩ = some (.slice (some ⟨sb, so, none⟩) sn sc) := by simp [World.cell?, hv]
    have c3 : wr.cell? ⟨Bv, 3, none⟩ = some (.slice (some ⟨tb, tO, none⟩) tn tc) := by simp [World.cell?, hv]
    have c4 : wr.cell? ⟨Bv, 4, none⟩ = some (.bool f) := by simp [World.cell?, hv]
    have hlv : Bv < wr.heap.size := (Array.getElem?_eq_some_iff.1 hv).1
    rcases Nat.lt_or_ge k m with hlt | hge
    · have hlt' : (k : Int) < (m : Int) := by omega
      have hw : wrap64 ((k : Int) + 1) = (k : Int) + 1 := by unfold wrap64; omega
      have HPk := HP wr hB k hlt
      gi_wp2_with (refine ⟨trivial, ?_⟩; gi_at_call 18; refine (callsIn_wide.2 HPk).mono ?_; clear HPk; rintro e w' ⟨rfl, hbp⟩; have hJ' := hJ _ _ _ none hJs (grown_of_below hbp) (by simp); obtain ⟨fn, tmps, assign, body, hy, hR⟩ := hY _ (pl k) w' hJ' (by simp; omega))
      refine hR.mono ?_
      rintro e W3 (⟨rfl, hJ3, hk3⟩ | ⟨rfl, hJx3⟩)
      · gi_wp2
        go_roundw
        case rel => exact ⟨k + 1, by omega, rfl, (hB.trans (hbp.mono (Nat.le_trans hn₀ hsz))).trans hk3.1, by have := hbp.size; have := hk3.1.size; omega, hk3.2.trans ((hbp.block _ hlv).trans hv), by rw [List.range_succ, List.map_append]; exact hJ3⟩
        case measure => simp [intOf]; omega
      · gi_wp2
        refine bodyPost_ret (results_none rfl _ _ _) rfl ?_
        exact ⟨⟨_, rfl⟩, .inr ⟨_, by
          rw [show List.map pl (List.range k) ++ [pl k] = List.map pl (List.range (k + 1)) from by rw [List.range_succ, List.map_append]; rfl]
          exact (range_prefix hlt).map pl, hJx3⟩⟩
    · obtain rfl : k = m := by omega
      gi_wp2
      go_end0
      exact ⟨⟨_, rfl⟩, .inl ⟨_, rfl, hJs⟩⟩

/-- 'v.places(items)': both arguments are boxed; the function value captures the boxes. -/
theorem places_in (n : Nat) (vs : Array Value) (wd frm : Int) (sb so sn sc tb tO tn tc : Nat) (f : Bool) (hvs : vs = vcells wd frm sb so sn sc tb tO tn tc f) (m : Int) (w : World) :
    CallsIn Fence.wide n Tryd.prog 9 #[.agg vs, .int .i64 m] w fun e w' => e = .returned (.func (.func 17) #[] #[.pointer (some ⟨w.heap.size + 1, 0, none⟩), .pointer (some ⟨w.heap.size, 0, none⟩)]) ∧
      w' = (w.alloc (.cells (vcells wd frm sb so sn sc tb tO tn tc f) 32)).alloc (.cells #[.int .i64 m] 3) := by
  subst hvs
  refine callsIn_of_wp Tryd.func9 rfl trivial ?_ rfl
  simp only [Tryd.ntmps9, List.size_toArray, List.length_cons, List.length_nil, Nat.reduceAdd, Nat.reduceSub, Array.replicate_succ, Array.replicate_zero, List.push_toArray, List.append_toArray, List.nil_append, List.cons_append]
  gi_wp2
  go_ret
  exact ⟨rfl, rfl⟩

theorem places_stops (n : Nat) (h1 : 1 ≤ n) (Bi Bv n₀ m : Nat) (hm : m ≤ 600) (pl : Nat → P64) (wd frm : Int) (sb so sn sc tb tO tn tc : Nat) (f : Bool) (w : World) (hn₀ : n₀ ≤ w.heap.size)
    (hBi : w.cell? ⟨Bi, 0, none⟩ = some (.int .i64 m)) (hBv : w.heap[Bv]? = some (.cells (vcells wd frm sb so sn sc tb tO tn tc f) 32 (0, 0)))
    (HP : PlaceDoes n₀ w (.agg (vcells wd frm sb so sn sc tb tO tn tc f)) m pl) :
    SeqStopsK Fence.wide n Tryd.prog 17 #[.pointer (some ⟨Bi, 0, none⟩), .pointer (some ⟨Bv, 0, none⟩)] (fun x : P64 => #[Value.int .i64 x.1]) (Kp n₀ Bv) (fun ys => ys = (List.range m).map pl) (fun pre => pre <+: (List.range m).map pl) m w := fun l J Jx W hW hJ _ hY h0 =>
  places1_in n h1 l Bi Bv n₀ m hm pl wd frm sb so sn sc tb tO tn tc f J Jx W (Nat.le_trans hn₀ hW.size) hY hJ ((hW.cell (p := ⟨Bi, 0, none⟩) (lt_cell hBi)).trans hBi) ((hW.block _ (Array.getElem?_eq_some_iff.1 hBv).1).trans hBv)
    (fun W' hb k hk => HP W' ((hW.mono hn₀).trans hb) k hk) h0
end Go.Proofs.YtniadajcdldfkaaDoor
