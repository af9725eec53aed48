import Derived.Test.YtniadajcdldfkaaDoorBase
namespace Go.Proofs.YtniadajcdldfkaaDoor
open Go.RowKit PouchTake

set_option maxRecDepth 1000000 in
set_option maxHeartbeats 1000000 in
theorem rows_none (TD : TakeDoes) (W : World) (h0 : Facts W) (a : Option Addr) (c : Nat) :
    Calls Tryd.prog 3 #[.slice a 0 c] W fun e w' => e = .returned (.bool true) ∧ Below W.heap.size W w' := by
  go_enter Tryd.func3, Tryd.ntmps3
  go_wp2
  go_loopw [3] (fun i wr => i = .int .i64 0 ∧ Below W.heap.size W wr) (fun _ _ => 0)
  case atStart => exact ⟨rfl, Below.refl _ _⟩
  case round =>
    obtain ⟨rfl, hb⟩ := hrel
    have HOB := hid hb
    clear hb
    go_wp2_with (first | (go_at_call 4; refine (call_sample TD h0 (HOB.out.trans ((grow2 wr _ _).mono HOB.out.size)) (by simp [go_sem]) (by simp [go_sem]) (by simp [go_sem]) (by simp [go_sem])).mono ?_; rintro e w1 ⟨rfl, hb1⟩; have H1 := hid ((grow2 wr _ _).trans (hb1.mono (grow2 wr _ _).size)); clear hb1) | (go_at_call 5; refine (num_any _ _).mono ?_; rintro e w' ⟨rfl, rfl⟩))
    go_ret
    exact ⟨rfl, HOB.out.trans (H1.out.mono HOB.out.size)⟩

end Go.Proofs.YtniadajcdldfkaaDoor
