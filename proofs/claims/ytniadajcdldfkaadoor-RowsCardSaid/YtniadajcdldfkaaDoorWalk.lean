import Derived.Test.YtniadajcdldfkaaDoorBase
import Derived.Test.YtniadajcdldfkaaDoorP5
import Derived.Test.YtniadajcdldfkaaDoorP12
import Derived.Test.YtniadajcdldfkaaDoorP159
import Derived.Test.YtniadajcdldfkaaDoorP60
namespace Go.Proofs.YtniadajcdldfkaaDoor
open Go.RowKit PouchTake

set_option maxRecDepth 1000000 in
set_option maxHeartbeats 2000000 in
theorem rows_walk (TD : TakeDoes) (W : World) (h0 : Facts W) (b off n c : Nat)
    (hEl : Hid (∀ i, i < n → ∃ K A B F S T La Ln Lc Ma Mn Mc, OpCells W b (off + i * 8) K A B F S T La Ln Lc Ma Mn Mc)) :
    Calls Tryd.prog 3 #[.slice (some ⟨b, off, none⟩) n c] W fun e w' => e = .returned (.bool true) ∧ Below W.heap.size W w' := by
  go_enter Tryd.func3, Tryd.ntmps3
  go_wp2
  go_loopw [3] (fun i wr => ∃ k : Nat, k ≤ n ∧ i = .int .i64 k ∧ Below W.heap.size W wr) (fun i _ => n - (intOf i).toNat)
  case atStart => exact ⟨0, Nat.zero_le _, rfl, Below.refl _ _⟩
  case round =>
    obtain ⟨k, hk, rfl, hb⟩ := hrel
    by_cases hlt : k < n ∧ (k : Int) < 1152921504606846976
    · obtain ⟨hlt, hk60⟩ := hlt
      obtain ⟨K, A, B, F, S, T, La, Ln, Lc, Ma, Mn, Mc, hop0⟩ := hEl.out k hlt
      have HP := hid (hop0.keep hb)
      clear hop0 hEl
      obtain ⟨c0, c1, c2, c3, c4, c5, c6, c7, _, _, _, _⟩ := HP.out
      have HOB := hid hb
      clear hb
      go_upto_region 5 with fail
      clear c0 c1 c2 c3 c4 c5 c6 c7
      have HKN := hid (And.intro hk hlt)
      have H60 := hid hk60
      clear hk hlt hk60
      have HO := OC.new wr K A B F S T La Ln Lc Ma Mn Mc
      have HW := HOB.out.alloc HOB.out.size (OB K A B F S T La Ln Lc Ma Mn Mc)
      refine piece5 HO HP.out.sS _ _ (hid ?_)
      intro _ _ _ _ _ _ _ _ _ _ _ _ _ _ _ _ _ _ _ _ _ _ _ _ _ _ _ _
      have HO := hid HO
      have HW := hid HW
      go_upto_if 60 with fail
      refine piece60 TD h0 HW.out HO.out _ _ (hid ?_)
      intro _ _ _ _ _ _ _ _ _ _ _ _ _ _ _ _ _ _ _ _ _ _ _ _ _ _ _ _ _ _ _ _ _ _ _ _ _ _ _ _ _ _ _ _ _ _ _ _ _ _ _ _ _ _ _ _ _ _ _ _ _ _ _ _ _ _ _ _ _ _ _ _ _ _ _ _ _ _ _ _ _ _ _ _ _ _ _ _ _ _ _ _ _ _ _ _ _ w1 hb1
      have HO1 := hid (HO.out.keep hb1)
      have HW1 := hid (HW.out.trans (hb1.mono HW.out.size))
      have HP1 := hid ((HP.out.keep ((Below.refl _ _).alloc (Nat.le_refl _) _)).keep hb1)
      clear hb1 HO HW HP
      go_upto_region 12 with fail
      refine piece12 HO1.out _ _ (hid ?_)
      intro _ _ _ _ _ _ _ _ _
      go_upto_if 159 with fail
      refine piece159 TD h0 HW1.out HO1.out HP1.out.sS HP1.out.rA HP1.out.rB HP1.out.two _ (hid ?_)
      intro _ _ _ _ _ _ _ _ _ _ _ _ _ _ _ _ _ _ _ _ _ _ _ _ _ _ _ _ _ _ _ _ _ _ _ _ _ _ _ _ _ _ _ _ _ _ _ _ _ _ _ _ _ _ _ _ _ _ _ _ _ _ _ _ _ _ _ _ _ _ _ _ _ _ _ _ w2 hb2
      have HW2 := hid (HW1.out.trans (hb2.mono HW1.out.size))
      clear hb2 HP1 HO1 HW1
      go_wp2
      have hlt := HKN.out.2
      have e : wrap64 ((k : Int) + 1) = (k : Int) + 1 := wrap_step H60.out
      rw [e]
      refine ⟨⟨k + 1, by omega, by go_num, HW2.out⟩, ?_⟩
      simp [intOf]; omega
    · clear hEl
      have HOB := hid hb
      clear hb
      have hkk : ¬ (k : Int) < n ∨ ¬ (k : Int) < 1152921504606846976 := by omega
      have hor := hid hkk
      clear hlt hkk
      by_cases hkn : (k : Int) < n
      · have hk6 : ¬ (k : Int) < 1152921504606846976 := hor.out.resolve_left (fun h => h hkn)
        go_wp2_with (first | (go_at_call 4; refine (call_sample TD h0 (HOB.out.trans ((grow2 wr _ _).mono HOB.out.size)) (by simp [go_sem]) (by simp [go_sem]) (by simp [go_sem]) (by simp [go_sem])).mono ?_; rintro e w1 ⟨rfl, hb1⟩; have H1 := hid ((grow2 wr _ _).trans (hb1.mono (grow2 wr _ _).size)); clear hb1) | (go_at_call 5; refine (num_any _ _).mono ?_; rintro e w' ⟨rfl, rfl⟩))
        go_ret
        exact ⟨rfl, HOB.out.trans (H1.out.mono HOB.out.size)⟩
      · go_wp2_with (first | (go_at_call 4; refine (call_sample TD h0 (HOB.out.trans ((grow2 wr _ _).mono HOB.out.size)) (by simp [go_sem]) (by simp [go_sem]) (by simp [go_sem]) (by simp [go_sem])).mono ?_; rintro e w1 ⟨rfl, hb1⟩; have H1 := hid ((grow2 wr _ _).trans (hb1.mono (grow2 wr _ _).size)); clear hb1) | (go_at_call 5; refine (num_any _ _).mono ?_; rintro e w' ⟨rfl, rfl⟩))
        go_ret
        exact ⟨rfl, HOB.out.trans (H1.out.mono HOB.out.size)⟩

end Go.Proofs.YtniadajcdldfkaaDoor
