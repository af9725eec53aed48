import Derived.Test.YtniadajcdldfkaaDoorWalk
import Derived.Test.YtniadajcdldfkaaDoorNone
import Derived.Test.YtniadajcdldfkaaDoorCards
import Derived.Test.YtniadajcdldfkaaDoorTie
import Derived.ProofKit
import Derived.OpenShut
import Derived.LaidMore
import Derived.Deep.Slices
import Derived.Deep.Strs
import Derived.Deep.DeepHandedRow
import Derived.Deep.DeepWitnessRowRef
namespace Go.Proofs.YtniadajcdldfkaaDoor
open Go.ChangeShapes Go.WideShapes Go.ChangeAt Go.RowKit Go.Deep

theorem own : ownKnob Tryd.prog.godebug = none := by kernel_rfl
theorem laidOut : laidOutB Tryd.prog = true := by kernel_rfl
theorem cells25 : Tryd.prog.cellsOf 25 = 8 := by kernel_rfl
theorem cells3 : Tryd.prog.cellsOf 3 = 1 := by kernel_rfl
theorem cells4 : Tryd.prog.cellsOf 4 = 1 := by kernel_rfl
theorem cells9 : Tryd.prog.cellsOf 9 = 1 := by kernel_rfl
theorem cells23 : Tryd.prog.cellsOf 23 = 1 := by kernel_rfl

theorem in64_of {n : Int} (h : (Lit.int .i64 n).wf = true) : In64 n := by
  have hl : IntKind.i64.min = -9223372036854775808 := by rfl
  have hm : IntKind.i64.max = 9223372036854775807 := by rfl
  simp only [Lit.wf, Bool.and_eq_true, decide_eq_true_eq, hl, hm] at h
  exact h

section
variable {H : Type} {enc : TypeId × Value → H}

/-- A list of whole numbers inside a step. -/
theorem open_list {W : World} {n : Nat} {c : Value} {y : DataW H × List MemPlace} (h : DataW.trod enc Tryd.prog W 0 (fun _ => true) true n 23 [c] = some y) :
    ∃ (a : Option Addr) (len cap : Nat), c = .slice a len cap ∧ (len = 2 → ∃ lb lo l0 l1, a = some ⟨lb, lo, none⟩ ∧ In64 l0 ∧ In64 l1 ∧ W.cell? ⟨lb, lo, none⟩ = some (.int .i64 l0) ∧ W.cell? ⟨lb, lo + 1, none⟩ = some (.int .i64 l1)) := by
  rcases open_ints Tryd.underlying23 Tryd.underlying3 cells3 h with ⟨hc, _⟩ | ⟨a, len, cap, zs, hc, _, hl, _, hz, _, hcell, hwf⟩
  · simp only [List.cons.injEq, and_true] at hc
    exact ⟨none, 0, 0, hc, fun h => by cases h⟩
  · simp only [List.cons.injEq, and_true] at hc
    simp only [if_true] at hz
    refine ⟨some a, len, cap, hc, fun h2 => ?_⟩
    have h0 := hcell 0 (by omega)
    have h1 := hcell 1 (by omega)
    obtain ⟨b, o, spot⟩ := a
    have hspot : spot = none := by simpa [Addr.add] using World.cell?_spot h0
    subst hspot
    have e0 : zs.getD 0 0 ∈ zs := by
      match zs, hz with
      | z :: _, _ => simp
      | [], hz => simp at hz; omega
    have e1 : zs.getD 1 0 ∈ zs := by
      match zs, hz with
      | _ :: z :: _, _ => simp
      | [_], hz => simp at hz; omega
      | [], hz => simp at hz; omega
    exact ⟨b, o, zs.getD 0 0, zs.getD 1 0, rfl, in64_of (hwf _ e0), in64_of (hwf _ e1), by simpa [Addr.add] using h0, by simpa [Addr.add] using h1⟩

set_option maxRecDepth 100000 in
/-- A step, as its cells. -/
theorem open_op {W : World} {b o n : Nat} {cs : List Value} {x : DataW H × List MemPlace} (hc : W.cells? 0 ⟨b, o, none⟩ 8 = some cs) (h : DataW.trod enc Tryd.prog W 0 (fun _ => true) true n 25 cs = some x) :
    ∃ K A B F S T La Ln Lc Ma Mn Mc, OpCells W b o K A B F S T La Ln Lc Ma Mn Mc := by
  obtain ⟨_, hlen, hcell⟩ := World.cells?_some hc
  obtain ⟨xs, m, _, _, _, hxl, hf⟩ := DataW.trod_struct Tryd.underlying25 h
  match cs, hlen with
  | [v0, v1, v2, v3, v4, v5, v6, v7], _ =>
    match xs, hxl with
    | [y0, y1, y2, y3, y4, y5, y6, y7], _ =>
      have f0 : DataW.trod enc Tryd.prog W 0 (fun _ => true) true m 3 (([v0, v1, v2, v3, v4, v5, v6, v7].drop 0).take (Tryd.prog.cellsOf 3)) = some y0 := hf 0 _ rfl
      rw [cells3] at f0
      have f1 : DataW.trod enc Tryd.prog W 0 (fun _ => true) true m 3 (([v0, v1, v2, v3, v4, v5, v6, v7].drop 1).take (Tryd.prog.cellsOf 3)) = some y1 := hf 1 _ rfl
      rw [cells3] at f1
      have f2 : DataW.trod enc Tryd.prog W 0 (fun _ => true) true m 3 (([v0, v1, v2, v3, v4, v5, v6, v7].drop 2).take (Tryd.prog.cellsOf 3)) = some y2 := hf 2 _ rfl
      rw [cells3] at f2
      have f3 : DataW.trod enc Tryd.prog W 0 (fun _ => true) true m 4 (([v0, v1, v2, v3, v4, v5, v6, v7].drop 3).take (Tryd.prog.cellsOf 4)) = some y3 := hf 3 _ rfl
      rw [cells4] at f3
      have f4 : DataW.trod enc Tryd.prog W 0 (fun _ => true) true m 9 (([v0, v1, v2, v3, v4, v5, v6, v7].drop 4).take (Tryd.prog.cellsOf 9)) = some y4 := hf 4 _ rfl
      rw [cells9] at f4
      have f5 : DataW.trod enc Tryd.prog W 0 (fun _ => true) true m 9 (([v0, v1, v2, v3, v4, v5, v6, v7].drop 5).take (Tryd.prog.cellsOf 9)) = some y5 := hf 5 _ rfl
      rw [cells9] at f5
      have f6 : DataW.trod enc Tryd.prog W 0 (fun _ => true) true m 23 (([v0, v1, v2, v3, v4, v5, v6, v7].drop 6).take (Tryd.prog.cellsOf 23)) = some y6 := hf 6 _ rfl
      rw [cells23] at f6
      have f7 : DataW.trod enc Tryd.prog W 0 (fun _ => true) true m 23 (([v0, v1, v2, v3, v4, v5, v6, v7].drop 7).take (Tryd.prog.cellsOf 23)) = some y7 := hf 7 _ rfl
      rw [cells23] at f7
      obtain ⟨K, e0, _, _⟩ := DataW.trod_int Tryd.underlying3 f0
      obtain ⟨A, e1, _, w1⟩ := DataW.trod_int Tryd.underlying3 f1
      obtain ⟨B, e2, _, w2⟩ := DataW.trod_int Tryd.underlying3 f2
      obtain ⟨F, e3, _⟩ := DataW.trod_bool Tryd.underlying4 f3
      obtain ⟨S, e4, _, s4⟩ := DataW.trod_string Tryd.underlying9 f4
      obtain ⟨T, e5, _, _⟩ := DataW.trod_string Tryd.underlying9 f5
      obtain ⟨La, Ln, Lc, e6, t6⟩ := open_list f6
      obtain ⟨Ma, Mn, Mc, e7, t7⟩ := open_list f7
      simp only [List.drop, List.take, List.cons.injEq, and_true] at e0 e1 e2 e3 e4 e5
      subst e0 e1 e2 e3 e4 e5 e6 e7
      refine ⟨K, A, B, F, S, T, La, Ln, Lc, Ma, Mn, Mc, ⟨by simpa [Addr.add] using hcell 0 (by omega), by simpa [Addr.add] using hcell 1 (by omega), by simpa [Addr.add] using hcell 2 (by omega), by simpa [Addr.add] using hcell 3 (by omega),
        by simpa [Addr.add] using hcell 4 (by omega), by simpa [Addr.add] using hcell 5 (by omega), by simpa [Addr.add] using hcell 6 (by omega), by simpa [Addr.add] using hcell 7 (by omega), in64_of w1, in64_of w2, s4, fun hl hm => ?_⟩⟩
      obtain ⟨lb, lo, l0, l1, rfl, i0, i1, k0, k1⟩ := t6 hl
      obtain ⟨mb, mo, m0, m1, rfl, j0, j1, q0, q1⟩ := t7 hm
      exact ⟨lb, lo, mb, mo, l0, l1, m0, m1, rfl, rfl, ⟨i0, i1, j0, j1⟩, k0, k1, q0, q1⟩

set_option maxRecDepth 100000 in
set_option maxHeartbeats 400000 in
/-- The script, read. -/
theorem walk_read (TD : TakeDoes) {W : World} {base : Nat} {v : Value} {d : DataW H} {p : List MemPlace} (hL : Facts W) (hval : Value.okWide Tryd.prog W .any base 22 v) (h : DataW.Trod enc Tryd.prog W 0 (fun _ => true) true 22 v d p) :
    Calls Tryd.prog 3 #[v] W fun e w' => e = .returned (.bool true) ∧ Below W.heap.size W w' := by
  obtain ⟨a0, len, cap, rfl⟩ := okWide_slice Tryd.underlying22 hval
  obtain ⟨fuel, hf⟩ := h
  rcases open_slice Tryd.underlying22 hf with ⟨hcs, _⟩ | ⟨a, len', cap', m, n, D, Pl, hcs, _, hl, _, hmm, _, hall⟩
  · simp [Value.cells] at hcs
    obtain ⟨rfl, rfl, rfl⟩ := hcs
    exact rows_none TD W hL none 0
  · simp [Value.cells] at hcs
    obtain ⟨rfl, rfl, rfl⟩ := hcs
    simp only [if_true] at hmm
    subst hmm
    by_cases h0 : len = 0
    · subst h0
      exact rows_none TD W hL (some a) _
    · obtain ⟨b, o, spot⟩ := a
      have hspot : spot = none := by
        obtain ⟨cs', h1, _⟩ := hall 0 (by omega)
        rw [cells25] at h1
        obtain ⟨_, hlen, hcell⟩ := World.cells?_some h1
        have h2 := hcell 0 (by omega)
        rw [List.getElem?_eq_getElem (by omega)] at h2
        simpa [Addr.add] using World.cell?_spot h2
      subst hspot
      refine rows_walk TD W hL b o _ _ (hid fun i hi => ?_)
      obtain ⟨cs', h1, h2⟩ := hall i (by omega)
      rw [cells25] at h1
      have e : (Addr.mk b o none).add (i * 8) = ⟨b, o + i * 8, none⟩ := by
        unfold Addr.add
        by_cases hz : i * 8 = 0
        · rw [if_pos hz, hz]; rfl
        · rw [if_neg hz]
      rw [e] at h1
      exact open_op h1 h2
end

set_option maxRecDepth 100000 in
theorem contract (TD : TakeDoes) (H : Type) (enc : TypeId × Value → H) (W : World) (base : Nat) (args : Array Value) (ds gs : List (DataW H)) (before : List MemPlace)
    (hval : ∀ (j : Nat) t v, Tryd.f3.params[j]? = some t → args[j]? = some v → Value.okWide Tryd.prog W .any base t v)
    (hW : DataW.Whole enc Tryd.prog Tryd.f3.params.toList Rows.rowsSpec.vars false W args.toList ds gs before) (hL : Facts W) :
    Calls Tryd.prog 3 args W fun e W' => ∃ v, e = .returned v ∧ Rows.rowsSpec.post enc Tryd.prog Tryd.f3 false true false false W args v W' := by
  have hW' := hW
  obtain ⟨p, q, hA0, hV, rfl, hfz, hnd⟩ := hW
  have hA : DataW.TrodAll enc Tryd.prog W 0 (fun _ => true) true Tryd.f3.params.toList args.toList ds p := hA0
  rw [Tryd.params3] at hA hval
  obtain ⟨v0, d0, rfl, rfl, h0⟩ := trodAll_one hA
  obtain ⟨rfl, rfl⟩ := trodVars_none hV
  clear hA0
  simp only [List.append_nil] at hW'
  have hlt : ∀ x ∈ p, x.block < W.heap.size := fun x hx => hW'.lt x (by simp [hx])
  refine (walk_read TD hL (hval 0 22 v0 rfl rfl) h0).mono fun e W' ⟨he, hb⟩ => ?_
  subst he
  refine ⟨_, rfl, _, _, _, [], p, [], hW', ?_, ?_, ?_, hb.frame _, fun h => by cases h⟩
  · exact trodAll_mk1 (shut_bool Tryd.underlying4 _)
  · exact trodAll_mk1 (Below.trod laidOut (by kernel_rfl) (of_decide_eq_true (by kernel_rfl)) h0 hb hlt)
  · rfl

theorem door_met (os : Os) : laidMetH Tryd.prog Rows.rowsRow.laid ((World.doorLaid Tryd.prog 400 os).forCall (fun _ _ => 0) ⟨#[], #[.slice none 0 0], []⟩).memory :=
  laidMetH_of_parts3 (fuel := 8) (laidMet_of_run' 8 (by kernel_rfl) (by kernel_rfl)) (by kernel_rfl) (by kernel_rfl)
theorem reads (os : Os) {H : Type} (enc : TypeId × Value → H) : ∃ places, DataW.whole enc Tryd.prog ((World.doorLaid Tryd.prog 400 os).forCall (fun _ _ => 0) ⟨#[], #[.slice none 0 0], []⟩).memory Tryd.f3.params.toList Rows.rowsSpec.vars false #[Value.slice none 0 0].toList 8 = some ([.nil], [], places) :=
  ⟨[], by kernel_rfl⟩

set_option maxRecDepth 100000 in
theorem lifted (TD : TakeDoes) (os : Os) (started : os.Started) (H : Type) (enc : TypeId × Value → H) (F : Stop.Interp) :
    ReturnsInHanded {} Tryd.checked os 3 .any ((OpenSpec.ofChange Rows.rowsSpec).preRow enc Tryd.prog Tryd.f3 Rows.rowsRow.domain false Rows.rowsRow.laid) (((OpenSpec.ofChange Rows.rowsSpec).at F).post enc Tryd.prog Tryd.f3 false true false false) := by
  obtain ⟨places, hx⟩ := reads os enc
  refine returnsInHanded_of_row (C := Tryd.checked) (s := OpenSpec.ofChange Rows.rowsSpec) own started (by kernel_rfl) Tryd.func3
    (witness_row_atRef (enc := enc) (C := Tryd.checked) false (World.doorLaid Tryd.prog 400 os) #[.slice none 0 0] rfl (by kernel_rfl) (by kernel_rfl) (by kernel_rfl)
      (OpenSpec.preRow_of_cond 8 hx (by kernel_rfl) (fun k hk => by cases hk) (by kernel_rfl) (door_met os))) ?_
  intro W base args ds gs before hval hW _ _ _ hL _ _
  exact contract TD H enc W base args ds gs before hval hW hL

theorem said (TD : TakeDoes) : Rows.RowsSaid :=
  OpenClaim.holds_of_cond 3 Tryd.f3 rfl rfl rfl rfl rfl rfl rfl ⟨rfl, rfl, rfl, rfl, rfl⟩ rfl rfl rfl rfl rfl (by kernel_rfl) Tryd.func3 (by kernel_rfl)
    (of_decide_eq_true (by kernel_rfl)) (by unfold Func.isWrapper; first | (rw [if_pos (by decide +kernel)]; kernel_rfl) | (rw [if_neg (by decide +kernel)]; exact ⟨rfl, rfl⟩))
    (fun os started H enc _ F => by rw [OpenClaim.pre_eq_preRow]; exact lifted TD os started H enc F)

theorem plainly (f : FuncId) (fn : Func) (hf : Tryd.pinned.checked.prog.funcNamed "pouch/pouchlaw.Rows" = some f) (hfn : Tryd.pinned.checked.prog.funcs[f]? = some fn) :
    true = Tryd.pinned.checked.prog.looks [] ∧ ∀ (j : Nat) t, fn.params[j]? = some t → Tryd.pinned.checked.prog.wantsStandIn t = false := by
  obtain rfl : f = 3 := Option.some.inj ((show Tryd.prog.funcNamed "pouch/pouchlaw.Rows" = some 3 by kernel_rfl).symm.trans hf) |>.symm
  obtain rfl : fn = Tryd.f3 := (Option.some.inj (Tryd.func3.symm.trans hfn)).symm
  refine ⟨by kernel_rfl, fun j t ht => ?_⟩
  rw [Tryd.params3] at ht
  obtain rfl : t = 22 := by simpa using Array.mem_of_getElem? ht
  exact (show Tryd.prog.wantsStandIn 22 = false by kernel_rfl)

theorem card_of (TD : TakeDoes) : Rows.RowsCardSaid :=
  Claim7.holds_tied_plain_at .later [] _ _ _ _ (said TD) (fun _ h => by cases h) (by kernel_rfl) (fun _ h => by cases h) rows_row_tie rfl ⟨rfl, rfl⟩ (by kernel_rfl) rfl plainly (by kernel_rfl)
end Go.Proofs.YtniadajcdldfkaaDoor
