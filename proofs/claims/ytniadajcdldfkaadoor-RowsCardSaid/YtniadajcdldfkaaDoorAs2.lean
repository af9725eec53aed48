import Derived.Test.YtniadajcdldfkaaDoorAs
namespace Go.Proofs.YtniadajcdldfkaaDoor
open Go.RowKit Go.Extern.Stop Go.Stop Go.Extern

/-! ### the target pointer to pouch/archive.PackedError: 54, a pointer to it: 61 -/
theorem Tryd.valueOfT2 (t : Addr) (w : World) : (Tryd.eValueOf #[.iface 61 (.pointer (some t))]).run Tryd.prog w
    = .ok (.agg #[.pointer (some ⟨13, 61, none⟩), .pointer (some ⟨w.heap.size, 0, none⟩), .int .u64 150]) (w.alloc (.cells #[.pointer (some t)] 61)) := by kernel_rfl
theorem Tryd.typeT2 (a : Addr) (w : World) : (Tryd.eType #[.agg #[.pointer (some ⟨13, 61, none⟩), .pointer (some a), .int .u64 150]]).run Tryd.prog w
    = .ok (.iface 91 (.agg #[.pointer (some ⟨13, 61, none⟩)])) w := by kernel_rfl
theorem Tryd.kindT2 (w : World) : (Tryd.eKind #[.pointer (some ⟨13, 61, none⟩)]).run Tryd.prog w = .ok (.int .u8 22) w := by kernel_rfl
theorem Tryd.kindU2 (w : World) : (Tryd.eKind #[.pointer (some ⟨13, 54, none⟩)]).run Tryd.prog w = .ok (.int .u8 22) w := by kernel_rfl
theorem Tryd.partsT2 (a : Addr) (w : World) : (ReflectliteValue.parts (.agg #[.pointer (some ⟨13, 61, none⟩), .pointer (some a), .int .u64 150])).run Tryd.prog w = .ok (some (61, a, 150)) w := by kernel_rfl
theorem Tryd.isNilT2 (a p : Addr) (W : World) (ha : W.cell? a = some (.pointer (some p))) :
    (Tryd.eIsNil #[.agg #[.pointer (some ⟨13, 61, none⟩), .pointer (some a), .int .u64 150]]).run Tryd.prog W = .ok (.bool false) W := by
  delta Tryd.eIsNil ReflectliteValue.method
  delta ReflectliteValue.method.match_2
  dsimp only
  rw [dif_pos (by rfl)]
  simp [Array.getLit, Sem.run_bind, Tryd.partsT2, ReflectliteValue.isNil, loadVar, isAgg, underlying, Tryd.underlying61, ha, Result.andThen]
theorem Tryd.elemT2 (w : World) : (Tryd.eElem #[.agg #[.pointer (some ⟨13, 61, none⟩)]]).run Tryd.prog w = .ok (.iface 91 (.agg #[.pointer (some ⟨13, 54, none⟩)])) w := by kernel_rfl
theorem Tryd.implementsT2 (w : World) : (Tryd.eImplements #[.agg #[.pointer (some ⟨13, 54, none⟩)], .iface 91 (.agg #[.pointer (some ⟨13, 34, none⟩)])]).run Tryd.prog w = .ok (.bool true) w := by kernel_rfl
theorem Tryd.assignET2 (w : World) : (Tryd.eAssignable #[.agg #[.pointer (some ⟨13, 108, none⟩)], .iface 91 (.agg #[.pointer (some ⟨13, 54, none⟩)])]).run Tryd.prog w = .ok (.bool false) w := by kernel_rfl

theorem Tryd.assignW0T2 (w : World) : (Tryd.eAssignable #[.agg #[.pointer (some ⟨13, 40, none⟩)], .iface 91 (.agg #[.pointer (some ⟨13, 54, none⟩)])]).run Tryd.prog w = .ok (.bool false) w := by kernel_rfl

set_option maxHeartbeats 4000000 in
/-- errors.As: an error of another type that wraps a sentinel. -/
theorem as_miss0_2 (pb po : Nat) (a t : Addr) (w : World) (hg : w.cell? ⟨10, 0, none⟩ = some (.iface 91 (.agg #[.pointer (some ⟨13, 34, none⟩)]))) (h1 : w.cell? ⟨pb, po, none⟩ = some (.iface 108 (.pointer (some a)))) :
    Calls Tryd.prog 12 #[.iface 40 (.pointer (some ⟨pb, po, none⟩)), .iface 61 (.pointer (some t))] w fun ev w' => ev = .returned (.bool false) ∧ Below w.heap.size w w' := by
  have h6 := @run_callFunc_extern Tryd.prog 20 _ Tryd.eValueOf Tryd.func20 (by kernel_rfl) (by kernel_rfl) (by kernel_rfl) (by kernel_rfl)
  have h7 := @run_callFunc_extern Tryd.prog 21 _ Tryd.eType Tryd.func21 (by kernel_rfl) (by kernel_rfl) (by kernel_rfl) (by kernel_rfl)
  have h8 := @run_callFunc_extern Tryd.prog 22 _ Tryd.eIsNil Tryd.func22 (by kernel_rfl) (by kernel_rfl) (by kernel_rfl) (by kernel_rfl)
  have h27 := @run_callFunc_extern Tryd.prog 48 _ Tryd.eKind Tryd.func48 (by kernel_rfl) (by kernel_rfl) (by kernel_rfl) (by kernel_rfl)
  have h37 := @run_callFunc_extern Tryd.prog 72 _ Tryd.eElem Tryd.func72 (by kernel_rfl) (by kernel_rfl) (by kernel_rfl) (by kernel_rfl)
  have h38 := @run_callFunc_extern Tryd.prog 73 _ Tryd.eImplements Tryd.func73 (by kernel_rfl) (by kernel_rfl) (by kernel_rfl) (by kernel_rfl)
  have h10 := @run_callFunc_extern Tryd.prog 24 _ Tryd.eTypeOf Tryd.func24 (by kernel_rfl) (by kernel_rfl) (by kernel_rfl) (by kernel_rfl)
  have h35 := @run_callFunc_extern Tryd.prog 70 _ Tryd.eAssignable Tryd.func70 (by kernel_rfl) (by kernel_rfl) (by kernel_rfl) (by kernel_rfl)
  have h11 := @run_callFunc_extern Tryd.prog 28 _ Tryd.eVElem Tryd.func28 (by kernel_rfl) (by kernel_rfl) (by kernel_rfl) (by kernel_rfl)
  have h12 := @run_callFunc_extern Tryd.prog 29 _ Tryd.eSet Tryd.func29 (by kernel_rfl) (by kernel_rfl) (by kernel_rfl) (by kernel_rfl)
  have mA := Tryd.asMethodAssignableTo
  have f6 := Tryd.valueOfT2
  have f7 := Tryd.typeT2
  have mK := Tryd.asMethodKind
  have mE := Tryd.asMethodElem
  have mI := Tryd.asMethodImplements
  have k27 := Tryd.kindT2
  have k25 := Tryd.kindU2
  have e27 := Tryd.elemT2
  have i25 := Tryd.implementsT2
  have tO := Tryd.typeOfW0
  have tE := Tryd.isTypeOf
  have a25 := Tryd.assignW0T2
  have aE := Tryd.assignET2
  have nAW := Tryd.noAsW0
  have nAE := Tryd.noAsE
  have uW := Tryd.hasUnwrapW0
  have mU := Tryd.methodUnwrapW0
  have uE := Tryd.noUnwrapE
  have vE := Tryd.noUnwrapsE
  have n8 := Tryd.isNilT2 ⟨w.heap.size, 0, none⟩ t ((w.alloc (.cells #[.pointer (some t)] 61)).alloc (.cells #[.pointer (some ⟨13, 61, none⟩), .pointer (some ⟨w.heap.size, 0, none⟩), .int .u64 150] 75)) (by simp)
  have hlt : 10 < w.heap.size := by
    rcases Nat.lt_or_ge 10 w.heap.size with h | h
    · exact h
    · simp [World.cell?, Array.getElem?_eq_none h] at hg
  have hg2 : ((w.alloc (.cells #[.pointer (some t)] 61)).alloc (.cells #[.pointer (some ⟨13, 61, none⟩), .pointer (some ⟨w.heap.size, 0, none⟩), .int .u64 150] 75)).cell? ⟨10, 0, none⟩ = some (.iface 91 (.agg #[.pointer (some ⟨13, 34, none⟩)])) := by
    rw [World.cell?_alloc_lt _ _ ⟨10, 0, none⟩ (by simp; omega), World.cell?_alloc_lt _ _ ⟨10, 0, none⟩ hlt]; exact hg
  have hpl : pb < w.heap.size := by
    rcases Nat.lt_or_ge pb w.heap.size with h | h
    · exact h
    · simp [World.cell?, Array.getElem?_eq_none h] at h1
  have h3 : (((w.alloc (.cells #[.pointer (some t)] 61)).alloc (.cells #[.pointer (some ⟨13, 61, none⟩), .pointer (some ⟨w.heap.size, 0, none⟩), .int .u64 150] 75)).alloc (.cells #[.pointer (some ⟨13, 61, none⟩), .pointer (some ⟨w.heap.size, 0, none⟩), .int .u64 150] 75)).cell? ⟨pb, po, none⟩ = some (.iface 108 (.pointer (some a))) := by
    rw [World.cell?_alloc_lt _ _ ⟨pb, po, none⟩ (by simp; omega), World.cell?_alloc_lt _ _ ⟨pb, po, none⟩ (by simp; omega), World.cell?_alloc_lt _ _ ⟨pb, po, none⟩ hpl]; exact h1
  have hB : Below w.heap.size w (((w.alloc (.cells #[.pointer (some t)] 61)).alloc (.cells #[.pointer (some ⟨13, 61, none⟩), .pointer (some ⟨w.heap.size, 0, none⟩), .int .u64 150] 75)).alloc (.cells #[.pointer (some ⟨13, 61, none⟩), .pointer (some ⟨w.heap.size, 0, none⟩), .int .u64 150] 75)) := (((Below.refl _ w).alloc (Nat.le_refl _) _).alloc (by simp) _).alloc (by simp; omega) _
  go_enter Tryd.func12, Tryd.ntmps12
  go_wp2
  refine wp_loop_rounds 2 ?_
  rw [rounds_succ]
  go_wp2
  rw [rounds_succ]
  go_wp2
  go_ret
  exact ⟨rfl, hB⟩

end Go.Proofs.YtniadajcdldfkaaDoor
