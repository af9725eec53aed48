import Derived.Test.YtniadajcdldfkaaDoorAs
namespace Go.Proofs.YtniadajcdldfkaaDoor
open Go.RowKit Go.Extern.Stop Go.Stop Go.Extern

/-! ### the target pointer to pouch/view.Error: 40, a pointer to it: 64 -/
theorem Tryd.valueOfT4 (t : Addr) (w : World) : (Tryd.eValueOf #[.iface 64 (.pointer (some t))]).run Tryd.prog w
    = .ok (.agg #[.pointer (some ⟨13, 64, none⟩), .pointer (some ⟨w.heap.size, 0, none⟩), .int .u64 150]) (w.alloc (.cells #[.pointer (some t)] 64)) := by kernel_rfl
theorem Tryd.typeT4 (a : Addr) (w : World) : (Tryd.eType #[.agg #[.pointer (some ⟨13, 64, none⟩), .pointer (some a), .int .u64 150]]).run Tryd.prog w
    = .ok (.iface 91 (.agg #[.pointer (some ⟨13, 64, none⟩)])) w := by kernel_rfl
theorem Tryd.kindT4 (w : World) : (Tryd.eKind #[.pointer (some ⟨13, 64, none⟩)]).run Tryd.prog w = .ok (.int .u8 22) w := by kernel_rfl
theorem Tryd.kindU4 (w : World) : (Tryd.eKind #[.pointer (some ⟨13, 40, none⟩)]).run Tryd.prog w = .ok (.int .u8 22) w := by kernel_rfl
theorem Tryd.partsT4 (a : Addr) (w : World) : (ReflectliteValue.parts (.agg #[.pointer (some ⟨13, 64, none⟩), .pointer (some a), .int .u64 150])).run Tryd.prog w = .ok (some (64, a, 150)) w := by kernel_rfl
theorem Tryd.isNilT4 (a p : Addr) (W : World) (ha : W.cell? a = some (.pointer (some p))) :
    (Tryd.eIsNil #[.agg #[.pointer (some ⟨13, 64, none⟩), .pointer (some a), .int .u64 150]]).run Tryd.prog W = .ok (.bool false) W := by
  delta Tryd.eIsNil ReflectliteValue.method
  delta ReflectliteValue.method.match_2
  dsimp only
  rw [dif_pos (by rfl)]
  simp [Array.getLit, Sem.run_bind, Tryd.partsT4, ReflectliteValue.isNil, loadVar, isAgg, underlying, Tryd.underlying64, ha, Result.andThen]
theorem Tryd.elemT4 (w : World) : (Tryd.eElem #[.agg #[.pointer (some ⟨13, 64, none⟩)]]).run Tryd.prog w = .ok (.iface 91 (.agg #[.pointer (some ⟨13, 40, none⟩)])) w := by kernel_rfl
theorem Tryd.implementsT4 (w : World) : (Tryd.eImplements #[.agg #[.pointer (some ⟨13, 40, none⟩)], .iface 91 (.agg #[.pointer (some ⟨13, 34, none⟩)])]).run Tryd.prog w = .ok (.bool true) w := by kernel_rfl
theorem Tryd.assignET4 (w : World) : (Tryd.eAssignable #[.agg #[.pointer (some ⟨13, 108, none⟩)], .iface 91 (.agg #[.pointer (some ⟨13, 40, none⟩)])]).run Tryd.prog w = .ok (.bool false) w := by kernel_rfl

theorem Tryd.assignW0T4 (w : World) : (Tryd.eAssignable #[.agg #[.pointer (some ⟨13, 40, none⟩)], .iface 91 (.agg #[.pointer (some ⟨13, 40, none⟩)])]).run Tryd.prog w = .ok (.bool true) w := by kernel_rfl
theorem Tryd.valueOfW0 (e : Addr) (w : World) : (Tryd.eValueOf #[.iface 40 (.pointer (some e))]).run Tryd.prog w
    = .ok (.agg #[.pointer (some ⟨13, 40, none⟩), .pointer (some ⟨w.heap.size, 0, none⟩), .int .u64 150]) (w.alloc (.cells #[.pointer (some e)] 40)) := by kernel_rfl
theorem Tryd.elemOfT4 (w : World) : (Rtype.elem? 64).run Tryd.prog w = .ok (some 40) w := by kernel_rfl
theorem Tryd.mkT4 (p : Addr) (w : World) : (ReflectliteValue.mk 40 p ReflectliteValue.flagAddr).run Tryd.prog w = .ok (.agg #[.pointer (some ⟨13, 40, none⟩), .pointer (some p), .int .u64 406]) w := by kernel_rfl
theorem Tryd.elemVT4 (a p : Addr) (W : World) (ha : W.cell? a = some (.pointer (some p))) :
    (Tryd.eVElem #[.agg #[.pointer (some ⟨13, 64, none⟩), .pointer (some a), .int .u64 150]]).run Tryd.prog W
      = .ok (.agg #[.pointer (some ⟨13, 40, none⟩), .pointer (some p), .int .u64 406]) W := by
  delta Tryd.eVElem ReflectliteValue.method
  delta ReflectliteValue.method.match_2
  dsimp only
  rw [dif_pos (by rfl)]
  simp [Array.getLit, Sem.run_bind, Tryd.partsT4, ReflectliteValue.elem, loadVar, isAgg, underlying, Tryd.underlying64, ha, Result.andThen, Tryd.elemOfT4, Tryd.mkT4]
theorem Tryd.partsA4 (a : Addr) (w : World) : (ReflectliteValue.parts (.agg #[.pointer (some ⟨13, 40, none⟩), .pointer (some a), .int .u64 406])).run Tryd.prog w = .ok (some (40, a, 406)) w := by kernel_rfl
theorem Tryd.partsB4 (a : Addr) (w : World) : (ReflectliteValue.parts (.agg #[.pointer (some ⟨13, 40, none⟩), .pointer (some a), .int .u64 150])).run Tryd.prog w = .ok (some (40, a, 150)) w := by kernel_rfl
theorem Tryd.directT4 (w : World) : (Rtype.directlyAssignable 40 40).run Tryd.prog w = .ok true w := by kernel_rfl
theorem Tryd.setT4 (ta b e : Addr) (old : Value) (W : World) (hb : W.cell? b = some (.pointer (some e))) (ht : W.cell? ta = some old) (hf : W.frozen? ta = false) :
    (Tryd.eSet #[.agg #[.pointer (some ⟨13, 40, none⟩), .pointer (some ta), .int .u64 406], .agg #[.pointer (some ⟨13, 40, none⟩), .pointer (some b), .int .u64 150]]).run Tryd.prog W
      = .ok (.tuple #[]) (W.setCell ta (.pointer (some e))) := by
  delta Tryd.eSet ReflectliteValue.set
  delta ReflectliteValue.set.match_3
  dsimp only
  rw [dif_pos (by rfl)]
  simp [Array.getLit, Sem.run_bind, Tryd.partsA4, Tryd.partsB4, ReflectliteValue.flagAddr, loadVar, isAgg, underlying, Tryd.underlying40, hb, Result.andThen, Tryd.directT4, storeVar, Value.cells, storeCells, Addr.add]
  rw [run_store Tryd.prog W ta _ _ (by rfl)]
  simp [ht, hf]

set_option maxHeartbeats 4000000 in
/-- errors.As: the error is of the target's own type. -/
theorem as_hit0_4 (e t : Addr) (old : Value) (w : World) (n₀ : Nat) (hn₀ : n₀ ≤ t.block) (hg : w.cell? ⟨10, 0, none⟩ = some (.iface 91 (.agg #[.pointer (some ⟨13, 34, none⟩)]))) (ht0 : w.cell? t = some old) (hf0 : w.frozen? t = false) :
    Calls Tryd.prog 12 #[.iface 40 (.pointer (some e)), .iface 64 (.pointer (some t))] w fun ev w' => ev = .returned (.bool true) ∧ Below n₀ w w' := by
  have h6 := @run_callFunc_extern Tryd.prog 20 _ Tryd.eValueOf Tryd.func20 (by kernel_rfl) (by kernel_rfl) (by kernel_rfl) (by kernel_rfl)
  have h7 := @run_callFunc_extern Tryd.prog 21 _ Tryd.eType Tryd.func21 (by kernel_rfl) (by kernel_rfl) (by kernel_rfl) (by kernel_rfl)
  have h8 := @run_callFunc_extern Tryd.prog 22 _ Tryd.eIsNil Tryd.func22 (by kernel_rfl) (by kernel_rfl) (by kernel_rfl) (by kernel_rfl)
  have h27 := @run_callFunc_extern Tryd.prog 48 _ Tryd.eKind Tryd.func48 (by kernel_rfl) (by kernel_rfl) (by kernel_rfl) (by kernel_rfl)
  have h37 := @run_callFunc_extern Tryd.prog 72 _ Tryd.eElem Tryd.func72 (by kernel_rfl) (by kernel_rfl) (by kernel_rfl) (by kernel_rfl)
  have h38 := @run_callFunc_extern Tryd.prog 73 _ Tryd.eImplements Tryd.func73 (by kernel_rfl) (by kernel_rfl) (by kernel_rfl) (by kernel_rfl)
  have h10 := @run_callFunc_extern Tryd.prog 24 _ Tryd.eTypeOf Tryd.func24 (by kernel_rfl) (by kernel_rfl) (by kernel_rfl) (by kernel_rfl)
  have h35 := @run_callFunc_extern Tryd.prog 70 _ Tryd.eAssignable Tryd.func70 (by kernel_rfl) (by kernel_rfl) (by kernel_rfl) (by kernel_rfl)
  have h11 := @run_callFunc_extern Tryd.prog 28 _ Tryd.eVElem Tryd.func28 (by kernel_rfl) (by kernel_rfl) (by kernel_rfl) (by kernel_rfl)
  have h12 := @run_callFunc_extern Tryd.prog 29 _ Tryd.eSet Tryd.func29 (by kernel_rfl) (by kernel_rfl) (by kernel_rfl) (by kernel_rfl)
  have mA := Tryd.asMethodAssignableTo
  have f6 := Tryd.valueOfT4
  have f7 := Tryd.typeT4
  have mK := Tryd.asMethodKind
  have mE := Tryd.asMethodElem
  have mI := Tryd.asMethodImplements
  have k27 := Tryd.kindT4
  have k25 := Tryd.kindU4
  have e27 := Tryd.elemT4
  have i25 := Tryd.implementsT4
  have tO := Tryd.typeOfW0
  have a25 := Tryd.assignW0T4
  have v25 := Tryd.valueOfW0
  have n8 := Tryd.isNilT4 ⟨w.heap.size, 0, none⟩ t ((w.alloc (.cells #[.pointer (some t)] 64)).alloc (.cells #[.pointer (some ⟨13, 64, none⟩), .pointer (some ⟨w.heap.size, 0, none⟩), .int .u64 150] 75)) (by simp)
  have hlt : 10 < w.heap.size := by
    rcases Nat.lt_or_ge 10 w.heap.size with h | h
    · exact h
    · simp [World.cell?, Array.getElem?_eq_none h] at hg
  have hg2 : ((w.alloc (.cells #[.pointer (some t)] 64)).alloc (.cells #[.pointer (some ⟨13, 64, none⟩), .pointer (some ⟨w.heap.size, 0, none⟩), .int .u64 150] 75)).cell? ⟨10, 0, none⟩ = some (.iface 91 (.agg #[.pointer (some ⟨13, 34, none⟩)])) := by
    rw [World.cell?_alloc_lt _ _ ⟨10, 0, none⟩ (by simp; omega), World.cell?_alloc_lt _ _ ⟨10, 0, none⟩ hlt]; exact hg
  have htl : t.block < w.heap.size := by
    rcases Nat.lt_or_ge t.block w.heap.size with h | h
    · exact h
    · simp [World.cell?, Array.getElem?_eq_none h] at ht0
  have el := Tryd.elemVT4 ⟨w.heap.size, 0, none⟩ t (((w.alloc (.cells #[.pointer (some t)] 64)).alloc (.cells #[.pointer (some ⟨13, 64, none⟩), .pointer (some ⟨w.heap.size, 0, none⟩), .int .u64 150] 75)).alloc (.cells #[.pointer (some ⟨13, 64, none⟩), .pointer (some ⟨w.heap.size, 0, none⟩), .int .u64 150] 75)) (by rw [World.cell?_alloc_lt _ _ ⟨w.heap.size, 0, none⟩ (by simp; omega)]; simp)
  have st := Tryd.setT4 t ⟨w.heap.size + 1 + 1 + 1, 0, none⟩ e old ((((w.alloc (.cells #[.pointer (some t)] 64)).alloc (.cells #[.pointer (some ⟨13, 64, none⟩), .pointer (some ⟨w.heap.size, 0, none⟩), .int .u64 150] 75)).alloc (.cells #[.pointer (some ⟨13, 64, none⟩), .pointer (some ⟨w.heap.size, 0, none⟩), .int .u64 150] 75)).alloc (.cells #[.pointer (some e)] 40))
    (by rw [World.cell?_alloc_at _ _ _ _ (by simp)]; rfl)
    (by rw [World.cell?_alloc_lt _ _ t (by simp; omega), World.cell?_alloc_lt _ _ t (by simp; omega), World.cell?_alloc_lt _ _ t (by simp; omega), World.cell?_alloc_lt _ _ t htl]; exact ht0)
    (by rw [World.frozen?_alloc_old _ _ t (by simp; omega), World.frozen?_alloc_old _ _ t (by simp; omega), World.frozen?_alloc_old _ _ t (by simp; omega), World.frozen?_alloc_old _ _ t (Nat.ne_of_lt htl)]; exact hf0)
  have hB : Below n₀ w (((((w.alloc (.cells #[.pointer (some t)] 64)).alloc (.cells #[.pointer (some ⟨13, 64, none⟩), .pointer (some ⟨w.heap.size, 0, none⟩), .int .u64 150] 75)).alloc (.cells #[.pointer (some ⟨13, 64, none⟩), .pointer (some ⟨w.heap.size, 0, none⟩), .int .u64 150] 75)).alloc (.cells #[.pointer (some e)] 40)).setCell t (.pointer (some e))) :=
    (((((Below.refl n₀ w).alloc (by omega) _).alloc (by simp; omega) _).alloc (by simp; omega) _).alloc (by simp; omega) _).setCell hn₀ _
  go_enter Tryd.func12, Tryd.ntmps12
  go_wp2
  refine wp_loop_rounds 1 ?_
  rw [rounds_succ]
  go_wp2
  go_ret
  exact ⟨rfl, hB⟩

end Go.Proofs.YtniadajcdldfkaaDoor
