import Derived.Test.YtniadajcdldfkaaDoorPl
import Derived.Test.YtniadajcdldfkaaDoorShelf
import Derived.Test.YtniadajcdldfkaaDoorErrno
namespace Go.Proofs.YtniadajcdldfkaaDoor
open Go.RowKit Go.Shelf Go.Lib
attribute [local go_sem] Oper.semAt_some

/-- What the call of count does. -/
def CountDoes (W0 : World) (w : World) (v : Value) (len : Int) (ok : Bool) (m : Nat) : Prop :=
  Calls Tryd.prog 8 #[v, .int .i64 len] w fun e w' => Below w.heap.size w w' ∧ ((ok = true ∧ e = .returned (.tuple #[.int .i64 m, .nilIface])) ∨ (ok = false ∧ ∃ x, e = .returned (.tuple #[.int .i64 0, x]) ∧ Sentinel W0 x))

def outC (s : ByteArray) (wd : Int) (pre : List P64) : List Value := pre.flatMap fun p => strCells (s.extract p.1.toNat (p.1 + wd).toNat)
def outB (s : ByteArray) (wd : Int) (pre : List P64) : List UInt8 := pre.flatMap fun p => (s.extract p.1.toNat (p.1 + wd).toNat).data.toList
theorem outC_eq (s : ByteArray) (wd : Int) (pre : List P64) : outC s wd pre = byteCells (outB s wd pre) := by
  simp [outC, outB, strCells, byteCells, List.map_flatMap]
theorem outC_len (s : ByteArray) (wd : Int) (hs : s.size ≤ 600) (pre : List P64) : (outC s wd pre).length ≤ pre.length * 600 := by
  induction pre with
  | nil => simp [outC]
  | cons p pre ih =>
    have e : outC s wd (p :: pre) = strCells (s.extract p.1.toNat (p.1 + wd).toNat) ++ outC s wd pre := by simp [outC]
    have h : (s.extract p.1.toNat (p.1 + wd).toNat).size ≤ 600 := by rw [ByteArray.size_extract]; omega
    rw [e, List.length_append, strCells_length, List.length_cons, Nat.succ_mul]
    omega
def Lies (s : ByteArray) (wd p : Int) : Prop := 0 ≤ p ∧ p + wd ≤ s.size

theorem atF_own {β : Type} (T e : TypeId) (B b : Nat) (q : Value) (f : β → List Value) : Own (fun s W => BuilderAtF T e B b q (f s) W) := by
  rintro s X Y row ⟨hB, v, hb, hown, hne⟩ hg hr
  refine ⟨hB, v, block_own (β := Unit) b _ _ _ () X Y row hb hg hr, hown.kept hg ?_, hne⟩
  rcases hown.2 with ⟨rfl, _⟩ | ⟨g, cap, cur, fz, rfl, _, hgb, _⟩
  · exact .inl rfl
  · refine .inr fun e' => ?_
    obtain ⟨o, ho, hc⟩ := hr g (by simpa [Value.ownBlock] using e'.symm)
    rw [hgb] at ho; cases ho; cases hc
theorem builder_own {β : Type} (T e : TypeId) (B b : Nat) (f : β → List Value) : Own (fun s W => IsBuilderF T e B b (f s) W) := fun s X Y row hs hg hr =>
  hs.elim (fun h => .inl (atF_own T e B b _ f s X Y row h hg hr)) (fun h => .inr (atF_own T e B b _ f s X Y row h hg hr))

theorem others_block {e : TypeId} {b B : Nat} {W W' : World} {c : Array Value} {t : TypeId} {fz : Nat × Nat} (hO : OthersKept e (some b) W W') (h : W.heap[B]? = some (.cells c t fz)) (hne : B ≠ b) (hte : t ≠ e) : W'.heap[B]? = some (.cells c t fz) :=
  hO B _ h (fun e' => hne (by cases e'; rfl)) (fun c' fz' e' => hte (by cases e'; rfl))
theorem keeps_of_others {e T : TypeId} {b : Nat} {W W' : World} {c : Array Value} {fz : Nat × Nat} (hO : OthersKept e (some b) W W') (hsz : W.heap.size ≤ W'.heap.size) (hb : W.heap[b]? = some (.cells c T fz)) : KeepsOthers W W' :=
  ⟨hsz, fun k o hk ho => hO k o hk (fun e' => by cases e'; rw [hb] at hk; cases hk; cases ho) (fun c' fz' e' => by subst e'; cases ho)⟩
theorem IsBuilderF.block {T e : TypeId} {B b : Nat} {bs : List Value} {w : World} (h : IsBuilderF T e B b bs w) : ∃ c, w.heap[b]? = some (.cells c T (0, 0)) := by
  rcases h with ⟨_, v, hb, _⟩ | ⟨_, v, hb, _⟩
  · exact ⟨_, hb⟩
  · exact ⟨_, hb⟩

/-- Between two rounds. -/
def I6 (w : World) (s : ByteArray) (wd frm : Int) (sb so sn sc tb tO tn tc : Nat) (f : Bool) (bo bv : Nat) (pre : List P64) (W : World) : Prop :=
  ((IsBuilderF 46 5 w.heap.size bo (outC s wd pre) W ∧ W.heap[w.heap.size]? = some (.cells (vcells wd frm sb so sn sc tb tO tn tc f) 32 (0, 0)) ∧ Boxed W (w.heap.size + 1) 9 (.string s) ∧ Boxed W (w.heap.size + 1 + 1) 9 (.string ⟨#[]⟩) ∧ Boxed W (w.heap.size + 1 + 1 + 1) 34 .nilIface ∧ W.heap[bv]? = some (.cells (vcells wd frm sb so sn sc tb tO tn tc f) 32 (0, 0))) ∧ (∀ p ∈ pre, Lies s wd p.1)) ∧ Below w.heap.size w W
theorem I6_own {w : World} {s : ByteArray} {wd frm : Int} {sb so sn sc tb tO tn tc : Nat} {f : Bool} {bo bv B : Nat} (hB : w.heap.size ≤ B) : OwnFrom B (I6 w s wd frm sb so sn sc tb tO tn tc f bo bv) :=
  OwnFrom.and (OwnFrom.and (Own.from (fun s' X Y row hs hg hr => ⟨builder_own 46 5 w.heap.size bo (fun pre : List P64 => outC s wd pre) s' X Y row hs.1 hg hr, block_own _ _ _ _ s' X Y row hs.2.1 hg hr,
    boxed_own _ _ (fun _ : List P64 => Value.string s) s' X Y row hs.2.2.1 hg hr, boxed_own _ _ (fun _ : List P64 => Value.string ⟨#[]⟩) s' X Y row hs.2.2.2.1 hg hr,
    boxed_own _ _ (fun _ : List P64 => Value.nilIface) s' X Y row hs.2.2.2.2.1 hg hr, block_own _ _ _ _ s' X Y row hs.2.2.2.2.2 hg hr⟩) _) (ownFrom_pure _ _)) (ownFrom_below (Nat.le_refl _) hB)

/-- A round has left by a return. -/
def X6 (w : World) (s : ByteArray) (wd : Int) (a : Addr) (c : Code) (pre : List P64) (W : World) : Prop :=
  ((∃ pb, Boxed W (w.heap.size + 1 + 1) 9 (.string ⟨#[]⟩) ∧ Boxed W (w.heap.size + 1 + 1 + 1) 34 (.iface 40 (.pointer (some ⟨pb, 0, none⟩))) ∧ W.cell? ⟨pb, 0, none⟩ = some (.iface 108 (.pointer (some a)))) ∧ (c = .ret ∧ ∃ p ∈ pre, ¬ Lies s wd p.1)) ∧ Below w.heap.size w W
theorem X6_own {w : World} {s : ByteArray} {wd : Int} {a : Addr} {c : Code} {B : Nat} (hB : w.heap.size ≤ B) : OwnFrom B (X6 w s wd a c) :=
  OwnFrom.and (OwnFrom.and (Own.from (fun s' X Y row hs hg hr => by
    obtain ⟨pb, h1, h2, h3⟩ := hs
    exact ⟨pb, boxed_own _ _ (fun _ : List P64 => Value.string ⟨#[]⟩) s' X Y row h1 hg hr, boxed_own _ _ (fun _ : List P64 => Value.iface 40 (.pointer (some ⟨pb, 0, none⟩))) s' X Y row h2 hg hr, cell_kept h3 hg hr⟩) _) (ownFrom_pure _ _)) (ownFrom_below (Nat.le_refl _) hB)

/-- The body has gone on: one piece more. -/
theorem went6 {w W w' : World} {s : ByteArray} {wd frm : Int} {sb so sn sc tb tO tn tc : Nat} {f : Bool} {bo bv : Nat} {pre : List P64} {x : P64}
    (h : I6 w s wd frm sb so sn sc tb tO tn tc f bo bv pre W) (hat : BuilderAtF 46 5 w.heap.size bo (.pointer (some ⟨bo, 0, none⟩)) (outC s wd pre ++ strCells (s.extract x.1.toNat (x.1 + wd).toNat)) w') (hb : Below w.heap.size W w') (hO : OthersKept 5 (some bo) W w') (hx : Lies s wd x.1) (lo : w.heap.size + 1 + 1 + 1 < bo) (lv : bv ≠ bo) :
    KeepsOthers W w' ∧ Kp w.heap.size bv W w' ∧ I6 w s wd frm sb so sn sc tb tO tn tc f bo bv (pre ++ [x]) w' := by
  obtain ⟨⟨⟨hbd, g0, g1, g2, g3, gv⟩, hlie⟩, hB⟩ := h
  obtain ⟨c, hbb⟩ := IsBuilderF.block hbd
  have e2 : outC s wd (pre ++ [x]) = outC s wd pre ++ strCells (s.extract x.1.toNat (x.1 + wd).toNat) := by simp [outC]
  have gv' := others_block hO gv lv (by decide)
  refine ⟨keeps_of_others hO hb.size hbb, ⟨hb, gv'.trans gv.symm⟩, ⟨⟨?_, others_block hO g0 (by omega) (by decide), others_block hO g1 (by omega) (by decide), others_block hO g2 (by omega) (by decide), others_block hO g3 (by omega) (by decide), gv'⟩, ?_⟩, hB.trans hb⟩
  · rw [e2]
    exact .inr hat
  · intro p hp
    rcases List.mem_append.1 hp with h | h
    · exact hlie p h
    · obtain rfl := List.mem_singleton.1 h
      exact hx

/-- The body has left by 'return', with a view's error. -/
theorem left6 {w W : World} {s : ByteArray} {wd : Int} {a : Addr} {pre : List P64} {x : P64} (hB : Below w.heap.size w W) (g2 : Boxed W (w.heap.size + 1 + 1) 9 (.string ⟨#[]⟩)) (g3 : Boxed W (w.heap.size + 1 + 1 + 1) 34 .nilIface) (hx : ¬ Lies s wd x.1) :
    KeepsOthers W (((W.alloc (.cells #[.iface 108 (.pointer (some a))] 42)).setCell ⟨w.heap.size + 1 + 1, 0, none⟩ (.string ⟨#[]⟩)).setCell ⟨w.heap.size + 1 + 1 + 1, 0, none⟩ (.iface 40 (.pointer (some ⟨W.heap.size, 0, none⟩)))) ∧
    X6 w s wd a .ret (pre ++ [x]) (((W.alloc (.cells #[.iface 108 (.pointer (some a))] 42)).setCell ⟨w.heap.size + 1 + 1, 0, none⟩ (.string ⟨#[]⟩)).setCell ⟨w.heap.size + 1 + 1 + 1, 0, none⟩ (.iface 40 (.pointer (some ⟨W.heap.size, 0, none⟩)))) := by
  have l2 := g2.lt
  have l3 := g3.lt
  refine ⟨((KeepsOthers.alloc W _).trans (KeepsOthers.setCell _ _ _)).trans (KeepsOthers.setCell _ _ _), ⟨⟨W.heap.size, ?_, ?_, ?_⟩, rfl, x, by simp, hx⟩, ?_⟩
  · exact ((g2.alloc _).set _).other (by omega) _
  · exact (((g3.alloc _).other (by omega) _)).set _
  · have e : ((((W.alloc (.cells #[.iface 108 (.pointer (some a))] 42)).setCell ⟨w.heap.size + 1 + 1, 0, none⟩ (.string ⟨#[]⟩)).setCell ⟨w.heap.size + 1 + 1 + 1, 0, none⟩ (.iface 40 (.pointer (some ⟨W.heap.size, 0, none⟩))))).heap[W.heap.size]? = some (.cells #[.iface 108 (.pointer (some a))] 42 (0, 0)) := by
      rw [Below.heap_setCell _ _ _ _ (by simp; omega), Below.heap_setCell _ _ _ _ (by simp; omega)]
      exact World.alloc_heap_new _ _
    exact Boxed.cell (B := W.heap.size) (t := 42) e
  · exact ((hB.alloc (by omega) _).setCell (by simp; omega) _).setCell (by simp; omega) _

theorem left6b {w W : World} {s : ByteArray} {wd : Int} {a : Addr} {pre : List P64} {x : P64} (hB : Below w.heap.size w W) (g2 : Boxed W (w.heap.size + 1 + 1) 9 (.string ⟨#[]⟩)) (g3 : Boxed W (w.heap.size + 1 + 1 + 1) 34 .nilIface) (hx : ¬ Lies s wd x.1) :
    KeepsOthers W (((W.setCell ⟨w.heap.size + 1 + 1, 0, none⟩ (.string ⟨#[]⟩)).alloc (.cells #[.iface 108 (.pointer (some a))] 42)).setCell ⟨w.heap.size + 1 + 1 + 1, 0, none⟩ (.iface 40 (.pointer (some ⟨W.heap.size, 0, none⟩)))) ∧
    X6 w s wd a .ret (pre ++ [x]) (((W.setCell ⟨w.heap.size + 1 + 1, 0, none⟩ (.string ⟨#[]⟩)).alloc (.cells #[.iface 108 (.pointer (some a))] 42)).setCell ⟨w.heap.size + 1 + 1 + 1, 0, none⟩ (.iface 40 (.pointer (some ⟨W.heap.size, 0, none⟩)))) := by
  have l2 := g2.lt
  have l3 := g3.lt
  have esz : (W.setCell ⟨w.heap.size + 1 + 1, 0, none⟩ (.string ⟨#[]⟩)).heap.size = W.heap.size := by simp
  refine ⟨((KeepsOthers.setCell _ _ _).trans (KeepsOthers.alloc _ _)).trans (KeepsOthers.setCell _ _ _), ⟨⟨W.heap.size, ?_, ?_, ?_⟩, rfl, x, by simp, hx⟩, ?_⟩
  · exact ((g2.set _).alloc _).other (by omega) _
  · exact (((g3.other (by omega) _).alloc _)).set _
  · have := (Boxed.new (W.setCell ⟨w.heap.size + 1 + 1, 0, none⟩ (.string ⟨#[]⟩)) 42 (.iface 108 (.pointer (some a))))
    rw [esz] at this
    exact (this.other (B' := w.heap.size + 1 + 1 + 1) (by omega) _).cell
  · exact ((hB.setCell (by simp; omega) _).alloc (by rw [esz]; omega) _).setCell (by simp; omega) _
end Go.Proofs.YtniadajcdldfkaaDoor
