import Derived.Test.YtniadajcdldfkaaDoorBld
import Derived.Laws.DeepStrings4
namespace Go.Proofs.YtniadajcdldfkaaDoor
open Go.RowKit Go.Shelf Go.Lib
attribute [local go_sem] Oper.semAt_some

set_option maxRecDepth 100000 in
set_option maxHeartbeats 2000000 in
theorem take6_bad (W0 w : World) (s : ByteArray) (wd frm : Int) (sb so sn sc tb tO tn tc : Nat) (f : Bool) (m : Nat)
    (HC : ∀ w', Below w.heap.size w w' → CountDoes W0 w' (.agg (vcells wd frm sb so sn sc tb tO tn tc f)) s.size false m) :
    Calls Tryd.prog 6 #[.agg (vcells wd frm sb so sn sc tb tO tn tc f), .string s] w fun e w' => Below w.heap.size w w' ∧ ∃ x, e = .returned (.tuple #[.string ⟨#[]⟩, x]) ∧ ViewErr W0 w' x := by
  have e4 : ((((w.alloc (.cells (vcells wd frm sb so sn sc tb tO tn tc f) 32)).alloc (.cells #[.string s] 9)).alloc (.cells #[.string ⟨#[]⟩] 9)).alloc (.cells #[.nilIface] 34)).heap.size = w.heap.size + 1 + 1 + 1 + 1 := by simp
  have hB4 : Below w.heap.size w ((((w.alloc (.cells (vcells wd frm sb so sn sc tb tO tn tc f) 32)).alloc (.cells #[.string s] 9)).alloc (.cells #[.string ⟨#[]⟩] 9)).alloc (.cells #[.nilIface] 34)) := ((((Below.refl _ w).alloc (Nat.le_refl _) _).alloc (by simp) _).alloc (by simp; omega) _).alloc (by simp; omega) _
  have b0 : VBox ((((w.alloc (.cells (vcells wd frm sb so sn sc tb tO tn tc f) 32)).alloc (.cells #[.string s] 9)).alloc (.cells #[.string ⟨#[]⟩] 9)).alloc (.cells #[.nilIface] 34)) w.heap.size wd frm sb so sn sc tb tO tn tc f := by
    unfold VBox
    rw [Below.heap_alloc _ _ _ (by simp; omega), Below.heap_alloc _ _ _ (by simp; omega), Below.heap_alloc _ _ _ (by simp)]
    exact World.alloc_heap_new _ _
  have b1 : Boxed ((((w.alloc (.cells (vcells wd frm sb so sn sc tb tO tn tc f) 32)).alloc (.cells #[.string s] 9)).alloc (.cells #[.string ⟨#[]⟩] 9)).alloc (.cells #[.nilIface] 34)) (w.heap.size + 1) 9 (.string s) := by
    have := Boxed.new (w.alloc (.cells (vcells wd frm sb so sn sc tb tO tn tc f) 32)) 9 (.string s)
    simp only [World.size_alloc] at this
    exact (this.alloc _).alloc _
  have b2 : Boxed ((((w.alloc (.cells (vcells wd frm sb so sn sc tb tO tn tc f) 32)).alloc (.cells #[.string s] 9)).alloc (.cells #[.string ⟨#[]⟩] 9)).alloc (.cells #[.nilIface] 34)) (w.heap.size + 1 + 1) 9 (.string ⟨#[]⟩) := by
    have := Boxed.new ((w.alloc (.cells (vcells wd frm sb so sn sc tb tO tn tc f) 32)).alloc (.cells #[.string s] 9)) 9 (.string ⟨#[]⟩)
    simp only [World.size_alloc] at this
    exact this.alloc _
  have b3 : Boxed ((((w.alloc (.cells (vcells wd frm sb so sn sc tb tO tn tc f) 32)).alloc (.cells #[.string s] 9)).alloc (.cells #[.string ⟨#[]⟩] 9)).alloc (.cells #[.nilIface] 34)) (w.heap.size + 1 + 1 + 1) 34 .nilIface := by
    have := Boxed.new (((w.alloc (.cells (vcells wd frm sb so sn sc tb tO tn tc f) 32)).alloc (.cells #[.string s] 9)).alloc (.cells #[.string ⟨#[]⟩] 9)) 34 .nilIface
    simp only [World.size_alloc] at this
    exact this
  have HC' := HC _ hB4
  obtain ⟨W4, hW4⟩ : ∃ W4, ((((w.alloc (.cells (vcells wd frm sb so sn sc tb tO tn tc f) 32)).alloc (.cells #[.string s] 9)).alloc (.cells #[.string ⟨#[]⟩] 9)).alloc (.cells #[.nilIface] 34)) = W4 := ⟨_, rfl⟩
  rw [hW4] at e4 hB4 b0 b1 b2 b3 HC'
  have q0 := b1.cell
  have p0 := b0.c0
  have p1 := b0.c1
  have p2 := b0.c2
  have p3 := b0.c3
  have p4 := b0.c4
  clear HC
  refine (callsIn_wide (n := 3)).1 ?_
  refine callsIn_of_wp_marks Tryd.func6 rfl trivial ?_ rfl
  simp only [Tryd.ntmps6, List.size_toArray, List.length_cons, List.length_nil, Nat.reduceAdd, Nat.reduceSub, Array.replicate_succ, Array.replicate_zero, List.push_toArray, List.append_toArray, List.nil_append, List.cons_append]
  have h13 : 1 ≤ 3 := by decide
  gi_wp2_with (first
    | (refine ⟨trivial, ?_⟩; gi_at_call 8; refine (callsIn_wide.2 HC').mono ?_; clear HC'; rintro e w1 ⟨hb1, hcase⟩
       obtain ⟨-, x, rfl, ⟨a, g, rfl, hx2, hx3⟩⟩ := hcase.resolve_left (by simp)
       have B2 : Boxed w1 (w.heap.size + 1 + 1) 9 (.string ⟨#[]⟩) := heap_below hb1 b2
       have B3 : Boxed w1 (w.heap.size + 1 + 1 + 1) 34 .nilIface := heap_below hb1 b3
       have hle1 : w.heap.size + 1 + 1 + 1 + 1 ≤ w1.heap.size := by have := hb1.size; rw [e4] at this; exact this
       have E2 := B2.alloc (.cells #[.iface 108 (.pointer (some a))] 42)
       have E3 := B3.alloc (.cells #[.iface 108 (.pointer (some a))] 42)
       have EE := Boxed.new w1 42 (.iface 108 (.pointer (some a)))
       have hBE : Below w.heap.size w (w1.alloc (.cells #[.iface 108 (.pointer (some a))] 42)) := (hB4.trans (hb1.mono (by rw [e4]; omega))).alloc (by omega) _
       obtain ⟨WE, hWE⟩ : ∃ WE, w1.alloc (.cells #[.iface 108 (.pointer (some a))] 42) = WE := ⟨_, rfl⟩
       rw [hWE] at E2 E3 EE hBE
       have q20 := E2.cell
       have q21 := E2.frozen
       have q30 := (E3.other (B' := w.heap.size + 1 + 1) (by omega) (.string ⟨#[]⟩)).cell
       have q31 := (E3.other (B' := w.heap.size + 1 + 1) (by omega) (.string ⟨#[]⟩)).frozen))
  have r2 := ((E2.set (.string ⟨#[]⟩)).other (B' := w.heap.size + 1 + 1 + 1) (by omega) (.iface 40 (.pointer (some ⟨w1.heap.size, 0, none⟩)))).cell
  have r3 := ((E3.other (B' := w.heap.size + 1 + 1) (by omega) (.string ⟨#[]⟩)).set (.iface 40 (.pointer (some ⟨w1.heap.size, 0, none⟩)))).cell
  have rE := ((EE.other (B' := w.heap.size + 1 + 1) (by omega) (.string ⟨#[]⟩)).other (B' := w.heap.size + 1 + 1 + 1) (by omega) (.iface 40 (.pointer (some ⟨w1.heap.size, 0, none⟩)))).cell
  refine ⟨.tuple #[.string ⟨#[]⟩, .iface 40 (.pointer (some ⟨w1.heap.size, 0, none⟩))], ?_, ?_, _, rfl, w1.heap.size, a, g, rfl, rE, hx2, hx3⟩
  · simp [results, Tryd.f6, go_sem, r2, r3]
  · exact (hBE.setCell (p := ⟨w.heap.size + 1 + 1, 0, none⟩) (by simp; omega) _).setCell (p := ⟨w.heap.size + 1 + 1 + 1, 0, none⟩) (by simp; omega) _

set_option maxRecDepth 100000 in
set_option maxHeartbeats 2000000 in
theorem take6 (W0 w : World) (hb0 : Below W0.heap.size W0 w) (hT : Told W0 0) (s : ByteArray) (hs : s.size ≤ 600) (wd frm : Int) (sb so sn sc tb tO tn tc : Nat) (f : Bool) (m : Nat) (hm : m ≤ 600) (hwd : 1 ≤ wd ∧ wd ≤ 16) (pl : Nat → P64)
    (HC : ∀ w', Below w.heap.size w w' → CountDoes W0 w' (.agg (vcells wd frm sb so sn sc tb tO tn tc f)) s.size true m)
    (HP : PlaceDoes w.heap.size w (.agg (vcells wd frm sb so sn sc tb tO tn tc f)) m pl) :
    Calls Tryd.prog 6 #[.agg (vcells wd frm sb so sn sc tb tO tn tc f), .string s] w fun e w' => Below w.heap.size w w' ∧
      (((∀ k, k < m → Lies s wd (pl k).1) ∧ e = .returned (.tuple #[.string ⟨(outB s wd ((List.range m).map pl)).toArray⟩, .nilIface])) ∨ ((∃ k, k < m ∧ ¬ Lies s wd (pl k).1) ∧ ∃ x, e = .returned (.tuple #[.string ⟨#[]⟩, x]) ∧ ViewErr W0 w' x)) := by
  have e4 : ((((w.alloc (.cells (vcells wd frm sb so sn sc tb tO tn tc f) 32)).alloc (.cells #[.string s] 9)).alloc (.cells #[.string ⟨#[]⟩] 9)).alloc (.cells #[.nilIface] 34)).heap.size = w.heap.size + 1 + 1 + 1 + 1 := by simp
  have hB4 : Below w.heap.size w ((((w.alloc (.cells (vcells wd frm sb so sn sc tb tO tn tc f) 32)).alloc (.cells #[.string s] 9)).alloc (.cells #[.string ⟨#[]⟩] 9)).alloc (.cells #[.nilIface] 34)) := ((((Below.refl _ w).alloc (Nat.le_refl _) _).alloc (by simp) _).alloc (by simp; omega) _).alloc (by simp; omega) _
  have b0 : VBox ((((w.alloc (.cells (vcells wd frm sb so sn sc tb tO tn tc f) 32)).alloc (.cells #[.string s] 9)).alloc (.cells #[.string ⟨#[]⟩] 9)).alloc (.cells #[.nilIface] 34)) w.heap.size wd frm sb so sn sc tb tO tn tc f := by
    unfold VBox
    rw [Below.heap_alloc _ _ _ (by simp; omega), Below.heap_alloc _ _ _ (by simp; omega), Below.heap_alloc _ _ _ (by simp)]
    exact World.alloc_heap_new _ _
  have b1 : Boxed ((((w.alloc (.cells (vcells wd frm sb so sn sc tb tO tn tc f) 32)).alloc (.cells #[.string s] 9)).alloc (.cells #[.string ⟨#[]⟩] 9)).alloc (.cells #[.nilIface] 34)) (w.heap.size + 1) 9 (.string s) := by
    have := Boxed.new (w.alloc (.cells (vcells wd frm sb so sn sc tb tO tn tc f) 32)) 9 (.string s)
    simp only [World.size_alloc] at this
    exact (this.alloc _).alloc _
  have b2 : Boxed ((((w.alloc (.cells (vcells wd frm sb so sn sc tb tO tn tc f) 32)).alloc (.cells #[.string s] 9)).alloc (.cells #[.string ⟨#[]⟩] 9)).alloc (.cells #[.nilIface] 34)) (w.heap.size + 1 + 1) 9 (.string ⟨#[]⟩) := by
    have := Boxed.new ((w.alloc (.cells (vcells wd frm sb so sn sc tb tO tn tc f) 32)).alloc (.cells #[.string s] 9)) 9 (.string ⟨#[]⟩)
    simp only [World.size_alloc] at this
    exact this.alloc _
  have b3 : Boxed ((((w.alloc (.cells (vcells wd frm sb so sn sc tb tO tn tc f) 32)).alloc (.cells #[.string s] 9)).alloc (.cells #[.string ⟨#[]⟩] 9)).alloc (.cells #[.nilIface] 34)) (w.heap.size + 1 + 1 + 1) 34 .nilIface := by
    have := Boxed.new (((w.alloc (.cells (vcells wd frm sb so sn sc tb tO tn tc f) 32)).alloc (.cells #[.string s] 9)).alloc (.cells #[.string ⟨#[]⟩] 9)) 34 .nilIface
    simp only [World.size_alloc] at this
    exact this
  have HC' := HC _ hB4
  obtain ⟨W4, hW4⟩ : ∃ W4, ((((w.alloc (.cells (vcells wd frm sb so sn sc tb tO tn tc f) 32)).alloc (.cells #[.string s] 9)).alloc (.cells #[.string ⟨#[]⟩] 9)).alloc (.cells #[.nilIface] 34)) = W4 := ⟨_, rfl⟩
  rw [hW4] at e4 hB4 b0 b1 b2 b3 HC'
  have q0 := b1.cell
  have p0 := b0.c0
  have p1 := b0.c1
  have p2 := b0.c2
  have p3 := b0.c3
  have p4 := b0.c4
  clear HC
  refine (callsIn_wide (n := 3)).1 ?_
  refine callsIn_of_wp_marks Tryd.func6 rfl trivial ?_ rfl
  simp only [Tryd.ntmps6, List.size_toArray, List.length_cons, List.length_nil, Nat.reduceAdd, Nat.reduceSub, Array.replicate_succ, Array.replicate_zero, List.push_toArray, List.append_toArray, List.nil_append, List.cons_append]
  have h13 : 1 ≤ 3 := by decide
  gi_wp2_with (first
    | (refine ⟨trivial, ?_⟩; gi_at_call 8; refine (callsIn_wide.2 HC').mono ?_; clear HC'; rintro e w1 ⟨hb1, hcase⟩
       have B0 : VBox w1 w.heap.size wd frm sb so sn sc tb tO tn tc f := heap_below hb1 b0
       have B1 : Boxed w1 (w.heap.size + 1) 9 (.string s) := heap_below hb1 b1
       have B2 : Boxed w1 (w.heap.size + 1 + 1) 9 (.string ⟨#[]⟩) := heap_below hb1 b2
       have B3 : Boxed w1 (w.heap.size + 1 + 1 + 1) 34 .nilIface := heap_below hb1 b3
       have hle1 : w.heap.size + 1 + 1 + 1 + 1 ≤ w1.heap.size := by have := hb1.size; rw [e4] at this; exact this
       have D0 : VBox (w1.alloc (.cells #[.pointer none, .slice none 0 0] 46)) w.heap.size wd frm sb so sn sc tb tO tn tc f := (Below.heap_alloc _ _ _ (by omega)).trans B0
       have D1 := B1.alloc (.cells #[.pointer none, .slice none 0 0] 46)
       have D2 := B2.alloc (.cells #[.pointer none, .slice none 0 0] 46)
       have D3 := B3.alloc (.cells #[.pointer none, .slice none 0 0] 46)
       have DB : IsBuilderF 46 5 w.heap.size w1.heap.size [] (w1.alloc (.cells #[.pointer none, .slice none 0 0] 46)) := IsBuilderF.of (.inl ⟨by omega, .slice none 0 0, World.alloc_heap_new _ _, World.ownsRow_nil _ _ _ _, by simp [Value.ownBlock]⟩)
       have e6 : (w1.alloc (.cells #[.pointer none, .slice none 0 0] 46)).heap.size = w1.heap.size + 1 := by simp
       have hB6 : Below w.heap.size w (w1.alloc (.cells #[.pointer none, .slice none 0 0] 46)) := (hB4.trans (hb1.mono (by rw [e4]; omega))).alloc (by omega) _
       obtain ⟨W6, hW6⟩ : ∃ W6, w1.alloc (.cells #[.pointer none, .slice none 0 0] 46) = W6 := ⟨_, rfl⟩
       rw [hW6] at D0 D1 D2 D3 DB e6 hB6
       have d10 := D0.c0
       have d11 := D0.c1
       have d12 := D0.c2
       have d13 := D0.c3
       have d14 := D0.c4
       obtain ⟨-, rfl⟩ := hcase.resolve_right (by simp))
    | (refine ⟨trivial, ?_⟩; gi_at_call 9; refine (places_in 2 _ wd frm sb so sn sc tb tO tn tc f rfl m _).mono ?_; rintro e w2 ⟨rfl, rfl⟩))
  obtain ⟨a, hT1, hT2, hT3⟩ := hT
  clear q0 p0 p1 p2 p3 p4 d10 d11 d12 d13 d14 b0 b1 b2 b3 hcase
  have hvb : (((W6.alloc (.cells (vcells wd frm sb so sn sc tb tO tn tc f) 32)).alloc (.cells #[.int .i64 (m : Int)] 3))).heap[W6.heap.size]? = some (.cells (vcells wd frm sb so sn sc tb tO tn tc f) 32 (0, 0)) := (Below.heap_alloc _ _ _ (by simp)).trans (World.alloc_heap_new _ _)
  have hib : Boxed ((W6.alloc (.cells (vcells wd frm sb so sn sc tb tO tn tc f) 32)).alloc (.cells #[.int .i64 (m : Int)] 3)) (W6.heap.size + 1) 3 (.int .i64 (m : Int)) := by
    have := Boxed.new (W6.alloc (.cells (vcells wd frm sb so sn sc tb tO tn tc f) 32)) 3 (.int .i64 (m : Int))
    rwa [World.size_alloc] at this
  have hL0 : I6 w s wd frm sb so sn sc tb tO tn tc f w1.heap.size W6.heap.size [] ((W6.alloc (.cells (vcells wd frm sb so sn sc tb tO tn tc f) 32)).alloc (.cells #[.int .i64 (m : Int)] 3)) :=
    ⟨⟨⟨(IsBuilderF.alloc (IsBuilderF.alloc DB _) _), (Below.heap_alloc _ _ _ (by simp; omega)).trans ((Below.heap_alloc _ _ _ (by omega)).trans D0), (D1.alloc _).alloc _, (D2.alloc _).alloc _, (D3.alloc _).alloc _, hvb⟩, by simp⟩, (hB6.alloc (by omega) _).alloc (by simp; omega) _⟩
  have eL : ((W6.alloc (.cells (vcells wd frm sb so sn sc tb tO tn tc f) 32)).alloc (.cells #[.int .i64 (m : Int)] 3)).heap.size = W6.heap.size + 1 + 1 := by simp
  obtain ⟨WL, hWL⟩ : ∃ WL, ((W6.alloc (.cells (vcells wd frm sb so sn sc tb tO tn tc f) 32)).alloc (.cells #[.int .i64 (m : Int)] 3)) = WL := ⟨_, rfl⟩
  rw [hWL] at hvb hib hL0 eL ⊢
  rw [e6] at hvb hib hL0 eL
  have hBL : Below w.heap.size w WL := hL0.2
  have hmx : Tryd.prog.follows .mixedOrders = true := by kernel_rfl
  refine wpIn_rangeFunc_ownF rfl h13 (gf := 17) (lb := #[.pointer (some ⟨w1.heap.size + 1 + 1, 0, none⟩), .pointer (some ⟨w1.heap.size + 1, 0, none⟩)]) rfl trivial (enters_of Tryd.func17 (by kernel_rfl) rfl)
    (places_stops 2 (by decide) (w1.heap.size + 1 + 1) (w1.heap.size + 1) w.heap.size m hm pl wd frm sb so sn sc tb tO tn tc f WL hBL.size hib.cell hvb (fun W' hb k hk => HP W' (hBL.trans hb) k hk)) Kp.t (Kp.b hBL.size (by omega)) (Below.refl _ _) (fun _ => rfl)
    (I6 w s wd frm sb so sn sc tb tO tn tc f w1.heap.size (w1.heap.size + 1)) (X6 w s wd a) (I6_own hBL.size) (fun c => X6_own hBL.size) hL0 ?a1 ?assign ?body ?done ?stop
  case a1 => exact fun x => { tmps := #[.agg (vcells wd frm sb so sn sc tb tO tn tc f), .string s, .pointer (some ⟨w.heap.size, 0, none⟩), .pointer (some ⟨w.heap.size + 1, 0, none⟩), .pointer (some ⟨w.heap.size + 1 + 1, 0, none⟩), .pointer (some ⟨w.heap.size + 1 + 1 + 1, 0, none⟩), .int .i64 (m : Int), .nilIface, .pointer (some ⟨w1.heap.size, 0, none⟩), .int .i64 x.1,
    .tuple #[.int .i64 (m : Int), .nilIface], .agg (vcells wd frm sb so sn sc tb tO tn tc f), .string s, .int .i64 s.size, .tuple #[.int .i64 (m : Int), .nilIface], .int .i64 (m : Int), .nilIface, .nilIface, .bool false, undef, undef, undef, undef, .agg (vcells wd frm sb so sn sc tb tO tn tc f), .int .i64 (m : Int),
    .func (.func 17) #[] #[.pointer (some ⟨w1.heap.size + 1 + 1, 0, none⟩), .pointer (some ⟨w1.heap.size + 1, 0, none⟩)], .int .i64 x.1, undef, undef, undef, undef, undef, undef, undef, undef, undef, undef, undef, undef, undef, undef, undef, undef, undef, undef, undef, undef, undef, undef, undef, undef], defers := [] }
  case assign =>
    intro l x W K hK
    gi_wp2
    exact hK
  case body =>
    rintro l pre x W hI hlt
    have hI' := hI
    obtain ⟨⟨⟨hbd, g0, g1, g2, g3, gv⟩, hlie⟩, hB⟩ := hI'
    have k1 := g1.cell
    have k0 : W.cell? ⟨w.heap.size, 0, none⟩ = some (.int .i64 wd) := VBox.c0 g0
    have hx1 := x.2.1
    have hx2 := x.2.2
    have hg0 : W.cell? ⟨0, 0, none⟩ = some (.iface 108 (.pointer (some a))) := ((hb0.trans (hB.mono hb0.size)).cell (p := ⟨0, 0, none⟩) (lt_cell hT1)).trans hT1
    have hgl : 0 < w.heap.size := Nat.lt_of_lt_of_le (lt_cell hT1) hb0.size
    have hw : wrap64 (x.1 + wd) = x.1 + wd := by unfold wrap64; omega
    have hwl : wrap64 ((s.size : Int) - wd) = (s.size : Int) - wd := by unfold wrap64; omega
    by_cases hneg : x.1 < 0
    · gi_wp2
      -- 'return', the region draws its order
      refine wpIn_region_held_round (fun w' => w'.cell? ⟨0, 0, none⟩ = some (.iface 108 (.pointer (some a)))) hmx (by kernel_rfl) (by rintro ⟨_, _, h⟩; exact h) ?_
      have hS : W.drew.cell? ⟨0, 0, none⟩ = some (.iface 108 (.pointer (some a))) := hg0
      refine wpAnyH_take (i := 0) (v := .iface 108 (.pointer (some a))) rfl (by kernel_rfl) (by kernel_rfl) (by kernel_rfl) (fun _ _ _ h => h) (Or.inl ⟨by rfl, ?_⟩) hS ?_
      · rintro w' s1
        go_simp
      refine wpAnyH_take (i := 1) (v := .agg #[.iface 108 (.pointer (some a))]) rfl (by kernel_rfl) (by kernel_rfl) (by kernel_rfl) (fun _ _ _ h => h) (Or.inl ⟨by rfl, ?_⟩) hS ?_
      · rintro w' s1
        go_simp
      refine wpAnyH_all (rs := [2, 4]) (by kernel_rfl) (by simp) (fun i hi => ?_)
      simp only [List.mem_cons, List.not_mem_nil, or_false] at hi
      have HF := left6 (w := w) (W := W.drew) (s := s) (wd := wd) (a := a) (pre := pre) (x := x) hB.drew g2 g3 (fun h => by have := h.1; omega)
      have HFb := left6b (w := w) (W := W.drew) (s := s) (wd := wd) (a := a) (pre := pre) (x := x) hB.drew g2 g3 (fun h => by have := h.1; omega)
      rcases hi with rfl | rfl
      · have A2 := g2.alloc (.cells #[.iface 108 (.pointer (some a))] 42)
        have A3 := g3.alloc (.cells #[.iface 108 (.pointer (some a))] 42)
        have hSA : (W.drew.alloc (.cells #[.iface 108 (.pointer (some a))] 42)).cell? ⟨0, 0, none⟩ = some (.iface 108 (.pointer (some a))) := (World.cell?_of_block (w := W) (Below.heap_alloc _ _ _ (lt_cell hg0))).trans hg0
        have a2 := A2.cell
        have a2' := A2.frozen
        have a3 := (A3.other (B' := w.heap.size + 1 + 1) (by omega) (.string ⟨#[]⟩)).cell
        have a3' := (A3.other (B' := w.heap.size + 1 + 1) (by omega) (.string ⟨#[]⟩)).frozen
        refine wpOp_step rfl fun K hK => ?_
        go_simp
        refine hK _ _ ⟨hSA, ?_⟩
        clear hK K
        refine wpAnyH_take (i := 3) (v := .iface 40 (.pointer (some ⟨W.heap.size, 0, none⟩))) rfl (by kernel_rfl) (by kernel_rfl) (by kernel_rfl) (fun _ _ _ h => h) (Or.inl ⟨by rfl, ?_⟩) hSA ?_
        · rintro w' s1
          go_simp
        refine wpAnyH_all (rs := [4]) (by kernel_rfl) (by simp) (fun i hi => ?_)
        obtain rfl : i = 4 := by simpa using hi
        refine wpOp_step rfl fun K hK => ?_
        go_simp
        have hS4 : (((W.alloc (.cells #[.iface 108 (.pointer (some a))] 42)).setCell ⟨w.heap.size + 1 + 1, 0, none⟩ (.string ⟨#[]⟩)).drew).cell? ⟨0, 0, none⟩ = some (.iface 108 (.pointer (some a))) := ((((Below.refl w.heap.size W).alloc hB.size _).setCell (p := ⟨w.heap.size + 1 + 1, 0, none⟩) (by simp; omega) (.string ⟨#[]⟩)).cell (p := ⟨0, 0, none⟩) hgl).trans hg0
        refine hK _ _ ⟨hS4, ?_⟩
        clear hK K
        refine wpAnyH_all (rs := [5]) (by kernel_rfl) (by simp) (fun i hi => ?_)
        obtain rfl : i = 5 := by simpa using hi
        refine wpOp_step rfl fun K hK => ?_
        go_simp
        refine hK _ _ ⟨(((((Below.refl w.heap.size W).alloc hB.size _).setCell (p := ⟨w.heap.size + 1 + 1, 0, none⟩) (by simp; omega) (.string ⟨#[]⟩)).setCell (p := ⟨w.heap.size + 1 + 1 + 1, 0, none⟩) (by simp; omega) _).cell (p := ⟨0, 0, none⟩) hgl).trans hg0, wpAnyH_done (by kernel_rfl) ?_ _⟩
        clear hK K a2 a2' a3 a3' HFb
        gi_wp2
        exact ⟨(KeepsOthers.drew W).trans HF.1, HF.2⟩
      · have G2 := g2.set (.string ⟨#[]⟩)
        have c2 := g2.cell
        have c2' := g2.frozen
        have A3 := (g3.other (B' := w.heap.size + 1 + 1) (by omega) (.string ⟨#[]⟩)).alloc (.cells #[.iface 108 (.pointer (some a))] 42)
        have a3 := A3.cell
        have a3' := A3.frozen
        have hB4' := (Below.refl w.heap.size W).setCell (p := ⟨w.heap.size + 1 + 1, 0, none⟩) (by simp; omega) (.string ⟨#[]⟩)
        refine wpOp_step rfl fun K hK => ?_
        go_simp
        refine hK _ _ ⟨(hB4'.cell (p := ⟨0, 0, none⟩) hgl).trans hg0, ?_⟩
        clear hK K
        refine wpAnyH_all (rs := [2]) (by kernel_rfl) (by simp) (fun i hi => ?_)
        obtain rfl : i = 2 := by simpa using hi
        refine wpOp_step rfl fun K hK => ?_
        go_simp
        refine hK _ _ ⟨((hB4'.alloc (by have := hB.size; simpa using this) _).cell (p := ⟨0, 0, none⟩) hgl).trans hg0, ?_⟩
        clear hK K
        refine wpAnyH_take (i := 3) (v := .iface 40 (.pointer (some ⟨W.heap.size, 0, none⟩))) rfl (by kernel_rfl) (by kernel_rfl) (by kernel_rfl) (fun _ _ _ h => h) (Or.inl ⟨by rfl, ?_⟩) (((hB4'.alloc (by have := hB.size; simpa using this) _).cell (p := ⟨0, 0, none⟩) hgl).trans hg0) ?_
        · rintro w' s1
          go_simp
        refine wpAnyH_all (rs := [5]) (by kernel_rfl) (by simp) (fun i hi => ?_)
        obtain rfl : i = 5 := by simpa using hi
        refine wpOp_step rfl fun K hK => ?_
        go_simp
        refine hK _ _ ⟨(((hB4'.alloc (by have := hB.size; simpa using this) _).setCell (p := ⟨w.heap.size + 1 + 1 + 1, 0, none⟩) (by simp; omega) _).cell (p := ⟨0, 0, none⟩) hgl).trans hg0, wpAnyH_done (by kernel_rfl) ?_ _⟩
        clear hK K a3 a3' c2 c2' HF
        gi_wp2
        exact ⟨(KeepsOthers.drew W).trans HFb.1, HFb.2⟩
    · by_cases hfar : x.1 > s.size - wd
      · gi_wp2
        -- 'return', the region draws its order
        refine wpIn_region_held_round (fun w' => w'.cell? ⟨0, 0, none⟩ = some (.iface 108 (.pointer (some a)))) hmx (by kernel_rfl) (by rintro ⟨_, _, h⟩; exact h) ?_
        have hS : W.drew.cell? ⟨0, 0, none⟩ = some (.iface 108 (.pointer (some a))) := hg0
        refine wpAnyH_take (i := 0) (v := .iface 108 (.pointer (some a))) rfl (by kernel_rfl) (by kernel_rfl) (by kernel_rfl) (fun _ _ _ h => h) (Or.inl ⟨by rfl, ?_⟩) hS ?_
        · rintro w' s1
          go_simp
        refine wpAnyH_take (i := 1) (v := .agg #[.iface 108 (.pointer (some a))]) rfl (by kernel_rfl) (by kernel_rfl) (by kernel_rfl) (fun _ _ _ h => h) (Or.inl ⟨by rfl, ?_⟩) hS ?_
        · rintro w' s1
          go_simp
        refine wpAnyH_all (rs := [2, 4]) (by kernel_rfl) (by simp) (fun i hi => ?_)
        simp only [List.mem_cons, List.not_mem_nil, or_false] at hi
        have HF := left6 (w := w) (W := W.drew) (s := s) (wd := wd) (a := a) (pre := pre) (x := x) hB.drew g2 g3 (fun h => by have := h.2; omega)
        have HFb := left6b (w := w) (W := W.drew) (s := s) (wd := wd) (a := a) (pre := pre) (x := x) hB.drew g2 g3 (fun h => by have := h.2; omega)
        rcases hi with rfl | rfl
        · have A2 := g2.alloc (.cells #[.iface 108 (.pointer (some a))] 42)
          have A3 := g3.alloc (.cells #[.iface 108 (.pointer (some a))] 42)
          have hSA : (W.drew.alloc (.cells #[.iface 108 (.pointer (some a))] 42)).cell? ⟨0, 0, none⟩ = some (.iface 108 (.pointer (some a))) := (World.cell?_of_block (w := W) (Below.heap_alloc _ _ _ (lt_cell hg0))).trans hg0
          have a2 := A2.cell
          have a2' := A2.frozen
          have a3 := (A3.other (B' := w.heap.size + 1 + 1) (by omega) (.string ⟨#[]⟩)).cell
          have a3' := (A3.other (B' := w.heap.size + 1 + 1) (by omega) (.string ⟨#[]⟩)).frozen
          refine wpOp_step rfl fun K hK => ?_
          go_simp
          refine hK _ _ ⟨hSA, ?_⟩
          clear hK K
          refine wpAnyH_take (i := 3) (v := .iface 40 (.pointer (some ⟨W.heap.size, 0, none⟩))) rfl (by kernel_rfl) (by kernel_rfl) (by kernel_rfl) (fun _ _ _ h => h) (Or.inl ⟨by rfl, ?_⟩) hSA ?_
          · rintro w' s1
            go_simp
          refine wpAnyH_all (rs := [4]) (by kernel_rfl) (by simp) (fun i hi => ?_)
          obtain rfl : i = 4 := by simpa using hi
          refine wpOp_step rfl fun K hK => ?_
          go_simp
          have hS4 : (((W.alloc (.cells #[.iface 108 (.pointer (some a))] 42)).setCell ⟨w.heap.size + 1 + 1, 0, none⟩ (.string ⟨#[]⟩)).drew).cell? ⟨0, 0, none⟩ = some (.iface 108 (.pointer (some a))) := ((((Below.refl w.heap.size W).alloc hB.size _).setCell (p := ⟨w.heap.size + 1 + 1, 0, none⟩) (by simp; omega) (.string ⟨#[]⟩)).cell (p := ⟨0, 0, none⟩) hgl).trans hg0
          refine hK _ _ ⟨hS4, ?_⟩
          clear hK K
          refine wpAnyH_all (rs := [5]) (by kernel_rfl) (by simp) (fun i hi => ?_)
          obtain rfl : i = 5 := by simpa using hi
          refine wpOp_step rfl fun K hK => ?_
          go_simp
          refine hK _ _ ⟨(((((Below.refl w.heap.size W).alloc hB.size _).setCell (p := ⟨w.heap.size + 1 + 1, 0, none⟩) (by simp; omega) (.string ⟨#[]⟩)).setCell (p := ⟨w.heap.size + 1 + 1 + 1, 0, none⟩) (by simp; omega) _).cell (p := ⟨0, 0, none⟩) hgl).trans hg0, wpAnyH_done (by kernel_rfl) ?_ _⟩
          clear hK K a2 a2' a3 a3' HFb
          gi_wp2
          exact ⟨(KeepsOthers.drew W).trans HF.1, HF.2⟩
        · have G2 := g2.set (.string ⟨#[]⟩)
          have c2 := g2.cell
          have c2' := g2.frozen
          have A3 := (g3.other (B' := w.heap.size + 1 + 1) (by omega) (.string ⟨#[]⟩)).alloc (.cells #[.iface 108 (.pointer (some a))] 42)
          have a3 := A3.cell
          have a3' := A3.frozen
          have hB4' := (Below.refl w.heap.size W).setCell (p := ⟨w.heap.size + 1 + 1, 0, none⟩) (by simp; omega) (.string ⟨#[]⟩)
          refine wpOp_step rfl fun K hK => ?_
          go_simp
          refine hK _ _ ⟨(hB4'.cell (p := ⟨0, 0, none⟩) hgl).trans hg0, ?_⟩
          clear hK K
          refine wpAnyH_all (rs := [2]) (by kernel_rfl) (by simp) (fun i hi => ?_)
          obtain rfl : i = 2 := by simpa using hi
          refine wpOp_step rfl fun K hK => ?_
          go_simp
          refine hK _ _ ⟨((hB4'.alloc (by have := hB.size; simpa using this) _).cell (p := ⟨0, 0, none⟩) hgl).trans hg0, ?_⟩
          clear hK K
          refine wpAnyH_take (i := 3) (v := .iface 40 (.pointer (some ⟨W.heap.size, 0, none⟩))) rfl (by kernel_rfl) (by kernel_rfl) (by kernel_rfl) (fun _ _ _ h => h) (Or.inl ⟨by rfl, ?_⟩) (((hB4'.alloc (by have := hB.size; simpa using this) _).cell (p := ⟨0, 0, none⟩) hgl).trans hg0) ?_
          · rintro w' s1
            go_simp
          refine wpAnyH_all (rs := [5]) (by kernel_rfl) (by simp) (fun i hi => ?_)
          obtain rfl : i = 5 := by simpa using hi
          refine wpOp_step rfl fun K hK => ?_
          go_simp
          refine hK _ _ ⟨(((hB4'.alloc (by have := hB.size; simpa using this) _).setCell (p := ⟨w.heap.size + 1 + 1 + 1, 0, none⟩) (by simp; omega) _).cell (p := ⟨0, 0, none⟩) hgl).trans hg0, wpAnyH_done (by kernel_rfl) ?_ _⟩
          clear hK K a3 a3' c2 c2' HF
          gi_wp2
          exact ⟨(KeepsOthers.drew W).trans HFb.1, HFb.2⟩
      · have hsl : (Instr.slice 9 (.string s) (some (.int .i64 x.1)) (some (.int .i64 (x.1 + wd))) none).run Tryd.prog W = .ok (.string (s.extract x.1.toNat (x.1 + wd).toNat)) W := by
          rw [run_slice_string_if W 9 s .i64 .i64 x.1 (x.1 + wd) Tryd.underlying9, if_pos (by omega), if_pos (by omega)]
        have hlen : (outC s wd pre).length + (s.extract x.1.toNat (x.1 + wd).toNat).size ≤ 140737488355328 := by
          have h1 := outC_len s wd hs pre
          have h2 : (s.extract x.1.toNat (x.1 + wd).toNat).size ≤ 600 := by rw [ByteArray.size_extract]; omega
          have h3 : pre.length * 600 ≤ 600 * 600 := Nat.mul_le_mul_right _ (by omega)
          omega
        have HW := write_string w.heap.size w1.heap.size (outC s wd pre) (s.extract x.1.toNat (x.1 + wd).toNat) W hbd hlen hB.size
        clear hlen
        gi_wp2_with (refine ⟨trivial, ?_⟩; gi_at_call 10; refine (CallsIn.inRound l (callsIn_wide.2 HW)).mono ?_; clear HW; rintro e w' ⟨rfl, hat, hbl, hoth⟩)
        exact went6 hI hat hbl hoth ⟨by omega, by omega⟩ (by omega) (by omega)
  case done =>
    rintro D ys W hD rfl ⟨⟨⟨hbd, g0, g1, g2, g3, gv⟩, hlie⟩, hB⟩ hK
    obtain ⟨cb, hbb⟩ := IsBuilderF.block hbd
    rw [outC_eq] at hbd
    generalize hob : outB s wd ((List.range m).map pl) = ob at *
    have HS := string_any w.heap.size w1.heap.size ob W hbd hB.size
    gi_wp2_with (refine ⟨trivial, ?_⟩; gi_at_call 11; refine (callsIn_wide.2 HS).mono ?_; clear HS; rintro e W9 ⟨rfl, -, hbl, hoth⟩
                 have G2 : Boxed W9 (w.heap.size + 1 + 1) 9 (.string ⟨#[]⟩) := others_block hoth g2 (by omega) (by decide)
                 have G3 : Boxed W9 (w.heap.size + 1 + 1 + 1) 34 .nilIface := others_block hoth g3 (by omega) (by decide)
                 have c2 := G2.cell
                 have c2' := G2.frozen
                 have c3 := (G3.other (B' := w.heap.size + 1 + 1) (by omega) (.string ⟨ob.toArray⟩)).cell
                 have c3' := (G3.other (B' := w.heap.size + 1 + 1) (by omega) (.string ⟨ob.toArray⟩)).frozen)
    have hK0 : W9.heap[D]? = some (.deferred (some [])) := hoth D _ hK (fun e' => by cases e'; rw [hbb] at hK; cases hK) (fun _ _ e' => by cases e')
    have hK1 := (KeepsOthers.setCell W9 ⟨w.heap.size + 1 + 1, 0, none⟩ (.string ⟨ob.toArray⟩)).same D _ hK0 rfl
    have hK2 := (KeepsOthers.setCell (W9.setCell ⟨w.heap.size + 1 + 1, 0, none⟩ (.string ⟨ob.toArray⟩)) ⟨w.heap.size + 1 + 1 + 1, 0, none⟩ .nilIface).same D _ hK1 rfl
    refine ⟨by simp, .inl ⟨_, _, rfl, run_takeDeferred hK2, ?_⟩⟩
    have r2 := cell_kept (((G2.set (.string ⟨ob.toArray⟩)).other (B' := w.heap.size + 1 + 1 + 1) (by omega) .nilIface).cell) (grownBy_putObj' _ D (.deferred none)) (fun r e => by cases e; exact ⟨_, hK2, rfl⟩)
    have r3 := cell_kept (((G3.other (B' := w.heap.size + 1 + 1) (by omega) (.string ⟨ob.toArray⟩)).set .nilIface).cell) (grownBy_putObj' _ D (.deferred none)) (fun r e => by cases e; exact ⟨_, hK2, rfl⟩)
    refine ⟨.tuple #[.string ⟨ob.toArray⟩, .nilIface], ?_, ?_, .inl ⟨?_, by rw [hob]⟩⟩
    · simp [results, Tryd.f6, go_sem, r2, r3]
    · exact (((hB.trans hbl).setCell (p := ⟨w.heap.size + 1 + 1, 0, none⟩) (by simp; omega) _).setCell (p := ⟨w.heap.size + 1 + 1 + 1, 0, none⟩) (by simp; omega) _).trans (belowK_b (w := w) (Nat.le_refl _) _ D _ _ (by have := hBL.size; omega) hK2 rfl rfl)
    · intro k hk
      exact hlie (pl k) (List.mem_map.2 ⟨k, List.mem_range.2 hk, rfl⟩)
  case stop =>
    rintro D c pre W hD hpre ⟨⟨⟨pb, g2, g3, gp⟩, rfl, p, hp, hnl⟩, hB⟩ hK
    gi_wp2
    refine ⟨by simp, .inl ⟨_, _, rfl, run_takeDeferred hK, ?_⟩⟩
    have r2 := cell_kept g2.cell (grownBy_putObj' _ D (.deferred none)) (fun r e => by cases e; exact ⟨_, hK, rfl⟩)
    have r3 := cell_kept g3.cell (grownBy_putObj' _ D (.deferred none)) (fun r e => by cases e; exact ⟨_, hK, rfl⟩)
    have rp := cell_kept gp (grownBy_putObj' _ D (.deferred none)) (fun r e => by cases e; exact ⟨_, hK, rfl⟩)
    refine ⟨.tuple #[.string ⟨#[]⟩, .iface 40 (.pointer (some ⟨pb, 0, none⟩))], ?_, hB.trans (belowK_b (w := w) (Nat.le_refl _) W D _ _ (by have := hBL.size; omega) hK rfl rfl), .inr ⟨?_, _, rfl, pb, a, 0, rfl, rp, hT1, ⟨a, hT1, hT2, hT3⟩⟩⟩
    · simp [results, Tryd.f6, go_sem, r2, r3]
    · obtain ⟨k, hk, rfl⟩ := List.mem_map.1 (hpre.subset hp)
      exact ⟨k, List.mem_range.1 hk, hnl⟩
end Go.Proofs.YtniadajcdldfkaaDoor
