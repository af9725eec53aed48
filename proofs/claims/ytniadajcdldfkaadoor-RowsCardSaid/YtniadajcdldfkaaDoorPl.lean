import Derived.Test.YtniadajcdldfkaaDoorSl
namespace Go.Proofs.YtniadajcdldfkaaDoor
open Go.RowKit Go.Shelf
attribute [local go_sem] Oper.semAt_some

/-- A view's box. -/
def VBox (W : World) (B : Nat) (wd frm : Int) (sb so sn sc tb tO tn tc : Nat) (f : Bool) : Prop := W.heap[B]? = some (.cells (vcells wd frm sb so sn sc tb tO tn tc f) 32 (0, 0))
theorem VBox.c0 {W : World} {B : Nat} {wd frm : Int} {sb so sn sc tb tO tn tc : Nat} {f : Bool} (h : VBox W B wd frm sb so sn sc tb tO tn tc f) : W.cell? ⟨B, 0, none⟩ = some (.int .i64 wd) := by simp [World.cell?, show W.heap[B]? = _ from h]
theorem VBox.c1 {W : World} {B : Nat} {wd frm : Int} {sb so sn sc tb tO tn tc : Nat} {f : Bool} (h : VBox W B wd frm sb so sn sc tb tO tn tc f) : W.cell? ⟨B, 1, none⟩ = some (.int .i64 frm) := by simp [World.cell?, show W.heap[B]? = _ from h]
theorem VBox.c2 {W : World} {B : Nat} {wd frm : Int} {sb so sn sc tb tO tn tc : Nat} {f : Bool} (h : VBox W B wd frm sb so sn sc tb tO tn tc f) : W.cell? ⟨B, 2, none⟩ = some (.slice (some ⟨sb, so, none⟩) sn sc) := by simp [World.cell?, show W.heap[B]? = _ from h]
theorem VBox.c3 {W : World} {B : Nat} {wd frm : Int} {sb so sn sc tb tO tn tc : Nat} {f : Bool} (h : VBox W B wd frm sb so sn sc tb tO tn tc f) : W.cell? ⟨B, 3, none⟩ = some (.slice (some ⟨tb, tO, none⟩) tn tc) := by simp [World.cell?, show W.heap[B]? = _ from h]
theorem VBox.c4 {W : World} {B : Nat} {wd frm : Int} {sb so sn sc tb tO tn tc : Nat} {f : Bool} (h : VBox W B wd frm sb so sn sc tb tO tn tc f) : W.cell? ⟨B, 4, none⟩ = some (.bool f) := by simp [World.cell?, show W.heap[B]? = _ from h]
theorem block_own {β : Type} (B : Nat) (c : Array Value) (t : TypeId) (fz : Nat × Nat) : Own (fun (_ : β) W => W.heap[B]? = some (.cells c t fz)) := fun s X Y row hs hg hrow =>
  (hg.block B (Array.getElem?_eq_some_iff.1 hs).1 (fun e' => by obtain ⟨o, ho, hc⟩ := hrow B e'.symm; rw [show X.heap[B]? = _ from hs] at ho; cases ho; cases hc)).trans hs
theorem block_other {W : World} {B B' : Nat} {o : Obj} (h : W.heap[B]? = some o) (hne : B ≠ B') (u : Value) : (W.setCell ⟨B', 0, none⟩ u).heap[B]? = some o := (Below.heap_setCell _ _ _ _ hne).trans h
theorem heap_below {W w1 : World} {b : Nat} {o : Obj} (hb : Below W.heap.size W w1) (h : W.heap[b]? = some o) : w1.heap[b]? = some o := (hb.block b (Array.getElem?_eq_some_iff.1 h).1).trans h
theorem Kp.b {n₀ Bv : Nat} {w : World} (hn : n₀ ≤ w.heap.size) (hv : Bv < w.heap.size) (W : World) (l : Nat) (o o' : Obj) (hl : w.heap.size ≤ l) (h : W.heap[l]? = some o) (h1 : o.isCells = false) (h2 : o.isWalk = false) : Kp n₀ Bv W (W.putObj l o') :=
  ⟨belowK_b hn W l o o' hl h h1 h2, World.putObj_heap_other (by omega)⟩

/-- 'v.quickestFirst()'. -/
theorem quick_in (n : Nat) (h1 : 1 ≤ n) (wd frm : Int) (sb so sn sc tb tO tn tc : Nat) (f : Bool) (w : World) :
    CallsIn Fence.wide n Tryd.prog 26 #[.agg (vcells wd frm sb so sn sc tb tO tn tc f)] w fun e w' => e = .returned (.func (.func (goerOf f)) #[] #[.pointer (some ⟨w.heap.size + 1, 0, none⟩)]) ∧
      w' = (w.alloc (.cells (vcells wd frm sb so sn sc tb tO tn tc f) 32)).alloc (.cells #[.slice (some ⟨sb, so, none⟩) sn sc] 23) := by
  cases f
  · refine callsIn_of_wp Tryd.func26 rfl trivial ?_ rfl
    simp only [Tryd.ntmps26, List.size_toArray, List.length_cons, List.length_nil, Nat.reduceAdd, Nat.reduceSub, Array.replicate_succ, Array.replicate_zero, List.push_toArray, List.append_toArray, List.nil_append, List.cons_append]
    gi_wp2_with (refine ⟨trivial, ?_⟩; gi_at_call 31; refine (back_in _ _ _ _ _).mono ?_; rintro e w' ⟨rfl, rfl⟩)
    go_ret
    exact ⟨by simp [goerOf], rfl⟩
  · refine callsIn_of_wp Tryd.func26 rfl trivial ?_ rfl
    simp only [Tryd.ntmps26, List.size_toArray, List.length_cons, List.length_nil, Nat.reduceAdd, Nat.reduceSub, Array.replicate_succ, Array.replicate_zero, List.push_toArray, List.append_toArray, List.nil_append, List.cons_append]
    gi_wp2_with (refine ⟨trivial, ?_⟩; gi_at_call 30; refine (all_in _ _ _ _ _).mono ?_; rintro e w' ⟨rfl, rfl⟩)
    go_ret
    exact ⟨by simp [goerOf], rfl⟩

theorem goer_enters (f : Bool) (args : Array Value) (w : World) : (callFunc (goerOf f) args).run Tryd.prog w = .ok (.enter (goerOf f) args) w := by
  cases f
  · exact enters_of Tryd.func33 (by kernel_rfl) rfl args w
  · exact enters_of Tryd.func32 (by kernel_rfl) rfl args w

/-- One index more. -/
def stepP {sn : Nat} (zs : Fin sn → Nat) (ts : Fin sn → Int) (s : Int × Nat) (i : Fin sn) : Int × Nat := (wrap64 (s.1 + wrap64 ((s.2 : Int) % (zs i : Int) * ts i)), s.2 / zs i)
def walked {sn : Nat} (zs : Fin sn → Nat) (ts : Fin sn → Int) (frm : Int) (k : Nat) (l : List (Fin sn)) : Int × Nat := l.foldl (stepP zs ts) (frm, k)
theorem walked_snoc {sn : Nat} (zs : Fin sn → Nat) (ts : Fin sn → Int) (frm : Int) (k : Nat) (l : List (Fin sn)) (i : Fin sn) : walked zs ts frm k (l ++ [i]) = stepP zs ts (walked zs ts frm k l) i := by simp [walked]

theorem walked_le {sn : Nat} (zs : Fin sn → Nat) (ts : Fin sn → Int) (frm : Int) (k : Nat) (l : List (Fin sn)) : (walked zs ts frm k l).2 ≤ k := by
  have h : ∀ (l : List (Fin sn)) (s : Int × Nat), (l.foldl (stepP zs ts) s).2 ≤ s.2 := by
    intro l
    induction l with
    | nil => exact fun s => Nat.le_refl _
    | cons x l ih => exact fun s => Nat.le_trans (ih _) (Nat.div_le_self _ _)
  exact h l _

/-- Between two indices. -/
def I18 (w : World) (wd frm : Int) (sb so sn sc tb tO tc : Nat) (f : Bool) (zs : Fin sn → Nat) (ts : Fin sn → Int) (k : Nat) (pre : List (Fin sn)) (W : World) : Prop :=
  (Boxed W (w.heap.size + 1) 3 (.int .i64 ((walked zs ts frm k pre).2 : Int)) ∧ Boxed W (w.heap.size + 1 + 1) 3 (.int .i64 (walked zs ts frm k pre).1) ∧ W.heap[w.heap.size]? = some (.cells (vcells wd frm sb so sn sc tb tO sn tc f) 32 (0, 0)) ∧ W.heap[w.heap.size + 1 + 1 + 1 + 1]? = some (.cells #[.slice (some ⟨sb, so, none⟩) sn sc] 23 (0, 0))) ∧ Below w.heap.size w W
theorem I18_own {w : World} {wd frm : Int} {sb so sn sc tb tO tc : Nat} {f : Bool} {zs : Fin sn → Nat} {ts : Fin sn → Int} {k B : Nat} (hB : w.heap.size ≤ B) : OwnFrom B (I18 w wd frm sb so sn sc tb tO tc f zs ts k) :=
  OwnFrom.and (Own.from (fun s' X Y row hs hg hr => ⟨boxed_own _ _ (fun pre : List (Fin sn) => Value.int .i64 ((walked zs ts frm k pre).2 : Int)) s' X Y row hs.1 hg hr, boxed_own _ _ (fun pre : List (Fin sn) => Value.int .i64 (walked zs ts frm k pre).1) s' X Y row hs.2.1 hg hr,
    block_own _ _ _ _ s' X Y row hs.2.2.1 hg hr, block_own _ _ _ _ s' X Y row hs.2.2.2 hg hr⟩) _) (ownFrom_below (Nat.le_refl _) hB)

set_option maxRecDepth 100000 in
set_option maxHeartbeats 2000000 in
theorem place_does (w : World) (wd frm : Int) (sb so sn sc tb tO tc : Nat) (f : Bool) (hsn : sn ≤ 4) (zs : Fin sn → Nat) (ts : Fin sn → Int) (k : Nat) (hk : k ≤ 600) (hz : ∀ i, 0 < zs i) (hsb : sb < w.heap.size) (htb : tb < w.heap.size)
    (hc1 : NumsAt w sb so sn (fun i => (zs i : Int))) (hc2 : NumsAt w tb tO sn ts) :
    Calls Tryd.prog 18 #[.agg (vcells wd frm sb so sn sc tb tO sn tc f), .int .i64 k] w fun e w' => e = .returned (.int .i64 (walked zs ts frm k (inOrder sn f)).1) ∧ Below w.heap.size w w' := by
  refine (callsIn_wide (n := 3)).1 ?_
  refine callsIn_of_wp_marks Tryd.func18 rfl trivial ?_ rfl
  simp only [Tryd.ntmps18, List.size_toArray, List.length_cons, List.length_nil, Nat.reduceAdd, Nat.reduceSub, Array.replicate_succ, Array.replicate_zero, List.push_toArray, List.append_toArray, List.nil_append, List.cons_append]
  have h13 : 1 ≤ 3 := by decide
  gi_wp2_with (refine ⟨trivial, ?_⟩; gi_at_call 26; refine (quick_in 2 (by decide) wd frm sb so sn sc tb tO sn tc f _).mono ?_; rintro e w2 ⟨rfl, rfl⟩)
  have hL0 : I18 w wd frm sb so sn sc tb tO tc f zs ts k [] (((((w.alloc (.cells (vcells wd frm sb so sn sc tb tO sn tc f) 32)).alloc (.cells #[.int .i64 (k : Int)] 3)).alloc (.cells #[.int .i64 frm] 3)).alloc (.cells (vcells wd frm sb so sn sc tb tO sn tc f) 32)).alloc (.cells #[.slice (some ⟨sb, so, none⟩) sn sc] 23)) := by
    have e1 := Boxed.new (w.alloc (.cells (vcells wd frm sb so sn sc tb tO sn tc f) 32)) 3 (.int .i64 (k : Int))
    have e2 := Boxed.new ((w.alloc (.cells (vcells wd frm sb so sn sc tb tO sn tc f) 32)).alloc (.cells #[.int .i64 (k : Int)] 3)) 3 (.int .i64 frm)
    have e3 := World.alloc_heap_new ((((w.alloc (.cells (vcells wd frm sb so sn sc tb tO sn tc f) 32)).alloc (.cells #[.int .i64 (k : Int)] 3)).alloc (.cells #[.int .i64 frm] 3)).alloc (.cells (vcells wd frm sb so sn sc tb tO sn tc f) 32)) (.cells #[.slice (some ⟨sb, so, none⟩) sn sc] 23)
    simp only [World.size_alloc] at e1 e2 e3
    refine ⟨⟨((e1.alloc _).alloc _).alloc _, (e2.alloc _).alloc _, ?_, e3⟩, (((((Below.refl _ w).alloc (Nat.le_refl _) _).alloc (by simp) _).alloc (by simp; omega) _).alloc (by simp; omega) _).alloc (by simp; omega) _⟩
    rw [Below.heap_alloc _ _ _ (by simp; omega), Below.heap_alloc _ _ _ (by simp; omega), Below.heap_alloc _ _ _ (by simp; omega), Below.heap_alloc _ _ _ (by simp)]
    exact World.alloc_heap_new _ _
  have eL : (((((w.alloc (.cells (vcells wd frm sb so sn sc tb tO sn tc f) 32)).alloc (.cells #[.int .i64 (k : Int)] 3)).alloc (.cells #[.int .i64 frm] 3)).alloc (.cells (vcells wd frm sb so sn sc tb tO sn tc f) 32)).alloc (.cells #[.slice (some ⟨sb, so, none⟩) sn sc] 23)).heap.size = w.heap.size + 1 + 1 + 1 + 1 + 1 := by simp
  obtain ⟨WL, hWL⟩ : ∃ WL, (((((w.alloc (.cells (vcells wd frm sb so sn sc tb tO sn tc f) 32)).alloc (.cells #[.int .i64 (k : Int)] 3)).alloc (.cells #[.int .i64 frm] 3)).alloc (.cells (vcells wd frm sb so sn sc tb tO sn tc f) 32)).alloc (.cells #[.slice (some ⟨sb, so, none⟩) sn sc] 23)) = WL := ⟨_, rfl⟩
  rw [hWL] at hL0 eL ⊢
  have hBL : Below w.heap.size w WL := hL0.2
  have hmx : Tryd.prog.follows .mixedOrders = true := by kernel_rfl
  refine wpIn_rangeFunc_ownF rfl h13 (gf := goerOf f) (lb := #[.pointer (some ⟨w.heap.size + 1 + 1 + 1 + 1, 0, none⟩)]) rfl trivial (goer_enters f)
    (goer_stops 2 (by decide) (w.heap.size + 1 + 1 + 1 + 1) w.heap.size sb so sn sc hsn (fun i => (zs i : Int)) hsb f WL hBL.size hL0.1.2.2.2 (hc1.below hsb hBL)) Kp.t (Kp.b hBL.size (by omega)) (Below.refl _ _) (fun _ => rfl)
    (I18 w wd frm sb so sn sc tb tO tc f zs ts k) (fun _ _ _ => False) (I18_own hBL.size) (fun c => fun _ _ _ _ hs _ _ => hs) hL0 ?a1 ?assign ?body ?done ?stop
  case a1 => exact fun x => { tmps := #[.agg (vcells wd frm sb so sn sc tb tO sn tc f), .int .i64 (k : Int), .pointer (some ⟨w.heap.size, 0, none⟩), .pointer (some ⟨w.heap.size + 1, 0, none⟩), .int .i64 0, .pointer (some ⟨w.heap.size + 1 + 1, 0, none⟩), .int .i64 (x.1 : Int), .int .i64 (zs x : Int),
      .pointer (some ⟨w.heap.size, 1, none⟩), .int .i64 frm, .agg (vcells wd frm sb so sn sc tb tO sn tc f), .func (.func (goerOf f)) #[] #[.pointer (some ⟨w.heap.size + 1 + 1 + 1 + 1, 0, none⟩)], .int .i64 (x.1 : Int), .int .i64 (zs x : Int), undef, undef, undef, undef, undef, undef, undef, undef, undef, undef, undef, undef, undef, undef, undef], defers := [] }
  case assign =>
    intro l x W K hK
    gi_wp2
    exact hK
  case body =>
    rintro l pre x W ⟨⟨g1, g2, g0, g4⟩, hB⟩ hlt
    have k1 := g1.cell
    have k1' := g1.frozen
    have k2 := g2.cell
    have k2' := g2.frozen
    have kv : W.cell? ⟨w.heap.size, 3, none⟩ = some (.slice (some ⟨tb, tO, none⟩) sn tc) := VBox.c3 g0
    have kt := (hc2.below htb hB) x
    have hxl : (x.1 : Int) < (sn : Int) := by have := x.2; omega
    have hzx : (0 : Int) < (zs x : Int) := by have := hz x; omega
    have hz0 : ¬ zs x = 0 := by have := hz x; omega
    have hws := walked_snoc zs ts frm k pre x
    obtain ⟨p, q, hpq⟩ : ∃ p q, walked zs ts frm k pre = (p, q) := ⟨_, _, rfl⟩
    rw [hpq] at g1 g2 k1 k2 hws
    dsimp only at g1 g2 k1 k2
    have hS : W.drew.cell? ⟨w.heap.size + 1, 0, none⟩ = some (.int .i64 (q : Int)) ∧ W.drew.cell? ⟨w.heap.size, 3, none⟩ = some (.slice (some ⟨tb, tO, none⟩) sn tc) ∧ W.drew.cell? ⟨tb, tO + x.1, none⟩ = some (.int .i64 (ts x)) := ⟨k1, kv, kt⟩
    gi_wp2
    refine wpIn_region_held_round (fun w' => w'.cell? ⟨w.heap.size + 1, 0, none⟩ = some (.int .i64 (q : Int)) ∧ w'.cell? ⟨w.heap.size, 3, none⟩ = some (.slice (some ⟨tb, tO, none⟩) sn tc) ∧ w'.cell? ⟨tb, tO + x.1, none⟩ = some (.int .i64 (ts x))) hmx (by kernel_rfl) (by rintro ⟨_, _, h⟩; exact h) ?_
    refine wpAnyH_take (i := 1) (v := .int .i64 (q : Int)) rfl (by kernel_rfl) (by kernel_rfl) (by kernel_rfl) (fun _ _ _ h => h) (Or.inl ⟨by rfl, ?_⟩) hS ?_
    · rintro w' ⟨s1, s2, s3⟩
      go_simp
    refine wpAnyH_take (i := 2) (v := .int .i64 (zs x : Int)) rfl (by kernel_rfl) (by kernel_rfl) (by kernel_rfl) (fun _ _ _ h => h) (Or.inl ⟨by rfl, ?_⟩) hS ?_
    · rintro w' ⟨s1, s2, s3⟩
      go_simp
    refine wpAnyH_take (i := 3) (v := .int .i64 ((q : Int) % (zs x : Int))) rfl (by kernel_rfl) (by kernel_rfl) (by kernel_rfl) (fun _ _ _ h => h) (Or.inl ⟨by rfl, ?_⟩) hS ?_
    · rintro w' ⟨s1, s2, s3⟩
      go_simp
      exact Int.tmod_eq_emod_of_nonneg (by omega)
    refine wpAnyH_take (i := 4) (v := .pointer (some ⟨w.heap.size, 3, none⟩)) rfl (by kernel_rfl) (by kernel_rfl) (by kernel_rfl) (fun _ _ _ h => h) (Or.inl ⟨by rfl, ?_⟩) hS ?_
    · rintro w' ⟨s1, s2, s3⟩
      go_simp
    refine wpAnyH_take (i := 5) (v := .slice (some ⟨tb, tO, none⟩) sn tc) rfl (by kernel_rfl) (by kernel_rfl) (by kernel_rfl) (fun _ _ _ h => h) (Or.inl ⟨by rfl, ?_⟩) hS ?_
    · rintro w' ⟨s1, s2, s3⟩
      go_simp
    refine wpAnyH_take (i := 6) (v := .int .i64 (x.1 : Int)) rfl (by kernel_rfl) (by kernel_rfl) (by kernel_rfl) (fun _ _ _ h => h) (Or.inl ⟨by rfl, ?_⟩) hS ?_
    · rintro w' ⟨s1, s2, s3⟩
      go_simp
    refine wpAnyH_take (i := 7) (v := .pointer (some ⟨tb, tO + x.1, none⟩)) rfl (by kernel_rfl) (by kernel_rfl) (by kernel_rfl) (fun _ _ _ h => h) (Or.inl ⟨by rfl, ?_⟩) hS ?_
    · rintro w' ⟨s1, s2, s3⟩
      go_simp
    refine wpAnyH_take (i := 8) (v := .int .i64 (ts x)) rfl (by kernel_rfl) (by kernel_rfl) (by kernel_rfl) (fun _ _ _ h => h) (Or.inl ⟨by rfl, ?_⟩) hS ?_
    · rintro w' ⟨s1, s2, s3⟩
      go_simp
    refine wpAnyH_take (i := 9) (v := .int .i64 (wrap64 ((q : Int) % (zs x : Int) * ts x))) rfl (by kernel_rfl) (by kernel_rfl) (by kernel_rfl) (fun _ _ _ h => h) (Or.inl ⟨by rfl, ?_⟩) hS ?_
    · rintro w' ⟨s1, s2, s3⟩
      go_simp
      exact IntWalk.i64_left _
    refine wpAnyH_all (rs := [0]) (by kernel_rfl) (by simp) (fun i hi => ?_)
    obtain rfl : i = 0 := by simpa using hi
    refine wpOp_step rfl fun K hK => ?_
    go_simp
    refine hK _ _ ⟨hS, ?_⟩
    clear hK K
    refine wpAnyH_take (i := 10) (v := .int .i64 (wrap64 (p + wrap64 ((q : Int) % (zs x : Int) * ts x)))) rfl (by kernel_rfl) (by kernel_rfl) (by kernel_rfl) (fun _ _ _ h => h) (Or.inl ⟨by rfl, ?_⟩) hS ?_
    · rintro w' ⟨s1, s2, s3⟩
      go_simp
      exact IntWalk.i64_left _
    refine wpAnyH_all (rs := [11]) (by kernel_rfl) (by simp) (fun i hi => ?_)
    obtain rfl : i = 11 := by simpa using hi
    refine wpOp_step rfl fun K hK => ?_
    go_simp
    have G2 := Boxed.set (.int .i64 (wrap64 (p + wrap64 ((q : Int) % (zs x : Int) * ts x)))) g2
    have G1 := g1.other (B' := w.heap.size + 1 + 1) (by omega) (.int .i64 (wrap64 (p + wrap64 ((q : Int) % (zs x : Int) * ts x))))
    have G0 := block_other g0 (B' := w.heap.size + 1 + 1) (by omega) (.int .i64 (wrap64 (p + wrap64 ((q : Int) % (zs x : Int) * ts x))))
    have G4 := block_other g4 (B' := w.heap.size + 1 + 1) (by omega) (.int .i64 (wrap64 (p + wrap64 ((q : Int) % (zs x : Int) * ts x))))
    have GB : Below w.heap.size W (W.setCell ⟨w.heap.size + 1 + 1, 0, none⟩ (.int .i64 (wrap64 (p + wrap64 ((q : Int) % (zs x : Int) * ts x))))) := (Below.refl w.heap.size W).setCell (p := ⟨w.heap.size + 1 + 1, 0, none⟩) (by simp; omega) _
    have GK := KeepsOthers.setCell W ⟨w.heap.size + 1 + 1, 0, none⟩ (.int .i64 (wrap64 (p + wrap64 ((q : Int) % (zs x : Int) * ts x))))
    refine hK _ _ ⟨⟨G1.cell, VBox.c3 G0, (GB.cell (p := ⟨tb, tO + x.1, none⟩) htb).trans kt⟩, wpAnyH_done (by kernel_rfl) ?_ _⟩
    clear hK K hS k1 k1' k2 k2' kv
    obtain ⟨W5, hW5⟩ : ∃ W5, W.setCell ⟨w.heap.size + 1 + 1, 0, none⟩ (.int .i64 (wrap64 (p + wrap64 ((q : Int) % (zs x : Int) * ts x)))) = W5 := ⟨_, rfl⟩
    rw [hW5] at G0 G1 G2 G4 GB GK
    have k1 := G1.cell
    have k1' := G1.frozen
    have hqk : q ≤ 600 := by have := walked_le zs ts frm k pre; rw [hpq] at this; exact Nat.le_trans this hk
    have hqz : wrap64 ((q : Int) / (zs x : Int)) = ((q / zs x : Nat) : Int) := by
      rw [← Int.natCast_ediv]
      have := Nat.div_le_self q (zs x)
      generalize q / zs x = u at this ⊢
      unfold wrap64; omega
    gi_wp2
    rw [hqz]
    refine ⟨(GK.trans (KeepsOthers.setCell W5 _ _)).trans (KeepsOthers.drew _), ⟨(GB.setCell (p := ⟨w.heap.size + 1, 0, none⟩) (by simp) _).drew, (block_other G4 (by omega) _).trans g4.symm⟩, ⟨?_, ?_, block_other G0 (by omega) _, block_other G4 (by omega) _⟩, ((hB.trans GB).setCell (p := ⟨w.heap.size + 1, 0, none⟩) (by simp) _).drew⟩
    · rw [hws]
      exact Boxed.set (.int .i64 ((q / zs x : Nat) : Int)) G1
    · rw [hws]
      exact G2.other (by omega) _
  case done =>
    rintro D ys W hD rfl ⟨⟨g1, g2, g0, g4⟩, hB⟩ hK
    have k2 := g2.cell
    gi_wp2
    refine ⟨by simp, .inl ⟨_, _, rfl, run_takeDeferred hK, ?_⟩⟩
    exact ⟨_, results_tmp rfl _ _ _, rfl, hB.trans (belowK_b (w := w) (Nat.le_refl _) W D _ _ (by have := hBL.size; omega) hK rfl rfl)⟩
  case stop =>
    rintro D c pre W _ _ h _
    exact h.elim
end Go.Proofs.YtniadajcdldfkaaDoor
