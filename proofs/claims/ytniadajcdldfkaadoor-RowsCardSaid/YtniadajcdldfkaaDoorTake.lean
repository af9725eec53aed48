import Derived.Test.YtniadajcdldfkaaDoorBase
import Derived.Test.YtniadajcdldfkaaDoorFit
import Derived.Test.YtniadajcdldfkaaDoorTk
namespace Go.Proofs.YtniadajcdldfkaaDoor
open Go.RowKit PouchTake

def ViewDoes (W0 w : World) (s : ByteArray) (V : Value) (good : Bool) (out : ByteArray) : Prop :=
  Calls Tryd.prog 6 #[V, .string s] w fun e w' => Below w.heap.size w w' ∧ ((good = true ∧ e = .returned (.tuple #[.string out, .nilIface])) ∨ (good = false ∧ ∃ x, e = .returned (.tuple #[.string ⟨#[]⟩, x]) ∧ ViewErr W0 w' x))

set_option maxHeartbeats 1000000 in
theorem take4 {W0 w : World} (h0 : Facts W0) (hb : Below W0.heap.size W0 w) {s : ByteArray} (hs : s.size ≤ 600) {wd frm : Int} {sb so sn sc tb tO tn tc : Nat} {f good : Bool} {out : ByteArray}
    (HV : ∀ w', Below w.heap.size w w' → ViewDoes W0 w' s (.agg (vcells wd frm sb so sn sc tb tO tn tc f)) good out) :
    Calls Tryd.prog 4 #[.string s, .int .i64 wd, .int .i64 frm, .slice (some ⟨sb, so, none⟩) sn sc, .slice (some ⟨tb, tO, none⟩) tn tc, .bool f] w fun e w' =>
      ((good = true ∧ e = .returned (.tuple #[.string out, .int .i64 0])) ∨ (good = false ∧ e = .returned (.tuple #[.string ⟨#[]⟩, .int .i64 6]))) ∧ Below w.heap.size w w' := by
  have hs' : ¬ (600 : Int) < (s.size : Int) := by omega
  have hB1 : Below w.heap.size w (w.alloc (.cells (vcells wd frm sb so sn sc tb tO tn tc f) 32)) := (Below.refl _ w).alloc (Nat.le_refl _) _
  have HV' := HV _ hB1
  unfold ViewDoes at HV'
  clear HV
  have h0' := hid h0
  have hb' := hid hb
  have hB1' := hid hB1
  clear h0 hb hB1
  go_enter Tryd.func4, Tryd.ntmps4
  go_wp2_with (first
    | (go_at_call 6; refine HV'.mono ?_; clear HV'; rintro e w1 ⟨hb1, hcase⟩; have hB2 := hid (hB1'.out.trans (hb1.mono hB1'.out.size)); rcases hcase with ⟨hg, rfl⟩ | ⟨hg, x, rfl, hx⟩; rotate_left; have hx' := hid hx; obtain ⟨pb, a, g, rfl, -⟩ := hx; rotate_left)
    | (go_at_call 7; refine (errno_of h0'.out (hb'.out.trans (hB2.out.mono hb'.out.size)) hx'.out).mono ?_; rintro e w2 ⟨rfl, hb2⟩)
    | (go_at_call 7; refine (errno_nil _).mono ?_; rintro e w2 ⟨rfl, hb2⟩))
  · go_ret2
    exact ⟨.inl ⟨hg, rfl⟩, hB2.out.trans (hb2.mono hB2.out.size)⟩
  · go_ret2
    exact ⟨.inr ⟨hg, rfl⟩, hB2.out.trans (hb2.mono hB2.out.size)⟩

theorem take4_long {w : World} {s : ByteArray} (hs : ¬ s.size ≤ 600) (wd frm : Int) (S T : Value) (f : Bool) :
    Calls Tryd.prog 4 #[.string s, .int .i64 wd, .int .i64 frm, S, T, .bool f] w fun e w' => e = .returned (.tuple #[.string ⟨#[]⟩, .int .i64 1]) ∧ Below w.heap.size w w' := by
  have hs' : (600 : Int) < (s.size : Int) := by omega
  go_enter Tryd.func4, Tryd.ntmps4
  go_wp2
  go_ret2
  exact ⟨rfl, Below.refl _ _⟩

def clampP (x : Int) : P64 := if h : -1000000 ≤ x ∧ x ≤ 1000000 then ⟨x, h⟩ else ⟨0, by omega⟩
theorem clampP_eq {x : Int} (h : -1000000 ≤ x ∧ x ≤ 1000000) : (clampP x).1 = x := by unfold clampP; rw [dif_pos h]

open Classical in
/-- view.Take, where check lets the view pass. -/
theorem view_good {W0 w : World} (h0 : Facts W0) (hb : Below W0.heap.size W0 w) {s : ByteArray} (hs : s.size ≤ 600) {wd frm : Int} {sb so sn sc tb tO tn tc : Nat} {f : Bool} {m : Nat} (pl : Nat → Int)
    (hm : m ≤ 600) (hwd : 1 ≤ wd ∧ wd ≤ 16) (hpl : ∀ k, k < m → -1000000 ≤ pl k ∧ pl k ≤ 1000000)
    (HC : ∀ w', Below w.heap.size w w' → CountDoes W0 w' (.agg (vcells wd frm sb so sn sc tb tO tn tc f)) s.size true m)
    (HP : ∀ w', Below w.heap.size w w' → ∀ k : Nat, k < m → Calls Tryd.prog 18 #[.agg (vcells wd frm sb so sn sc tb tO tn tc f), .int .i64 k] w' fun e w'' => e = .returned (.int .i64 (pl k)) ∧ Below w'.heap.size w' w'') :
    ViewDoes W0 w s (.agg (vcells wd frm sb so sn sc tb tO tn tc f)) (decide (∀ k, k < m → Lies s wd (pl k))) (bytes (((List.range m).map pl).flatMap fun p => piece s.data.toList wd p)) := by
  have hcl : ∀ k, k < m → (clampP (pl k)).1 = pl k := fun k hk => clampP_eq (hpl k hk)
  refine (take6 W0 w hb (told7 h0) s hs wd frm sb so sn sc tb tO tn tc f m hm hwd (fun k => clampP (pl k)) HC (fun W' hW' k hk => by rw [hcl k hk]; exact HP W' hW' k hk)).mono ?_
  rintro e w' ⟨hB, h⟩
  refine ⟨hB, ?_⟩
  rcases h with ⟨hl, he⟩ | ⟨hbad, x, he, hx⟩
  · have hall : ∀ k, k < m → Lies s wd (pl k) := fun k hk => by have := hl k hk; rwa [hcl k hk] at this
    refine .inl ⟨decide_eq_true hall, ?_⟩
    rw [he]
    have e1 : outB s wd ((List.range m).map fun k => clampP (pl k)) = ((List.range m).map pl).flatMap fun p => piece s.data.toList wd p := by
      rw [outB_eq s wd (by omega) _ (fun p hp => by obtain ⟨k, hk, rfl⟩ := List.mem_map.1 hp; exact hl k (List.mem_range.1 hk)), List.map_map]
      congr 1
      exact List.map_congr_left (fun k hk => hcl k (List.mem_range.1 hk))
    rw [e1]
    rfl
  · refine .inr ⟨decide_eq_false (fun hall => ?_), x, he, hx⟩
    obtain ⟨k, hk, hn⟩ := hbad
    rw [hcl k hk] at hn
    exact hn (hall k hk)

theorem view_bad {W0 w : World} {s : ByteArray} {wd frm : Int} {sb so sn sc tb tO tn tc : Nat} {f : Bool} {m : Nat} (out : ByteArray)
    (HC : ∀ w', Below w.heap.size w w' → CountDoes W0 w' (.agg (vcells wd frm sb so sn sc tb tO tn tc f)) s.size false m) :
    ViewDoes W0 w s (.agg (vcells wd frm sb so sn sc tb tO tn tc f)) false out :=
  (take6_bad W0 w s wd frm sb so sn sc tb tO tn tc f m HC).mono fun _ _ ⟨hB, h⟩ => ⟨hB, .inr ⟨rfl, h⟩⟩

theorem items_any {W0 w : World} {S : Value} {m : Nat} (h : ItemsDoes W0 w S false m) (m' : Nat) : ItemsDoes W0 w S false m' := by
  unfold ItemsDoes at h ⊢
  exact h.mono fun _ _ ⟨hB, hc⟩ => ⟨hB, hc.elim (fun h => by cases h.1) (fun h => .inr h)⟩
theorem count_any {W0 w : World} {v : Value} {len : Int} {m : Nat} (h : CountDoes W0 w v len false m) (m' : Nat) : CountDoes W0 w v len false m' := by
  unfold CountDoes at h ⊢
  exact h.mono fun _ _ ⟨hB, hc⟩ => ⟨hB, hc.elim (fun h => by cases h.1) (fun h => .inr h)⟩

theorem count_one {W0 w : World} (h0 : Facts W0) (hb : Below W0.heap.size W0 w) (wd frm n st len : Int) (sb so sc tb tO tc : Nat) (f : Bool) (hn : In64 n) (hc1 : w.cell? ⟨sb, so, none⟩ = some (.int .i64 n)) (hc2 : w.cell? ⟨tb, tO, none⟩ = some (.int .i64 st)) :
    CountDoes W0 w (.agg (vcells wd frm sb so 1 sc tb tO 1 tc f)) len (okOne len wd frm n st) n.toNat := by
  have HI : ∀ w', Below w.heap.size w w' → ItemsDoes W0 w' (.slice (some ⟨sb, so, none⟩) 1 sc) (decide (0 ≤ n ∧ n ≤ 9999)) n.toNat := fun w' h => items_one h0 (hb.trans (h.mono hb.size)) n sb so sc hn (at_below hc1 h)
  have HF : ∀ w', Below w.heap.size w w' → FarDoes w' (.agg (vcells wd frm sb so 1 sc tb tO 1 tc f)) (farB n st) := fun w' h => far_one wd frm n st sb so sc tb tO tc f (at_below hc1 h) (at_below hc2 h)
  rw [← okC_one]
  by_cases hg : 0 ≤ n ∧ n ≤ 9999
  · exact count_does h0 hb wd frm len sb so 1 sc tb tO tc f _ _ n.toNat (by omega) HI HF
  · rw [decide_eq_false hg] at HI ⊢
    have := count_does h0 hb wd frm len sb so 1 sc tb tO tc f false (farB n st) 0 (by omega) (fun w' h => items_any (HI w' h) 0) HF
    have e : okC false (farB n st) n.toNat wd frm len = false := rfl
    rw [e]
    exact count_any this _

theorem count_two {W0 w : World} (h0 : Facts W0) (hb : Below W0.heap.size W0 w) (wd frm a b c d len : Int) (sb so sc tb tO tc : Nat) (f : Bool) (ha : In64 a) (hc1 : w.cell? ⟨sb, so, none⟩ = some (.int .i64 a)) (hc1' : w.cell? ⟨sb, so + 1, none⟩ = some (.int .i64 b)) (hc2 : w.cell? ⟨tb, tO, none⟩ = some (.int .i64 c)) (hc2' : w.cell? ⟨tb, tO + 1, none⟩ = some (.int .i64 d)) :
    CountDoes W0 w (.agg (vcells wd frm sb so 2 sc tb tO 2 tc f)) len (okTwo len wd frm a b c d) (a * b).toNat := by
  have HI : ∀ w', Below w.heap.size w w' → ItemsDoes W0 w' (.slice (some ⟨sb, so, none⟩) 2 sc) (decide ((0 ≤ a ∧ a ≤ 9999) ∧ (0 ≤ b ∧ b ≤ 9999))) (a * b).toNat := fun w' h => items_two h0 (hb.trans (h.mono hb.size)) a b sb so sc ha (at_below hc1 h) (at_below hc1' h)
  have HF : ∀ w', Below w.heap.size w w' → FarDoes w' (.agg (vcells wd frm sb so 2 sc tb tO 2 tc f)) (farB a c || farB b d) := fun w' h => far_two wd frm a b c d sb so sc tb tO tc f (at_below hc1 h) (at_below hc1' h) (at_below hc2 h) (at_below hc2' h)
  rw [← okC_two]
  by_cases hg : (0 ≤ a ∧ a ≤ 9999) ∧ (0 ≤ b ∧ b ≤ 9999)
  · have q2 : a * b ≤ 9999 * 9999 := Int.mul_le_mul (by omega) (by omega) (by omega) (by omega)
    exact count_does h0 hb wd frm len sb so 2 sc tb tO tc f _ _ (a * b).toNat (by omega) HI HF
  · rw [decide_eq_false hg] at HI ⊢
    have := count_does h0 hb wd frm len sb so 2 sc tb tO tc f false (farB a c || farB b d) 0 (by omega) (fun w' h => items_any (HI w' h) 0) HF
    have e : okC false (farB a c || farB b d) (a * b).toNat wd frm len = false := rfl
    rw [e]
    exact count_any this _

/-- What Take answers, out of what view.Take does. -/
theorem take_of_view {W0 w : World} (h0 : Facts W0) (hb : Below W0.heap.size W0 w) {s : ByteArray} (hs : s.size ≤ 600) {wd frm : Int} {sb so sc tb tO tc : Nat} {f : Bool} {sh st : List Int}
    (HV : ∀ w', Below w.heap.size w w' → ViewDoes W0 w' s (.agg (vcells wd frm sb so sh.length sc tb tO st.length tc f)) (fair s.data.toList wd frm sh st f) (bytes ((offs (dims sh st f)).flatMap fun o => piece s.data.toList wd (frm + o)))) :
    Calls Tryd.prog 4 #[.string s, .int .i64 wd, .int .i64 frm, .slice (some ⟨sb, so, none⟩) sh.length sc, .slice (some ⟨tb, tO, none⟩) st.length tc, .bool f] w fun e w' =>
      e = .returned (.tuple #[.string (bytes (take s.data.toList wd frm sh st f).1), .int .i64 (take s.data.toList wd frm sh st f).2]) ∧ Below w.heap.size w w' := by
  have hl : ¬ 600 < s.data.toList.length := by rw [size_list]; omega
  refine (take4 h0 hb hs HV).mono ?_
  rintro e w' ⟨h, hB⟩
  refine ⟨?_, hB⟩
  unfold take
  rw [if_neg hl]
  rcases h with ⟨hg, he⟩ | ⟨hg, he⟩
  · rw [he, if_pos hg]
  · rw [he, if_neg (by rw [hg]; simp)]
    rfl

open Classical in
theorem does_one {W0 w : World} (h0 : Facts W0) (hb : Below W0.heap.size W0 w) {s : ByteArray} (hs : s.size ≤ 600) {wd frm n t : Int} {sb so sc tb tO tc : Nat} {f : Bool} (hn : In64 n)
    (hc1 : w.cell? ⟨sb, so, none⟩ = some (.int .i64 n)) (hc2 : w.cell? ⟨tb, tO, none⟩ = some (.int .i64 t)) :
    ViewDoes W0 w s (.agg (vcells wd frm sb so 1 sc tb tO 1 tc f)) (fair s.data.toList wd frm [n] [t] f) (bytes ((offs (dims [n] [t] f)).flatMap fun o => piece s.data.toList wd (frm + o))) := by
  have k1 : ∀ w', Below w.heap.size w w' → w'.cell? ⟨sb, so, none⟩ = some (.int .i64 n) := fun w' h => (h.cell (p := ⟨sb, so, none⟩) (lt_of_cell hc1)).trans hc1
  have k2 : ∀ w', Below w.heap.size w w' → w'.cell? ⟨tb, tO, none⟩ = some (.int .i64 t) := fun w' h => (h.cell (p := ⟨tb, tO, none⟩) (lt_of_cell hc2)).trans hc2
  have HC : ∀ w', Below w.heap.size w w' → CountDoes W0 w' (.agg (vcells wd frm sb so 1 sc tb tO 1 tc f)) s.size (okOne s.size wd frm n t) n.toNat := fun w' h => count_one h0 (hb.trans (h.mono hb.size)) wd frm n t s.size sb so sc tb tO tc f hn (k1 w' h) (k2 w' h)
  cases hok : okOne s.size wd frm n t with
  | false =>
    rw [hok] at HC
    have hf : fair s.data.toList wd frm [n] [t] f = false := by
      cases hq : fair s.data.toList wd frm [n] [t] f with
      | false => rfl
      | true => rw [((fair_one s wd frm n t f).1 hq).1] at hok; cases hok
    rw [hf]
    exact view_bad _ HC
  | true =>
    rw [hok] at HC
    have ho := of_decide_eq_true hok
    obtain ⟨a1, a2, a3, a4, a5, a6, a7, a8⟩ := ho
    have hnn : ((n.toNat : Nat) : Int) = n := Int.toNat_of_nonneg a3
    have hv := view_good h0 hb hs (f := f) (sb := sb) (so := so) (sc := sc) (tb := tb) (tO := tO) (tc := tc) (fun k => frm + k * t) (by omega) ⟨a1, a2⟩ (fun k hk => by
        by_cases h1 : 1 < n.toNat
        · have := mul_small (x := (k : Int)) (y := t) (by omega) (by omega) (by omega) (by omega)
          omega
        · obtain rfl : k = 0 := by omega
          omega) HC (fun w' h k hk => place_one wd frm t n.toNat k sb so sc tb tO tc f hk (by omega) ⟨a6, by omega⟩ (fun h1 => by omega) (by rw [hnn]; exact k1 w' h) (k2 w' h))
    have hf : fair s.data.toList wd frm [n] [t] f = decide (∀ k, k < n.toNat → Lies s wd (frm + k * t)) := by
      rw [Bool.eq_iff_iff, fair_one, hok, decide_eq_true_iff]
      simp
    have ho : ((offs (dims [n] [t] f)).flatMap fun o => piece s.data.toList wd (frm + o)) = ((List.range n.toNat).map fun k : Nat => frm + k * t).flatMap fun p => piece s.data.toList wd p := by
      rw [dims_one, offs_one, List.flatMap_map, List.flatMap_map]
    rw [hf, ho]
    exact hv

theorem fair_neg {s : Bytes} {wd frm a b c d : Int} {f : Bool} (h : ¬ (0 ≤ a ∧ 0 ≤ b)) : fair s wd frm [a, b] [c, d] f = false := by
  cases hq : fair s wd frm [a, b] [c, d] f with
  | false => rfl
  | true =>
    exfalso
    unfold fair at hq
    simp only [Bool.and_eq_true, List.all_cons, decide_eq_true_eq] at hq
    omega

/-- Where an item lies, by its number. -/
def plTwo (frm : Int) (a b : Nat) (c d : Int) (f : Bool) (k : Nat) : Int :=
  if f then frm + (k : Int) % (a : Int) * c + (k : Int) / (a : Int) * d else frm + (k : Int) % (b : Int) * d + (k : Int) / (b : Int) * c

theorem offs_pl (frm : Int) (a b : Nat) (c d : Int) (f : Bool) : ((offs (dims [(a : Int), (b : Int)] [c, d] f)).map fun o => frm + o) = (List.range (a * b)).map (plTwo frm a b c d f) := by
  cases f
  · show ((offs [((a : Int), c), ((b : Int), d)]).map fun o => frm + o) = _
    rw [offs_two, List.map_map]
    refine List.map_congr_left (fun k _ => ?_)
    simp only [Function.comp_apply, plTwo, Bool.false_eq_true, if_false]
    omega
  · show ((offs [((b : Int), d), ((a : Int), c)]).map fun o => frm + o) = _
    rw [offs_two, List.map_map, Nat.mul_comm]
    refine List.map_congr_left (fun k _ => ?_)
    simp only [Function.comp_apply, plTwo, if_true]
    omega

open Classical in
theorem does_two {W0 w : World} (h0 : Facts W0) (hb : Below W0.heap.size W0 w) {s : ByteArray} (hs : s.size ≤ 600) {wd frm a b c d : Int} {sb so sc tb tO tc : Nat} {f : Bool} (ha : In64 a)
    (hc1 : w.cell? ⟨sb, so, none⟩ = some (.int .i64 a)) (hc1' : w.cell? ⟨sb, so + 1, none⟩ = some (.int .i64 b)) (hc2 : w.cell? ⟨tb, tO, none⟩ = some (.int .i64 c)) (hc2' : w.cell? ⟨tb, tO + 1, none⟩ = some (.int .i64 d)) :
    ViewDoes W0 w s (.agg (vcells wd frm sb so 2 sc tb tO 2 tc f)) (fair s.data.toList wd frm [a, b] [c, d] f) (bytes ((offs (dims [a, b] [c, d] f)).flatMap fun o => piece s.data.toList wd (frm + o))) := by
  have k1 : ∀ w', Below w.heap.size w w' → w'.cell? ⟨sb, so, none⟩ = some (.int .i64 a) := fun w' h => (h.cell (p := ⟨sb, so, none⟩) (lt_of_cell hc1)).trans hc1
  have k1' : ∀ w', Below w.heap.size w w' → w'.cell? ⟨sb, so + 1, none⟩ = some (.int .i64 b) := fun w' h => (h.cell (p := ⟨sb, so + 1, none⟩) (lt_of_cell hc1')).trans hc1'
  have k2 : ∀ w', Below w.heap.size w w' → w'.cell? ⟨tb, tO, none⟩ = some (.int .i64 c) := fun w' h => (h.cell (p := ⟨tb, tO, none⟩) (lt_of_cell hc2)).trans hc2
  have k2' : ∀ w', Below w.heap.size w w' → w'.cell? ⟨tb, tO + 1, none⟩ = some (.int .i64 d) := fun w' h => (h.cell (p := ⟨tb, tO + 1, none⟩) (lt_of_cell hc2')).trans hc2'
  have HC : ∀ w', Below w.heap.size w w' → CountDoes W0 w' (.agg (vcells wd frm sb so 2 sc tb tO 2 tc f)) s.size (okTwo s.size wd frm a b c d) (a * b).toNat := fun w' h => count_two h0 (hb.trans (h.mono hb.size)) wd frm a b c d s.size sb so sc tb tO tc f ha (k1 w' h) (k1' w' h) (k2 w' h) (k2' w' h)
  by_cases hneg : 0 ≤ a ∧ 0 ≤ b
  · obtain ⟨an, rfl⟩ : ∃ an : Nat, a = an := ⟨a.toNat, by omega⟩
    obtain ⟨bn, rfl⟩ : ∃ bn : Nat, b = bn := ⟨b.toNat, by omega⟩
    cases hok : okTwo s.size wd frm an bn c d with
    | false =>
      rw [hok] at HC
      have hf : fair s.data.toList wd frm [(an : Int), (bn : Int)] [c, d] f = false := by
        cases hq : fair s.data.toList wd frm [(an : Int), (bn : Int)] [c, d] f with
        | false => rfl
        | true => rw [((fair_two s wd frm an bn c d f).1 hq).1] at hok; cases hok
      rw [hf]
      exact view_bad _ HC
    | true =>
      rw [hok] at HC
      obtain ⟨a1, a2, a3, a4, a5, a6, a7, a8, a9, a10, a11⟩ := of_decide_eq_true hok
      have hm : ((an : Int) * (bn : Int)).toNat = an * bn := by rw [← Int.natCast_mul, Int.toNat_natCast]
      rw [hm] at HC
      have hm6 : an * bn ≤ 600 := by have : ((an * bn : Nat) : Int) ≤ 600 := by rw [Int.natCast_mul]; exact a7
                                     omega
      have hcd : ∀ k, k < an * bn → (1 < an → -600 ≤ c ∧ c ≤ 600) ∧ (1 < bn → -600 ≤ d ∧ d ≤ 600) := fun k hk => by
        have hnz : ¬ (an : Int) * (bn : Int) = 0 := by rw [← Int.natCast_mul]; omega
        rcases a11 with h | ⟨h1, h2⟩
        · exact absurd h hnz
        · exact ⟨fun _ => by omega, fun _ => by omega⟩
      have HP : ∀ w', Below w.heap.size w w' → ∀ k : Nat, k < an * bn → Calls Tryd.prog 18 #[.agg (vcells wd frm sb so 2 sc tb tO 2 tc f), .int .i64 k] w' fun e w'' => e = .returned (.int .i64 (plTwo frm an bn c d f k)) ∧ Below w'.heap.size w' w'' := fun w' h k hk => by
        obtain ⟨q1, q2⟩ := hcd k hk
        exact place_two wd frm c d an bn k sb so sc tb tO tc f hk hm6 ⟨a9, by omega⟩ q1 q2 (k1 w' h) (k1' w' h) (k2 w' h) (k2' w' h)
      have small : ∀ (k q : Nat) (x : Int), k < 600 → q ≤ 600 → (1 < q → -600 ≤ x ∧ x ≤ 600) → 0 < q → -360000 ≤ (k : Int) % (q : Int) * x ∧ (k : Int) % (q : Int) * x ≤ 360000 := fun k q x hk hq hx h0 => by
        by_cases h1 : 1 < q
        · have hr := Int.emod_nonneg (k : Int) (show (q : Int) ≠ 0 by omega)
          have hr2 := Int.emod_lt_of_pos (k : Int) (show (0 : Int) < (q : Int) by omega)
          exact mul_small hr (by omega) (hx h1).1 (hx h1).2
        · obtain rfl : q = 1 := by omega
          simp
      have small2 : ∀ (k q r : Nat) (x : Int), k < q * r → q * r ≤ 600 → (1 < r → -600 ≤ x ∧ x ≤ 600) → -360000 ≤ (k : Int) / (q : Int) * x ∧ (k : Int) / (q : Int) * x ≤ 360000 := fun k q r x hk hq hx => by
        have hlt : k / q < r := Nat.div_lt_of_lt_mul hk
        have hqp : 0 < q := Nat.pos_of_ne_zero (by rintro rfl; simp at hk)
        have hr6 : r ≤ 600 := Nat.le_trans (Nat.le_mul_of_pos_left _ hqp) hq
        rw [← Int.natCast_ediv]
        generalize k / q = u at hlt ⊢
        by_cases h1 : 1 < r
        · exact mul_small (by omega) (by omega) (hx h1).1 (hx h1).2
        · obtain rfl : u = 0 := by omega
          simp
      have hpl : ∀ k, k < an * bn → -1000000 ≤ plTwo frm an bn c d f k ∧ plTwo frm an bn c d f k ≤ 1000000 := fun k hk => by
        obtain ⟨q1, q2⟩ := hcd k hk
        have p1 : 0 < an := Nat.pos_of_ne_zero (by rintro rfl; simp at hk)
        have p2 : 0 < bn := Nat.pos_of_ne_zero (by rintro rfl; simp at hk)
        have r1 : an ≤ 600 := Nat.le_trans (Nat.le_mul_of_pos_right _ p2) hm6
        have r2 : bn ≤ 600 := Nat.le_trans (Nat.le_mul_of_pos_left _ p1) hm6
        unfold plTwo
        cases f
        · have s1 := small k bn d (by omega) r2 q2 p2
          have s2 := small2 k bn an c (by rw [Nat.mul_comm]; exact hk) (by rw [Nat.mul_comm]; exact hm6) q1
          simp only [Bool.false_eq_true, if_false]
          omega
        · have s1 := small k an c (by omega) r1 q1 p1
          have s2 := small2 k an bn d hk hm6 q2
          simp only [if_true]
          omega
      have hv := view_good h0 hb hs (plTwo frm an bn c d f) hm6 ⟨a1, a2⟩ hpl HC HP
      have hf : fair s.data.toList wd frm [(an : Int), (bn : Int)] [c, d] f = decide (∀ k, k < an * bn → Lies s wd (plTwo frm an bn c d f k)) := by
        rw [Bool.eq_iff_iff, fair_two, hok, decide_eq_true_iff]
        have e := offs_pl frm an bn c d f
        constructor
        · rintro ⟨-, h⟩ k hk
          have : plTwo frm an bn c d f k ∈ (offs (dims [(an : Int), (bn : Int)] [c, d] f)).map fun o => frm + o := by rw [e]; exact List.mem_map.2 ⟨k, List.mem_range.2 hk, rfl⟩
          obtain ⟨o, ho, he⟩ := List.mem_map.1 this
          rw [← he]
          exact h o ho
        · intro h
          refine ⟨rfl, fun o ho => ?_⟩
          have : frm + o ∈ (List.range (an * bn)).map (plTwo frm an bn c d f) := by rw [← e]; exact List.mem_map.2 ⟨o, ho, rfl⟩
          obtain ⟨k, hk, he⟩ := List.mem_map.1 this
          rw [← he]
          exact h k (List.mem_range.1 hk)
      have ho : ((offs (dims [(an : Int), (bn : Int)] [c, d] f)).flatMap fun o => piece s.data.toList wd (frm + o)) = ((List.range (an * bn)).map (plTwo frm an bn c d f)).flatMap fun p => piece s.data.toList wd p := by
        rw [← offs_pl, List.flatMap_map]
      rw [hf, ho]
      exact hv
  · have hok : okTwo s.size wd frm a b c d = false := decide_eq_false (by omega)
    rw [hok] at HC
    rw [fair_neg hneg]
    exact view_bad _ HC

theorem take_does : TakeDoes := by
  intro W0 h0 w hb s wd frm f sb so sc tb tO tc sh st hmax hwd hfrm hsh hst h1 h2 hlen
  by_cases hs : s.size ≤ 600
  · match sh, st, hsh, hst, h1, h2, hlen with
    | [n], [t], hsh, hst, _, _, _ => exact take_of_view h0 hb hs (fun w' h => does_one h0 (hb.trans (h.mono hb.size)) hs (hsh 0 (by simp)).2 (at_below (hsh 0 (by simp)).1 h) (at_below (hst 0 (by simp)).1 h))
    | [a, b], [c, d], hsh, hst, _, _, _ => exact take_of_view h0 hb hs (fun w' h => does_two h0 (hb.trans (h.mono hb.size)) hs (hsh 0 (by simp)).2 (at_below (hsh 0 (by simp)).1 h) (at_below (hsh 1 (by simp)).1 h) (at_below (hst 0 (by simp)).1 h) (at_below (hst 1 (by simp)).1 h))
  · have hl : 600 < s.data.toList.length := by rw [size_list]; omega
    refine (take4_long hs wd frm _ _ f).mono ?_
    rintro e w' ⟨he, hB⟩
    refine ⟨?_, hB⟩
    unfold take
    rw [he, if_pos hl]
    rfl
end Go.Proofs.YtniadajcdldfkaaDoor
