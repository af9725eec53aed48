import Derived.Test.YtniadajcdldfkaaDoorBase
namespace Go.Proofs.YtniadajcdldfkaaDoor
open Go.RowKit PouchTake

set_option maxRecDepth 1000000 in
set_option maxHeartbeats 1000000 in
theorem piece60 {u0 u1 u2 u3 u5 u6 u7 u8 u9 u10 u11 u12 u13 u14 u15 u16 u17 u18 u19 u20 u21 u22 u23 u24 u25 u26 u27 u28 u29 u30 u31 u32 u33 u34 u35 u36 u37 u38 u39 u40 u41 u42 u43 u44 u45 u46 u47 u48 u49 u50 u51 u52 u53 u54 u55 u56 u57 u58 u59 u61 u62 u63 u64 u65 u66 u67 u68 u69 u70 u71 u72 u73 u74 u75 u76 u77 u78 u79 u80 u81 u82 u83 u84 u85 u86 u87 u88 u89 u90 u91 u92 u93 u94 u95 u96 u97 u98 u99 u100 u101 u102 u103 u104 u105 u106 u107 u108 u109 u110 u111 u112 u113 u114 u115 u116 u117 u118 u119 u120 u121 u122 u123 u124 u125 u126 u127 u128 u129 u130 u131 u132 u133 u134 u135 u136 u137 u138 u139 u140 u141 u142 u143 u144 u145 u146 u147 u148 u149 u150 u151 u152 u153 u154 u155 u156 u157 u158 u159 u160 u161 u162 u163 u164 u165 u166 u167 u168 u169 u170 u171 u172 u173 u174 u175 u176 u177 u178 u179 u180 u181 u182 u183 u184 u185 u186 u187 u188 u189 u190 u191 u192 u193 u194 u195 u196 u197 u198 u199 u200 u201 u202 u203 u204 u205 u206 u207 u208 u209 u210 u211 u212 u213 u214 u215 u216 u217 u218 u219 u220 u221 u222 u223 u224 u225 u226 u227 u228 u229 u230 u231 u232 u233 u234 u235 u236 u237 u238 u239 u240 u241 u242 u243 : Value} (TD : TakeDoes) {W0 : World} (h0 : Facts W0) {w : World} {g : Nat} {A B : Int} {F : Bool} {S : ByteArray} {La : Option Addr} {Ln Lc : Nat} {Ma : Option Addr} {Mn Mc : Nat} (hw : Below W0.heap.size W0 w) (ho : OC w g A B F S La Ln Lc Ma Mn Mc) (K : Act → World → Prop) (Q : Exit → Act → World → Prop)
    (hK : Hid (∀ (v5 v6 v7 v8 v9 v10 v11 v60 v61 v62 v63 v64 v65 v66 v67 v68 v69 v70 v71 v72 v73 v74 v75 v76 v77 v78 v79 v80 v81 v82 v83 v84 v85 v86 v87 v88 v89 v90 v91 v92 v93 v94 v95 v96 v97 v98 v99 v100 v101 v102 v103 v104 v105 v106 v107 v108 v109 v110 v111 v112 v113 v114 v115 v116 v117 v118 v119 v120 v121 v122 v123 v124 v125 v126 v127 v128 v129 v130 v131 v132 v133 v134 v135 v136 v137 v138 v139 v140 v141 v142 v143 v144 v145 v146 v147 v148 v149 : Value) (w' : World), Below w.heap.size w w' → K ⟨#[u0, u1, u2, u3, Value.pointer (some ⟨g, 0, none⟩), v5, v6, v7, v8, v9, v10, v11, u12, u13, u14, u15, u16, u17, u18, u19, u20, u21, u22, u23, u24, u25, u26, u27, u28, u29, u30, u31, u32, u33, u34, u35, u36, u37, u38, u39, u40, u41, u42, u43, u44, u45, u46, u47, u48, u49, u50, u51, u52, u53, u54, u55, u56, u57, u58, u59, v60, v61, v62, v63, v64, v65, v66, v67, v68, v69, v70, v71, v72, v73, v74, v75, v76, v77, v78, v79, v80, v81, v82, v83, v84, v85, v86, v87, v88, v89, v90, v91, v92, v93, v94, v95, v96, v97, v98, v99, v100, v101, v102, v103, v104, v105, v106, v107, v108, v109, v110, v111, v112, v113, v114, v115, v116, v117, v118, v119, v120, v121, v122, v123, v124, v125, v126, v127, v128, v129, v130, v131, v132, v133, v134, v135, v136, v137, v138, v139, v140, v141, v142, v143, v144, v145, v146, v147, v148, v149, u150, u151, u152, u153, u154, u155, u156, u157, u158, u159, u160, u161, u162, u163, u164, u165, u166, u167, u168, u169, u170, u171, u172, u173, u174, u175, u176, u177, u178, u179, u180, u181, u182, u183, u184, u185, u186, u187, u188, u189, u190, u191, u192, u193, u194, u195, u196, u197, u198, u199, u200, u201, u202, u203, u204, u205, u206, u207, u208, u209, u210, u211, u212, u213, u214, u215, u216, u217, u218, u219, u220, u221, u222, u223, u224, u225, u226, u227, u228, u229, u230, u231, u232, u233, u234, u235, u236, u237, u238, u239, u240, u241, u242, u243], []⟩ w')) :
    Code.wp Tryd.prog code60 (Exit.then K Q) ⟨#[u0, u1, u2, u3, Value.pointer (some ⟨g, 0, none⟩), u5, u6, u7, u8, u9, u10, u11, u12, u13, u14, u15, u16, u17, u18, u19, u20, u21, u22, u23, u24, u25, u26, u27, u28, u29, u30, u31, u32, u33, u34, u35, u36, u37, u38, u39, u40, u41, u42, u43, u44, u45, u46, u47, u48, u49, u50, u51, u52, u53, u54, u55, u56, u57, u58, u59, Value.bool (goodB S A), u61, u62, u63, u64, u65, u66, u67, u68, u69, u70, u71, u72, u73, u74, u75, u76, u77, u78, u79, u80, u81, u82, u83, u84, u85, u86, u87, u88, u89, u90, u91, u92, u93, u94, u95, u96, u97, u98, u99, u100, u101, u102, u103, u104, u105, u106, u107, u108, u109, u110, u111, u112, u113, u114, u115, u116, u117, u118, u119, u120, u121, u122, u123, u124, u125, u126, u127, u128, u129, u130, u131, u132, u133, u134, u135, u136, u137, u138, u139, u140, u141, u142, u143, u144, u145, u146, u147, u148, u149, u150, u151, u152, u153, u154, u155, u156, u157, u158, u159, u160, u161, u162, u163, u164, u165, u166, u167, u168, u169, u170, u171, u172, u173, u174, u175, u176, u177, u178, u179, u180, u181, u182, u183, u184, u185, u186, u187, u188, u189, u190, u191, u192, u193, u194, u195, u196, u197, u198, u199, u200, u201, u202, u203, u204, u205, u206, u207, u208, u209, u210, u211, u212, u213, u214, u215, u216, u217, u218, u219, u220, u221, u222, u223, u224, u225, u226, u227, u228, u229, u230, u231, u232, u233, u234, u235, u236, u237, u238, u239, u240, u241, u242, u243], []⟩ w := by
  conv => arg 2; whnf
  cases hd : goodB S A with
  | false =>
    go_wp2
    exact hK.out _ _ _ _ _ _ _ _ _ _ _ _ _ _ _ _ _ _ _ _ _ _ _ _ _ _ _ _ _ _ _ _ _ _ _ _ _ _ _ _ _ _ _ _ _ _ _ _ _ _ _ _ _ _ _ _ _ _ _ _ _ _ _ _ _ _ _ _ _ _ _ _ _ _ _ _ _ _ _ _ _ _ _ _ _ _ _ _ _ _ _ _ _ _ _ _ _ _ (Below.refl _ _)
  | true =>
    have hg : Good S A := of_decide_eq_true hd
    have hA := hg.2.1
    have hA2 := hg.2.2.1
    have hS0 := hg.2.2.2.2
    have hS6 : (S.size : Int) ≤ 600 := by have := hg.1; omega
    have GG : Hid (Good S A) := hg
    have HW := hid hw
    have HO := hid ho
    obtain ⟨o1, o2, o3, o4, o6, o7⟩ := ho
    clear hg hd hw
    have hz0 : g < w.heap.size := World.block_lt_of_cell? _ _ o1
    go_wp2_with fail
    refine (call_row TD (S := S) (A := A) h0 ?hbb F GG.out (wrap_quo GG.out) ?hc1 ?hc2).mono ?_
    case hbb => exact HW.out.trans ((grow2 _ _ _).mono HW.out.size)
    case hc1 => simp [go_sem]
    case hc2 => simp [go_sem]
    rintro e w1 ⟨rfl, hb1⟩
    have H1 : Hid (Below w.heap.size w w1) := by
      have h1 := grow2 w (Obj.cells #[Value.int IntKind.i64 (wrap64 (↑S.size / A))] 3) (Obj.cells #[Value.int IntKind.i64 A] 3)
      exact h1.trans (hb1.mono h1.size)
    have HO1 := hid (HO.out.keep H1.out)
    clear hb1 o1 o2 o3 o4 o6 o7
    obtain ⟨o1, o2, o3, o4, o6, o7⟩ := HO1.out
    have hz1 : g < w1.heap.size := World.block_lt_of_cell? _ _ o1
    go_wp2_with fail
    refine (call_back TD (S := S) (A := A) (z := -A) h0 ?hbb F GG.out (wrap_quo GG.out) ?hy rfl ?hc1 ?hc2).mono ?_
    case hbb => exact (HW.out.trans (H1.out.mono HW.out.size)).trans ((grow2 _ _ _).mono (Nat.le_trans HW.out.size H1.out.size))
    case hy => first | rfl | omega
    case hc1 => simp [go_sem]
    case hc2 => simp [go_sem]
    rintro e w2 ⟨rfl, hb2⟩
    have H2 : Hid (Below w1.heap.size w1 w2) := by
      have h1 := grow2 w1 (Obj.cells #[Value.int IntKind.i64 (wrap64 (↑S.size / A))] 3) (Obj.cells #[Value.int IntKind.i64 (-A)] 3)
      exact h1.trans (hb2.mono h1.size)
    have HO2 := hid (HO1.out.keep H2.out)
    clear hb2 o1 o2 o3 o4 o6 o7
    obtain ⟨o1, o2, o3, o4, o6, o7⟩ := HO2.out
    have hz2 : g < w2.heap.size := World.block_lt_of_cell? _ _ o1
    go_wp2_with fail
    refine (call_again TD (S := S) (A := A) (z := -A) h0 ?hbb F GG.out (wrap_quo GG.out) ?hy rfl ?hc1 ?hc2).mono ?_
    case hbb => exact ((HW.out.trans (H1.out.mono HW.out.size)).trans (H2.out.mono (Nat.le_trans HW.out.size H1.out.size))).trans ((grow2 _ _ _).mono (Nat.le_trans HW.out.size (Nat.le_trans H1.out.size H2.out.size)))
    case hy => first | rfl | omega
    case hc1 => simp [go_sem]
    case hc2 => simp [go_sem]
    rintro e w3 ⟨rfl, hb3⟩
    have H3 : Hid (Below w2.heap.size w2 w3) := by
      have h1 := grow2 w2 (Obj.cells #[Value.int IntKind.i64 (wrap64 (↑S.size / A))] 3) (Obj.cells #[Value.int IntKind.i64 (-A)] 3)
      exact h1.trans (hb3.mono h1.size)
    have HO3 := hid (HO2.out.keep H3.out)
    clear hb3 o1 o2 o3 o4 o6 o7
    obtain ⟨o1, o2, o3, o4, o6, o7⟩ := HO3.out
    go_wp2_with (first | (go_at_call 5; refine (num_any _ _).mono ?_; rintro e w' ⟨rfl, rfl⟩))
    exact hK.out _ _ _ _ _ _ _ _ _ _ _ _ _ _ _ _ _ _ _ _ _ _ _ _ _ _ _ _ _ _ _ _ _ _ _ _ _ _ _ _ _ _ _ _ _ _ _ _ _ _ _ _ _ _ _ _ _ _ _ _ _ _ _ _ _ _ _ _ _ _ _ _ _ _ _ _ _ _ _ _ _ _ _ _ _ _ _ _ _ _ _ _ _ _ _ _ _ _ (H1.out.trans ((H2.out.mono H1.out.size).trans (H3.out.mono (Nat.le_trans H1.out.size H2.out.size))))


end Go.Proofs.YtniadajcdldfkaaDoor
