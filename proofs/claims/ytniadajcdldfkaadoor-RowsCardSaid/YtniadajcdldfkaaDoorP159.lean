import Derived.Test.YtniadajcdldfkaaDoorBase
import Derived.Test.YtniadajcdldfkaaDoorP13
import Derived.Test.YtniadajcdldfkaaDoorP14
namespace Go.Proofs.YtniadajcdldfkaaDoor
open Go.RowKit PouchTake

set_option maxRecDepth 1000000 in
set_option maxHeartbeats 1000000 in
theorem piece159 {u0 u1 u2 u3 u5 u6 u7 u8 u9 u10 u11 u12 u13 u14 u15 u16 u17 u18 u19 u20 u21 u22 u23 u24 u25 u26 u27 u28 u29 u30 u31 u32 u33 u34 u35 u36 u37 u38 u39 u40 u41 u42 u43 u44 u45 u46 u47 u48 u49 u50 u51 u52 u53 u54 u55 u56 u57 u58 u59 u60 u61 u62 u63 u64 u65 u66 u67 u68 u69 u70 u71 u72 u73 u74 u75 u76 u77 u78 u79 u80 u81 u82 u83 u84 u85 u86 u87 u88 u89 u90 u91 u92 u93 u94 u95 u96 u97 u98 u99 u100 u101 u102 u103 u104 u105 u106 u107 u108 u109 u110 u111 u112 u113 u114 u115 u116 u117 u118 u119 u120 u121 u122 u123 u124 u125 u126 u127 u128 u129 u130 u131 u132 u133 u134 u135 u136 u137 u138 u139 u140 u141 u142 u143 u144 u145 u146 u147 u148 u149 u150 u151 u152 u153 u154 u155 u156 u157 u158 u160 u161 u162 u163 u164 u165 u166 u167 u168 u169 u170 u171 u172 u173 u174 u175 u176 u177 u178 u179 u180 u181 u182 u183 u184 u185 u186 u187 u188 u189 u190 u191 u192 u193 u194 u195 u196 u197 u198 u199 u200 u201 u202 u203 u204 u205 u206 u207 u208 u209 u210 u211 u212 u213 u214 u215 u216 u217 u218 u219 u220 u221 u222 u223 u224 u225 u226 u227 u228 u229 u230 u231 u232 u233 u234 u235 u236 u237 u238 u239 u240 u241 u242 u243 : Value} (TD : TakeDoes) {W0 : World} (h0 : Facts W0) {w : World} {g : Nat} {A B : Int} {F : Bool} {S : ByteArray} {La : Option Addr} {Ln Lc : Nat} {Ma : Option Addr} {Mn Mc : Nat} (hw : Below W0.heap.size W0 w) (ho : OC w g A B F S La Ln Lc Ma Mn Mc) (hs : S.size ≤ maxLen) (hA : In64 A) (hB : In64 B)
    (two : Ln = 2 → Mn = 2 → ∃ lb lo mb mo l0 l1 m0 m1, La = some ⟨lb, lo, none⟩ ∧ Ma = some ⟨mb, mo, none⟩ ∧
      (In64 l0 ∧ In64 l1 ∧ In64 m0 ∧ In64 m1) ∧ w.cell? ⟨lb, lo, none⟩ = some (.int .i64 l0) ∧ w.cell? ⟨lb, lo + 1, none⟩ = some (.int .i64 l1) ∧ w.cell? ⟨mb, mo, none⟩ = some (.int .i64 m0) ∧ w.cell? ⟨mb, mo + 1, none⟩ = some (.int .i64 m1)) (Q : Exit → Act → World → Prop)
    (hK : Hid (∀ (v12 v13 v14 v15 v159 v160 v161 v162 v163 v164 v165 v166 v167 v168 v169 v170 v171 v172 v173 v174 v175 v176 v177 v178 v179 v180 v181 v182 v183 v184 v185 v186 v187 v188 v189 v190 v191 v192 v193 v194 v195 v196 v197 v198 v199 v200 v201 v202 v203 v204 v205 v206 v207 v208 v209 v210 v211 v212 v213 v214 v215 v216 v217 v218 v219 v220 v221 v222 v223 v224 v225 v226 v227 v228 v229 v230 : Value) (w' : World), Below w.heap.size w w' → Q Exit.normal ⟨#[u0, u1, u2, u3, Value.pointer (some ⟨g, 0, none⟩), u5, u6, u7, u8, u9, u10, u11, v12, v13, v14, v15, u16, u17, u18, u19, u20, u21, u22, u23, u24, u25, u26, u27, u28, u29, u30, u31, u32, u33, u34, u35, u36, u37, u38, u39, u40, u41, u42, u43, u44, u45, u46, u47, u48, u49, u50, u51, u52, u53, u54, u55, u56, u57, u58, u59, u60, u61, u62, u63, u64, u65, u66, u67, u68, u69, u70, u71, u72, u73, u74, u75, u76, u77, u78, u79, u80, u81, u82, u83, u84, u85, u86, u87, u88, u89, u90, u91, u92, u93, u94, u95, u96, u97, u98, u99, u100, u101, u102, u103, u104, u105, u106, u107, u108, u109, u110, u111, u112, u113, u114, u115, u116, u117, u118, u119, u120, u121, u122, u123, u124, u125, u126, u127, u128, u129, u130, u131, u132, u133, u134, u135, u136, u137, u138, u139, u140, u141, u142, u143, u144, u145, u146, u147, u148, u149, u150, u151, u152, u153, u154, u155, u156, u157, u158, v159, v160, v161, v162, v163, v164, v165, v166, v167, v168, v169, v170, v171, v172, v173, v174, v175, v176, v177, v178, v179, v180, v181, v182, v183, v184, v185, v186, v187, v188, v189, v190, v191, v192, v193, v194, v195, v196, v197, v198, v199, v200, v201, v202, v203, v204, v205, v206, v207, v208, v209, v210, v211, v212, v213, v214, v215, v216, v217, v218, v219, v220, v221, v222, v223, v224, v225, v226, v227, v228, v229, v230, u231, u232, u233, u234, u235, u236, u237, u238, u239, u240, u241, u242, u243], []⟩ w')) :
    Code.wp Tryd.prog code159 Q ⟨#[u0, u1, u2, u3, Value.pointer (some ⟨g, 0, none⟩), u5, u6, u7, u8, u9, u10, u11, u12, u13, u14, u15, u16, u17, u18, u19, u20, u21, u22, u23, u24, u25, u26, u27, u28, u29, u30, u31, u32, u33, u34, u35, u36, u37, u38, u39, u40, u41, u42, u43, u44, u45, u46, u47, u48, u49, u50, u51, u52, u53, u54, u55, u56, u57, u58, u59, u60, u61, u62, u63, u64, u65, u66, u67, u68, u69, u70, u71, u72, u73, u74, u75, u76, u77, u78, u79, u80, u81, u82, u83, u84, u85, u86, u87, u88, u89, u90, u91, u92, u93, u94, u95, u96, u97, u98, u99, u100, u101, u102, u103, u104, u105, u106, u107, u108, u109, u110, u111, u112, u113, u114, u115, u116, u117, u118, u119, u120, u121, u122, u123, u124, u125, u126, u127, u128, u129, u130, u131, u132, u133, u134, u135, u136, u137, u138, u139, u140, u141, u142, u143, u144, u145, u146, u147, u148, u149, u150, u151, u152, u153, u154, u155, u156, u157, u158, Value.bool (twoB Ln Mn), u160, u161, u162, u163, u164, u165, u166, u167, u168, u169, u170, u171, u172, u173, u174, u175, u176, u177, u178, u179, u180, u181, u182, u183, u184, u185, u186, u187, u188, u189, u190, u191, u192, u193, u194, u195, u196, u197, u198, u199, u200, u201, u202, u203, u204, u205, u206, u207, u208, u209, u210, u211, u212, u213, u214, u215, u216, u217, u218, u219, u220, u221, u222, u223, u224, u225, u226, u227, u228, u229, u230, u231, u232, u233, u234, u235, u236, u237, u238, u239, u240, u241, u242, u243], []⟩ w := by
  conv => arg 2; whnf
  have HO := hid ho
  have HW := hid hw
  have HR := hid (And.intro hs (And.intro hA hB))
  have HT := hid two
  clear ho hw hs hA hB two
  cases hd : twoB Ln Mn with
  | false =>
    clear hd HR HT HO HW
    go_wp2
    exact hK.out _ _ _ _ _ _ _ _ _ _ _ _ _ _ _ _ _ _ _ _ _ _ _ _ _ _ _ _ _ _ _ _ _ _ _ _ _ _ _ _ _ _ _ _ _ _ _ _ _ _ _ _ _ _ _ _ _ _ _ _ _ _ _ _ _ _ _ _ _ _ _ _ _ _ _ _ _ (Below.refl _ _)
  | true =>
    have h2 : Ln = 2 ∧ Mn = 2 := of_decide_eq_true hd
    obtain ⟨rfl, rfl⟩ := h2
    obtain ⟨lb, lo, mb, mo, l0, l1, m0, m1, rfl, rfl, hi, k0, k1, k2, k3⟩ := HT.out rfl rfl
    have HI := hid hi
    have HK := hid (And.intro k0 (And.intro k1 (And.intro k2 k3)))
    clear hd HT k0 k1 k2 k3 hi
    go_upto_region 13 with fail
    refine piece13 TD h0 HW.out HO.out HR.out.1 HR.out.2.1 HR.out.2.2 HI.out HK.out.1 HK.out.2.1 HK.out.2.2.1 HK.out.2.2.2 _ _ (hid ?_)
    intro _ _ _ _ _ _ _ _ _ _ _ _ _ _ _ _ _ _ _ _ _ _ _ _ _ _ _ _ _ _ w2 hb2
    have HO2 := hid (HO.out.keep hb2)
    have HW2 := hid (HW.out.trans (hb2.mono HW.out.size))
    have HB2 := hid hb2
    have HK2 := hid (And.intro (cell_later hb2 HK.out.1) (And.intro (cell_later hb2 HK.out.2.1) (And.intro (cell_later hb2 HK.out.2.2.1) (cell_later hb2 HK.out.2.2.2))))
    clear hb2 HO HK
    go_upto_region 14 with fail
    refine piece14 TD h0 HW2.out HO2.out HR.out.1 HR.out.2.1 HR.out.2.2 HI.out HK2.out.1 HK2.out.2.1 HK2.out.2.2.1 HK2.out.2.2.2 _ _ (hid ?_)
    intro _ _ _ _ _ _ _ _ _ _ _ _ _ _ _ _ _ _ _ _ _ _ _ _ _ _ _ _ _ _ _ w3 hb3
    have HB3 := hid (HB2.out.trans (hb3.mono HB2.out.size))
    clear hb3 HO2 HW2 HK2 HR HI
    generalize bytes (take S.data.toList A B [l0, l1] [m0, m1] F).1 = R1
    generalize (take S.data.toList A B [l0, l1] [m0, m1] F).2 = R2
    go_wp2_with (first | (go_at_call 5; refine (num_any _ _).mono ?_; rintro e w' ⟨rfl, rfl⟩))
    exact hK.out _ _ _ _ _ _ _ _ _ _ _ _ _ _ _ _ _ _ _ _ _ _ _ _ _ _ _ _ _ _ _ _ _ _ _ _ _ _ _ _ _ _ _ _ _ _ _ _ _ _ _ _ _ _ _ _ _ _ _ _ _ _ _ _ _ _ _ _ _ _ _ _ _ _ _ _ _ HB3.out


end Go.Proofs.YtniadajcdldfkaaDoor
