/- Our texts: GvR. -/
import Derived.Test.YtcipkfhpcbddiaaGreatG31
/- Package metaproofkeep: given: its region 61, an append of what outer's list begins with. (Made by wip/gen/gvr.py.) -/
namespace Go.Proofs.YtcipkfhpcbddiaaGreat
open Go.RowKit

set_option maxHeartbeats 4000000 in
set_option maxRecDepth 1000000 in
theorem given_r61 (w w7 : World) (n0 b x F g : Nat) (ao : Option Addr) (cap : Nat) (T z : ByteArray) (o : Option Nat) (hw hv : Hd) (W0 Lv : List ByteArray) (nL : Nat) (HnL : Hid ((outLs T z).length = nL)) (hLb : nL ≤ 200000000) (hnm : Hid (nL - 1 = (hlL T ++ plL T).length)) (hnL1 : 1 ≤ nL)
    (G7 : Hid (GvS w w7 n0 b x F g ao cap T z o hw W0 hv Lv)) (u0 u1 u2 u3 u4 u5 u6 u7 u9 u10 u11 u12 u13 u14 u15 u16 u17 u18 u19 u20 u21 u22 u23 u24 u25 u26 u27 u28 u29 u30 u31 u32 u33 u34 u35 u36 u37 u38 u39 u40 u41 u42 u43 u44 u45 u46 u47 u48 u49 u50 u51 u52 u53 u54 u55 u56 u57 u58 u59 u60 u61 u62 u63 u64 u65 u66 u67 u68 u69 u70 u71 u72 u73 u74 u75 u76 u77 u78 u79 u80 u81 u82 u83 u84 u85 u86 u87 u88 u89 u90 u91 u92 u93 u94 u95 u96 u97 u98 u99 u100 u101 u102 u103 u104 u105 u106 u107 u108 u109 u110 u111 u112 u113 u114 u115 u116 u117 u118 u119 u120 u121 u122 u123 u124 u125 u126 u127 u128 u129 u130 u131 u132 u133 u134 u135 u136 u137 u138 u139 u140 u141 u142 u143 u144 u145 u146 u147 u148 u149 u150 u151 u152 u153 u154 u155 u156 u157 u158 u159 u160 u161 u162 u163 u164 u165 u166 u167 u168 u169 u170 u171 u172 u173 u174 u175 u176 u177 u178 u179 u180 u181 u182 u183 u184 u185 u186 u187 u188 u189 u190 u191 u192 u193 u194 u195 u196 u197 u198 u199 u200 u201 u202 u203 u204 u205 u206 u207 u208 u209 u210 u211 u212 u213 u214 u215 u216 u217 u218 u219 u220 u221 u222 u223 u224 u225 u226 u227 u228 u229 u230 u231 u232 u233 u234 u235 u236 u237 u238 u239 u240 u241 u242 u243 u244 u245 u246 u247 u248 u249 u250 u251 u252 u253 u254 u255 u256 u257 u258 u259 u260 u261 u262 u263 u264 u265 u266 u267 u268 u269 u270 u271 u272 u273 u274 u275 u276 u277 u278 u279 u280 u281 u282 u283 u284 u285 u286 u287 u288 u289 u290 u291 u292 u293 u294 u295 u296 u297 u298 u299 u300 u301 u302 u303 u304 u305 u306 u307 u308 u309 u310 u311 u312 u313 u314 u315 u316 u317 u318 u319 u320 u321 u322 u323 u324 u325 u326 u327 u328 u329 u330 u331 u332 u333 u334 u335 u336 u337 u338 u339 u340 u341 u342 u343 u344 u345 : Value) (J K : Act → World → Prop)
    (hJ : ∀ a' w', (∃ v13 v315 v316 v317 v318 v319 v320 v321 v322 v323 v324 v325 v326 : Value, (∃ hd : Hd, v13 = .slice hd.ao (nL - 1) hd.cap ∧ Hid (GvS w w' n0 b x F g ao cap T z o hd (hlL T ++ plL T) hv Lv) ∧ Hid (Kept [] w7 w' ∧ ∀ k, hd.blk = some k → w7.heap.size ≤ k)) ∧ a' = ⟨#[u0, u1, u2, u3, u4, u5, u6, u7, .pointer (some ⟨F, 0, none⟩), u9, u10, u11, u12, v13, u14, u15, u16, u17, u18, u19, u20, u21, u22, u23, u24, u25, u26, u27, u28, u29, u30, u31, u32, u33, u34, u35, u36, u37, u38, u39, u40, u41, u42, u43, u44, u45, u46, u47, u48, u49, u50, u51, u52, u53, u54, u55, u56, u57, u58, u59, u60, u61, u62, u63, u64, u65, u66, u67, u68, u69, u70, u71, u72, u73, u74, u75, u76, u77, u78, u79, u80, u81, u82, u83, u84, u85, u86, u87, u88, u89, u90, u91, u92, u93, u94, u95, u96, u97, u98, u99, u100, u101, u102, u103, u104, u105, u106, u107, u108, u109, u110, u111, u112, u113, u114, u115, u116, u117, u118, u119, u120, u121, u122, u123, u124, u125, u126, u127, u128, u129, u130, u131, u132, u133, u134, u135, u136, u137, u138, u139, u140, u141, u142, u143, u144, u145, u146, u147, u148, u149, u150, u151, u152, u153, u154, u155, u156, u157, u158, u159, u160, u161, u162, u163, u164, u165, u166, u167, u168, u169, u170, u171, u172, u173, u174, u175, u176, u177, u178, u179, u180, u181, u182, u183, u184, u185, u186, u187, u188, u189, u190, u191, u192, u193, u194, u195, u196, u197, u198, u199, u200, u201, u202, u203, u204, u205, u206, u207, u208, u209, u210, u211, u212, u213, u214, u215, u216, u217, u218, u219, u220, u221, u222, u223, u224, u225, u226, u227, u228, u229, u230, u231, u232, u233, u234, u235, u236, u237, u238, u239, u240, u241, u242, u243, u244, u245, u246, u247, u248, u249, u250, u251, u252, u253, u254, u255, u256, u257, u258, u259, u260, u261, u262, u263, u264, u265, u266, u267, u268, u269, u270, u271, u272, u273, u274, u275, u276, u277, u278, u279, u280, u281, u282, u283, u284, u285, u286, u287, u288, u289, u290, u291, u292, u293, u294, u295, u296, u297, u298, u299, u300, u301, u302, u303, u304, u305, u306, u307, u308, u309, u310, u311, u312, u313, u314, v315, v316, v317, v318, v319, v320, v321, v322, v323, v324, v325, v326, u327, u328, u329, u330, u331, u332, u333, u334, u335, u336, u337, u338, u339, u340, u341, u342, u343, u344, u345], []⟩) → J a' w') (hK : ∀ a' w', Met J a' w' → K a' w') :
    Code.wp Tryz.prog ((Tryz.f10.body.bind (findReg 61)).getD .skip) (Exit.then K (fun _ _ _ => False)) ⟨#[u0, u1, u2, u3, u4, u5, u6, u7, .pointer (some ⟨F, 0, none⟩), u9, u10, u11, u12, u13, u14, u15, u16, u17, u18, u19, u20, u21, u22, u23, u24, u25, u26, u27, u28, u29, u30, u31, u32, u33, u34, u35, u36, u37, u38, u39, u40, u41, u42, u43, u44, u45, u46, u47, u48, u49, u50, u51, u52, u53, u54, u55, u56, u57, u58, u59, u60, u61, u62, u63, u64, u65, u66, u67, u68, u69, u70, u71, u72, u73, u74, u75, u76, u77, u78, u79, u80, u81, u82, u83, u84, u85, u86, u87, u88, u89, u90, u91, u92, u93, u94, u95, u96, u97, u98, u99, u100, u101, u102, u103, u104, u105, u106, u107, u108, u109, u110, u111, u112, u113, u114, u115, u116, u117, u118, u119, u120, u121, u122, u123, u124, u125, u126, u127, u128, u129, u130, u131, u132, u133, u134, u135, u136, u137, u138, u139, u140, u141, u142, u143, u144, u145, u146, u147, u148, u149, u150, u151, u152, u153, u154, u155, u156, u157, u158, u159, u160, u161, u162, u163, u164, u165, u166, u167, u168, u169, u170, u171, u172, u173, u174, u175, u176, u177, u178, u179, u180, u181, u182, u183, u184, u185, u186, u187, u188, u189, u190, u191, u192, u193, u194, u195, u196, u197, u198, u199, u200, u201, u202, u203, u204, u205, u206, u207, u208, u209, u210, u211, u212, u213, u214, u215, u216, u217, u218, u219, u220, u221, u222, u223, u224, u225, u226, u227, u228, u229, u230, u231, u232, u233, u234, u235, u236, u237, u238, u239, u240, u241, u242, u243, u244, u245, u246, u247, u248, u249, u250, u251, u252, u253, u254, u255, u256, u257, u258, u259, u260, u261, u262, u263, u264, u265, u266, u267, u268, u269, u270, u271, u272, u273, u274, u275, u276, u277, u278, u279, u280, u281, u282, u283, u284, u285, u286, u287, u288, u289, u290, u291, u292, u293, u294, u295, u296, u297, u298, u299, u300, u301, u302, u303, u304, u305, u306, u307, u308, u309, u310, u311, u312, u313, u314, u315, u316, u317, u318, u319, u320, u321, u322, u323, u324, u325, u326, u327, u328, u329, u330, u331, u332, u333, u334, u335, u336, u337, u338, u339, u340, u341, u342, u343, u344, u345], []⟩ w7 := by
  conv => arg 2; whnf
  obtain ⟨i0, hi, hz0, hz1, hz2⟩ := info_parts infoS
  have hp1 : (1 : Int) ≤ (nL : Int) := by omega
  have hp2 : 0 < nL := by omega
  have hp3 : (0 : Int) < (nL : Int) := by omega
  have hO := G7.out.O
  have q1 := hO.c1
  rw [HnL.out] at q1
  have hFr := hO.F.2
  have hwr : IntKind.i64.wrap ((nL : Int) - 1) = (nL : Int) - 1 := by rw [IntKind.wrap_i64]; omega
  have htn : ((nL : Int) - 1).toNat = nL - 1 := by omega
  have hb2 : (nL : Int) - 1 ≤ (nL : Int) := by omega
  have hb3 : (0 : Int) ≤ (nL : Int) - 1 := by omega
  have hLs := hO.ls
  have s2 : Hid (∀ j u, (strs (hlL T ++ plL T))[j]? = some u → w7.drew.cell? ((⟨g, 0, none⟩ : Addr).add j) = some u) := by
    intro j u hj
    rw [addr_add]
    have hk : w7.drew.heap[g]? = some (.cells (strs (partL (outLs T z) (outLs T z).length)).toArray 9 (0, 0)) := hLs
    rw [cell_of hk, List.getElem?_toArray, partL_end]
    exact outLs_part T z j u hj
  have s3 : Hid (∀ u ∈ strs (hlL T ++ plL T), u.oneCell' = true) := strs_one _
  have s1 : Hid ((strs (hlL T ++ plL T)).length = (nL - 1) * (rowS []).size) := by show _ = _; rw [hnm.out]; simp [strs, rowS]
  have s4 : Hid ((rowS []).n + (nL - 1) ≤ maxLen) := by show _ ≤ _; simp only [rowS]; unfold maxLen; simp; omega
  have s5 : Hid (((rowS []).n + (nL - 1)) * 16 ≤ 140737488355328) := by show _ ≤ _; simp only [rowS]; simp; omega
  have hD : Hid (GvS w w7.drew n0 b x F g ao cap T z o ⟨none, 0⟩ [] hv Lv) := G7.out.nilW.still (Kept.refl [] w7).drew
  have HS : Hid (∀ w8, w7.drew.grownBy w8 (⟨none, 0⟩ : Hd).blk → w8.cell? ⟨F, 1, none⟩ = some (.slice (some ⟨g, 0, none⟩) nL nL)) := by
    intro w8 hgr
    have e : w8.heap[F]? = w7.heap[F]? := hgr.block F hFr (fun e => by cases e)
    rw [World.cell?_of_block e]; exact q1
  clear hLs hO
  go_region_held3 (fun w' => w'.cell? ⟨F, 1, none⟩ = some (.slice (some ⟨g, 0, none⟩) nL nL)) (go_keep) ((refine step_append_any (by rfl) (.const (.slice none 0 0)) (.tmp 325) 22 (by rfl) i0 (.string ⟨#[]⟩) 16 ⟨none, 0⟩ (rowS []) Tryz.underlying22 hi hz0 hz1 hz2 rfl Nat.one_pos (by simp [Act.eval] <;> rfl) hD.out.want ⟨g, 0, none⟩ (nL - 1) nL (strs (hlL T ++ plL T)) (by simp [Act.eval]) s1.out s2.out s3.out s4.out s5.out ?_; intro ao8 cap8 w8 hw8 hgr8 hfr8; have y1 := HS.out w8 hgr8))
  have er : (⟨(rowS []).e, (rowS []).size, (rowS []).n + (nL - 1), (rowS []).xs ++ strs (hlL T ++ plL T)⟩ : Row) = rowS (hlL T ++ plL T) := by
    rw [hnm.out]; simp [rowS, strs]
  rw [er] at hw8
  have e0 : (rowS []).n + (nL - 1) = nL - 1 := by simp [rowS]
  rw [e0]
  have HA : Hid (GvS w w8 n0 b x F g ao cap T z o ⟨ao8, cap8⟩ (hlL T ++ plL T) hv Lv) := hD.out.addW hgr8 hw8 hfr8
  have HB : Hid (Kept [] w7 w8 ∧ ∀ k, (⟨ao8, cap8⟩ : Hd).blk = some k → w7.heap.size ≤ k) := by
    refine ⟨(Kept.refl [] w7).drew.trans (kept_grown hgr8 (fun k hk => by cases hk)), fun k hk => ?_⟩
    rcases hfr8 with e | ⟨q, e, hq⟩
    · rw [e] at hk; cases hk
    · rw [e] at hk; cases hk; exact hq
  clear y1 hgr8 hfr8 hw8 e0 er
  go_wp2_with fail
  go_meet
  case rel => exact ⟨⟨ao8, cap8⟩, rfl, HA, HB⟩

end Go.Proofs.YtcipkfhpcbddiaaGreat
