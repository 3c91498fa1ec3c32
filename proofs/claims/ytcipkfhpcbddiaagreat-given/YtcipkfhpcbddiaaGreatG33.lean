/- Our texts: GvM. -/
import Derived.Test.YtcipkfhpcbddiaaGreatG32
/- Package metaproofkeep: given: all behind the loops. (Made by wip/gen/gvr.py.) -/
namespace Go.Proofs.YtcipkfhpcbddiaaGreat
open Go.RowKit

set_option maxHeartbeats 40000000 in
set_option maxRecDepth 1000000 in
theorem given_end (w wc : World) (n0 b x F g : Nat) (ao : Option Addr) (cap : Nat) (T z : ByteArray) (o : Option Nat) (hw hv : Hd) (W0 Lv : List ByteArray) (t goo : ByteArray) (B M nW : Nat) (hT : Fine T) (hZ : Zed T z) (hx : x ≠ b) (hxw : x < w.heap.size) (hM : M < 16) (ht : t.size ≤ 3000) (hgo : goo.size ≤ 200)
    (HT : Hid (t = qT z (dBf M) (gFu z (gTx T z 3 ++ ⟨#[32, 36, 46]⟩ ++ gTy z (hEf M) (eBf B M) 3) (fullF M)) 3)) (HGO : Hid (goo = gGo z (gBf B) 3)) (HW : Hid (W0 = hlL T ++ gWa z (hEf M) (eBf B M) (gBf B) 3 ++ plL T ++ qW z (eBf B M) (gBf B) (dBf M) 3)) (HN : Hid (W0.length = nW)) (hnW : nW ≤ 400000000)
    (HG : Hid (GvS w wc n0 b x F g ao cap T z o hw W0 hv Lv)) (u1 u2 u3 u4 u5 u6 u9 u10 u11 u14 u15 u17 u18 u19 u20 u21 u22 u23 u24 u25 u26 u27 u28 u29 u30 u31 u32 u33 u34 u35 u36 u37 u38 u39 u40 u41 u42 u43 u44 u45 u46 u47 u48 u49 u50 u51 u52 u53 u54 u55 u56 u57 u58 u59 u60 u61 u62 u63 u64 u65 u66 u67 u68 u69 u70 u71 u72 u73 u74 u75 u76 u77 u78 u79 u80 u81 u82 u83 u84 u85 u86 u87 u88 u89 u90 u91 u92 u93 u94 u95 u96 u97 u98 u99 u100 u101 u102 u103 u104 u105 u106 u107 u108 u109 u110 u111 u112 u113 u114 u115 u116 u117 u118 u119 u120 u121 u122 u123 u124 u125 u126 u127 u128 u129 u130 u131 u132 u133 u134 u135 u136 u137 u138 u139 u140 u141 u142 u143 u144 u145 u146 u147 u148 u149 u150 u151 u152 u153 u154 u155 u156 u157 u158 u159 u160 u161 u162 u163 u164 u165 u166 u167 u168 u169 u170 u171 u172 u173 u174 u175 u176 u177 u178 u179 u180 u181 u182 u183 u184 u185 u186 u187 u188 u189 u190 u191 u192 u193 u194 u195 u196 u197 u198 u199 u200 u201 u202 u203 u204 u205 u206 u207 u208 u209 u210 u211 u212 u213 u214 u215 u216 u217 u218 u219 u220 u221 u222 u223 u224 u225 u226 u227 u228 u229 u230 u231 u232 u233 u234 u235 u236 u237 u238 u239 u240 u241 u242 u243 u244 u245 u246 u247 u248 u249 u250 u251 u252 u253 u254 u255 u256 u257 u258 u259 u260 u261 u262 u263 u264 u265 u266 u267 u268 u269 u270 u271 u272 u273 u274 u275 u276 u277 u278 u279 u280 u281 u282 u283 u284 u285 u286 u287 u288 u289 u290 u291 u292 u293 u294 u295 u296 u297 u298 u299 u300 u301 u302 u303 u304 u305 u306 u307 u308 u309 u310 u311 u312 u313 u314 u315 u316 u317 u318 u319 u320 u321 u322 u323 u324 u325 u326 u327 u328 u329 u330 u331 u332 u333 u334 u335 u336 u337 u338 u339 u340 u341 u342 u343 u344 u345 : Value) (K : Act → World → Prop)
    (hK : ∀ a' w', Code.wp Tryz.prog ((Tryz.f10.body.bind (findTail 51)).getD .skip) (bodyPost Tryz.prog Tryz.f10 (fun e w' => e = .returned (.bool true) ∧ Kept [x] w w')) a' w' → K a' w') :
    Code.wp Tryz.prog ((Tryz.f10.body.bind (findReg 50)).getD .skip) (Exit.then K (bodyPost Tryz.prog Tryz.f10 (fun e w' => e = .returned (.bool true) ∧ Kept [x] w w'))) ⟨#[.pointer (some ⟨b, 0, none⟩), u1, u2, u3, u4, u5, u6, .string z, .pointer (some ⟨F, 0, none⟩), u9, u10, u11, .string t, .slice hw.ao nW hw.cap, u14, u15, .string goo, u17, u18, u19, u20, u21, u22, u23, u24, u25, u26, u27, u28, u29, u30, u31, u32, u33, u34, u35, u36, u37, u38, u39, u40, u41, u42, u43, u44, u45, u46, u47, u48, u49, u50, u51, u52, u53, u54, u55, u56, u57, u58, u59, u60, u61, u62, u63, u64, u65, u66, u67, u68, u69, u70, u71, u72, u73, u74, u75, u76, u77, u78, u79, u80, u81, u82, u83, u84, u85, u86, u87, u88, u89, u90, u91, u92, u93, u94, u95, u96, u97, u98, u99, u100, u101, u102, u103, u104, u105, u106, u107, u108, u109, u110, u111, u112, u113, u114, u115, u116, u117, u118, u119, u120, u121, u122, u123, u124, u125, u126, u127, u128, u129, u130, u131, u132, u133, u134, u135, u136, u137, u138, u139, u140, u141, u142, u143, u144, u145, u146, u147, u148, u149, u150, u151, u152, u153, u154, u155, u156, u157, u158, u159, u160, u161, u162, u163, u164, u165, u166, u167, u168, u169, u170, u171, u172, u173, u174, u175, u176, u177, u178, u179, u180, u181, u182, u183, u184, u185, u186, u187, u188, u189, u190, u191, u192, u193, u194, u195, u196, u197, u198, u199, u200, u201, u202, u203, u204, u205, u206, u207, u208, u209, u210, u211, u212, u213, u214, u215, u216, u217, u218, u219, u220, u221, u222, u223, u224, u225, u226, u227, u228, u229, u230, u231, u232, u233, u234, u235, u236, u237, u238, u239, u240, u241, u242, u243, u244, u245, u246, u247, u248, u249, u250, u251, u252, u253, u254, u255, u256, u257, u258, u259, u260, u261, u262, u263, u264, u265, u266, u267, u268, u269, u270, u271, u272, u273, u274, u275, u276, u277, u278, u279, u280, u281, u282, u283, u284, u285, u286, u287, u288, u289, u290, u291, u292, u293, u294, u295, u296, u297, u298, u299, u300, u301, u302, u303, u304, u305, u306, u307, u308, u309, u310, u311, u312, u313, u314, u315, u316, u317, u318, u319, u320, u321, u322, u323, u324, u325, u326, u327, u328, u329, u330, u331, u332, u333, u334, u335, u336, u337, u338, u339, u340, u341, u342, u343, u344, u345], []⟩ wc := by
  conv => arg 2; whnf
  have hTs := hT.size
  have hzs := hZ.size
  obtain ⟨i0, hi, hz0, hz1, hz2⟩ := info_parts infoS
  obtain ⟨lb, Hlb⟩ : ∃ lb, Hid (z ++ ⟨#[98]⟩ ++ goo = lb) := ⟨_, rfl⟩
  obtain ⟨la, Hla⟩ : ∃ la, Hid (z ++ ⟨#[97, 32, 36, 97, 32]⟩ ++ z ++ ⟨#[99]⟩ = la) := ⟨_, rfl⟩
  have A1 : Hid (GvS w (wc.alloc (.cells #[.string lb] 9)) n0 b x F g ao cap T z o hw W0 hv Lv) := HG.out.still ((Kept.refl [] wc).alloc _)
  have hO1 := A1.out.want
  have HRL : Hid ((rowS W0).n = nW) := by show _ = _; rw [← HN.out]; rfl
  obtain ⟨U, HU⟩ : ∃ U, Hid (U = gvU T z (gpOf (hEf M) (eBf B M) (gBf B) (dBf M))) := ⟨_, rfl⟩
  have HUE : Hid (t ++ ⟨#[32]⟩ ++ z ++ ⟨#[98]⟩ ++ goo ++ ⟨#[32, 36, 46, 32, 36, 125, 10]⟩ ++ z ++ ⟨#[97, 32, 36, 97, 32]⟩ ++ z ++ ⟨#[99, 32, 36, 46]⟩ = U) := by
    show _ = _
    rw [HU.out, ← fin_end T z B M hM, HT.out, HGO.out]
  have HUs : Hid (U.size ≤ 4000) := by
    show _ ≤ _
    rw [← HUE.out]
    simp only [ByteArray.size_append]
    rw [show (⟨#[32]⟩ : ByteArray).size = 1 from rfl, show (⟨#[98]⟩ : ByteArray).size = 1 from rfl, show (⟨#[32, 36, 46, 32, 36, 125, 10]⟩ : ByteArray).size = 7 from rfl, show (⟨#[97, 32, 36, 97, 32]⟩ : ByteArray).size = 5 from rfl, show (⟨#[99, 32, 36, 46]⟩ : ByteArray).size = 4 from rfl]
    omega
  have HALL : Hid (holdsF U = false ∧ (rdM U).1 = (0, 0) ∧ (∃ n, FrameU U (nm z [98]) (W0 ++ [lb]) n) ∧ ∃ n, FrameU U (nm z [97]) (hlL T ++ plL T ++ [la]) n) := by
    have h := given_all (gpOf (hEf M) (eBf B M) (gBf B) (dBf M)) hT hZ
    rw [← HU.out, ← want_end, want_a] at h
    rw [HW.out, ← Hlb.out, ← Hla.out, HGO.out]
    exact h
  clear HU HT HGO HW
  have HK := (show Hid _ from hK)
  clear hK
  go_wp2_with (at_builtin; rw [Hlb.out]; refine wpList_append_row _ rfl (.tmp 254) (.tmp 259) 22 rfl i0 (.string ⟨#[]⟩) 16 hw (rowS W0) Tryz.underlying22 hi hz0 hz1 hz2 rfl Nat.one_pos (by rw [HRL.out]; rfl) hO1 ⟨wc.heap.size, 0, none⟩ 1 1 [.string lb] rfl rfl ?c1 ?c2 Nat.one_pos ?c3 ?c4 ?_)
  case c1 => intro j u hj; match j, hj with | 0, hj => simp at hj; subst hj; simp [Addr.add]
  case c2 => intro u hu; simp at hu; subst hu; rfl
  case c3 => rw [HRL.out]; unfold maxLen; omega
  case c4 => rw [HRL.out]; omega
  · intro g5 cap5 w5 hw5 hgr5 hf5
    rw [rowS_snoc] at hw5
    have A2 : Hid (GvS w w5 n0 b x F g ao cap T z o ⟨some ⟨g5, 0, none⟩, cap5⟩ (W0 ++ [lb]) hv Lv) := A1.out.addW hgr5 hw5 (or_blk (by simpa using hf5))
    rw [HRL.out]
    clear hw5 hgr5 hf5 hO1 A1
    go_wp2_with fail
    refine HK.out _ _ ?_
    clear HK
    conv => arg 2; whnf
    obtain ⟨fs, hV, hM0⟩ := A2.out.V
    have hW5 := A2.out.W
    go_wp2_with fail
    rw [HUE.out]
    by_cases hl : 1024 < U.size
    · refine (see_long b x T U o fs w5 hW5 hV hx hl (by have := HUs.out; omega)).mono ?_
      rintro e w2 ⟨rfl, hW2, hV2, hk2⟩
      simp only [seenV]
      have hb2 := hW2.lt
      go_wp2_with fail
      refine (back_anyR (N := 0) (by omega) b x T o fs _ (hW2.still ((Kept.refl [] _).alloc _)) (hV2.kept ((Kept.refl [] _).alloc _) (by simp)) hx hM0 hT).mono ?_
      rintro e w3 ⟨⟨rfl, -, -, hk3⟩, -⟩
      go_wp2
      go_ret
      exact ⟨rfl, ((A2.out.kept.1.trans hk2).alloc _).trans hk3⟩
    · refine (see_shortR (N := 0) (by omega) b x T U o fs w5 hW5 hV hx hl hM0 HALL.out.1).mono ?_
      rintro e w2 ⟨⟨o', rfl, -, -, hW2, hV2, hk2⟩, hRep⟩
      have hr : ((rdM U).1.1 == 0) = true := by rw [HALL.out.2.1]; rfl
      obtain ⟨fs3, H, gg, hR, -, -, -⟩ := hRep hr
      unfold seeV
      rw [if_pos hr]
      obtain ⟨ao1, n1, c1', hrs1⟩ := rowsSl_is o' (rowsM U).length
      rw [hrs1]
      simp only [seenV]
      obtain ⟨nb, hFB⟩ := HALL.out.2.2.1
      obtain ⟨na, hFA⟩ := HALL.out.2.2.2
      have HVB := (show Hid _ from frame_says hR (by omega) HALL.out.1 hFB)
      have HVA := (show Hid _ from frame_says hR (by omega) HALL.out.1 hFA)
      have hBn : (W0 ++ [lb]).length = nW + 1 := by rw [List.length_append, HN.out]; rfl
      have HBn := (show Hid _ from hBn)
      rw [hBn] at HVB
      obtain ⟨nL, HnL⟩ : ∃ nL, Hid ((outLs T z).length = nL) := ⟨_, rfl⟩
      have hLl : nL = (hlL T ++ plL T).length + 1 := by rw [← HnL.out]; unfold outLs; simp; omega
      have hAn : (hlL T ++ plL T ++ [la]).length = nL := by rw [List.length_append, hLl]; rfl
      have HmA : Hid (nL - 1 + 1 = nL) := by show _ = _; omega
      have HAn := (show Hid _ from hAn)
      rw [hAn] at HVA
      have hnm : Hid (nL - 1 = (hlL T ++ plL T).length) := by show _ = _; omega
      have hnL1 : 1 ≤ nL := by omega
      have hLb : nL ≤ 200000000 := by rw [← HnL.out]; exact A2.out.O.len
      have G2 := (show Hid _ from A2.out.seen hk2 hW2 hV2 hxw)
      have k3 : Kept [] w2 (w2.alloc (.cells #[.slice ao1 n1 c1', .int .i64 0, .string ⟨#[]⟩, .int .i64 0, .int .i64 0, .int .i64 0] 52)) := (Kept.refl [] _).alloc _
      have G3 := (show Hid _ from G2.out.still k3)
      obtain ⟨c0, -, -⟩ := G3.out.W.cells
      have hb2 := hW2.lt
      have HZB : Hid (z ++ ⟨#[98]⟩ = nm z [98]) := rfl
      have HZA : Hid (z ++ ⟨#[97]⟩ = nm z [97]) := rfl
      clear hBn hAn hLl hrs1 hR hRep hFB hFA hr hW5 hV A2 hk2
      go_wp2_with fail
      rw [HZB.out]
      refine (HVB.out _ k3).mono ?_
      rintro e w4 ⟨g1, rfl, hl1, -, k4⟩
      have G4 := (show Hid _ from G3.out.still k4)
      have HS1 := (show Hid _ from same_says (c1 := nW + 1) (c2 := cap5) HBn.out (by omega) hl1 (lt_of_get hl1) G4.out.want (by omega))
      clear c0 hl1 HVB
      go_wp2_with fail
      refine Calls.mono HS1.out ?_
      rintro e w6 ⟨rfl, k6⟩
      have G6 := (show Hid _ from G4.out.still k6)
      obtain ⟨c0, -, -⟩ := G6.out.W.cells
      have hb6 := G6.out.W.lt
      have K6 := (k3.trans k4).trans k6
      clear HS1 G3 G4 k4 k6
      go_wp2_with fail
      rw [HZA.out]
      refine (HVA.out _ K6).mono ?_
      rintro e w7 ⟨g2, rfl, hl2, -, k7⟩
      have G7 := (show Hid _ from G6.out.still k7)
      clear c0 hb6 G6 k7 K6 HVA k3
      go_upto_region 61 with fail
      go_cut [13] from 315 to 326 (fun s13 wd => ∃ hd : Hd, s13 = .slice hd.ao (nL - 1) hd.cap ∧ Hid (GvS w wd n0 b x F g ao cap T z o hd (hlL T ++ plL T) hv Lv) ∧ Hid (Kept [] w7 wd ∧ ∀ k, hd.blk = some k → w7.heap.size ≤ k))
      case first =>
        rename_i J K' hJ hK'
        exact wp_weak (given_r61 w _ n0 b x F g ao cap T z o _ hv _ Lv nL HnL hLb hnm hnL1 G7 _ _ _ _ _ _ _ _ _ _ _ _ _ _ _ _ _ _ _ _ _ _ _ _ _ _ _ _ _ _ _ _ _ _ _ _ _ _ _ _ _ _ _ _ _ _ _ _ _ _ _ _ _ _ _ _ _ _ _ _ _ _ _ _ _ _ _ _ _ _ _ _ _ _ _ _ _ _ _ _ _ _ _ _ _ _ _ _ _ _ _ _ _ _ _ _ _ _ _ _ _ _ _ _ _ _ _ _ _ _ _ _ _ _ _ _ _ _ _ _ _ _ _ _ _ _ _ _ _ _ _ _ _ _ _ _ _ _ _ _ _ _ _ _ _ _ _ _ _ _ _ _ _ _ _ _ _ _ _ _ _ _ _ _ _ _ _ _ _ _ _ _ _ _ _ _ _ _ _ _ _ _ _ _ _ _ _ _ _ _ _ _ _ _ _ _ _ _ _ _ _ _ _ _ _ _ _ _ _ _ _ _ _ _ _ _ _ _ _ _ _ _ _ _ _ _ _ _ _ _ _ _ _ _ _ _ _ _ _ _ _ _ _ _ _ _ _ _ _ _ _ _ _ _ _ _ _ _ _ _ _ _ _ _ _ _ _ _ _ _ _ _ _ _ _ _ _ _ _ _ _ _ _ _ _ _ _ _ _ _ _ _ _ _ _ _ _ _ _ _ _ _ _ _ _ _ _ _ _ _ _ _ _ _ _ _ _ _ _ _ _ _ _ _ _ _ _ _ _ _ _ _ _ _ _ _ _ _ _ _ _ _ _ _ _ J K' hJ hK')
      case rest =>
        obtain ⟨hd, rfl, HA, HB⟩ := hcut
        have A8 : Hid (GvS w (wc.alloc (.cells #[.string la] 9)) n0 b x F g ao cap T z o hd (hlL T ++ plL T) hv Lv) := HA.out.still ((Kept.refl [] wc).alloc _)
        have hO8 := A8.out.want
        have HRA : Hid ((rowS (hlL T ++ plL T)).n = nL - 1) := by show _ = _; rw [hnm.out]; rfl
        go_wp2_with (at_builtin; rw [Hla.out]; refine wpList_append_row _ rfl (.tmp 327) (.tmp 333) 22 rfl i0 (.string ⟨#[]⟩) 16 hd (rowS (hlL T ++ plL T)) Tryz.underlying22 hi hz0 hz1 hz2 rfl Nat.one_pos (by rw [HRA.out]; rfl) hO8 ⟨wc.heap.size, 0, none⟩ 1 1 [.string la] rfl rfl ?d1 ?d2 Nat.one_pos ?d3 ?d4 ?_)
        case d1 => intro j u hj; match j, hj with | 0, hj => simp at hj; subst hj; simp [Addr.add]
        case d2 => intro u hu; simp at hu; subst hu; rfl
        case d3 => rw [HRA.out]; unfold maxLen; omega
        case d4 => rw [HRA.out]; omega
        · intro g9 cap9 w9 hw9 hgr9 hf9
          rw [rowS_snoc] at hw9
          have A9 : Hid (GvS w w9 n0 b x F g ao cap T z o ⟨some ⟨g9, 0, none⟩, cap9⟩ (hlL T ++ plL T ++ [la]) hv Lv) := A8.out.addW hgr9 hw9 (or_blk (by simpa using hf9))
          have kS : Kept hd.blk.toList (wc.alloc (.cells #[.string la] 9)) w9 := kept_grown hgr9 (fun k hk => by rw [hk]; simp)
          have hl9 : LnsAt w9 g2 (hlL T ++ plL T ++ [la]) nL := by
            refine (hl2.kept (HB.out.1.alloc _) (by simp)).kept kS (fun h => ?_)
            have h2 : hd.blk = some g2 := by
              cases e : hd.blk with
              | none => rw [e] at h; simp at h
              | some y => rw [e] at h; simp at h; rw [h]
            have := HB.out.2 g2 h2
            have := lt_of_get hl2
            omega
          have HS9 := (show Hid _ from same_says (c1 := nL) (c2 := cap9) HAn.out (by omega) hl9 (lt_of_get hl9) A9.out.want (by omega))
          rw [HRA.out, HmA.out]
          clear hw9 hgr9 hf9 hO8 A8 kS hl9 hl2
          go_wp2_with fail
          refine Calls.mono HS9.out ?_
          rintro e w10 ⟨rfl, k10⟩
          have G10 := (show Hid _ from A9.out.still k10)
          obtain ⟨fsz, hVz, hMz⟩ := G10.out.V
          go_wp2_with fail
          refine (back_anyR (N := 0) (by omega) b x T o fsz _ G10.out.W hVz hx hMz hT).mono ?_
          rintro e w11 ⟨⟨rfl, -, -, hk11⟩, -⟩
          go_wp2
          go_ret
          exact ⟨rfl, G10.out.kept.1.trans hk11⟩

end Go.Proofs.YtcipkfhpcbddiaaGreat
