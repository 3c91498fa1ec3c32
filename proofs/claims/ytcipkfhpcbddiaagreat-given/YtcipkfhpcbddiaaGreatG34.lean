/- Our texts: GvN. -/
import Derived.Test.YtcipkfhpcbddiaaGreatG33
/- Package metaproofkeep: given: the two loops over the pairs, and all behind them. (Made by wip/gen/gvr.py.) -/
namespace Go.Proofs.YtcipkfhpcbddiaaGreat
open Go.RowKit

theorem lit_pair : (⟨#[32]⟩ : ByteArray).size = 1 ∧ (⟨#[32, 36, 100, 32]⟩ : ByteArray).size = 4 ∧ (⟨#[32, 36, 46]⟩ : ByteArray).size = 3 ∧ (⟨#[36, 100, 32]⟩ : ByteArray).size = 3 := ⟨rfl, rfl, rfl, rfl⟩
theorem dBf_no {M k : Nat} (h : (bits BinOp.and IntKind.i64 ((M : Int) / 2 ^ k) 1 == 0) = true) : dBf M k = false := by unfold dBf; rw [h]; rfl
theorem dBf_yes {M k : Nat} (h : (bits BinOp.and IntKind.i64 ((M : Int) / 2 ^ k) 1 == 0) = false) : dBf M k = true := by unfold dBf; rw [h]; rfl
set_option maxHeartbeats 40000000 in
set_option maxRecDepth 1000000 in
theorem given_pairs (w wc : World) (n0 b x F g : Nat) (ao : Option Addr) (cap : Nat) (T z : ByteArray) (o : Option Nat) (hw hv : Hd) (W0 Lv : List ByteArray) (t goo : ByteArray) (B M nW nV : Nat) (hT : Fine T) (hZ : Zed T z) (hx : x ≠ b) (hxw : x < w.heap.size) (hM : M < 16) (ht : t.size ≤ 2300) (hgo : goo.size ≤ 200)
    (HT : Hid (t = gFu z (gTx T z 3 ++ ⟨#[32, 36, 46]⟩ ++ gTy z (hEf M) (eBf B M) 3) (fullF M))) (HGO : Hid (goo = gGo z (gBf B) 3)) (HW : Hid (W0 = hlL T ++ gWa z (hEf M) (eBf B M) (gBf B) 3 ++ plL T)) (HN : Hid (W0.length = nW)) (hnW : nW ≤ 300000000)
    (HV : Hid (Lv = gVa z (eBf B M) (gBf B) 3)) (HNV : Hid (Lv.length = nV)) (hnV : nV ≤ 3)
    (HG : Hid (GvS w wc n0 b x F g ao cap T z o hw W0 hv Lv)) (u1 u2 u3 u4 u5 u6 u9 u10 u14 u15 u18 u19 u20 u21 u22 u23 u24 u25 u26 u27 u28 u29 u30 u31 u32 u33 u34 u35 u36 u37 u38 u39 u40 u41 u42 u43 u44 u45 u46 u47 u48 u49 u50 u51 u52 u53 u54 u55 u56 u57 u58 u59 u60 u61 u62 u63 u64 u65 u66 u67 u68 u69 u70 u71 u72 u73 u74 u75 u76 u77 u78 u79 u80 u81 u82 u83 u84 u85 u86 u87 u88 u89 u90 u91 u92 u93 u94 u95 u96 u97 u98 u99 u100 u101 u102 u103 u104 u105 u106 u107 u108 u109 u110 u111 u112 u113 u114 u115 u116 u117 u118 u119 u120 u121 u122 u123 u124 u125 u126 u127 u128 u129 u130 u131 u132 u133 u134 u135 u136 u137 u138 u139 u140 u141 u142 u143 u144 u145 u146 u147 u148 u149 u150 u151 u152 u153 u154 u155 u156 u157 u158 u159 u160 u161 u162 u163 u164 u165 u166 u167 u168 u169 u170 u171 u172 u173 u174 u175 u176 u177 u178 u179 u180 u181 u182 u183 u184 u185 u186 u187 u188 u189 u190 u191 u192 u193 u194 u195 u196 u197 u198 u199 u200 u201 u202 u203 u204 u205 u206 u207 u208 u209 u210 u211 u212 u213 u214 u215 u216 u217 u218 u219 u220 u221 u222 u223 u224 u225 u226 u227 u228 u229 u230 u231 u232 u233 u234 u235 u236 u237 u238 u239 u240 u241 u242 u243 u244 u245 u246 u247 u248 u249 u250 u251 u252 u253 u254 u255 u256 u257 u258 u259 u260 u261 u262 u263 u264 u265 u266 u267 u268 u269 u270 u271 u272 u273 u274 u275 u276 u277 u278 u279 u280 u281 u282 u283 u284 u285 u286 u287 u288 u289 u290 u291 u292 u293 u294 u295 u296 u297 u298 u299 u300 u301 u302 u303 u304 u305 u306 u307 u308 u309 u310 u311 u312 u313 u314 u315 u316 u317 u318 u319 u320 u321 u322 u323 u324 u325 u326 u327 u328 u329 u330 u331 u332 u333 u334 u335 u336 u337 u338 u339 u340 u341 u342 u343 u344 u345 : Value) :
    Code.wp Tryz.prog ((Tryz.f10.body.bind (findTail 36)).getD .skip) (bodyPost Tryz.prog Tryz.f10 (fun e w' => e = .returned (.bool true) ∧ Kept [x] w w')) ⟨#[.pointer (some ⟨b, 0, none⟩), u1, u2, u3, u4, u5, u6, .string z, .pointer (some ⟨F, 0, none⟩), u9, u10, .int .i64 M, .string t, .slice hw.ao nW hw.cap, u14, u15, .string goo, .slice hv.ao nV hv.cap, u18, u19, u20, u21, u22, u23, u24, u25, u26, u27, u28, u29, u30, u31, u32, u33, u34, u35, u36, u37, u38, u39, u40, u41, u42, u43, u44, u45, u46, u47, u48, u49, u50, u51, u52, u53, u54, u55, u56, u57, u58, u59, u60, u61, u62, u63, u64, u65, u66, u67, u68, u69, u70, u71, u72, u73, u74, u75, u76, u77, u78, u79, u80, u81, u82, u83, u84, u85, u86, u87, u88, u89, u90, u91, u92, u93, u94, u95, u96, u97, u98, u99, u100, u101, u102, u103, u104, u105, u106, u107, u108, u109, u110, u111, u112, u113, u114, u115, u116, u117, u118, u119, u120, u121, u122, u123, u124, u125, u126, u127, u128, u129, u130, u131, u132, u133, u134, u135, u136, u137, u138, u139, u140, u141, u142, u143, u144, u145, u146, u147, u148, u149, u150, u151, u152, u153, u154, u155, u156, u157, u158, u159, u160, u161, u162, u163, u164, u165, u166, u167, u168, u169, u170, u171, u172, u173, u174, u175, u176, u177, u178, u179, u180, u181, u182, u183, u184, u185, u186, u187, u188, u189, u190, u191, u192, u193, u194, u195, u196, u197, u198, u199, u200, u201, u202, u203, u204, u205, u206, u207, u208, u209, u210, u211, u212, u213, u214, u215, u216, u217, u218, u219, u220, u221, u222, u223, u224, u225, u226, u227, u228, u229, u230, u231, u232, u233, u234, u235, u236, u237, u238, u239, u240, u241, u242, u243, u244, u245, u246, u247, u248, u249, u250, u251, u252, u253, u254, u255, u256, u257, u258, u259, u260, u261, u262, u263, u264, u265, u266, u267, u268, u269, u270, u271, u272, u273, u274, u275, u276, u277, u278, u279, u280, u281, u282, u283, u284, u285, u286, u287, u288, u289, u290, u291, u292, u293, u294, u295, u296, u297, u298, u299, u300, u301, u302, u303, u304, u305, u306, u307, u308, u309, u310, u311, u312, u313, u314, u315, u316, u317, u318, u319, u320, u321, u322, u323, u324, u325, u326, u327, u328, u329, u330, u331, u332, u333, u334, u335, u336, u337, u338, u339, u340, u341, u342, u343, u344, u345], []⟩ wc := by
  conv => arg 2; whnf
  have hzs := hZ.size
  obtain ⟨i0, hi, hz0, hz1, hz2⟩ := info_parts infoS
  go_wp2
  go_loopg [12, 13, 22] 3 (fun gm t' wn i wr => ∃ (k : Nat) (tt : ByteArray) (hw' : Hd) (P : List ByteArray), k ≤ 3 ∧ gm = 3 - k ∧ t' = .string tt ∧ wn = .slice hw'.ao (nW + P.length) hw'.cap ∧ i = .int .i64 k ∧ (tt.size ≤ 2300 + 100 * k ∧ P.length ≤ 3 * k) ∧ Hid (tt = qT z (dBf M) t k ∧ P = qW z (eBf B M) (gBf B) (dBf M) k) ∧ Hid (GvS w wr n0 b x F g ao cap T z o hw' (W0 ++ P) hv Lv))
  case atStart => exact ⟨0, t, hw, [], by omega, rfl, rfl, rfl, rfl, ⟨by omega, by simp⟩, ⟨rfl, rfl⟩, by rw [List.append_nil]; exact HG.out⟩
  case round =>
    obtain ⟨k, tt, hw', P, hk, hgm, rfl, rfl, rfl, ⟨z1, z2⟩, HTT, HG⟩ := hrel
    by_cases hlt : k < 3
    · have hki : (k : Int) < 3 := by omega
      go_wp2
      go_loopg [12, 13, 23] (2 - k) (fun gn t' wn j wr => ∃ (n : Nat) (tu : ByteArray) (hw'' : Hd) (P' : List ByteArray), n ≤ 2 - k ∧ gn = 2 - k - n ∧ t' = .string tu ∧ wn = .slice hw''.ao (nW + P'.length) hw''.cap ∧ j = .int .i64 ((k : Int) + 1 + (n : Int)) ∧ (tu.size ≤ 2300 + 100 * k + 40 * n ∧ P'.length ≤ 3 * k + n) ∧ Hid (tu = qiT z (dBf M) k tt n ∧ P' = qiW z (eBf B M) (gBf B) (dBf M) k P n) ∧ Hid (GvS w wr n0 b x F g ao cap T z o hw'' (W0 ++ P') hv Lv))
      case atStart => exact ⟨0, tt, hw', P, by omega, rfl, rfl, rfl, by simp, ⟨by omega, by omega⟩, ⟨rfl, rfl⟩, HG⟩
      case round =>
        obtain ⟨n, tu, hw'', P', hn, hgn, rfl, rfl, rfl, ⟨y1, y2⟩, HTU, HG⟩ := hrel
        by_cases hnl : n < 2 - k
        · have hdi := dig_size k (by omega)
          have hdj := dig_size (k + 1 + n) (by omega)
          have HDI : Hid (∀ wx : World, Calls Tryz.prog 26 #[.int .i64 k] wx fun e w' => e = .returned (.string (digF k)) ∧ Kept [] wx w') := fun wx => digits_any k wx (by omega)
          have HDJ : Hid (∀ wx : World, Calls Tryz.prog 26 #[.int .i64 ((k : Int) + 1 + (n : Int))] wx fun e w' => e = .returned (.string (digF (k + 1 + n))) ∧ Kept [] wx w') := fun wx => by
            have := digits_any (k + 1 + n) wx (by omega)
            rw [show ((k + 1 + n : Nat) : Int) = (k : Int) + 1 + (n : Int) by omega] at this
            exact this
          obtain ⟨di, Hdi⟩ : ∃ di, Hid (digF k = di) := ⟨_, rfl⟩
          obtain ⟨dj, Hdj⟩ : ∃ dj, Hid (digF (k + 1 + n) = dj) := ⟨_, rfl⟩
          rw [Hdi.out] at HDI hdi
          rw [Hdj.out] at HDJ hdj
          have HFI : Hid (∀ s wx, GvS w wx n0 b x F g ao cap T z o hw'' (W0 ++ P') hv Lv → Calls Tryz.prog 27 #[.slice hv.ao nV hv.cap, .string s] wx fun e w' => ∃ q : Int, e = .returned (.int .i64 q) ∧ (decide (0 ≤ q) = hasF Lv s) ∧ Kept [] wx w') := fun s wx h => by
            have := findS_any hv.ao hv.cap Lv s wx (owns_find h.vars) (by rw [HNV.out]; omega)
            rw [HNV.out] at this
            exact this
          have HI : Hid (hasF Lv (z ++ di) = inB (eBf B M) (gBf B) k) := by show _ = _; rw [HV.out, ← Hdi.out]; exact has_vi z k hlt
          have HJ : Hid (hasF Lv (z ++ dj) = inB (eBf B M) (gBf B) (k + 1 + n)) := by show _ = _; rw [HV.out, ← Hdj.out]; exact has_vi z (k + 1 + n) (by omega)
          go_upto_region 43 with (go_at_call 26; refine (HDI.out _).mono ?_; rintro e wq ⟨rfl, kq⟩; have HG := (show Hid _ from HG.out.still kq))
          go_upto_if 225 with (go_at_call 26; refine (HDJ.out _).mono ?_; rintro e wq ⟨rfl, kq⟩; have HG := (show Hid _ from HG.out.still kq))
          cases hbt : (bits BinOp.and IntKind.i64 ((M : Int) / 2 ^ (k + (k + 1 + n) - 1)) 1 == 0)
          · have HD : Hid (dBf M (2 * k + n) = true) := by show _ = _; rw [show 2 * k + n = k + (k + 1 + n) - 1 by omega]; exact dBf_yes hbt
            obtain ⟨tn, Htn⟩ : ∃ tn, Hid (tu ++ ⟨#[32, 36, 100, 32]⟩ ++ (z ++ dj) ++ ⟨#[32]⟩ ++ (z ++ di) ++ ⟨#[32, 36, 46]⟩ = tn) := ⟨_, rfl⟩
            have htn : tn.size ≤ 2300 + 100 * k + 40 * (n + 1) := by rw [← Htn.out]; simp only [ByteArray.size_append, lit_pair]; omega
            have HTN : Hid (tn = qiT z (dBf M) k tt (n + 1)) := by show _ = _; rw [qiT, gD1, if_pos HD.out, ← HTU.out.1, ← Htn.out, ← Hdi.out, ← Hdj.out]; rfl
            go_wp2_with fail
            rw [Htn.out]
            refine (HFI.out _ _ HG.out).mono ?_
            rintro e wf ⟨q1, rfl, hq1, kf⟩
            have HG := (show Hid _ from HG.out.still kf)
            rw [HI.out] at hq1
            have HQ1 := (show Hid _ from hq1)
            clear hq1
            go_wp2_with fail
            refine (HFI.out _ _ HG.out).mono ?_
            rintro e wg ⟨q2, rfl, hq2, kg⟩
            have HG := (show Hid _ from HG.out.still kg)
            rw [HJ.out] at hq2
            have HQ2 := (show Hid _ from hq2)
            clear hq2
            by_cases h1 : 0 ≤ q1
            · by_cases h2 : 0 ≤ q2
              · obtain ⟨pl, Hpl⟩ : ∃ pl, Hid (⟨#[36, 100, 32]⟩ ++ (z ++ di) ++ ⟨#[32]⟩ ++ (z ++ dj) = pl) := ⟨_, rfl⟩
                have HP : Hid (P' ++ [pl] = qiW z (eBf B M) (gBf B) (dBf M) k P (n + 1)) := by
                  show _ = _
                  rw [qiW, gPa, HD.out, ← HQ1.out, ← HQ2.out, ← HTU.out.2, ← Hpl.out, ← Hdi.out, ← Hdj.out]; simp [h1, h2, ifL]; rfl
                have HRL : Hid ((rowS (W0 ++ P')).n = nW + P'.length) := by show _ = _; rw [← HN.out]; simp [rowS]
                have A1 : Hid (GvS w (wg.alloc (.cells #[.string pl] 9)) n0 b x F g ao cap T z o hw'' (W0 ++ P') hv Lv) := HG.out.still ((Kept.refl [] wg).alloc _)
                have hO1 := A1.out.want
                go_wp2_with (at_builtin; rw [Hpl.out]; refine wpList_append_row _ rfl (.tmp 246) (.tmp 252) 22 rfl i0 (.string ⟨#[]⟩) 16 hw'' (rowS (W0 ++ P')) Tryz.underlying22 hi hz0 hz1 hz2 rfl Nat.one_pos (by rw [HRL.out]; rfl) hO1 ⟨wg.heap.size, 0, none⟩ 1 1 [.string pl] rfl rfl ?c1 ?c2 Nat.one_pos ?c3 ?c4 ?_)
                case c1 => intro j u hj; match j, hj with | 0, hj => simp at hj; subst hj; simp [Addr.add]
                case c2 => intro u hu; simp at hu; subst hu; rfl
                case c3 => rw [HRL.out]; unfold maxLen; omega
                case c4 => rw [HRL.out]; omega
                · intro g5 cap5 w5 hw5 hgr5 hf5
                  rw [rowS_snoc] at hw5
                  have A2 : Hid (GvS w w5 n0 b x F g ao cap T z o ⟨some ⟨g5, 0, none⟩, cap5⟩ (W0 ++ (P' ++ [pl])) hv Lv) := by
                    rw [← List.append_assoc]
                    exact A1.out.addW hgr5 hw5 (or_blk (by simpa using hf5))
                  rw [HRL.out]
                  clear hw5 hgr5 hf5 hO1 A1
                  go_wp2
                  go_roundg (2 - k - (n + 1))
                  case measure => omega
                  case rel => exact ⟨n + 1, tn, ⟨some ⟨g5, 0, none⟩, cap5⟩, P' ++ [pl], by omega, rfl, rfl, by simp [Nat.add_assoc], by go_num, ⟨htn, by simp; omega⟩, ⟨HTN.out, HP.out⟩, A2⟩
              · have HP : Hid (P' = qiW z (eBf B M) (gBf B) (dBf M) k P (n + 1)) := by
                  show _ = _
                  rw [qiW, gPa, HD.out, ← HQ1.out, ← HQ2.out]; simp [h1, h2, ifL]; exact HTU.out.2
                go_wp2
                go_roundg (2 - k - (n + 1))
                case measure => omega
                case rel => exact ⟨n + 1, tn, hw'', P', by omega, rfl, rfl, rfl, by go_num, ⟨htn, by omega⟩, ⟨HTN.out, HP.out⟩, HG⟩
            · have HP : Hid (P' = qiW z (eBf B M) (gBf B) (dBf M) k P (n + 1)) := by
                show _ = _
                rw [qiW, gPa, HD.out, ← HQ1.out, ← HQ2.out]; simp [h1, ifL]; exact HTU.out.2
              go_wp2
              go_roundg (2 - k - (n + 1))
              case measure => omega
              case rel => exact ⟨n + 1, tn, hw'', P', by omega, rfl, rfl, rfl, by go_num, ⟨htn, by omega⟩, ⟨HTN.out, HP.out⟩, HG⟩
          · have HD : Hid (dBf M (2 * k + n) = false) := by show _ = _; rw [show 2 * k + n = k + (k + 1 + n) - 1 by omega]; exact dBf_no hbt
            have HTN : Hid (tu = qiT z (dBf M) k tt (n + 1)) := by show _ = _; rw [qiT, gD1, if_neg (by rw [HD.out]; simp)]; exact HTU.out.1
            have HP : Hid (P' = qiW z (eBf B M) (gBf B) (dBf M) k P (n + 1)) := by show _ = _; rw [qiW, gPa, HD.out]; simp [ifL]; exact HTU.out.2
            go_wp2
            go_roundg (2 - k - (n + 1))
            case measure => omega
            case rel => exact ⟨n + 1, tu, hw'', P', by omega, rfl, rfl, rfl, by go_num, ⟨by omega, by omega⟩, ⟨HTN.out, HP.out⟩, HG⟩
        · have e : n = 2 - k := by omega
          go_wp2
          go_roundg (3 - (k + 1))
          case measure => omega
          case rel => exact ⟨k + 1, tu, hw'', P', by omega, rfl, rfl, rfl, by go_num, ⟨by omega, by omega⟩, ⟨by rw [HTU.out.1, HTT.out.1, e]; rfl, by rw [HTU.out.2, HTT.out.2, e]; rfl⟩, HG⟩
    · have e : k = 3 := by omega
      subst e
      go_upto_region 50 with fail
      rename_i K hK
      exact given_end w _ n0 b x F g ao cap T z o hw' hv (W0 ++ P) Lv tt goo B M (nW + P.length) hT hZ hx hxw hM (by omega) hgo (by show _ = _; rw [HTT.out.1, HT.out]) HGO (by show _ = _; rw [HTT.out.2, HW.out]) (by show _ = _; rw [List.length_append, HN.out]) (by omega) HG _ _ _ _ _ _ _ _ _ _ _ _ _ _ _ _ _ _ _ _ _ _ _ _ _ _ _ _ _ _ _ _ _ _ _ _ _ _ _ _ _ _ _ _ _ _ _ _ _ _ _ _ _ _ _ _ _ _ _ _ _ _ _ _ _ _ _ _ _ _ _ _ _ _ _ _ _ _ _ _ _ _ _ _ _ _ _ _ _ _ _ _ _ _ _ _ _ _ _ _ _ _ _ _ _ _ _ _ _ _ _ _ _ _ _ _ _ _ _ _ _ _ _ _ _ _ _ _ _ _ _ _ _ _ _ _ _ _ _ _ _ _ _ _ _ _ _ _ _ _ _ _ _ _ _ _ _ _ _ _ _ _ _ _ _ _ _ _ _ _ _ _ _ _ _ _ _ _ _ _ _ _ _ _ _ _ _ _ _ _ _ _ _ _ _ _ _ _ _ _ _ _ _ _ _ _ _ _ _ _ _ _ _ _ _ _ _ _ _ _ _ _ _ _ _ _ _ _ _ _ _ _ _ _ _ _ _ _ _ _ _ _ _ _ _ _ _ _ _ _ _ _ _ _ _ _ _ _ _ _ _ _ _ _ _ _ _ _ _ _ _ _ _ _ _ _ _ _ _ _ _ _ _ _ _ _ _ _ _ _ _ _ _ _ _ _ _ _ _ _ _ _ _ _ _ _ _ _ _ _ _ _ _ _ _ _ _ _ _ _ _ _ _ _ _ _ _ _ _ _ _ _ _ _ _ _ _ _ _ _ K hK

end Go.Proofs.YtcipkfhpcbddiaaGreat
