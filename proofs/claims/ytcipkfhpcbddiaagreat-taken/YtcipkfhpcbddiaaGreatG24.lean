/- Our texts: FmA. -/
import Derived.Deep.CutRange
import Derived.Deep.CutBlock
import Derived.Test.YtcipkfhpcbddiaaGreatG23
/- Package metaproofkeep: form: its regions that append. (Made by wip/gen/fmr.py.) -/
namespace Go.Proofs.YtcipkfhpcbddiaaGreat
open Go.RowKit

def findReg (n : Nat) : Code → Option Code
  | .region id ops d => match Nat.beq id n with
    | true => some (.region id ops d)
    | false => none
  | .seq a b => match findReg n a with
    | some c => some c
    | none => findReg n b
  | .cond _ a b => match findReg n a with
    | some c => some c
    | none => findReg n b
  | .block _ c => findReg n c
  | .loop c => findReg n c
  | .scope c => findReg n c
  | _ => none
def tailW (gt tc : Nat) (r : List ByteArray) : Ex := ⟨⟨some ⟨gt, 2, none⟩, tc - 2⟩, r⟩
theorem wp_weak {P : Program} {c : Code} {K : Act → World → Prop} {Q : Exit → Act → World → Prop} {a : Act} {w : World} (h : Code.wp P c (Exit.then K (fun _ _ _ => False)) a w) : Code.wp P c (Exit.then K Q) a w := by
  refine wp_mono h ?_
  intro e a' w' hq
  cases e with
  | normal => exact hq
  | exit id => exact hq.elim
  | goto l => exact hq.elim
  | ret => exact hq.elim
  | panic ch => exact hq.elim
  | outgrown => exact hq.elim
theorem wp_strong {P : Program} {c : Code} {K : Act → World → Prop} {Q : Exit → Act → World → Prop} {a : Act} {w : World} (h : Code.wp P c (Exit.then K (fun _ _ _ => False)) a w) (hq : ∀ a' w', K a' w' → Q .normal a' w') : Code.wp P c Q a w := by
  refine wp_mono h ?_
  intro e a' w' q
  cases e with
  | normal => exact hq _ _ q
  | exit id => exact q.elim
  | goto l => exact q.elim
  | ret => exact q.elim
  | panic ch => exact q.elim
  | outgrown => exact q.elim

set_option maxHeartbeats 2000000 in
set_option maxRecDepth 1000000 in
theorem reg14 (w wc : World) (F g : Nat) (lab : ByteArray) (L : List ByteArray) (hy : List ByteArray) (wh : List Int) (va ty : List ByteArray) (ess : List (List ByteArray)) (le ri go : List ByteArray) (es : List Ex) (hg : Hd) (H : Nat → Hd) (gt tc nw : Nat) (ws : List ByteArray) (x : ByteArray) (hx : ws[1]? = some x) (hjn : 1 < nw) (hb : le.length ≤ 300000000)
    (S : Hid (FmSt w wc F g lab L ⟨hy, wh, va, ty, ess, le, ri, go⟩ es hg H gt tc ws)) (u0 u1 u2 u3 u4 u5 u7 u8 u9 u11 u12 u13 u14 u15 u16 u17 u18 u19 u20 u21 u22 u23 u24 u25 u26 u27 u28 u29 u30 u31 u32 u33 u34 u35 u36 u37 u38 u39 u40 u41 u42 u43 u44 u45 u46 u47 u48 u49 u50 u51 u52 u53 u54 u55 u56 u57 u58 u59 u60 u61 u62 u63 u64 u65 u66 u67 u68 u69 u70 u71 u72 u73 u74 u75 u76 u77 u78 u79 u80 u81 u82 u83 u84 u85 u86 u87 u88 u89 u90 u91 u92 u93 u94 u95 u96 u97 u98 u99 u100 u101 u102 u103 u104 u105 u106 u107 u108 u109 u110 u111 u112 u113 u114 u115 u116 u117 u118 u119 u120 u121 u122 u123 u124 u125 u126 u127 u128 u129 u130 u131 u132 u133 u134 u135 u136 u137 u138 u139 u140 u141 u142 u143 u144 u145 u146 u147 u148 u149 u150 u151 u152 u153 u154 u155 u156 u157 u158 u159 u160 u161 u162 u163 u164 u165 u166 u167 u168 u169 u170 u171 u172 u173 u174 u175 u176 u177 u178 u179 u180 u181 u182 u183 u184 u185 u186 u187 u188 u189 u190 u191 u192 u193 u194 u195 u196 u197 u198 u199 u200 u201 u202 u203 u204 u205 u206 u207 u208 u209 u210 u211 u212 u213 u214 u215 u216 u217 u218 u219 u220 u221 : Value) (J K : Act → World → Prop)
    (hJ : ∀ a' w', (∃ v57 v58 v59 v60 v61 v62 v63 v64 v65 v66 v67 v68 : Value, (∃ H', FmSt w w' F g lab L ⟨hy, wh, va, ty, ess, le ++ [x], ri, go⟩ es hg H' gt tc ws) ∧ a' = ⟨#[u0, u1, u2, u3, u4, u5, .pointer (some ⟨F, 0, none⟩), u7, u8, u9, .slice (some ⟨gt, 0, none⟩) nw tc, u11, u12, u13, u14, u15, u16, u17, u18, u19, u20, u21, u22, u23, u24, u25, u26, u27, u28, u29, u30, u31, u32, u33, u34, u35, u36, u37, u38, u39, u40, u41, u42, u43, u44, u45, u46, u47, u48, u49, u50, u51, u52, u53, u54, u55, u56, v57, v58, v59, v60, v61, v62, v63, v64, v65, v66, v67, v68, u69, u70, u71, u72, u73, u74, u75, u76, u77, u78, u79, u80, u81, u82, u83, u84, u85, u86, u87, u88, u89, u90, u91, u92, u93, u94, u95, u96, u97, u98, u99, u100, u101, u102, u103, u104, u105, u106, u107, u108, u109, u110, u111, u112, u113, u114, u115, u116, u117, u118, u119, u120, u121, u122, u123, u124, u125, u126, u127, u128, u129, u130, u131, u132, u133, u134, u135, u136, u137, u138, u139, u140, u141, u142, u143, u144, u145, u146, u147, u148, u149, u150, u151, u152, u153, u154, u155, u156, u157, u158, u159, u160, u161, u162, u163, u164, u165, u166, u167, u168, u169, u170, u171, u172, u173, u174, u175, u176, u177, u178, u179, u180, u181, u182, u183, u184, u185, u186, u187, u188, u189, u190, u191, u192, u193, u194, u195, u196, u197, u198, u199, u200, u201, u202, u203, u204, u205, u206, u207, u208, u209, u210, u211, u212, u213, u214, u215, u216, u217, u218, u219, u220, u221], []⟩) → J a' w') (hK : ∀ a' w', Met J a' w' → K a' w') :
    Code.wp Tryz.prog ((Tryz.f31.body.bind (findReg 14)).getD .skip) (Exit.then K (fun _ _ _ => False)) ⟨#[u0, u1, u2, u3, u4, u5, .pointer (some ⟨F, 0, none⟩), u7, u8, u9, .slice (some ⟨gt, 0, none⟩) nw tc, u11, u12, u13, u14, u15, u16, u17, u18, u19, u20, u21, u22, u23, u24, u25, u26, u27, u28, u29, u30, u31, u32, u33, u34, u35, u36, u37, u38, u39, u40, u41, u42, u43, u44, u45, u46, u47, u48, u49, u50, u51, u52, u53, u54, u55, u56, u57, u58, u59, u60, u61, u62, u63, u64, u65, u66, u67, u68, u69, u70, u71, u72, u73, u74, u75, u76, u77, u78, u79, u80, u81, u82, u83, u84, u85, u86, u87, u88, u89, u90, u91, u92, u93, u94, u95, u96, u97, u98, u99, u100, u101, u102, u103, u104, u105, u106, u107, u108, u109, u110, u111, u112, u113, u114, u115, u116, u117, u118, u119, u120, u121, u122, u123, u124, u125, u126, u127, u128, u129, u130, u131, u132, u133, u134, u135, u136, u137, u138, u139, u140, u141, u142, u143, u144, u145, u146, u147, u148, u149, u150, u151, u152, u153, u154, u155, u156, u157, u158, u159, u160, u161, u162, u163, u164, u165, u166, u167, u168, u169, u170, u171, u172, u173, u174, u175, u176, u177, u178, u179, u180, u181, u182, u183, u184, u185, u186, u187, u188, u189, u190, u191, u192, u193, u194, u195, u196, u197, u198, u199, u200, u201, u202, u203, u204, u205, u206, u207, u208, u209, u210, u211, u212, u213, u214, u215, u216, u217, u218, u219, u220, u221], []⟩ wc := by
  conv => arg 2; whnf
  obtain ⟨i0, hi, hz0, hz1, hz2⟩ := info_parts infoS
  have cF := S.out.cell 7 _ rfl
  have cw := S.out.word 1 x hx
  have q0 : 0 < nw := by omega
  have q1 : (1 : Int) < (nw : Int) := by omega
  have hls := S.out.lts
  have hD := (show Hid _ from S.out.still ((Kept.refl [] wc).alloc (.cells #[.string x] 9)).drew)
  have s2 : Hid (∀ j u, ([.string x] : List Value)[j]? = some u → (wc.alloc (.cells #[.string x] 9)).drew.cell? ((⟨wc.heap.size, 0, none⟩ : Addr).add j) = some u) := by
    intro j u hj
    rw [addr_add]
    have hk : (wc.alloc (.cells #[.string x] 9)).drew.heap[wc.heap.size]? = some (.cells #[.string x] 9 (0, 0)) := heap_alloc_new _ _
    rw [cell_of hk]; simpa using hj
  have s3 : Hid (∀ u ∈ ([.string x] : List Value), u.oneCell' = true) := by intro u hu; simp at hu; subst hu; rfl
  have s4 : Hid ((rowS le).n + 1 ≤ maxLen) := by show _ ≤ _; simp only [rowS]; unfold maxLen; omega
  have s5 : Hid (((rowS le).n + 1) * 16 ≤ 140737488355328) := by show _ ≤ _; simp only [rowS]; omega

  go_region_law (refine step_append_row rfl (.tmp 61) (.tmp 65) 22 rfl i0 (.string ⟨#[]⟩) 16 (H 5) (rowS le) Tryz.underlying22 hi hz0 hz1 hz2 rfl Nat.one_pos (by simp [Act.eval] <;> rfl) (hD.out.fm.bag.own 5) ⟨wc.heap.size, 0, none⟩ 1 1 [.string x] (by simp [Act.eval]) rfl s2.out s3.out Nat.one_pos s4.out s5.out ?_; intro g5 cap5 w5 hw5 hgr5 hfr5; obtain ⟨k5, f5, HP⟩ := hD.out.app (f' := ⟨hy, wh, va, ty, ess, le ++ [x], ri, go⟩) (es' := es) 7 5 g5 cap5 ((rowS le).n + 1) _ hw5 (rowS_snoc le x) hgr5 (by simpa using hfr5) (fun j hj => by rcases j with _|_|_|_|_|_|_|j <;> first | rfl | exact absurd rfl hj) _ rfl (by simp [fmL, upd, rowS]) hD.out.fm.exs hD.out.fm.ess rfl; clear hw5 hgr5 hfr5)
  all_goals go_wp2_with fail
  all_goals go_meet
  all_goals (case rel => exact ⟨_, HP.out⟩)

end Go.Proofs.YtcipkfhpcbddiaaGreat
