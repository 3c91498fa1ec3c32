import Derived.Deep.CutRange
import Derived.Deep.CutBlock
import Derived.Test.YtlbhbocbakijbaaGreatG22
namespace Go.Proofs.YtlbhbocbakijbaaGreat
open Go.RowKit
set_option maxHeartbeats 0
set_option maxRecDepth 1000000 in
theorem Gh(w wc:World)(F g:Nat)(lab:ByteArray)(L:List ByteArray)(hy:List ByteArray)(wh:List Int)(va ty:List ByteArray)(ess:List (List ByteArray))(le ri go:List ByteArray)(es:List Ex)(hg:Hd)(H:Nat->Hd)(gt tc nw:Nat)(ws:List ByteArray)(x:ByteArray)(hx:ws[2]?=some x)(hjn:2<nw)(hb:ty.length<=300000000)
  (S:Hid (dg w wc F g lab L ⟨hy,wh,va,ty,ess,le,ri,go⟩ es hg H gt tc ws)) (u0 u1 u2 u3 u4 u5 u7 u8 u9 u11 u12 u13 u14 u15 u16 u17 u18 u19 u20 u21 u22 u23 u24 u25 u26 u27 u28 u29 u30 u31 u32 u33 u34 u35 u36 u37 u38 u39 u40 u41 u42 u43 u44 u45 u46 u47 u48 u49 u50 u51 u52 u53 u54 u55 u56 u57 u58 u59 u60 u61 u62 u63 u64 u65 u66 u67 u68 u69 u70 u71 u72 u73 u74 u75 u76 u77 u78 u79 u80 u81 u82 u83 u84 u85 u86 u87 u88 u89 u90 u91 u92 u93 u94 u95 u96 u97 u98 u99 u100 u101 u102 u103 u104 u105 u106 u107 u108 u109 u110 u111 u112 u113 u114 u115 u116 u117 u118 u119 u120 u121 u122 u123 u124 u125 u126 u127 u128 u129 u130 u131 u132 u133 u134 u135 u136 u137 u138 u139 u140 u141 u142 u143 u144 u145 u146 u147 u148 u149 u150 u151 u152 u153 u154 u155 u156 u157 u158 u159 u160 u161 u162 u163 u164 u165 u166 u167 u168 u169 u170 u171 u172 u173 u174 u175 u176 u177 u178 u179 u180 u181 u182 u183 u184 u185 u186 u187 u188 u189 u190 u191 u192 u193 u194 u195 u196 u197 u198 u199 u200 u201 u202 u203 u204 u205 u206 u207 u208 u209 u210 u211 u212 u213 u214 u215 u216 u217 u218 u219 u220 u221:Value) (J K:Act->World->Prop)
  (hJ:∀a' w',(∃v117 v118 v119 v120 v121 v122 v123 v124 v125 v126 v127 v128:Value,(∃H',dg w w' F g lab L ⟨hy,wh,va,ty++[x],ess,le,ri,go⟩ es hg H' gt tc ws)/\a'=⟨#[u0,u1,u2,u3,u4,u5,.pointer (some ⟨F,0,none⟩),u7,u8,u9,.slice (some ⟨gt,0,none⟩) nw tc,u11,u12,u13,u14,u15,u16,u17,u18,u19,u20,u21,u22,u23,u24,u25,u26,u27,u28,u29,u30,u31,u32,u33,u34,u35,u36,u37,u38,u39,u40,u41,u42,u43,u44,u45,u46,u47,u48,u49,u50,u51,u52,u53,u54,u55,u56,u57,u58,u59,u60,u61,u62,u63,u64,u65,u66,u67,u68,u69,u70,u71,u72,u73,u74,u75,u76,u77,u78,u79,u80,u81,u82,u83,u84,u85,u86,u87,u88,u89,u90,u91,u92,u93,u94,u95,u96,u97,u98,u99,u100,u101,u102,u103,u104,u105,u106,u107,u108,u109,u110,u111,u112,u113,u114,u115,u116,v117,v118,v119,v120,v121,v122,v123,v124,v125,v126,v127,v128,u129,u130,u131,u132,u133,u134,u135,u136,u137,u138,u139,u140,u141,u142,u143,u144,u145,u146,u147,u148,u149,u150,u151,u152,u153,u154,u155,u156,u157,u158,u159,u160,u161,u162,u163,u164,u165,u166,u167,u168,u169,u170,u171,u172,u173,u174,u175,u176,u177,u178,u179,u180,u181,u182,u183,u184,u185,u186,u187,u188,u189,u190,u191,u192,u193,u194,u195,u196,u197,u198,u199,u200,u201,u202,u203,u204,u205,u206,u207,u208,u209,u210,u211,u212,u213,u214,u215,u216,u217,u218,u219,u220,u221],[]⟩)->J a' w') (hK:∀a' w',Met J a' w'->K a' w') :
  Code.wp Tryz.prog ((Tryz.f17.body.bind (dQ 19)).getD .skip) (Exit.then K (fun _ _ _=>False)) ⟨#[u0,u1,u2,u3,u4,u5,.pointer (some ⟨F,0,none⟩),u7,u8,u9,.slice (some ⟨gt,0,none⟩) nw tc,u11,u12,u13,u14,u15,u16,u17,u18,u19,u20,u21,u22,u23,u24,u25,u26,u27,u28,u29,u30,u31,u32,u33,u34,u35,u36,u37,u38,u39,u40,u41,u42,u43,u44,u45,u46,u47,u48,u49,u50,u51,u52,u53,u54,u55,u56,u57,u58,u59,u60,u61,u62,u63,u64,u65,u66,u67,u68,u69,u70,u71,u72,u73,u74,u75,u76,u77,u78,u79,u80,u81,u82,u83,u84,u85,u86,u87,u88,u89,u90,u91,u92,u93,u94,u95,u96,u97,u98,u99,u100,u101,u102,u103,u104,u105,u106,u107,u108,u109,u110,u111,u112,u113,u114,u115,u116,u117,u118,u119,u120,u121,u122,u123,u124,u125,u126,u127,u128,u129,u130,u131,u132,u133,u134,u135,u136,u137,u138,u139,u140,u141,u142,u143,u144,u145,u146,u147,u148,u149,u150,u151,u152,u153,u154,u155,u156,u157,u158,u159,u160,u161,u162,u163,u164,u165,u166,u167,u168,u169,u170,u171,u172,u173,u174,u175,u176,u177,u178,u179,u180,u181,u182,u183,u184,u185,u186,u187,u188,u189,u190,u191,u192,u193,u194,u195,u196,u197,u198,u199,u200,u201,u202,u203,u204,u205,u206,u207,u208,u209,u210,u211,u212,u213,u214,u215,u216,u217,u218,u219,u220,u221],[]⟩ wc:=by
 conv=>arg 2;whnf
 obtain⟨i0,hi,hz0,hz1,hz2⟩:=info_parts dp;have cF:=S.out.cell 5 _ rfl;have cw:=S.out.word 2 x hx;have q0:0<nw:=by omega
 have q1:(2:Int)<(nw:Int):=by omega
 have hls:=S.out.lts;have hD:=(show Hid _ from S.out.still ((aa.refl [] wc).alloc (.cells #[.string x] 9)).drew)
 have s2:Hid (∀j u,([.string x]:List Value)[j]?=some u->(wc.alloc (.cells #[.string x] 9)).drew.cell? ((⟨wc.heap.size,0,none⟩:Addr).add j)=some u):=by
  intro j u hj;rw[aV];have hk:(wc.alloc (.cells #[.string x] 9)).drew.heap[wc.heap.size]?=some (.cells #[.string x] 9 (0,0)):=heap_alloc_new _ _;rw[ab hk];simpa using hj
 have s3:Hid (∀u∈([.string x]:List Value),u.oneCell'=true):=by intro u hu;simp at hu;subst hu;rfl
 have s4:Hid ((am ty).n+1<=maxLen):=by show _<=_;simp only[am];unfold maxLen;omega
 have s5:Hid (((am ty).n+1)*16<=140737488355328):=by show _<=_;simp only[am];omega
 go_region_law (refine aC rfl (.tmp 121) (.tmp 125) 22 rfl i0 (.string ⟨#[]⟩) 16 (H 3) (am ty) Tryz.underlying22 hi hz0 hz1 hz2 rfl Nat.one_pos (by simp[Act.eval] <;> rfl) (hD.out.fm.bag.own 3) ⟨wc.heap.size,0,none⟩ 1 1 [.string x] (by simp[Act.eval]) rfl s2.out s3.out Nat.one_pos s4.out s5.out ?_;intro g5 cap5 w5 hw5 hgr5 hfr5;obtain⟨k5,f5,HP⟩:=hD.out.app (f':=⟨hy,wh,va,ty++[x],ess,le,ri,go⟩) (es':=es) 5 3 g5 cap5 ((am ty).n+1) _ hw5 (bE ty x) hgr5 (by simpa using hfr5) (fun j hj=>by rcases j with _|_|_|_|_|_|_|j <;> first | rfl | exact absurd rfl hj) _ rfl (by simp[tr,cG,am]) hD.out.fm.exs hD.out.fm.ess rfl;clear hw5 hgr5 hfr5)
 all_goals go_wp2_with fail
 all_goals go_meet
 all_goals (case rel=>exact⟨_,HP.out⟩)
set_option maxRecDepth 1000000 in
theorem Gi(w wc:World)(F g:Nat)(lab:ByteArray)(L:List ByteArray)(hy:List ByteArray)(wh:List Int)(va ty:List ByteArray)(ess:List (List ByteArray))(le ri go:List ByteArray)(es:List Ex)(hg:Hd)(H:Nat->Hd)(gt tc nw:Nat)(ws:List ByteArray)(x:ByteArray)(hx:ws[3]?=some x)(hjn:3<nw)(hb:va.length<=300000000)
  (S:Hid (dg w wc F g lab L ⟨hy,wh,va,ty,ess,le,ri,go⟩ es hg H gt tc ws)) (u0 u1 u2 u3 u4 u5 u7 u8 u9 u11 u12 u13 u14 u15 u16 u17 u18 u19 u20 u21 u22 u23 u24 u25 u26 u27 u28 u29 u30 u31 u32 u33 u34 u35 u36 u37 u38 u39 u40 u41 u42 u43 u44 u45 u46 u47 u48 u49 u50 u51 u52 u53 u54 u55 u56 u57 u58 u59 u60 u61 u62 u63 u64 u65 u66 u67 u68 u69 u70 u71 u72 u73 u74 u75 u76 u77 u78 u79 u80 u81 u82 u83 u84 u85 u86 u87 u88 u89 u90 u91 u92 u93 u94 u95 u96 u97 u98 u99 u100 u101 u102 u103 u104 u105 u106 u107 u108 u109 u110 u111 u112 u113 u114 u115 u116 u117 u118 u119 u120 u121 u122 u123 u124 u125 u126 u127 u128 u129 u130 u131 u132 u133 u134 u135 u136 u137 u138 u139 u140 u141 u142 u143 u144 u145 u146 u147 u148 u149 u150 u151 u152 u153 u154 u155 u156 u157 u158 u159 u160 u161 u162 u163 u164 u165 u166 u167 u168 u169 u170 u171 u172 u173 u174 u175 u176 u177 u178 u179 u180 u181 u182 u183 u184 u185 u186 u187 u188 u189 u190 u191 u192 u193 u194 u195 u196 u197 u198 u199 u200 u201 u202 u203 u204 u205 u206 u207 u208 u209 u210 u211 u212 u213 u214 u215 u216 u217 u218 u219 u220 u221:Value) (J K:Act->World->Prop)
  (hJ:∀a' w',(∃v129 v130 v131 v132 v133 v134 v135 v136 v137 v138 v139 v140:Value,(∃H',dg w w' F g lab L ⟨hy,wh,va++[x],ty,ess,le,ri,go⟩ es hg H' gt tc ws)/\a'=⟨#[u0,u1,u2,u3,u4,u5,.pointer (some ⟨F,0,none⟩),u7,u8,u9,.slice (some ⟨gt,0,none⟩) nw tc,u11,u12,u13,u14,u15,u16,u17,u18,u19,u20,u21,u22,u23,u24,u25,u26,u27,u28,u29,u30,u31,u32,u33,u34,u35,u36,u37,u38,u39,u40,u41,u42,u43,u44,u45,u46,u47,u48,u49,u50,u51,u52,u53,u54,u55,u56,u57,u58,u59,u60,u61,u62,u63,u64,u65,u66,u67,u68,u69,u70,u71,u72,u73,u74,u75,u76,u77,u78,u79,u80,u81,u82,u83,u84,u85,u86,u87,u88,u89,u90,u91,u92,u93,u94,u95,u96,u97,u98,u99,u100,u101,u102,u103,u104,u105,u106,u107,u108,u109,u110,u111,u112,u113,u114,u115,u116,u117,u118,u119,u120,u121,u122,u123,u124,u125,u126,u127,u128,v129,v130,v131,v132,v133,v134,v135,v136,v137,v138,v139,v140,u141,u142,u143,u144,u145,u146,u147,u148,u149,u150,u151,u152,u153,u154,u155,u156,u157,u158,u159,u160,u161,u162,u163,u164,u165,u166,u167,u168,u169,u170,u171,u172,u173,u174,u175,u176,u177,u178,u179,u180,u181,u182,u183,u184,u185,u186,u187,u188,u189,u190,u191,u192,u193,u194,u195,u196,u197,u198,u199,u200,u201,u202,u203,u204,u205,u206,u207,u208,u209,u210,u211,u212,u213,u214,u215,u216,u217,u218,u219,u220,u221],[]⟩)->J a' w') (hK:∀a' w',Met J a' w'->K a' w') :
  Code.wp Tryz.prog ((Tryz.f17.body.bind (dQ 20)).getD .skip) (Exit.then K (fun _ _ _=>False)) ⟨#[u0,u1,u2,u3,u4,u5,.pointer (some ⟨F,0,none⟩),u7,u8,u9,.slice (some ⟨gt,0,none⟩) nw tc,u11,u12,u13,u14,u15,u16,u17,u18,u19,u20,u21,u22,u23,u24,u25,u26,u27,u28,u29,u30,u31,u32,u33,u34,u35,u36,u37,u38,u39,u40,u41,u42,u43,u44,u45,u46,u47,u48,u49,u50,u51,u52,u53,u54,u55,u56,u57,u58,u59,u60,u61,u62,u63,u64,u65,u66,u67,u68,u69,u70,u71,u72,u73,u74,u75,u76,u77,u78,u79,u80,u81,u82,u83,u84,u85,u86,u87,u88,u89,u90,u91,u92,u93,u94,u95,u96,u97,u98,u99,u100,u101,u102,u103,u104,u105,u106,u107,u108,u109,u110,u111,u112,u113,u114,u115,u116,u117,u118,u119,u120,u121,u122,u123,u124,u125,u126,u127,u128,u129,u130,u131,u132,u133,u134,u135,u136,u137,u138,u139,u140,u141,u142,u143,u144,u145,u146,u147,u148,u149,u150,u151,u152,u153,u154,u155,u156,u157,u158,u159,u160,u161,u162,u163,u164,u165,u166,u167,u168,u169,u170,u171,u172,u173,u174,u175,u176,u177,u178,u179,u180,u181,u182,u183,u184,u185,u186,u187,u188,u189,u190,u191,u192,u193,u194,u195,u196,u197,u198,u199,u200,u201,u202,u203,u204,u205,u206,u207,u208,u209,u210,u211,u212,u213,u214,u215,u216,u217,u218,u219,u220,u221],[]⟩ wc:=by
 conv=>arg 2;whnf
 obtain⟨i0,hi,hz0,hz1,hz2⟩:=info_parts dp;have cF:=S.out.cell 4 _ rfl;have cw:=S.out.word 3 x hx;have q0:0<nw:=by omega
 have q1:(3:Int)<(nw:Int):=by omega
 have hls:=S.out.lts;have hD:=(show Hid _ from S.out.still ((aa.refl [] wc).alloc (.cells #[.string x] 9)).drew)
 have s2:Hid (∀j u,([.string x]:List Value)[j]?=some u->(wc.alloc (.cells #[.string x] 9)).drew.cell? ((⟨wc.heap.size,0,none⟩:Addr).add j)=some u):=by
  intro j u hj;rw[aV];have hk:(wc.alloc (.cells #[.string x] 9)).drew.heap[wc.heap.size]?=some (.cells #[.string x] 9 (0,0)):=heap_alloc_new _ _;rw[ab hk];simpa using hj
 have s3:Hid (∀u∈([.string x]:List Value),u.oneCell'=true):=by intro u hu;simp at hu;subst hu;rfl
 have s4:Hid ((am va).n+1<=maxLen):=by show _<=_;simp only[am];unfold maxLen;omega
 have s5:Hid (((am va).n+1)*16<=140737488355328):=by show _<=_;simp only[am];omega
 go_region_law (refine aC rfl (.tmp 133) (.tmp 137) 22 rfl i0 (.string ⟨#[]⟩) 16 (H 2) (am va) Tryz.underlying22 hi hz0 hz1 hz2 rfl Nat.one_pos (by simp[Act.eval] <;> rfl) (hD.out.fm.bag.own 2) ⟨wc.heap.size,0,none⟩ 1 1 [.string x] (by simp[Act.eval]) rfl s2.out s3.out Nat.one_pos s4.out s5.out ?_;intro g5 cap5 w5 hw5 hgr5 hfr5;obtain⟨k5,f5,HP⟩:=hD.out.app (f':=⟨hy,wh,va++[x],ty,ess,le,ri,go⟩) (es':=es) 4 2 g5 cap5 ((am va).n+1) _ hw5 (bE va x) hgr5 (by simpa using hfr5) (fun j hj=>by rcases j with _|_|_|_|_|_|_|j <;> first | rfl | exact absurd rfl hj) _ rfl (by simp[tr,cG,am]) hD.out.fm.exs hD.out.fm.ess rfl;clear hw5 hgr5 hfr5)
 all_goals go_wp2_with fail
 all_goals go_meet
 all_goals (case rel=>exact⟨_,HP.out⟩)
set_option maxRecDepth 1000000 in
theorem Gj(w wc:World)(F g:Nat)(lab:ByteArray)(L:List ByteArray)(hy:List ByteArray)(wh:List Int)(va ty:List ByteArray)(ess:List (List ByteArray))(le ri go:List ByteArray)(es:List Ex)(hg:Hd)(H:Nat->Hd)(gt tc nw:Nat)(ws:List ByteArray)(x:ByteArray)(hx:ws[0]?=some x)(hjn:0<nw)(hb:hy.length<=300000000)
  (S:Hid (dg w wc F g lab L ⟨hy,wh,va,ty,ess,le,ri,go⟩ es hg H gt tc ws)) (u0 u1 u2 u3 u4 u5 u7 u8 u9 u11 u12 u13 u14 u15 u16 u17 u18 u19 u20 u21 u22 u23 u24 u25 u26 u27 u28 u29 u30 u31 u32 u33 u34 u35 u36 u37 u38 u39 u40 u41 u42 u43 u44 u45 u46 u47 u48 u49 u50 u51 u52 u53 u54 u55 u56 u57 u58 u59 u60 u61 u62 u63 u64 u65 u66 u67 u68 u69 u70 u71 u72 u73 u74 u75 u76 u77 u78 u79 u80 u81 u82 u83 u84 u85 u86 u87 u88 u89 u90 u91 u92 u93 u94 u95 u96 u97 u98 u99 u100 u101 u102 u103 u104 u105 u106 u107 u108 u109 u110 u111 u112 u113 u114 u115 u116 u117 u118 u119 u120 u121 u122 u123 u124 u125 u126 u127 u128 u129 u130 u131 u132 u133 u134 u135 u136 u137 u138 u139 u140 u141 u142 u143 u144 u145 u146 u147 u148 u149 u150 u151 u152 u153 u154 u155 u156 u157 u158 u159 u160 u161 u162 u163 u164 u165 u166 u167 u168 u169 u170 u171 u172 u173 u174 u175 u176 u177 u178 u179 u180 u181 u182 u183 u184 u185 u186 u187 u188 u189 u190 u191 u192 u193 u194 u195 u196 u197 u198 u199 u200 u201 u202 u203 u204 u205 u206 u207 u208 u209 u210 u211 u212 u213 u214 u215 u216 u217 u218 u219 u220 u221:Value) (J K:Act->World->Prop)
  (hJ:∀a' w',(∃v146 v147 v148 v149 v150 v151 v152 v153 v154 v155 v156 v157:Value,(∃H',dg w w' F g lab L ⟨hy++[x],wh,va,ty,ess,le,ri,go⟩ es hg H' gt tc ws)/\a'=⟨#[u0,u1,u2,u3,u4,u5,.pointer (some ⟨F,0,none⟩),u7,u8,u9,.slice (some ⟨gt,0,none⟩) nw tc,u11,u12,u13,u14,u15,u16,u17,u18,u19,u20,u21,u22,u23,u24,u25,u26,u27,u28,u29,u30,u31,u32,u33,u34,u35,u36,u37,u38,u39,u40,u41,u42,u43,u44,u45,u46,u47,u48,u49,u50,u51,u52,u53,u54,u55,u56,u57,u58,u59,u60,u61,u62,u63,u64,u65,u66,u67,u68,u69,u70,u71,u72,u73,u74,u75,u76,u77,u78,u79,u80,u81,u82,u83,u84,u85,u86,u87,u88,u89,u90,u91,u92,u93,u94,u95,u96,u97,u98,u99,u100,u101,u102,u103,u104,u105,u106,u107,u108,u109,u110,u111,u112,u113,u114,u115,u116,u117,u118,u119,u120,u121,u122,u123,u124,u125,u126,u127,u128,u129,u130,u131,u132,u133,u134,u135,u136,u137,u138,u139,u140,u141,u142,u143,u144,u145,v146,v147,v148,v149,v150,v151,v152,v153,v154,v155,v156,v157,u158,u159,u160,u161,u162,u163,u164,u165,u166,u167,u168,u169,u170,u171,u172,u173,u174,u175,u176,u177,u178,u179,u180,u181,u182,u183,u184,u185,u186,u187,u188,u189,u190,u191,u192,u193,u194,u195,u196,u197,u198,u199,u200,u201,u202,u203,u204,u205,u206,u207,u208,u209,u210,u211,u212,u213,u214,u215,u216,u217,u218,u219,u220,u221],[]⟩)->J a' w') (hK:∀a' w',Met J a' w'->K a' w') :
  Code.wp Tryz.prog ((Tryz.f17.body.bind (dQ 22)).getD .skip) (Exit.then K (fun _ _ _=>False)) ⟨#[u0,u1,u2,u3,u4,u5,.pointer (some ⟨F,0,none⟩),u7,u8,u9,.slice (some ⟨gt,0,none⟩) nw tc,u11,u12,u13,u14,u15,u16,u17,u18,u19,u20,u21,u22,u23,u24,u25,u26,u27,u28,u29,u30,u31,u32,u33,u34,u35,u36,u37,u38,u39,u40,u41,u42,u43,u44,u45,u46,u47,u48,u49,u50,u51,u52,u53,u54,u55,u56,u57,u58,u59,u60,u61,u62,u63,u64,u65,u66,u67,u68,u69,u70,u71,u72,u73,u74,u75,u76,u77,u78,u79,u80,u81,u82,u83,u84,u85,u86,u87,u88,u89,u90,u91,u92,u93,u94,u95,u96,u97,u98,u99,u100,u101,u102,u103,u104,u105,u106,u107,u108,u109,u110,u111,u112,u113,u114,u115,u116,u117,u118,u119,u120,u121,u122,u123,u124,u125,u126,u127,u128,u129,u130,u131,u132,u133,u134,u135,u136,u137,u138,u139,u140,u141,u142,u143,u144,u145,u146,u147,u148,u149,u150,u151,u152,u153,u154,u155,u156,u157,u158,u159,u160,u161,u162,u163,u164,u165,u166,u167,u168,u169,u170,u171,u172,u173,u174,u175,u176,u177,u178,u179,u180,u181,u182,u183,u184,u185,u186,u187,u188,u189,u190,u191,u192,u193,u194,u195,u196,u197,u198,u199,u200,u201,u202,u203,u204,u205,u206,u207,u208,u209,u210,u211,u212,u213,u214,u215,u216,u217,u218,u219,u220,u221],[]⟩ wc:=by
 conv=>arg 2;whnf
 obtain⟨i0,hi,hz0,hz1,hz2⟩:=info_parts dp;have cF:=S.out.cell 2 _ rfl;have cw:=S.out.word 0 x hx;have q0:0<nw:=by omega
 have q1:(0:Int)<(nw:Int):=by omega
 have hls:=S.out.lts;have hD:=(show Hid _ from S.out.still ((aa.refl [] wc).alloc (.cells #[.string x] 9)).drew)
 have s2:Hid (∀j u,([.string x]:List Value)[j]?=some u->(wc.alloc (.cells #[.string x] 9)).drew.cell? ((⟨wc.heap.size,0,none⟩:Addr).add j)=some u):=by
  intro j u hj;rw[aV];have hk:(wc.alloc (.cells #[.string x] 9)).drew.heap[wc.heap.size]?=some (.cells #[.string x] 9 (0,0)):=heap_alloc_new _ _;rw[ab hk];simpa using hj
 have s3:Hid (∀u∈([.string x]:List Value),u.oneCell'=true):=by intro u hu;simp at hu;subst hu;rfl
 have s4:Hid ((am hy).n+1<=maxLen):=by show _<=_;simp only[am];unfold maxLen;omega
 have s5:Hid (((am hy).n+1)*16<=140737488355328):=by show _<=_;simp only[am];omega
 go_region_law (refine aC rfl (.tmp 150) (.tmp 154) 22 rfl i0 (.string ⟨#[]⟩) 16 (H 0) (am hy) Tryz.underlying22 hi hz0 hz1 hz2 rfl Nat.one_pos (by simp[Act.eval] <;> rfl) (hD.out.fm.bag.own 0) ⟨wc.heap.size,0,none⟩ 1 1 [.string x] (by simp[Act.eval]) rfl s2.out s3.out Nat.one_pos s4.out s5.out ?_;intro g5 cap5 w5 hw5 hgr5 hfr5;obtain⟨k5,f5,HP⟩:=hD.out.app (f':=⟨hy++[x],wh,va,ty,ess,le,ri,go⟩) (es':=es) 2 0 g5 cap5 ((am hy).n+1) _ hw5 (bE hy x) hgr5 (by simpa using hfr5) (fun j hj=>by rcases j with _|_|_|_|_|_|_|j <;> first | rfl | exact absurd rfl hj) _ rfl (by simp[tr,cG,am]) hD.out.fm.exs hD.out.fm.ess rfl;clear hw5 hgr5 hfr5)
 all_goals go_wp2_with fail
 all_goals go_meet
 all_goals (case rel=>exact⟨_,HP.out⟩)
set_option maxRecDepth 1000000 in
theorem Gk(w wc:World)(F g:Nat)(lab:ByteArray)(L:List ByteArray)(hy:List ByteArray)(wh:List Int)(va ty:List ByteArray)(ess:List (List ByteArray))(le ri go:List ByteArray)(es:List Ex)(hg:Hd)(H:Nat->Hd)(gt tc nw:Nat)(ws:List ByteArray)(_hva:va.length<=300000000)(hel:es.length<=300000000)(hb:wh.length<=300000000)
  (S:Hid (dg w wc F g lab L ⟨hy,wh,va,ty,ess,le,ri,go⟩ es hg H gt tc ws)) (u0 u1 u2 u3 u4 u5 u7 u8 u9 u11 u12 u13 u14 u15 u16 u17 u18 u19 u20 u21 u22 u23 u24 u25 u26 u27 u28 u29 u30 u31 u32 u33 u34 u35 u36 u37 u38 u39 u40 u41 u42 u43 u44 u45 u46 u47 u48 u49 u50 u51 u52 u53 u54 u55 u56 u57 u58 u59 u60 u61 u62 u63 u64 u65 u66 u67 u68 u69 u70 u71 u72 u73 u74 u75 u76 u77 u78 u79 u80 u81 u82 u83 u84 u85 u86 u87 u88 u89 u90 u91 u92 u93 u94 u95 u96 u97 u98 u99 u100 u101 u102 u103 u104 u105 u106 u107 u108 u109 u110 u111 u112 u113 u114 u115 u116 u117 u118 u119 u120 u121 u122 u123 u124 u125 u126 u127 u128 u129 u130 u131 u132 u133 u134 u135 u136 u137 u138 u139 u140 u141 u142 u143 u144 u145 u146 u147 u148 u149 u150 u151 u152 u153 u154 u155 u156 u157 u158 u159 u160 u161 u162 u163 u164 u165 u166 u167 u168 u169 u170 u171 u172 u173 u174 u175 u176 u177 u178 u179 u180 u181 u182 u183 u184 u185 u186 u187 u188 u189 u190 u191 u192 u193 u194 u195 u196 u197 u198 u199 u200 u201 u202 u203 u204 u205 u206 u207 u208 u209 u210 u211 u212 u213 u214 u215 u216 u217 u218 u219 u220 u221:Value) (J K:Act->World->Prop)
  (hJ:∀a' w',(∃v158 v159 v160 v161 v162 v163 v164 v165 v166 v167 v168 v169 v170 v171 v172:Value,(∃H',dg w w' F g lab L ⟨hy,wh++[-1-(es.length:Int)],va,ty,ess,le,ri,go⟩ es hg H' gt tc ws)/\a'=⟨#[u0,u1,u2,u3,u4,u5,.pointer (some ⟨F,0,none⟩),u7,u8,u9,.slice (some ⟨gt,0,none⟩) nw tc,u11,u12,u13,u14,u15,u16,u17,u18,u19,u20,u21,u22,u23,u24,u25,u26,u27,u28,u29,u30,u31,u32,u33,u34,u35,u36,u37,u38,u39,u40,u41,u42,u43,u44,u45,u46,u47,u48,u49,u50,u51,u52,u53,u54,u55,u56,u57,u58,u59,u60,u61,u62,u63,u64,u65,u66,u67,u68,u69,u70,u71,u72,u73,u74,u75,u76,u77,u78,u79,u80,u81,u82,u83,u84,u85,u86,u87,u88,u89,u90,u91,u92,u93,u94,u95,u96,u97,u98,u99,u100,u101,u102,u103,u104,u105,u106,u107,u108,u109,u110,u111,u112,u113,u114,u115,u116,u117,u118,u119,u120,u121,u122,u123,u124,u125,u126,u127,u128,u129,u130,u131,u132,u133,u134,u135,u136,u137,u138,u139,u140,u141,u142,u143,u144,u145,u146,u147,u148,u149,u150,u151,u152,u153,u154,u155,u156,u157,v158,v159,v160,v161,v162,v163,v164,v165,v166,v167,v168,v169,v170,v171,v172,u173,u174,u175,u176,u177,u178,u179,u180,u181,u182,u183,u184,u185,u186,u187,u188,u189,u190,u191,u192,u193,u194,u195,u196,u197,u198,u199,u200,u201,u202,u203,u204,u205,u206,u207,u208,u209,u210,u211,u212,u213,u214,u215,u216,u217,u218,u219,u220,u221],[]⟩)->J a' w') (hK:∀a' w',Met J a' w'->K a' w') :
  Code.wp Tryz.prog ((Tryz.f17.body.bind (dQ 23)).getD .skip) (Exit.then K (fun _ _ _=>False)) ⟨#[u0,u1,u2,u3,u4,u5,.pointer (some ⟨F,0,none⟩),u7,u8,u9,.slice (some ⟨gt,0,none⟩) nw tc,u11,u12,u13,u14,u15,u16,u17,u18,u19,u20,u21,u22,u23,u24,u25,u26,u27,u28,u29,u30,u31,u32,u33,u34,u35,u36,u37,u38,u39,u40,u41,u42,u43,u44,u45,u46,u47,u48,u49,u50,u51,u52,u53,u54,u55,u56,u57,u58,u59,u60,u61,u62,u63,u64,u65,u66,u67,u68,u69,u70,u71,u72,u73,u74,u75,u76,u77,u78,u79,u80,u81,u82,u83,u84,u85,u86,u87,u88,u89,u90,u91,u92,u93,u94,u95,u96,u97,u98,u99,u100,u101,u102,u103,u104,u105,u106,u107,u108,u109,u110,u111,u112,u113,u114,u115,u116,u117,u118,u119,u120,u121,u122,u123,u124,u125,u126,u127,u128,u129,u130,u131,u132,u133,u134,u135,u136,u137,u138,u139,u140,u141,u142,u143,u144,u145,u146,u147,u148,u149,u150,u151,u152,u153,u154,u155,u156,u157,u158,u159,u160,u161,u162,u163,u164,u165,u166,u167,u168,u169,u170,u171,u172,u173,u174,u175,u176,u177,u178,u179,u180,u181,u182,u183,u184,u185,u186,u187,u188,u189,u190,u191,u192,u193,u194,u195,u196,u197,u198,u199,u200,u201,u202,u203,u204,u205,u206,u207,u208,u209,u210,u211,u212,u213,u214,u215,u216,u217,u218,u219,u220,u221],[]⟩ wc:=by
 conv=>arg 2;whnf
 obtain⟨i0,hi,hz0,hz1,hz2⟩:=info_parts fU;have cF:=S.out.cell 3 _ rfl;have cw:=S.out.cell 6 _ rfl;have qw:IntKind.i64.wrap (-1-(es.length:Int))=-1-(es.length:Int):=by rw[IntKind.wrap_i64];omega
 have hls:=S.out.lts;have hD:=(show Hid _ from S.out.still ((aa.refl [] wc).alloc (.cells #[.int .i64 (-1-(es.length:Int))] 3)).drew)
 have s2:Hid (∀j u,([.int .i64 (-1-(es.length:Int))]:List Value)[j]?=some u->(wc.alloc (.cells #[.int .i64 (-1-(es.length:Int))] 3)).drew.cell? ((⟨wc.heap.size,0,none⟩:Addr).add j)=some u):=by
  intro j u hj;rw[aV];have hk:(wc.alloc (.cells #[.int .i64 (-1-(es.length:Int))] 3)).drew.heap[wc.heap.size]?=some (.cells #[.int .i64 (-1-(es.length:Int))] 3 (0,0)):=heap_alloc_new _ _;rw[ab hk];simpa using hj
 have s3:Hid (∀u∈([.int .i64 (-1-(es.length:Int))]:List Value),u.oneCell'=true):=by intro u hu;simp at hu;subst hu;rfl
 have s4:Hid ((eB wh).n+1<=maxLen):=by show _<=_;simp only[eB];unfold maxLen;omega
 have s5:Hid (((eB wh).n+1)*8<=140737488355328):=by show _<=_;simp only[eB];omega
 go_region_law (refine aC rfl (.tmp 162) (.tmp 169) 33 rfl i0 (.int .i64 0) 8 (H 1) (eB wh) Tryz.underlying33 hi hz0 hz1 hz2 rfl Nat.one_pos (by simp[Act.eval] <;> rfl) (hD.out.fm.bag.own 1) ⟨wc.heap.size,0,none⟩ 1 1 [.int .i64 (-1-(es.length:Int))] (by simp[Act.eval]) rfl s2.out s3.out Nat.one_pos s4.out s5.out ?_;intro g5 cap5 w5 hw5 hgr5 hfr5;obtain⟨k5,f5,HP⟩:=hD.out.app (f':=⟨hy,wh++[-1-(es.length:Int)],va,ty,ess,le,ri,go⟩) (es':=es) 3 1 g5 cap5 ((eB wh).n+1) _ hw5 (ld wh (-1-(es.length:Int))) hgr5 (by simpa using hfr5) (fun j hj=>by rcases j with _|_|_|_|_|_|_|j <;> first | rfl | exact absurd rfl hj) _ rfl (by simp[tr,cG,eB]) hD.out.fm.exs hD.out.fm.ess rfl;clear hw5 hgr5 hfr5)
 all_goals go_wp2_with fail
 all_goals go_meet
 all_goals (case rel=>exact⟨_,HP.out⟩)
set_option maxRecDepth 1000000 in
theorem Gl(w wc:World)(F g:Nat)(lab:ByteArray)(L:List ByteArray)(hy:List ByteArray)(wh:List Int)(va ty:List ByteArray)(ess:List (List ByteArray))(le ri go:List ByteArray)(es:List Ex)(hg:Hd)(H:Nat->Hd)(gt tc nw:Nat)(ws:List ByteArray)(r:List ByteArray)(hr:ws.drop 2=r)(hrn:r.length=nw-2)(hn3:3<=nw)(hnt:nw<=tc)(hnb:nw<=1073741825)(_htm:tc<=9223372036854775807)(hb:es.length<=300000000)
  (S:Hid (dg w wc F g lab L ⟨hy,wh,va,ty,ess,le,ri,go⟩ es hg H gt tc ws)) (u0 u1 u2 u3 u4 u5 u7 u8 u9 u11 u12 u13 u14 u15 u16 u17 u18 u19 u20 u21 u22 u23 u24 u25 u26 u27 u28 u29 u30 u31 u32 u33 u34 u35 u36 u37 u38 u39 u40 u41 u42 u43 u44 u45 u46 u47 u48 u49 u50 u51 u52 u53 u54 u55 u56 u57 u58 u59 u60 u61 u62 u63 u64 u65 u66 u67 u68 u69 u70 u71 u72 u73 u74 u75 u76 u77 u78 u79 u80 u81 u82 u83 u84 u85 u86 u87 u88 u89 u90 u91 u92 u93 u94 u95 u96 u97 u98 u99 u100 u101 u102 u103 u104 u105 u106 u107 u108 u109 u110 u111 u112 u113 u114 u115 u116 u117 u118 u119 u120 u121 u122 u123 u124 u125 u126 u127 u128 u129 u130 u131 u132 u133 u134 u135 u136 u137 u138 u139 u140 u141 u142 u143 u144 u145 u146 u147 u148 u149 u150 u151 u152 u153 u154 u155 u156 u157 u158 u159 u160 u161 u162 u163 u164 u165 u166 u167 u168 u169 u170 u171 u172 u173 u174 u175 u176 u177 u178 u179 u180 u181 u182 u183 u184 u185 u186 u187 u188 u189 u190 u191 u192 u193 u194 u195 u196 u197 u198 u199 u200 u201 u202 u203 u204 u205 u206 u207 u208 u209 u210 u211 u212 u213 u214 u215 u216 u217 u218 u219 u220 u221:Value) (J K:Act->World->Prop)
  (hJ:∀a' w',(∃v11 v173 v174 v175 v176 v177 v178 v179 v180:Value,(∃(g5 cap5:Nat) (v0:Value),v11=.slice (some ⟨g5,0,none⟩) (es.length+1) cap5/\w'.cell? ⟨F,6,none⟩=some v0/\w'.frozen? ⟨F,6,none⟩=false/\F<w'.heap.size/\∃H',Hid (dg w (w'.setCell ⟨F,6,none⟩ (.slice (some ⟨g5,0,none⟩) (es.length+1) cap5)) F g lab L ⟨hy,wh,va,ty,ess++[r],le,ri,go⟩ (es++[qn gt tc r]) hg H' gt tc ws))/\a'=⟨#[u0,u1,u2,u3,u4,u5,.pointer (some ⟨F,0,none⟩),u7,u8,u9,.slice (some ⟨gt,0,none⟩) nw tc,v11,u12,u13,u14,u15,u16,u17,u18,u19,u20,u21,u22,u23,u24,u25,u26,u27,u28,u29,u30,u31,u32,u33,u34,u35,u36,u37,u38,u39,u40,u41,u42,u43,u44,u45,u46,u47,u48,u49,u50,u51,u52,u53,u54,u55,u56,u57,u58,u59,u60,u61,u62,u63,u64,u65,u66,u67,u68,u69,u70,u71,u72,u73,u74,u75,u76,u77,u78,u79,u80,u81,u82,u83,u84,u85,u86,u87,u88,u89,u90,u91,u92,u93,u94,u95,u96,u97,u98,u99,u100,u101,u102,u103,u104,u105,u106,u107,u108,u109,u110,u111,u112,u113,u114,u115,u116,u117,u118,u119,u120,u121,u122,u123,u124,u125,u126,u127,u128,u129,u130,u131,u132,u133,u134,u135,u136,u137,u138,u139,u140,u141,u142,u143,u144,u145,u146,u147,u148,u149,u150,u151,u152,u153,u154,u155,u156,u157,u158,u159,u160,u161,u162,u163,u164,u165,u166,u167,u168,u169,u170,u171,u172,v173,v174,v175,v176,v177,v178,v179,v180,u181,u182,u183,u184,u185,u186,u187,u188,u189,u190,u191,u192,u193,u194,u195,u196,u197,u198,u199,u200,u201,u202,u203,u204,u205,u206,u207,u208,u209,u210,u211,u212,u213,u214,u215,u216,u217,u218,u219,u220,u221],[]⟩)->J a' w') (hK:∀a' w',Met J a' w'->K a' w') :
  Code.wp Tryz.prog ((Tryz.f17.body.bind (dQ 24)).getD .skip) (Exit.then K (fun _ _ _=>False)) ⟨#[u0,u1,u2,u3,u4,u5,.pointer (some ⟨F,0,none⟩),u7,u8,u9,.slice (some ⟨gt,0,none⟩) nw tc,u11,u12,u13,u14,u15,u16,u17,u18,u19,u20,u21,u22,u23,u24,u25,u26,u27,u28,u29,u30,u31,u32,u33,u34,u35,u36,u37,u38,u39,u40,u41,u42,u43,u44,u45,u46,u47,u48,u49,u50,u51,u52,u53,u54,u55,u56,u57,u58,u59,u60,u61,u62,u63,u64,u65,u66,u67,u68,u69,u70,u71,u72,u73,u74,u75,u76,u77,u78,u79,u80,u81,u82,u83,u84,u85,u86,u87,u88,u89,u90,u91,u92,u93,u94,u95,u96,u97,u98,u99,u100,u101,u102,u103,u104,u105,u106,u107,u108,u109,u110,u111,u112,u113,u114,u115,u116,u117,u118,u119,u120,u121,u122,u123,u124,u125,u126,u127,u128,u129,u130,u131,u132,u133,u134,u135,u136,u137,u138,u139,u140,u141,u142,u143,u144,u145,u146,u147,u148,u149,u150,u151,u152,u153,u154,u155,u156,u157,u158,u159,u160,u161,u162,u163,u164,u165,u166,u167,u168,u169,u170,u171,u172,u173,u174,u175,u176,u177,u178,u179,u180,u181,u182,u183,u184,u185,u186,u187,u188,u189,u190,u191,u192,u193,u194,u195,u196,u197,u198,u199,u200,u201,u202,u203,u204,u205,u206,u207,u208,u209,u210,u211,u212,u213,u214,u215,u216,u217,u218,u219,u220,u221],[]⟩ wc:=by
 conv=>arg 2;whnf
 obtain⟨i0,hi,hz0,hz1,hz2⟩:=info_parts sx;have cF:=S.out.cell 6 _ rfl;have q3:(2:Int)<=(nw:Int):=by omega
 have htc:(tc:Int)≠2:=by omega
 have htc2:tc≠2:=by omega
 have hls:=S.out.lts;have hD:=(show Hid _ from S.out.still ((aa.refl [] wc).alloc (.cells #[.slice (some ⟨gt,2,none⟩) (nw-2) (tc-2)] 22)).drew)
 have s2:Hid (∀j u,([.slice (some ⟨gt,2,none⟩) (nw-2) (tc-2)]:List Value)[j]?=some u->(wc.alloc (.cells #[.slice (some ⟨gt,2,none⟩) (nw-2) (tc-2)] 22)).drew.cell? ((⟨wc.heap.size,0,none⟩:Addr).add j)=some u):=by
  intro j u hj;rw[aV];have hk:(wc.alloc (.cells #[.slice (some ⟨gt,2,none⟩) (nw-2) (tc-2)] 22)).drew.heap[wc.heap.size]?=some (.cells #[.slice (some ⟨gt,2,none⟩) (nw-2) (tc-2)] 22 (0,0)):=heap_alloc_new _ _;rw[ab hk];simpa using hj
 have s3:Hid (∀u∈([.slice (some ⟨gt,2,none⟩) (nw-2) (tc-2)]:List Value),u.oneCell'=true):=by intro u hu;simp at hu;subst hu;rfl
 have s4:Hid ((cE es).n+1<=maxLen):=by show _<=_;simp only[cE];unfold maxLen;omega
 have s5:Hid (((cE es).n+1)*24<=140737488355328):=by show _<=_;simp only[cE];omega
 have HX:Hid (mS (wc.alloc (.cells #[.slice (some ⟨gt,2,none⟩) (nw-2) (tc-2)] 22)).drew F H (qn gt tc r)):=by rw[<-hr];exact hD.out.rest
 have sn:Hid ((⟨(cE es).e,(cE es).size,(cE es).n+1,(cE es).xs++[.slice (some ⟨gt,2,none⟩) (nw-2) (tc-2)]⟩:eI)=cE (es++[qn gt tc r])):=by
  show _=_
  rw[<-kZ];have:od (qn gt tc r)=.slice (some ⟨gt,2,none⟩) (nw-2) (tc-2):=by rw[<-hrn];rfl
  rw[this]
 go_region_law (refine aC rfl (.tmp 176) (.tmp 179) 69 rfl i0 (.slice none 0 0) 24 (H 4) (cE es) Tryz.underlying69 hi hz0 hz1 hz2 rfl Nat.one_pos (by simp[Act.eval] <;> rfl) (hD.out.fm.bag.own 4) ⟨wc.heap.size,0,none⟩ 1 1 [.slice (some ⟨gt,2,none⟩) (nw-2) (tc-2)] (by simp[Act.eval]) rfl s2.out s3.out Nat.one_pos s4.out s5.out ?_;intro g5 cap5 w5 hw5 hgr5 hfr5;obtain⟨k5,f5,HP⟩:=hD.out.app (f':=⟨hy,wh,va,ty,ess++[r],le,ri,go⟩) (es':=es++[qn gt tc r]) 6 4 g5 cap5 ((cE es).n+1) _ hw5 sn.out hgr5 (by simpa using hfr5) (fun j hj=>by rcases j with _|_|_|_|_|_|_|j <;> first | rfl | exact absurd rfl hj) _ rfl (by simp[tr,cG,cE]) (fun e he=>(List.mem_append.1 he).elim (hD.out.fm.exs e) (fun he=>by rw[List.mem_singleton.1 he];exact HX.out)) (by rw[List.map_append,hD.out.fm.ess];rfl) rfl;have hz5:=Nat.lt_of_lt_of_le hls.1 (Nat.le_trans ((aa.refl [] wc).alloc (.cells #[.slice (some ⟨gt,2,none⟩) (nw-2) (tc-2)] 22)).drew.size hgr5.size);clear hw5 hgr5 hfr5)
 all_goals go_wp2_with fail
 all_goals go_meet
 all_goals (case rel=>exact⟨g5,cap5,_,rfl,k5,f5,hz5,_,HP.out⟩)
structure Dx(f:Fm)(n:Nat):Prop where
 hy:f.hyps.length<=n
 wh:f.which.length<=n
 va:f.vars.length<=n
 ty:f.types.length<=n
 ess:f.ess.length<=n
 le:f.left.length<=n
 ri:f.right.length<=n
theorem Dx.step{f:Fm}{n:Nat}(h:Dx f n)(ws:List ByteArray):Dx (bG f ws) (n+1):=by
 obtain⟨h1,h2,h3,h4,h5,h6,h7⟩:=h;unfold bG
 split
 ·constructor <;> simp <;> omega
 ·split
  ·constructor <;> simp <;> omega
  ·split
   ·constructor <;> simp <;> omega
   ·constructor <;> simp <;> omega
theorem D0(L:List ByteArray)(k:Nat)(h:k<=L.length):Dx (fy L k) k:=by
 induction k with
 | zero=>constructor <;> simp[fy,ua]
 | succ k ih=>rw[nN L k (by omega)];exact(ih (by omega)).step _
theorem Ch{w:World}{g:Nat}{L:List ByteArray}(h:eQ w g L L.length)(k:Nat)(hk:k<L.length):w.cell? ⟨g,k,none⟩=some (.string L[k]):=by
 unfold eQ at h;rw[zL]at h;rw[ab h];simp[strs,hk]
theorem Dh(l:List ByteArray)(h:3<=l.length):∃x0 x1 x2 r,l=x0 :: x1 :: x2 :: r:=by
 match l,h with
 | x0 :: x1 :: x2 :: r,_=>exact⟨x0,x1,x2,r,rfl⟩
theorem Ap(s:ByteArray):(aN s).length<=s.size+1:=by
 unfold aN;have:=(yC s s.size).2;simp;omega
set_option maxRecDepth 100000 in
theorem ze(b x:Nat)(lab:ByteArray)(L:List ByteArray)(w:World)(c0:w.cell? ⟨b,0,none⟩=some (.pointer (some ⟨x,0,none⟩)))(hb:b<w.heap.size)(hL:0<L.length)(hLb:L.length<=200000000)
  (VF:Hid (∀w',aa [] w w'->Calls Tryz.prog 48 #[.pointer (some ⟨x,0,none⟩),.string lab] w' fun e w''=>∃g,e=.returned (.tuple #[.slice (some ⟨g,0,none⟩) L.length L.length,.int .i64 0])/\eQ w'' g L L.length/\w'.heap.size<=g/\aa [] w' w''))
  (hok:Hid (∀k (h:k<L.length),oA lab (decide (k+1=L.length)) L[k])) (hgo:Hid (0<(cP L).goal.length)) :
  Calls Tryz.prog 17 #[.pointer (some ⟨b,0,none⟩),.string lab] w fun e w'=>∃F g es hg H,e=.returned (.tuple #[.pointer (some ⟨F,0,none⟩),.bool true])/\eJ w' F w.heap.size lab (.slice (some ⟨g,0,none⟩) L.length L.length) (cP L) es hg H/\eQ w' g L L.length/\(w.heap.size<=g/\g≠F/\¬cK H g)/\aa [] w w':=by
 obtain⟨i0,hi,hz0,hz1,hz2⟩:=info_parts dp;obtain⟨i1,hi1,hy0,hy1,hy2⟩:=info_parts fU;obtain⟨i2,hi2,hx0,hx1,hx2⟩:=info_parts sx;obtain⟨W,hW⟩:∃W,W=w.alloc (.cells #[.string lab,.slice none 0 0,.slice none 0 0,.slice none 0 0,.slice none 0 0,.slice none 0 0,.slice none 0 0,.slice none 0 0,.slice none 0 0,.slice none 0 0] 71):=⟨_,rfl⟩
 have kW:aa [] w W:=by rw[hW];exact(aa.refl [] _).alloc _
 have BW:W.heap[w.heap.size]?=some (.cells #[.string lab,.slice none 0 0,.slice none 0 0,.slice none 0 0,.slice none 0 0,.slice none 0 0,.slice none 0 0,.slice none 0 0,.slice none 0 0,.slice none 0 0] 71 (0,0)):=by rw[hW];exact heap_alloc_new _ _
 have HW:=(show Hid _ from hW.symm);clear hW;have cW:W.cell? ⟨b,0,none⟩=some (.pointer (some ⟨x,0,none⟩)):=by rw[World.cell?_of_block (kW.block b hb (by simp))];exact c0
 have hbW:b<W.heap.size:=Nat.lt_of_lt_of_le hb kW.size;have HF:=(show Hid _ from VF.out W kW);clear c0;go_enter Tryz.func17,Tryz.ntmps17
 go_upto_region 2 with fail
 rw[HW.out];go_wp2_with fail;refine Calls.mono HF.out ?_;rintro e w2 ⟨g,rfl,hL2,hg2,k2⟩;have B2:=k2.get BW (by simp);have y0:w2.cell? ⟨w.heap.size,1,none⟩=some (.slice none 0 0):=by rw[ab B2];rfl
 have yf:=an B2;have hF2:=ac B2;have hLi:((L.length:Int)==0)=false:=by rw[beq_eq_false_iff_ne];omega
 have hWs:=ac BW;obtain⟨F,HFF⟩:∃F,Hid (w.heap.size=F):=⟨_,rfl⟩
 have A0:Hid (eJ (w2.setCell ⟨w.heap.size,1,none⟩ (.slice (some ⟨g,0,none⟩) L.length L.length)) w.heap.size w.heap.size lab (.slice (some ⟨g,0,none⟩) L.length L.length) ua [] ⟨none,0⟩ gu):=by
  refine⟨⟨?_,?_,?_,?_⟩,⟨Nat.le_refl _,?_⟩,?_,rfl,Or.inl rfl,?_⟩
  ·rw[ae B2];rfl
  ·intro i
   rcases i with _|_|_|_|_|_|_|i <;> exact World.ownsRow_nil _ _ _ _
  ·intro i j _;exact Or.inl rfl
  ·intro i e;simp[gu,Hd.blk]at e
  ·rintro k ⟨i,e⟩;simp[gu,Hd.blk]at e
  ·intro e he;simp at he
  ·intro x hx;simp[Hd.blk]at hx
 have A1:Hid (eQ (w2.setCell ⟨w.heap.size,1,none⟩ (.slice (some ⟨g,0,none⟩) L.length L.length)) g L L.length):=(Below.heap_setCell _ _ _ _ (by show g≠w.heap.size;omega)).trans hL2;have A2:Hid (aa [] w (w2.setCell ⟨w.heap.size,1,none⟩ (.slice (some ⟨g,0,none⟩) L.length L.length))):=(kW.trans k2).setCell (Or.inr (Nat.le_refl _)) _;have A3:Hid (w.heap.size<=g/\g≠w.heap.size/\¬cK gu g):=⟨by omega,by omega,by rintro ⟨i,e⟩;simp[gu,Hd.blk]at e⟩;rw[HFF.out]at A0 A1 A2 A3 y0 yf hF2;have HFE:Hid (fy L 0=ua):=rfl;rw[show(⟨w.heap.size,0,none⟩:Addr)=⟨F,0,none⟩ by rw[HFF.out]];clear BW B2 hL2;go_wp2
 go_loopg [9] L.length (fun gk i wr=>∃(k:Nat) (es:List Ex) (hg:Hd) (H:Nat->Hd),k<=L.length/\gk=L.length-k/\i=.int .i64 k/\eJ wr F w.heap.size lab (.slice (some ⟨g,0,none⟩) L.length L.length) (fy L k) es hg H/\eQ wr g L L.length/\(w.heap.size<=g/\g≠F/\¬cK H g)/\aa [] w wr)
 case atStart=>exact⟨0,[],⟨none,0⟩,gu,by omega,by omega,rfl,by rw[HFE.out,HFF.out];exact A0.out,A1.out,by rw[HFF.out];exact A3.out,A2.out⟩
 case round =>
  obtain⟨k,es,hg,H,hk,hgk,rfl,hFm,hLn,hGf,hK⟩:=hrel;have hle:=D0 L k hk;clear A0 A1 A2 A3 y0 yf
  by_cases hlt:k<L.length
  ·have cl:=Ch hLn k hlt
   have HOKk:=(show Hid _ from hok.out k hlt);have HNX:=(show Hid _ from nN L k hlt);have hgl:=ac hLn;have hsz:=HOKk.out.size;generalize L[k]=ln at *;generalize fy L k=f at *;obtain⟨hy,wh,va,ty,ess,le,ri,go⟩:=f;obtain⟨l1,l2,l3,l4,l5,l6,l7⟩:=hle;simp only at l1 l2 l3 l4 l5 l6 l7;have hki:(k:Int)<L.length:=by omega
   have les:es.length<=k:=by have:=congrArg List.length hFm.ess;simp at this;omega
   have Hesl:Hid (es.length=ess.length):=by show _=_;have:=congrArg List.length hFm.ess;simpa using this
   go_wp2_with fail;refine(Ao ln wr hsz).mono ?_;rintro e w3 ⟨ht,rfl,hO3,hN3,k3⟩;obtain⟨x0,x1,x2,r,hws⟩:=Dh _ HOKk.out.len;have hlw:=Ap ln;have HWay:=(show Hid _ from HOKk.out.way);rw[hws]at hO3 hlw HNX HWay ⊢
   rcases hO3.ways with ⟨_,h0,_⟩ | ⟨gt,curt,et,et2,et3,et4,-⟩
   ·have:(x0 :: x1 :: x2 :: r).length=0:=h0
    simp at this
   obtain⟨ao,tc⟩:=ht;simp only at et et3 et4;subst et;have hgt:wr.heap.size<=gt:=hN3 gt rfl;have hFl:=hFm.bag.lt;have S0:dg w w3 F g lab L ⟨hy,wh,va,ty,ess,le,ri,go⟩ es hg H gt tc (x0 :: x1 :: x2 :: r):=⟨hFm.still k3,hLn.kept k3 (by simp),hGf,hO3,⟨by omega,fun hin=>by have:=hFm.bag.inlt hin;omega⟩,hK.trans k3⟩;obtain⟨nw,HNW⟩:∃nw,Hid ((x0 :: x1 :: x2 :: r).length=nw):=⟨_,rfl⟩
   have hnw:3<=nw:=by rw[<-HNW.out];simp
   have htc:nw<=tc:=by rw[<-HNW.out];exact et3
   have htm:tc<=9223372036854775807:=by unfold maxLen at et4;exact et4
   have hnb:nw<=1073741825:=by rw[<-HNW.out];omega
   rw[HNW.out];have q0:0<nw:=by omega
   have q1:(1:Int)<(nw:Int):=by omega
   have q2:(2:Int)<(nw:Int):=by omega
   have q3:(2:Int)<=(nw:Int):=by omega
   have qw:IntKind.i64.wrap (-1-(es.length:Int))=-1-(es.length:Int):=by rw[IntKind.wrap_i64];omega
   have HT:Hid (fy L (k+1)=bG ⟨hy,wh,va,ty,ess,le,ri,go⟩ (x0 :: x1 :: x2 :: r)):=HNX.out;obtain⟨wc,HWC⟩:∃wc,Hid (w3=wc):=⟨_,rfl⟩
   rw[HWC.out]at S0 ⊢;have HS0:=(show Hid _ from S0);clear S0 hFm hLn hK hO3 et2 hN3 k3 hgl HOKk HNX cl hlw hgt;have S:=HS0;clear HS0;have cw0:=S.out.word 0 x0 rfl;have cw1:=S.out.word 1 x1 rfl;have hls0:=S.out.lts
   cases hd:(x0.toList == [36,100])
   ·have HW2:Hid ((((x1.toList == [36,102])=true/\nw=4)∨((x1.toList == [36,102])=false/\((x1.toList == [36,101])=true∨((x1.toList == [36,101])=false/\((x1.toList == [36,97])=true∨(x1.toList == [36,112])=true)/\(x0.toList==lab.toList)=true/\k+1=L.length))))):=by
     rcases HWay.out with h | ⟨_,h⟩
     ·have:(x0.toList == [36,100])=true:=h
      rw[hd]at this;cases this
     ·rw[HNW.out]at h
      rcases h with h | ⟨h1,h2 | ⟨h2,h3,h4,h5⟩⟩
      ·exact Or.inl h
      ·exact Or.inr ⟨h1,Or.inl h2⟩
      ·exact Or.inr ⟨h1,Or.inr ⟨h2,h3,h4,by simpa using h5⟩⟩
    clear HWay
    cases hf:(x1.toList == [36,102])
    ·cases he:(x1.toList == [36,101])
     ·have HG:Hid (((x1.toList == [36,97])=true∨(x1.toList == [36,112])=true)/\(x0.toList==lab.toList)=true/\k+1=L.length):=by
       rcases HW2.out with h | ⟨_,h | ⟨_,h⟩⟩
       ·rw[hf]at h;cases h.1
       ·rw[he]at h;cases h
       ·exact h
      have HTT:Hid (fy L (k+1)=⟨hy,wh,va,ty,ess,le,ri,x2 :: r⟩):=by
       show _=_
       rw[HT.out];unfold bG;rw[if_neg (by show ¬(x0.toList == [36,100])=true;rw[hd];simp),if_neg (by rintro ⟨h,-⟩;have h':(x1.toList == [36,102])=true:=h;rw[hf]at h';cases h'),if_neg (by show ¬(x1.toList == [36,101])=true;rw[he];simp)];rfl
      have hlast:(k:Int)=(L.length:Int)-1:=by have:=HG.out.2.2;omega
      have hlast':((k:Int)==(L.length:Int)-1)=true:=by simp[hlast]
      have hlab:=HG.out.2.1;have cF9:=S.out.cell 9 _ rfl;have fF:=an S.out.fm.bag.blk;have htc2:tc≠2:=by omega
      have htci:(tc:Int)≠2:=by omega
      have HR:=S.out.rest;have HGL:=(show Hid _ from S.out.fm.goal (x2 :: r) ⟨some ⟨gt,2,none⟩,tc-2⟩ HR.view HR.far);have HGS:=(show Hid _ from S.out.turn HGL.out.1 HGL.out.2);have hgw:(x2 :: r).length=nw-2:=by rw[<-HNW.out];simp
      rw[hgw]at HGS;clear HR HGL hgw
      rcases HG.out.1 with ha | hp
      ·go_wp2_with fail
       go_roundg (L.length-(k+1))
       case measure=>omega
       case rel=>exact⟨k+1,es,_,H,by omega,rfl,by go_num,by rw[HTT.out];exact HGS.out.fm,HGS.out.lns,HGS.out.gf,HGS.out.kept⟩
      ·cases ha:(x1.toList == [36,97])
       ·go_wp2_with fail
        go_roundg (L.length-(k+1))
        case measure=>omega
        case rel=>exact⟨k+1,es,_,H,by omega,rfl,by go_num,by rw[HTT.out];exact HGS.out.fm,HGS.out.lns,HGS.out.gf,HGS.out.kept⟩
       ·go_wp2_with fail
        go_roundg (L.length-(k+1))
        case measure=>omega
        case rel=>exact⟨k+1,es,_,H,by omega,rfl,by go_num,by rw[HTT.out];exact HGS.out.fm,HGS.out.lns,HGS.out.gf,HGS.out.kept⟩
     ·have HTT:Hid (fy L (k+1)=⟨hy++[x0],wh++[-1-(es.length:Int)],va,ty,ess++[x2 :: r],le,ri,go⟩):=by
       show _=_
       rw[HT.out];unfold bG;rw[if_neg (by show ¬(x0.toList == [36,100])=true;rw[hd];simp),if_neg (by rintro ⟨h,-⟩;have h':(x1.toList == [36,102])=true:=h;rw[hf]at h';cases h'),if_pos (by exact he),Hesl.out];rfl
      clear HT HW2;have HT:=HTT;clear HTT
      go_upto_region 22 with fail
      go_cut [] from 146 to 157 (fun wd=>∃H',dg w wd F g lab L ⟨hy++[x0],wh,va,ty,ess,le,ri,go⟩ es hg H' gt tc (x0 :: x1 :: x2 :: r))
      case first =>
       rename_i J K' hJ hK'
       exact jL (Gj w wc F g lab L (hy) (wh) (va) (ty) (ess) (le) (ri) (go) es hg H gt tc nw (x0 :: x1 :: x2 :: r) x0 rfl (by omega) (by omega) S _ _ _ _ _ _ _ _ _ _ _ _ _ _ _ _ _ _ _ _ _ _ _ _ _ _ _ _ _ _ _ _ _ _ _ _ _ _ _ _ _ _ _ _ _ _ _ _ _ _ _ _ _ _ _ _ _ _ _ _ _ _ _ _ _ _ _ _ _ _ _ _ _ _ _ _ _ _ _ _ _ _ _ _ _ _ _ _ _ _ _ _ _ _ _ _ _ _ _ _ _ _ _ _ _ _ _ _ _ _ _ _ _ _ _ _ _ _ _ _ _ _ _ _ _ _ _ _ _ _ _ _ _ _ _ _ _ _ _ _ _ _ _ _ _ _ _ _ _ _ _ _ _ _ _ _ _ _ _ _ _ _ _ _ _ _ _ _ _ _ _ _ _ _ _ _ _ _ _ _ _ _ _ _ _ _ _ _ _ _ _ _ _ _ _ _ _ _ _ _ _ _ _ _ _ _ _ _ _ _ _ _ _ _ _ _ _ _ _ _ J K' hJ hK')
      case rest =>
       clear S;obtain⟨H2,S2⟩:=hcut;obtain⟨H,S,-⟩:∃H,Hid (dg w wc F g lab L ⟨hy++[x0],wh,va,ty,ess,le,ri,go⟩ es hg H gt tc (x0 :: x1 :: x2 :: r))/\True:=⟨H2,S2,trivial⟩
       clear S2
       go_upto_region 23 with fail
       go_cut [] from 158 to 172 (fun wd=>∃H',dg w wd F g lab L ⟨hy++[x0],wh++[-1-(es.length:Int)],va,ty,ess,le,ri,go⟩ es hg H' gt tc (x0 :: x1 :: x2 :: r))
       case first =>
        rename_i J K' hJ hK'
        exact jL (Gk w wc F g lab L (hy++[x0]) (wh) (va) (ty) (ess) (le) (ri) (go) es hg H gt tc nw (x0 :: x1 :: x2 :: r) (by omega) (by omega) (by omega) S _ _ _ _ _ _ _ _ _ _ _ _ _ _ _ _ _ _ _ _ _ _ _ _ _ _ _ _ _ _ _ _ _ _ _ _ _ _ _ _ _ _ _ _ _ _ _ _ _ _ _ _ _ _ _ _ _ _ _ _ _ _ _ _ _ _ _ _ _ _ _ _ _ _ _ _ _ _ _ _ _ _ _ _ _ _ _ _ _ _ _ _ _ _ _ _ _ _ _ _ _ _ _ _ _ _ _ _ _ _ _ _ _ _ _ _ _ _ _ _ _ _ _ _ _ _ _ _ _ _ _ _ _ _ _ _ _ _ _ _ _ _ _ _ _ _ _ _ _ _ _ _ _ _ _ _ _ _ _ _ _ _ _ _ _ _ _ _ _ _ _ _ _ _ _ _ _ _ _ _ _ _ _ _ _ _ _ _ _ _ _ _ _ _ _ _ _ _ _ _ _ _ _ _ _ _ _ _ _ _ _ _ _ _ _ _ _ _ _ _ J K' hJ hK')
       case rest =>
        clear S;obtain⟨H2,S2⟩:=hcut;obtain⟨H,S,-⟩:∃H,Hid (dg w wc F g lab L ⟨hy++[x0],wh++[-1-(es.length:Int)],va,ty,ess,le,ri,go⟩ es hg H gt tc (x0 :: x1 :: x2 :: r))/\True:=⟨H2,S2,trivial⟩
        clear S2
        go_upto_region 24 with fail
        go_cut [11] from 173 to 180 (fun s11 wd=>∃(g5 cap5:Nat) (v0:Value),s11=.slice (some ⟨g5,0,none⟩) (es.length+1) cap5/\wd.cell? ⟨F,6,none⟩=some v0/\wd.frozen? ⟨F,6,none⟩=false/\F<wd.heap.size/\∃H',Hid (dg w (wd.setCell ⟨F,6,none⟩ (.slice (some ⟨g5,0,none⟩) (es.length+1) cap5)) F g lab L ⟨hy++[x0],wh++[-1-(es.length:Int)],va,ty,ess++[x2 :: r],le,ri,go⟩ (es++[qn gt tc (x2 :: r)]) hg H' gt tc (x0 :: x1 :: x2 :: r)))
        case first =>
         rename_i J K' hJ hK'
         exact jL (Gl w wc F g lab L (hy++[x0]) (wh++[-1-(es.length:Int)]) (va) (ty) (ess) (le) (ri) (go) es hg H gt tc nw (x0 :: x1 :: x2 :: r) (x2 :: r) rfl (by rw[<-HNW.out];simp) hnw htc hnb htm (by omega) S _ _ _ _ _ _ _ _ _ _ _ _ _ _ _ _ _ _ _ _ _ _ _ _ _ _ _ _ _ _ _ _ _ _ _ _ _ _ _ _ _ _ _ _ _ _ _ _ _ _ _ _ _ _ _ _ _ _ _ _ _ _ _ _ _ _ _ _ _ _ _ _ _ _ _ _ _ _ _ _ _ _ _ _ _ _ _ _ _ _ _ _ _ _ _ _ _ _ _ _ _ _ _ _ _ _ _ _ _ _ _ _ _ _ _ _ _ _ _ _ _ _ _ _ _ _ _ _ _ _ _ _ _ _ _ _ _ _ _ _ _ _ _ _ _ _ _ _ _ _ _ _ _ _ _ _ _ _ _ _ _ _ _ _ _ _ _ _ _ _ _ _ _ _ _ _ _ _ _ _ _ _ _ _ _ _ _ _ _ _ _ _ _ _ _ _ _ _ _ _ _ _ _ _ _ _ _ _ _ _ _ _ _ _ _ _ _ _ _ _ J K' hJ hK')
        case rest =>
         clear S;obtain⟨g5,cap5,v0,rfl,k5,f5,hz5,H',HS⟩:=hcut;go_wp2_with fail
         go_roundg (L.length-(k+1))
         case measure=>omega
         case rel=>exact⟨k+1,es++[qn gt tc (x2 :: r)],hg,H',by omega,rfl,by go_num,by rw[HT.out];exact HS.out.fm,HS.out.lns,HS.out.gf,HS.out.kept⟩
    ·have hn4:nw=4:=by
      rcases HW2.out with h | ⟨h,_⟩
      ·exact h.2
      ·rw[hf]at h;cases h
     obtain⟨x3,hr3⟩:∃x3,r=[x3]:=by
      have:=HNW.out;simp at this
      match r,this with
      | [y],_=>exact⟨y,rfl⟩
      | [],h=>simp at h;omega
      | _ :: _ :: _,h=>simp at h;omega
     subst hr3
     have HTT:Hid (fy L (k+1)=⟨hy++[x0],wh++[(va.length:Int)],va++[x3],ty++[x2],ess,le,ri,go⟩):=by
      show _=_
      rw[HT.out];unfold bG;rw[if_neg (by show ¬(x0.toList == [36,100])=true;rw[hd];simp),if_pos ⟨hf,rfl⟩];rfl
     have hn4i:((nw:Int)==4)=true:=by rw[hn4];rfl
     have hq4:3<nw:=by omega
     clear hn4;clear HT HW2;have HT:=HTT;clear HTT
     go_upto_region 17 with fail
     go_cut [] from 91 to 102 (fun wd=>∃H',dg w wd F g lab L ⟨hy++[x0],wh,va,ty,ess,le,ri,go⟩ es hg H' gt tc [x0,x1,x2,x3])
     case first =>
      rename_i J K' hJ hK'
      exact jL (Gf w wc F g lab L (hy) (wh) (va) (ty) (ess) (le) (ri) (go) es hg H gt tc nw [x0,x1,x2,x3] x0 rfl (by omega) (by omega) S _ _ _ _ _ _ _ _ _ _ _ _ _ _ _ _ _ _ _ _ _ _ _ _ _ _ _ _ _ _ _ _ _ _ _ _ _ _ _ _ _ _ _ _ _ _ _ _ _ _ _ _ _ _ _ _ _ _ _ _ _ _ _ _ _ _ _ _ _ _ _ _ _ _ _ _ _ _ _ _ _ _ _ _ _ _ _ _ _ _ _ _ _ _ _ _ _ _ _ _ _ _ _ _ _ _ _ _ _ _ _ _ _ _ _ _ _ _ _ _ _ _ _ _ _ _ _ _ _ _ _ _ _ _ _ _ _ _ _ _ _ _ _ _ _ _ _ _ _ _ _ _ _ _ _ _ _ _ _ _ _ _ _ _ _ _ _ _ _ _ _ _ _ _ _ _ _ _ _ _ _ _ _ _ _ _ _ _ _ _ _ _ _ _ _ _ _ _ _ _ _ _ _ _ _ _ _ _ _ _ _ _ _ _ _ _ _ _ _ _ J K' hJ hK')
     case rest =>
      clear S;obtain⟨H2,S2⟩:=hcut;obtain⟨H,S,-⟩:∃H,Hid (dg w wc F g lab L ⟨hy++[x0],wh,va,ty,ess,le,ri,go⟩ es hg H gt tc [x0,x1,x2,x3])/\True:=⟨H2,S2,trivial⟩
      clear S2
      go_upto_region 18 with fail
      go_cut [] from 103 to 116 (fun wd=>∃H',dg w wd F g lab L ⟨hy++[x0],wh++[(va.length:Int)],va,ty,ess,le,ri,go⟩ es hg H' gt tc [x0,x1,x2,x3])
      case first =>
       rename_i J K' hJ hK'
       exact jL (Gg w wc F g lab L (hy++[x0]) (wh) (va) (ty) (ess) (le) (ri) (go) es hg H gt tc nw [x0,x1,x2,x3] (by omega) (by omega) (by omega) S _ _ _ _ _ _ _ _ _ _ _ _ _ _ _ _ _ _ _ _ _ _ _ _ _ _ _ _ _ _ _ _ _ _ _ _ _ _ _ _ _ _ _ _ _ _ _ _ _ _ _ _ _ _ _ _ _ _ _ _ _ _ _ _ _ _ _ _ _ _ _ _ _ _ _ _ _ _ _ _ _ _ _ _ _ _ _ _ _ _ _ _ _ _ _ _ _ _ _ _ _ _ _ _ _ _ _ _ _ _ _ _ _ _ _ _ _ _ _ _ _ _ _ _ _ _ _ _ _ _ _ _ _ _ _ _ _ _ _ _ _ _ _ _ _ _ _ _ _ _ _ _ _ _ _ _ _ _ _ _ _ _ _ _ _ _ _ _ _ _ _ _ _ _ _ _ _ _ _ _ _ _ _ _ _ _ _ _ _ _ _ _ _ _ _ _ _ _ _ _ _ _ _ _ _ _ _ _ _ _ _ _ _ _ _ _ _ _ _ _ J K' hJ hK')
      case rest =>
       clear S;obtain⟨H2,S2⟩:=hcut;obtain⟨H,S,-⟩:∃H,Hid (dg w wc F g lab L ⟨hy++[x0],wh++[(va.length:Int)],va,ty,ess,le,ri,go⟩ es hg H gt tc [x0,x1,x2,x3])/\True:=⟨H2,S2,trivial⟩
       clear S2
       go_upto_region 19 with fail
       go_cut [] from 117 to 128 (fun wd=>∃H',dg w wd F g lab L ⟨hy++[x0],wh++[(va.length:Int)],va,ty++[x2],ess,le,ri,go⟩ es hg H' gt tc [x0,x1,x2,x3])
       case first =>
        rename_i J K' hJ hK'
        exact jL (Gh w wc F g lab L (hy++[x0]) (wh++[(va.length:Int)]) (va) (ty) (ess) (le) (ri) (go) es hg H gt tc nw [x0,x1,x2,x3] x2 rfl (by omega) (by omega) S _ _ _ _ _ _ _ _ _ _ _ _ _ _ _ _ _ _ _ _ _ _ _ _ _ _ _ _ _ _ _ _ _ _ _ _ _ _ _ _ _ _ _ _ _ _ _ _ _ _ _ _ _ _ _ _ _ _ _ _ _ _ _ _ _ _ _ _ _ _ _ _ _ _ _ _ _ _ _ _ _ _ _ _ _ _ _ _ _ _ _ _ _ _ _ _ _ _ _ _ _ _ _ _ _ _ _ _ _ _ _ _ _ _ _ _ _ _ _ _ _ _ _ _ _ _ _ _ _ _ _ _ _ _ _ _ _ _ _ _ _ _ _ _ _ _ _ _ _ _ _ _ _ _ _ _ _ _ _ _ _ _ _ _ _ _ _ _ _ _ _ _ _ _ _ _ _ _ _ _ _ _ _ _ _ _ _ _ _ _ _ _ _ _ _ _ _ _ _ _ _ _ _ _ _ _ _ _ _ _ _ _ _ _ _ _ _ _ _ _ J K' hJ hK')
       case rest =>
        clear S;obtain⟨H2,S2⟩:=hcut;obtain⟨H,S,-⟩:∃H,Hid (dg w wc F g lab L ⟨hy++[x0],wh++[(va.length:Int)],va,ty++[x2],ess,le,ri,go⟩ es hg H gt tc [x0,x1,x2,x3])/\True:=⟨H2,S2,trivial⟩
        clear S2
        go_upto_region 20 with fail
        refine rW (Gi w wc F g lab L (hy++[x0]) (wh++[(va.length:Int)]) (va) (ty++[x2]) (ess) (le) (ri) (go) es hg H gt tc nw [x0,x1,x2,x3] x3 rfl (by omega) (by omega) S _ _ _ _ _ _ _ _ _ _ _ _ _ _ _ _ _ _ _ _ _ _ _ _ _ _ _ _ _ _ _ _ _ _ _ _ _ _ _ _ _ _ _ _ _ _ _ _ _ _ _ _ _ _ _ _ _ _ _ _ _ _ _ _ _ _ _ _ _ _ _ _ _ _ _ _ _ _ _ _ _ _ _ _ _ _ _ _ _ _ _ _ _ _ _ _ _ _ _ _ _ _ _ _ _ _ _ _ _ _ _ _ _ _ _ _ _ _ _ _ _ _ _ _ _ _ _ _ _ _ _ _ _ _ _ _ _ _ _ _ _ _ _ _ _ _ _ _ _ _ _ _ _ _ _ _ _ _ _ _ _ _ _ _ _ _ _ _ _ _ _ _ _ _ _ _ _ _ _ _ _ _ _ _ _ _ _ _ _ _ _ _ _ _ _ _ _ _ _ _ _ _ _ _ _ _ _ _ _ _ _ _ _ _ _ _ _ _ _ _ _ _ (fun _ _ q=>q) (fun _ _ q=>q)) ?_;rintro a' w' ⟨v129,v130,v131,v132,v133,v134,v135,v136,v137,v138,v139,v140,⟨H2,S2⟩,rfl⟩;go_wp2_with fail
        go_roundg (L.length-(k+1))
        case measure=>omega
        case rel=>exact⟨k+1,es,hg,H2,by omega,rfl,by go_num,by rw[HT.out];exact S2.fm,S2.lns,S2.gf,S2.kept⟩
   ·have HTT:Hid (fy L (k+1)=⟨hy,wh,va,ty,ess,le++[x1],ri++[x2],go⟩):=by
     show _=_
     rw[HT.out];unfold bG;rw[if_pos (by exact hd)];rfl
    clear HT;have HT:=HTT;clear HTT
    go_upto_region 14 with fail
    go_cut [] from 57 to 68 (fun wd=>∃H',dg w wd F g lab L ⟨hy,wh,va,ty,ess,le++[x1],ri,go⟩ es hg H' gt tc (x0 :: x1 :: x2 :: r))
    case first =>
     rename_i J K' hJ hK'
     exact jL (Gc w wc F g lab L (hy) (wh) (va) (ty) (ess) (le) (ri) (go) es hg H gt tc nw (x0 :: x1 :: x2 :: r) x1 rfl (by omega) (by omega) S _ _ _ _ _ _ _ _ _ _ _ _ _ _ _ _ _ _ _ _ _ _ _ _ _ _ _ _ _ _ _ _ _ _ _ _ _ _ _ _ _ _ _ _ _ _ _ _ _ _ _ _ _ _ _ _ _ _ _ _ _ _ _ _ _ _ _ _ _ _ _ _ _ _ _ _ _ _ _ _ _ _ _ _ _ _ _ _ _ _ _ _ _ _ _ _ _ _ _ _ _ _ _ _ _ _ _ _ _ _ _ _ _ _ _ _ _ _ _ _ _ _ _ _ _ _ _ _ _ _ _ _ _ _ _ _ _ _ _ _ _ _ _ _ _ _ _ _ _ _ _ _ _ _ _ _ _ _ _ _ _ _ _ _ _ _ _ _ _ _ _ _ _ _ _ _ _ _ _ _ _ _ _ _ _ _ _ _ _ _ _ _ _ _ _ _ _ _ _ _ _ _ _ _ _ _ _ _ _ _ _ _ _ _ _ _ _ _ _ _ J K' hJ hK')
    case rest =>
     clear S;obtain⟨H2,S2⟩:=hcut;obtain⟨H,S,-⟩:∃H,Hid (dg w wc F g lab L ⟨hy,wh,va,ty,ess,le++[x1],ri,go⟩ es hg H gt tc (x0 :: x1 :: x2 :: r))/\True:=⟨H2,S2,trivial⟩
     clear S2
     go_upto_region 15 with fail
     refine rW (Ge w wc F g lab L (hy) (wh) (va) (ty) (ess) (le++[x1]) (ri) (go) es hg H gt tc nw (x0 :: x1 :: x2 :: r) x2 rfl (by omega) (by omega) S _ _ _ _ _ _ _ _ _ _ _ _ _ _ _ _ _ _ _ _ _ _ _ _ _ _ _ _ _ _ _ _ _ _ _ _ _ _ _ _ _ _ _ _ _ _ _ _ _ _ _ _ _ _ _ _ _ _ _ _ _ _ _ _ _ _ _ _ _ _ _ _ _ _ _ _ _ _ _ _ _ _ _ _ _ _ _ _ _ _ _ _ _ _ _ _ _ _ _ _ _ _ _ _ _ _ _ _ _ _ _ _ _ _ _ _ _ _ _ _ _ _ _ _ _ _ _ _ _ _ _ _ _ _ _ _ _ _ _ _ _ _ _ _ _ _ _ _ _ _ _ _ _ _ _ _ _ _ _ _ _ _ _ _ _ _ _ _ _ _ _ _ _ _ _ _ _ _ _ _ _ _ _ _ _ _ _ _ _ _ _ _ _ _ _ _ _ _ _ _ _ _ _ _ _ _ _ _ _ _ _ _ _ _ _ _ _ _ _ _ _ _ (fun _ _ q=>q) (fun _ _ q=>q)) ?_;rintro a' w' ⟨v69,v70,v71,v72,v73,v74,v75,v76,v77,v78,v79,v80,⟨H2,S2⟩,rfl⟩;go_wp2_with fail
     go_roundg (L.length-(k+1))
     case measure=>omega
     case rel=>exact⟨k+1,es,hg,H2,by omega,rfl,by go_num,by rw[HT.out];exact S2.fm,S2.lns,S2.gf,S2.kept⟩
  ·have e:k=L.length:=by omega
   subst e;have HGO:Hid (eJ wr F w.heap.size lab (.slice (some ⟨g,0,none⟩) L.length L.length) (cP L) es hg H):=hFm;have hg0:=hgo.out;have cF:=HGO.out.bag.cell 9;have hFl:=HGO.out.bag.lt;simp only[tr,List.getElem?_cons_succ,List.getElem?_cons_zero]at cF;have hgi:((cP L).goal.length:Int) > 0:=by omega
   clear hFm;go_wp2_with fail
   go_region
   all_goals go_wp2
   all_goals go_ret2
   all_goals exact⟨F,g,es,hg,H,rfl,HGO.out.still (aa.refl [] _).drew,hLn.kept (aa.refl [] _).drew (by simp),hGf,hK.drew⟩
end Go.Proofs.YtlbhbocbakijbaaGreat
