import Derived.Test.YtlbhbocbakijbaaGreatG15
namespace Go.Proofs.YtlbhbocbakijbaaGreat
open Go.RowKit
set_option maxHeartbeats 0
def fw(s:St)(e:List ByteArray)(S:List ByteArray×List (List ByteArray)):Int×List ByteArray×List (List ByteArray) :=
 if(s.kind==3)=true then(if qY (gA S.1 S.2 s.symbols) e=true then(0,S) else(8,S))
 else match e with
  | []=>(7,S)
  | x :: r=>if(x.toList==(aR s).toList)=true then(0,S.1++[al s],S.2++[r]) else(7,S)
structure lD(w:World)(b:Nat)(H:Nat->Hd)(h:Hd)(l:List ByteArray):Prop where
 view:bH w h l
 far:∀x,h.blk=some x->x<w.heap.size/\x≠b/\¬cK H x
theorem lD.still{w w':World}{b:Nat}{H:Nat->Hd}{h:Hd}{l:List ByteArray}(f:lD w b H h l)(k:aa [] w w'):lD w' b H h l :=
 ⟨f.view.still k,fun x hx=>⟨Nat.lt_of_lt_of_le (f.far x hx).1 k.size,(f.far x hx).2⟩⟩
def eZ(g off cap:Nat)(r:List ByteArray):Ex:=⟨⟨if cap=1 then some ⟨g,off,none⟩ else some ⟨g,off+1,none⟩,cap-1⟩,r⟩
theorem Dd(g off cap:Nat)(r:List ByteArray):(eZ g off cap r).hd.blk=some g:=by unfold eZ Hd.blk;simp only;split <;> rfl
theorem EM{w:World}{b g off:Nat}{H:Nat->Hd}{x:ByteArray}{r:List ByteArray}(cap:Nat)(h:lD w b H ⟨some ⟨g,off,none⟩,cap⟩ (x :: r)):mS w b H (eZ g off cap r):=by
 have hb:(eZ g off cap r).hd.blk=some g:=by unfold eZ Hd.blk;simp only;split <;> rfl
 refine⟨?_,?_,fun y hy=>h.far y (by rw[hb]at hy;exact hy)⟩
 ·by_cases hr:r=[]
  ·subst hr;exact Or.inl rfl
  ·rcases h.view with hv | ⟨g',off',cur,t,e1,e2,e3,e4,e5⟩
   ·cases hv
   ·cases e1
    have hl:0<r.length:=List.length_pos_iff.2 hr;simp only[List.length_cons]at e4;refine Or.inr ⟨g,off+1,cur,t,by simp only[eZ];rw[if_neg (by omega)],e2,fun j y hy=>?_,by simp only[eZ];omega,by simp only[eZ]at e5 ⊢;omega⟩;have:=e3 (j+1) y (by simpa [eZ] using hy);rw[show off+1+j=off+(j+1) by omega];exact this
 ·unfold eZ
  simp only
  split
  ·exact⟨_,rfl⟩
  ·exact⟨_,rfl⟩
set_option maxRecDepth 100000 in
theorem DV(b:Nat)(vs:List ByteArray)(be:List Ex)(H:Nat->Hd)(s:St)(ha hb he:Hd)(ex:List ByteArray)(w:World)(h:GR w b vs be H)(hl:vs.length<=9999)(hbl:∀e∈be,e.xs.length<=10000)
  (hs:bH w ha s.symbols) (hsl:s.symbols.length<=10000) (hx:lD w b H he ex) (hxl:ex.length<=10000) :
  Calls Tryz.prog 185 #[.pointer (some ⟨b,0,none⟩),cQ s ha hb,.slice he.ao ex.length he.cap] w fun e w'=>∃(be':List Ex) (H':Nat->Hd),
   e=.returned (.int .i64 (fw s ex (vs,be.map Ex.xs)).1)/\GR w' b (fw s ex (vs,be.map Ex.xs)).2.1 be' H'/\be'.map Ex.xs=(fw s ex (vs,be.map Ex.xs)).2.2/\ag b w H w' H'/\∀e∈be',e∈be∨e.hd.blk=he.blk:=by
 obtain⟨i0,hi,hz0,hz1,hz2⟩:=info_parts dp;obtain⟨i1,hi1,hy0,hy1,hy2⟩:=info_parts sx;have hle:be.length<=9999:=by have:=h.len;omega
 unfold cQ;obtain⟨W,hW⟩:∃W,W=w.alloc (.cells #[.int .i64 s.kind,.string s.label,.slice ha.ao s.symbols.length ha.cap,.slice hb.ao s.proof.length hb.cap,.string s.fin.file,.int .i64 s.fin.line,.int .i64 s.fin.col,.int .i64 s.til] 144):=⟨_,rfl⟩
 have K:aa [] w W:=by rw[hW];exact(aa.refl [] _).alloc _
 have B:W.heap[w.heap.size]?=some (.cells #[.int .i64 s.kind,.string s.label,.slice ha.ao s.symbols.length ha.cap,.slice hb.ao s.proof.length hb.cap,.string s.fin.file,.int .i64 s.fin.line,.int .i64 s.fin.col,.int .i64 s.til] 144 (0,0)):=by rw[hW];exact heap_alloc_new _ _
 have HW:=(show Hid _ from hW.symm);have u0:W.cell? ⟨w.heap.size,0,none⟩=some (.int .i64 s.kind):=by rw[ab B];rfl
 have u1:W.cell? ⟨w.heap.size,1,none⟩=some (.string s.label):=by rw[ab B];rfl
 have u2:W.cell? ⟨w.heap.size,2,none⟩=some (.slice ha.ao s.symbols.length ha.cap):=by rw[ab B];rfl
 have u3:W.cell? ⟨w.heap.size,3,none⟩=some (.slice hb.ao s.proof.length hb.cap):=by rw[ab B];rfl
 have u4:W.cell? ⟨w.heap.size,4,none⟩=some (.string s.fin.file):=by rw[ab B];rfl
 have u5:W.cell? ⟨w.heap.size,5,none⟩=some (.int .i64 s.fin.line):=by rw[ab B];rfl
 have u6:W.cell? ⟨w.heap.size,6,none⟩=some (.int .i64 s.fin.col):=by rw[ab B];rfl
 have u7:W.cell? ⟨w.heap.size,7,none⟩=some (.int .i64 s.til):=by rw[ab B];rfl
 have hS:=h.still K;have hvW:=hs.still K;have hxW:=hx.still K;clear hW
 cases hk:(s.kind==3)
 ·rcases ex with _ | ⟨x,r⟩
  ·have HF:Hid (fw s [] (vs,be.map Ex.xs)=(7,vs,be.map Ex.xs)):=by show _=_;simp[fw,hk]
   clear u1 u2 u3 u4 u5 u6 u7;go_enter Tryz.func185,Tryz.ntmps185
   go_upto_region 1 with fail
   rw[HW.out]
   go_upto_region 5 with fail
   go_quiet (fail)
   go_wp2;go_ret;exact⟨be,H,ar (by rw[HF.out]),by rw[HF.out];exact hS.still ((aa.refl [] _).drewN _),by rw[HF.out],(ag.refl _ _ _).still (K.drewN _),fun _ q=>Or.inl q⟩
  ·obtain⟨aoe,cape⟩:=he
   rcases hxW.view with hnil | ⟨g,off,cur,t,e1,e2,e3,e4,e5⟩
   ·cases hnil
   simp only at e1 e4 e5;subst e1;have hlen1:¬((r.length:Int)+1==0)=true:=by simp;omega
   have HN:Hid ((x :: r).length=r.length+1):=rfl;have hlp:(0:Int)<(r.length:Int)+1:=by omega
   have h1le:(1:Int)<=(r.length:Int)+1:=by omega
   rw[HN.out]at *;have cx:W.cell? ⟨g,off,none⟩=some (.string x):=by have:=(ab e2 off).trans (by simpa using e3 0 x rfl);exact this
   have hgW:=ac e2;have TC:=tj s ha hb;unfold cQ at TC;have HTC:=(show Hid _ from TC)
   have HC:Hid (∀w',aa [] W.drew w'->w'.cell? ⟨g,off,none⟩=some (.string x)/\w'.cell? ⟨w.heap.size,0,none⟩=some (.int .i64 s.kind)/\w'.cell? ⟨w.heap.size,1,none⟩=some (.string s.label)/\w'.cell? ⟨w.heap.size,2,none⟩=some (.slice ha.ao s.symbols.length ha.cap)/\w'.cell? ⟨w.heap.size,3,none⟩=some (.slice hb.ao s.proof.length hb.cap)/\w'.cell? ⟨w.heap.size,4,none⟩=some (.string s.fin.file)/\w'.cell? ⟨w.heap.size,5,none⟩=some (.int .i64 s.fin.line)/\w'.cell? ⟨w.heap.size,6,none⟩=some (.int .i64 s.fin.col)/\w'.cell? ⟨w.heap.size,7,none⟩=some (.int .i64 s.til)):=by
    intro w' k;have q:=k.get (show W.drew.heap[w.heap.size]?=_ from B) (by simp);have q2:=k.get (show W.drew.heap[g]?=_ from e2) (by simp);refine⟨(ab q2 off).trans (by simpa using e3 0 x rfl),?_,?_,?_,?_,?_,?_,?_,?_⟩ <;> (rw[ab q];rfl)
   clear TC e3;go_enter Tryz.func185,Tryz.ntmps185
   go_upto_region 1 with fail
   rw[HW.out]
   go_upto_region 5 with fail
   cases hc:(x.toList==(aR s).toList)
   ·have HF:Hid (fw s (x :: r) (vs,be.map Ex.xs)=(7,vs,be.map Ex.xs)):=by show _=_;simp[fw,hk,hc]
    have hc':(x.toList != (aR s).toList)=true:=by simp[bne,hc]
    go_region_held3 (fun w'=>w'.cell? ⟨g,off,none⟩=some (.string x)/\w'.cell? ⟨w.heap.size,0,none⟩=some (.int .i64 s.kind)/\w'.cell? ⟨w.heap.size,1,none⟩=some (.string s.label)/\w'.cell? ⟨w.heap.size,2,none⟩=some (.slice ha.ao s.symbols.length ha.cap)/\w'.cell? ⟨w.heap.size,3,none⟩=some (.slice hb.ao s.proof.length hb.cap)/\w'.cell? ⟨w.heap.size,4,none⟩=some (.string s.fin.file)/\w'.cell? ⟨w.heap.size,5,none⟩=some (.int .i64 s.fin.line)/\w'.cell? ⟨w.heap.size,6,none⟩=some (.int .i64 s.fin.col)/\w'.cell? ⟨w.heap.size,7,none⟩=some (.int .i64 s.til)) (go_keep) (first | (go_at_call 189;refine(HTC.out _ (by exact hvW.still (aa.refl [] _).drew) (by omega)).mono ?_;rintro e w3 ⟨rfl,k3⟩;obtain⟨x0,x1,x2,x3,x4,x5,x6,x7,x8⟩:=HC.out w3 k3))
    all_goals
     clear u0 u1 u2 u3 u4 u5 u6 u7 cx;go_wp2;go_ret;exact⟨be,H,ar (by rw[HF.out]),by rw[HF.out];exact hS.still (((aa.refl [] _).drew).trans k3),by rw[HF.out],(ag.refl _ _ _).still (K.drew.trans k3),fun _ q=>Or.inl q⟩
   ·have HF:Hid (fw s (x :: r) (vs,be.map Ex.xs)=(0,vs++[al s],be.map Ex.xs++[r])):=by show _=_;simp[fw,hk,hc]
    have hc':(x.toList != (aR s).toList)=false:=by simp[bne,hc]
    have VA:=im s ha hb;unfold cQ at VA;have HVA:=(show Hid _ from VA);clear VA
    go_region_held3 (fun w'=>w'.cell? ⟨g,off,none⟩=some (.string x)/\w'.cell? ⟨w.heap.size,0,none⟩=some (.int .i64 s.kind)/\w'.cell? ⟨w.heap.size,1,none⟩=some (.string s.label)/\w'.cell? ⟨w.heap.size,2,none⟩=some (.slice ha.ao s.symbols.length ha.cap)/\w'.cell? ⟨w.heap.size,3,none⟩=some (.slice hb.ao s.proof.length hb.cap)/\w'.cell? ⟨w.heap.size,4,none⟩=some (.string s.fin.file)/\w'.cell? ⟨w.heap.size,5,none⟩=some (.int .i64 s.fin.line)/\w'.cell? ⟨w.heap.size,6,none⟩=some (.int .i64 s.fin.col)/\w'.cell? ⟨w.heap.size,7,none⟩=some (.int .i64 s.til)) (go_keep) (first | (go_at_call 189;refine(HTC.out _ (by exact hvW.still (aa.refl [] _).drew) (by omega)).mono ?_;rintro e w3 ⟨rfl,k3⟩;obtain⟨x0,x1,x2,x3,x4,x5,x6,x7,x8⟩:=HC.out w3 k3))
    all_goals
     have hS3:=hS.still (((aa.refl [] _).drew).trans k3);have hb3:=hS3.bag.lt;have hfr:=hS3.bag.free;obtain⟨m0,m1⟩:=hS3.cells;have hv3:=hvW.still (((aa.refl [] _).drew).trans k3);clear u0 u1 u2 u3 u4 u5 u6 u7 cx x0
     go_upto_region 7 with fail
     have s4:Hid ((am vs).n+1<=maxLen):=by show _<=_;simp only[am];unfold maxLen;omega
     have s5:Hid (((am vs).n+1)*16<=140737488355328):=by show _<=_;simp only[am];omega
     have s3:Hid (∀u∈([.string (al s)]:List Value),u.oneCell'=true):=by intro u hu;simp at hu;subst hu;rfl
     have HX4:Hid (∀w4,aa [] w3.drew w4->GR w4 b vs be H/\GR (w4.alloc (.cells #[.string (al s)] 9)) b vs be H/\∀j u,([.string (al s)]:List Value)[j]?=some u->(w4.alloc (.cells #[.string (al s)] 9)).cell? ((⟨w4.heap.size,0,none⟩:Addr).add j)=some u):=by
      intro w4 k;have q:=hS3.still (((aa.refl [] w3).drew).trans k);refine⟨q,q.still ((aa.refl [] _).alloc _),fun j u hj=>?_⟩;have hk:(w4.alloc (.cells #[.string (al s)] 9)).heap[w4.heap.size]?=some (.cells #[.string (al s)] 9 (0,0)):=heap_alloc_new _ _;rw[aV,ab hk];simpa using hj
     have hrw:Hid (∀j,j≠0->kC (vs++[al s]) be j=kC vs be j):=by
      intro j hj
      match j,hj with
      | 0,hj=>exact absurd rfl hj
      | 1,_=>rfl
      | m+2,_=>rfl
     go_region_law (first | (refine aC rfl (.tmp 32) (.tmp 35) 22 rfl i0 (.string ⟨#[]⟩) 16 (H 0) (am vs) Tryz.underlying22 hi hz0 hz1 hz2 rfl Nat.one_pos (by simp[Act.eval] <;> rfl) (y1.bag.own 0) ⟨_,0,none⟩ 1 1 [.string (al s)] (by simp[Act.eval] <;> rfl) rfl y2 s3.out Nat.one_pos s4.out s5.out ?_;intro g5 cap5 w5 hw5 hgr hfresh;obtain⟨k5,f5,HP⟩:=af.app y1.bag (cs':=jK (vs++[al s]) be (cG H 0 ⟨some ⟨g5,0,none⟩,cap5⟩)) (rows':=kC (vs++[al s]) be) 0 0 g5 cap5 ((am vs).n+1) _ hw5 (bE vs (al s)) hgr (by simpa using hfresh) hrw.out (.slice (H 0).ao vs.length (H 0).cap) rfl (by simp[jK,cG,am]);clear hw5 hgr hfresh) | (go_simp;go_at_call 149;refine(HVA.out _ (by exact hv3.still (aa.refl [] _).drew) (by omega)).mono ?_;rintro e w4 ⟨rfl,k4⟩;obtain⟨y0,y1,y2⟩:=HX4.out w4 k4;obtain⟨n0,n1⟩:=y0.cells;obtain⟨p0,p1⟩:=y1.cells))
     all_goals
      generalize hX:w5.setCell ⟨b,0,none⟩ (.slice (some ⟨g5,0,none⟩) ((am vs).n+1) cap5)=X at HP ⊢;have T5:Hid (ag b w H X (cG H 0 ⟨some ⟨g5,0,none⟩,cap5⟩)):=(((HP.out.2.first ((aa.refl [] _).alloc _)).first (((aa.refl [] w3).drew).trans k4)).first (K.drew.trans k3));have D5:=HP.out.1;have q1:=D5.cell 1;have hf5:=D5.free;have hbX:=D5.lt;simp only[jK,List.getElem?_cons_succ,List.getElem?_cons_zero]at q1;clear hX k5 f5 n0 n1 p0 p1 y0 y1 y2 m0 m1 hfr x1 x2 x3 x4 x5 x6 x7 x8
      go_upto_region 8 with fail
      have hD:Hid (af (X.alloc (.cells #[od (eZ g off cape r)] 22)).drew b 247 (jK (vs++[al s]) be (cG H 0 ⟨some ⟨g5,0,none⟩,cap5⟩)) (kC (vs++[al s]) be) (cG H 0 ⟨some ⟨g5,0,none⟩,cap5⟩)):=D5.still ((aa.refl [] X).alloc _).drew
      have s2:Hid (∀j u,([od (eZ g off cape r)]:List Value)[j]?=some u->(X.alloc (.cells #[od (eZ g off cape r)] 22)).drew.cell? ((⟨X.heap.size,0,none⟩:Addr).add j)=some u):=by
       intro j u hj;have hk:(X.alloc (.cells #[od (eZ g off cape r)] 22)).drew.heap[X.heap.size]?=some (.cells #[od (eZ g off cape r)] 22 (0,0)):=heap_alloc_new _ _;rw[aV,ab hk];simpa using hj
      have s3':Hid (∀u∈([od (eZ g off cape r)]:List Value),u.oneCell'=true):=by intro u hu;simp at hu;subst hu;rfl
      have s4':Hid ((cE be).n+1<=maxLen):=by show _<=_;simp only[cE];unfold maxLen;omega
      have s5':Hid (((cE be).n+1)*24<=140737488355328):=by show _<=_;simp only[cE];omega
      have hrw':Hid (∀j,j≠1->kC (vs++[al s]) (be++[eZ g off cape r]) j=kC (vs++[al s]) be j):=by
       intro j hj
       match j,hj with
       | 0,_=>rfl
       | 1,hj=>exact absurd rfl hj
       | m+2,_=>rfl
      unfold od at hD s2 s3';simp only[eZ]at hD s2 s3'
      go_region_law (refine aC rfl (.tmp 43) (.tmp 46) 69 rfl i1 (.slice none 0 0) 24 (cG H 0 ⟨some ⟨g5,0,none⟩,cap5⟩ 1) (cE be) Tryz.underlying69 hi1 hy0 hy1 hy2 rfl Nat.one_pos (by simp[Act.eval] <;> rfl) (hD.out.own 1) ⟨X.heap.size,0,none⟩ 1 1 _ (by simp[Act.eval]) rfl s2.out s3'.out Nat.one_pos s4'.out s5'.out ?_;intro g6 cap6 w6 hw6 hgr6 hfresh6;obtain⟨k6,f6,HP6⟩:=af.app hD.out (cs':=jK (vs++[al s]) (be++[eZ g off cape r]) (cG (cG H 0 ⟨some ⟨g5,0,none⟩,cap5⟩) 1 ⟨some ⟨g6,0,none⟩,cap6⟩)) (rows':=kC (vs++[al s]) (be++[eZ g off cape r])) 1 1 g6 cap6 ((cE be).n+1) _ hw6 (kZ be (eZ g off cape r)) hgr6 (by simpa using hfresh6) hrw'.out (.slice (cG H 0 ⟨some ⟨g5,0,none⟩,cap5⟩ 1).ao be.length (cG H 0 ⟨some ⟨g5,0,none⟩,cap5⟩ 1).cap) rfl (by simp[jK,cG,cE]);clear hw6 hgr6 hfresh6)
      all_goals
       have T6:=(show Hid _ from T5.out.trans (HP6.out.2.first ((aa.refl [] _).alloc _).drew));clear q1 hf5 k6 f6;generalize (if cape=1 then some (⟨g,off,none⟩:Addr) else some ⟨g,off+1,none⟩)=AE;go_wp2;go_ret;refine⟨be++[eZ g off cape r],_,ar (by rw[HF.out]),?_,by rw[HF.out];simp[eZ],T6.out,fun e q=>by rw[List.mem_append]at q;rcases q with q | q;exact Or.inl q;simp at q;subst q;exact Or.inr (Dd g off cape r)⟩;rw[HF.out];refine⟨HP6.out.1,by simp[h.len],?_⟩;intro e hem;rw[List.mem_append]at hem
       rcases hem with hem | hem
       ·exact(h.exs e hem).turned T6.out
       ·simp at hem;subst hem
        exact(EM cape hx).turned T6.out
 ·go_enter Tryz.func185,Tryz.ntmps185
  go_upto_region 1 with fail
  rw[HW.out];have RA:=nR b vs be H ha s.symbols W hS (by omega) hbl hvW hsl;have RL:=zW vs (be.map Ex.xs) 10000 (by omega) (by intro y hy;obtain⟨e,he,rfl⟩:=List.mem_map.1 hy;exact hbl e he) s.symbols;have HF:Hid (fw s ex (vs,be.map Ex.xs)=if qY (gA vs (be.map Ex.xs) s.symbols) ex=true then(0,vs,be.map Ex.xs) else(8,vs,be.map Ex.xs)):=by show _=_;simp[fw,hk]
  generalize gA vs (be.map Ex.xs) s.symbols=R at *;clear u1 u3 u4 u5 u6 u7;go_wp2_with fail;refine RA.mono ?_;rintro e w2 ⟨hd,rfl,ho,hn,k2⟩;go_wp2_with fail;refine(qZ hd he R ex w2 ho.view (hxW.view.still k2) (by omega) (by omega)).mono ?_;rintro e w3 ⟨rfl,k3⟩
  cases heq:qY R ex
  ·have HF2:Hid (fw s ex (vs,be.map Ex.xs)=(8,vs,be.map Ex.xs)):=by show _=_;rw[HF.out,heq];simp
   clear HF RA;go_wp2;go_ret;exact⟨be,H,ar (by rw[HF2.out]),by rw[HF2.out];exact(hS.still k2).still k3,by rw[HF2.out],(ag.refl _ _ _).still ((K.trans k2).trans k3),fun _ q=>Or.inl q⟩
  ·have HF2:Hid (fw s ex (vs,be.map Ex.xs)=(0,vs,be.map Ex.xs)):=by show _=_;rw[HF.out,heq];simp
   clear HF RA;go_wp2;go_ret;exact⟨be,H,ar (by rw[HF2.out]),by rw[HF2.out];exact(hS.still k2).still k3,by rw[HF2.out],(ag.refl _ _ _).still ((K.trans k2).trans k3),fun _ q=>Or.inl q⟩
theorem uk(hd:Hd)(l:List Nat)(x:Nat)(w:World)(ho:au w hd (aP l))(hl:l.length<=1073741824) :
  Calls Tryz.prog 194 #[.slice hd.ao l.length hd.cap,.int .i64 x] w fun e w'=>e=.returned (.bool (fA l x))/\w'=w:=by
 obtain⟨ao,cap⟩:=hd
 rcases ho.ways with ⟨e0,h0,_⟩ | ⟨g,cur,e1,_⟩
 ·have h0':l.length=0:=h0
  have hl0:l=[]:=List.eq_nil_of_length_eq_zero h0';subst hl0;clear ho h0 h0' hl e0;go_enter Tryz.func194,Tryz.ntmps194;go_wp2;refine wp_loop_rounds 1 ?_;rw[rounds_succ];go_wp2;go_ret;exact⟨rfl,rfl⟩
 ·simp only at e1
  subst e1;go_enter Tryz.func194,Tryz.ntmps194;go_wp2
  go_loopg [5] l.length (fun g i wr=>∃k:Nat,k<=l.length/\g=l.length-k/\i=.int .i64 k/\Hid (fA l x=fA (l.drop k) x)/\wr=w)
  case atStart=>exact⟨0,by omega,by omega,rfl,rfl,rfl⟩
  case round =>
   obtain⟨k,hk,hg,rfl,hs,rfl⟩:=hrel
   by_cases hlt:k<l.length
   ·have c1:=ho.cell rfl k (.int .i64 l[k]) (fM l k hlt)
    cases hb:(l[k]==x)
    ·have HM:Hid (fA l x=fA (l.drop (k+1)) x):=rm l x k hlt hs.out hb
     have hb':=(jC l[k] x).trans hb;clear hs ho hb;go_wp2
     go_roundg (l.length-(k+1))
     case measure=>omega
     case rel=>exact⟨k+1,by omega,rfl,by go_num,HM,rfl⟩
    ·have HM:Hid (fA l x=true):=uc l x k hlt hs.out hb
     have hb':=(jC l[k] x).trans hb;clear hs ho hb;go_wp2;go_ret;exact⟨GQ HM.out.symm,rfl⟩
   ·have HM:Hid (fA l x=false):=rn l x k hlt hs.out
    clear hs ho;go_wp2;go_ret;exact⟨GQ HM.out.symm,rfl⟩
structure qB(w:World)(b rb ro g n tb:Nat):Prop where
 blk:∃arr t,w.heap[b]?=some (.cells arr t (0,0))/\arr[0]?=some (.pointer (some ⟨rb,ro,none⟩))/\arr[1]?=some (.slice (some ⟨g,0,none⟩) n n)/\arr[2]?=some (.pointer (some ⟨tb,0,none⟩))
theorem qB.still{w w':World}{b rb ro g n tb:Nat}(h:qB w b rb ro g n tb)(k:aa [] w w'):qB w' b rb ro g n tb:=by
 obtain⟨arr,t,h1,h2⟩:=h.blk;exact⟨arr,t,k.get h1 (by simp),h2⟩
theorem qB.cells{w:World}{b rb ro g n tb:Nat}(h:qB w b rb ro g n tb):w.cell? ⟨b,0,none⟩=some (.pointer (some ⟨rb,ro,none⟩))/\w.cell? ⟨b,1,none⟩=some (.slice (some ⟨g,0,none⟩) n n)/\w.cell? ⟨b,2,none⟩=some (.pointer (some ⟨tb,0,none⟩)):=by
 obtain⟨arr,t,h1,h2,h3,h4⟩:=h.blk;exact⟨(ab h1 0).trans h2,(ab h1 1).trans h3,(ab h1 2).trans h4⟩
def jG(vs:List ByteArray):List ByteArray->List Nat->List Nat
 | [],acc=>acc
 | x :: r,acc=>match aL vs x with
  | none=>jG vs r acc
  | some p=>if fA acc p=true then jG vs r acc else jG vs r (acc++[p])
def gE(vs xs:List ByteArray):List Nat:=jG vs xs []
theorem Eu(vs xs:List ByteArray)(acc:List Nat)(k:Nat)(hk:k<xs.length):jG vs (xs.drop k) acc=match aL vs xs[k] with
  | none=>jG vs (xs.drop (k+1)) acc
  | some p=>if fA acc p=true then jG vs (xs.drop (k+1)) acc else jG vs (xs.drop (k+1)) (acc++[p]):=by
 rw[List.drop_eq_getElem_cons hk];rfl
theorem Cy(vs xs:List ByteArray)(acc:List Nat)(k:Nat)(hk:¬k<xs.length):jG vs (xs.drop k) acc=acc:=by
 rw[List.drop_of_length_le (by omega)];rfl
theorem uI(vs xs:List ByteArray)(acc:List Nat)(h:∀p∈acc,p<vs.length):(∀p∈jG vs xs acc,p<vs.length)/\(jG vs xs acc).length<=acc.length+xs.length:=by
 induction xs generalizing acc with
 | nil=>exact⟨h,by simp[jG]⟩
 | cons x r ih =>
  rw[jG]
  split
  ·have:=ih acc h;exact⟨this.1,by simp;omega⟩
  ·next p hp =>
   split
   ·have:=ih acc h;exact⟨this.1,by simp;omega⟩
   ·have:=ih (acc++[p]) (by intro q hq;simp at hq;rcases hq with hq | rfl;exact h q hq;exact yp hp)
    exact⟨this.1,by have h2:=this.2;simp at h2 ⊢;omega⟩
theorem AS{vs xs:List ByteArray}{p:Nat}(h:p∈gE vs xs):p<vs.length:=(uI vs xs [] (by simp)).1 p h
theorem xA(vs xs:List ByteArray):(gE vs xs).length<=xs.length:=by have:=(uI vs xs [] (by simp)).2;unfold gE;simpa using this
set_option maxRecDepth 100000 in
theorem pv(b rb ro g n tb:Nat)(vs:List ByteArray)(ms:List Bool)(hv hm hw:Hd)(ws:List ByteArray)(w:World)(hp:qB w b rb ro g n tb)(h:gF w tb vs ms hv hm)(hl:vs.length<=1073741824)(hvw:bH w hw ws)(hwl:ws.length<=1000000) :
  Calls Tryz.prog 193 #[.pointer (some ⟨b,0,none⟩),.slice hw.ao ws.length hw.cap] w fun e w'=>∃hd:Hd,e=.returned (.slice hd.ao (gE vs ws).length hd.cap)/\au w' hd (aP (gE vs ws))/\(∀x,hd.blk=some x->w.heap.size<=x)/\aa [] w w':=by
 obtain⟨i0,hi,hz0,hz1,hz2⟩:=info_parts fU;obtain⟨ao,cap⟩:=hw
 rcases hvw with rfl | ⟨gv,off,cur,t,e1,e2,e3,e4,e5⟩
 ·clear hwl
  go_enter Tryz.func193,Tryz.ntmps193;go_wp2;refine wp_loop_rounds 1 ?_;rw[rounds_succ];go_wp2;go_ret;exact⟨⟨none,0⟩,rfl,World.ownsRow_nil _ _ _ _,by intro x hx;simp[Hd.blk]at hx,aa.refl _ _⟩
 simp only at e1 e4 e5;subst e1;obtain⟨R,HR⟩:∃R,Hid (R=gE vs ws):=⟨_,rfl⟩
 rw[<-HR.out];go_enter Tryz.func193,Tryz.ntmps193;go_wp2
 go_loopg [5,6] ws.length (fun gk sv i wr=>∃(k:Nat) (hd:Hd) (acc:List Nat),k<=ws.length/\gk=ws.length-k/\i=.int .i64 k/\sv=.slice hd.ao acc.length hd.cap/\acc.length<=k/\Hid (R=jG vs (ws.drop k) acc)/\au wr hd (aP acc)/\(∀x,hd.blk=some x->w.heap.size<=x)/\aa [] w wr)
 case atStart=>exact⟨0,⟨none,0⟩,[],by omega,by omega,rfl,rfl,by simp,HR.out,World.ownsRow_nil _ _ _ _,by intro x hx;simp[Hd.blk]at hx,aa.refl _ _⟩
 case round =>
  obtain⟨k,hd,acc,hk,hg,rfl,rfl,hal,hRk,hO,hN,hK⟩:=hrel;have hr:=h.still hK;obtain⟨p0,p1,p2⟩:=(hp.still hK).cells
  by_cases hlt:k<ws.length
  ·have c2:wr.cell? ⟨gv,off+k,none⟩=some (.string ws[k]):=(ab (hK.get e2 (by simp)) (off+k)).trans (e3 k ws[k] (List.getElem?_eq_getElem hlt))
   have hli:(k:Int)<ws.length:=by omega
   have HRN:=(show Hid _ from hRk.out.trans (Eu vs ws acc k hlt));have HPA:=(show Hid _ from fun w1 (k1:aa [] wr w1)=>mH tb vs ms hv hm ws[k] w1 (hr.still k1) hl);clear hRk e3 p0 p1;generalize ws[k]=y at *
   rcases hpo:aL vs y with _ | p
   ·have HT:Hid (R=jG vs (ws.drop (k+1)) acc):=by show _=_;rw[HRN.out,hpo]
    rw[hpo]at HPA;simp only[bQ]at HPA;clear HRN
    go_upto_region 5 with fail
    go_quiet ((go_at_call 170;exact Calls.quiet_of_same (HPA.out _ ((aa.refl [] _).drewN _))))
    go_wp2
    go_roundg (ws.length-(k+1))
    case measure=>omega
    case rel=>exact⟨k+1,hd,acc,by omega,rfl,by go_num,rfl,by omega,HT.out,hO.moved (fun x hx=>((aa.refl [] wr).drewN _).block x (hO.lt hx) (by simp)),hN,hK.drewN _⟩
   ·rw[hpo]at HPA
    simp only[bQ]at HPA;have hge:(p:Int) ≥ 0:=by omega
    go_upto_region 5 with fail
    go_quiet ((go_at_call 170;exact Calls.quiet_of_same (HPA.out _ ((aa.refl [] _).drewN _))))
    obtain⟨wq,hwq⟩:∃wq,wq=wr.drewN nq:=⟨_,rfl⟩
    rw[<-hwq];have hOq:au wq hd (aP acc):=by rw[hwq];exact hO.moved (fun x hx=>((aa.refl [] wr).drewN _).block x (hO.lt hx) (by simp))
    have hKq:aa [] w wq:=by rw[hwq];exact hK.drewN _
    clear hwq
    cases hh:fA acc p
    ·have HT:Hid (R=jG vs (ws.drop (k+1)) (acc++[p])):=by show _=_;rw[HRN.out,hpo];simp[hh]
     have hO4:=hOq.moved (fun x hx=>((aa.refl [] wq).alloc (.cells #[.int .i64 p] 3)).block x (hOq.lt hx) (by simp));clear HRN
     go_upto_region 7 with (go_at_call 194;refine(uk hd acc p _ (by exact hOq) (by omega)).mono ?_;rintro e w7 ⟨rfl,hw7⟩;rw[hw7,hh])
     go_wp2_with (at_builtin;refine ay _ rfl (.tmp 31) (.tmp 33) 33 rfl i0 (.int .i64 0) 8 hd (aP acc) Tryz.underlying33 hi hz0 hz1 hz2 rfl Nat.one_pos rfl (by exact hO4) ⟨_,0,none⟩ 1 1 [.int .i64 p] rfl rfl ?d1 ?d2 Nat.one_pos ?d3 ?d4 ?_)
     case d1=>intro j u hj;match j,hj with | 0,hj=>simp at hj;subst hj;simp[Addr.add]
     case d2=>intro u hu;simp at hu;subst hu;rfl
     case d3=>simp only[aP];unfold maxLen;omega
     case d4=>simp only[aP];omega
     intro g5 cap5 w5 hw5 hgr5 hfresh5;rw[gL acc p]at hw5;have hK4:=hKq.alloc (.cells #[.int .i64 p] 3);have hK5:=hK4.grown hgr5 hN
     have hg5:w.heap.size<=g5:=by
      rcases hfresh5 with e | e
      ·exact hN g5 e
      ·have:=hK4.size;simp at e this;omega
     have hEl:Hid ((aP acc).n+1=(acc++[p]).length):=by show _=_;simp[aP]
     rw[hEl.out];clear hgr5 hfresh5 hO4;go_wp2
     go_roundg (ws.length-(k+1))
     case measure=>omega
     case rel=>exact⟨k+1,⟨some ⟨g5,0,none⟩,cap5⟩,acc++[p],by omega,rfl,by go_num,rfl,by simp;omega,HT.out,hw5,by intro x hx;simp[Hd.blk]at hx;omega,hK5⟩
    ·have HT:Hid (R=jG vs (ws.drop (k+1)) acc):=by show _=_;rw[HRN.out,hpo];simp[hh]
     clear HRN;go_wp2_with (go_at_call 194;refine(uk hd acc p _ (by exact hOq) (by omega)).mono ?_;rintro e w7 ⟨rfl,hw7⟩;rw[hw7,hh])
     go_roundg (ws.length-(k+1))
     case measure=>omega
     case rel=>exact⟨k+1,hd,acc,by omega,rfl,by go_num,rfl,by omega,HT.out,hOq,hN,hKq⟩
  ·have HT:Hid (acc=R):=(hRk.out.trans (Cy vs ws acc k hlt)).symm
   clear hRk e3;go_wp2;go_ret;exact⟨hd,by rw[<-HT.out];rfl,by rw[<-HT.out];exact hO,hN,hK⟩
def oD(side:Nat)(ms:List Bool)(ones others:List Nat):Bool:=ones.all (fun i=>others.all (fun j=>bW side ms i j))
theorem DE{side:Nat}{ms:List Bool}{ones others:List Nat}(i j:Nat)(hi:i<ones.length)(hj:j<others.length)(h:bW side ms ones[i] others[j]=false):oD side ms ones others=false:=by
 cases e:oD side ms ones others
 ·rfl
 ·unfold oD at e
  rw[List.all_eq_true]at e;have:=e _ (List.getElem_mem hi);rw[List.all_eq_true]at this;rw[this _ (List.getElem_mem hj)]at h;cases h
theorem Bm{side:Nat}{ms:List Bool}{ones others:List Nat}(h:∀i j (hi:i<ones.length) (hj:j<others.length),bW side ms ones[i] others[j]=true):oD side ms ones others=true:=by
 unfold oD;rw[List.all_eq_true];intro x hx;rw[List.all_eq_true];intro y hy;obtain⟨i,hi,rfl⟩:=List.getElem_of_mem hx;obtain⟨j,hj,rfl⟩:=List.getElem_of_mem hy;exact h i j hi hj
theorem sc(b rb ro g n tb:Nat)(vs:List ByteArray)(ms:List Bool)(hv hm h1 h2:Hd)(ones others:List Nat)(w:World)(hp:qB w b rb ro g n tb)(h:gF w tb vs ms hv hm)(hml:ms.length=vs.length*vs.length)(hvl:vs.length<=10000)
  (o1:au w h1 (aP ones)) (o2:au w h2 (aP others)) (hl1:ones.length<=1000000) (hl2:others.length<=1000000) (hin1:∀x∈ones,x<vs.length) (hin2:∀x∈others,x<vs.length) :
  Calls Tryz.prog 191 #[.pointer (some ⟨b,0,none⟩),.slice h1.ao ones.length h1.cap,.slice h2.ao others.length h2.cap] w fun e w'=>e=.returned (.bool (oD vs.length ms ones others))/\∃m,w'=w.drewN m:=by
 go_enter Tryz.func191,Tryz.ntmps191;go_wp2
 go_loopg [7] ones.length (fun gk i wr=>∃(k m:Nat),k<=ones.length/\gk=ones.length-k/\i=.int .i64 k/\Hid (∀i j (hi:i<ones.length) (hj:j<others.length),i<k->bW vs.length ms ones[i] others[j]=true)/\Hid (wr=w.drewN m))
 case atStart=>exact⟨0,0,by omega,by omega,rfl,fun i j hi hj h=>by omega,rfl⟩
 case round =>
  obtain⟨k,m,hk,hg,rfl,hall,hwm⟩:=hrel
  by_cases hlt:k<ones.length
  ·go_wp2_with fail
   go_loopg [8] others.length (fun gk2 i2 wr2=>∃(j m2:Nat),j<=others.length/\gk2=others.length-j/\i2=.int .i64 j/\Hid (∀i (hi:i<others.length),i<j->bW vs.length ms ones[k] others[i]=true)/\Hid (wr2=w.drewN m2))
   case atStart=>exact⟨0,m,by omega,by omega,rfl,fun i hi h=>by omega,hwm⟩
   case round =>
    obtain⟨j,m2,hj,hg2,rfl,hrow,hwm2⟩:=hrel
    by_cases hlj:j<others.length
    ·have K:aa [] w wr:=by rw[hwm2.out];exact(aa.refl [] _).drewN _
     have hA:=h.still K;obtain⟨p0,p1,p2⟩:=(hp.still K).cells
     rcases o1.ways with ⟨_,h0,_⟩ | ⟨ga,ca,ea,ea2,ea3,ea4,-⟩
     ·have:ones.length=0:=h0
      omega
     rcases o2.ways with ⟨_,h0,_⟩ | ⟨gb,cb,eb,eb2,eb3,eb4,-⟩
     ·have:others.length=0:=h0
      omega
     have d1:wr.cell? ⟨ga,k,none⟩=some (.int .i64 ones[k]):=(o1.moved (fun x hx=>K.block x (o1.lt hx) (by simp))).cell ea k (.int .i64 ones[k]) (fM ones k hlt);have d2:wr.cell? ⟨gb,j,none⟩=some (.int .i64 others[j]):=(o2.moved (fun x hx=>K.block x (o2.lt hx) (by simp))).cell eb j (.int .i64 others[j]) (fM others j hlj);have hc1:ones.length<=h1.cap:=ea3;have hc2:others.length<=h2.cap:=eb3;have hi1:(k:Int)<ones.length:=by omega
     have hi2:(j:Int)<others.length:=by omega
     have x1:=hin1 _ (List.getElem_mem hlt);have x2:=hin2 _ (List.getElem_mem hlj);have HNO:=(show Hid _ from DE (side:=vs.length) (ms:=ms) k j hlt hlj)
     have HYE:Hid (bW vs.length ms ones[k] others[j]=true->∀i (hi:i<others.length),i<j+1->bW vs.length ms ones[k] others[i]=true):=by
      intro hh i hi hij
      by_cases e:i=j
      ·subst e;exact hh
      ·exact hrow.out i hi (by omega)
     have AP:=fun nq=>kM tb vs ms hv hm ones[k] others[j] (wr.drewN nq) (hA.still ((aa.refl [] _).drewN nq)) hml hvl x1 x2
     obtain⟨ao1,cap1⟩:=h1;obtain⟨ao2,cap2⟩:=h2;simp only at ea eb;subst ea;subst eb;clear hrow hA p0 p1;generalize ones[k]=X at *;generalize others[j]=Y at *;have HAP:=(show Hid _ from AP);clear AP
     cases hb:bW vs.length ms X Y
     ·have HM:=(show Hid _ from HNO.out hb)
      rw[hb]at HAP;clear HNO HYE hall
      go_upto_region 7 with fail
      go_quiet ((go_at_call 153;exact Calls.quiet_of_same (HAP.out _)))
      go_wp2;go_ret;exact⟨GQ HM.out.symm,_,by rw[hwm2.out];exact World.drewN_drewN _ _ _⟩
     ·have HM:=(show Hid _ from HYE.out hb)
      rw[hb]at HAP;clear HNO HYE
      go_upto_region 7 with fail
      go_quiet ((go_at_call 153;exact Calls.quiet_of_same (HAP.out _)))
      go_wp2
      go_roundg (others.length-(j+1))
      case measure=>omega
      case rel=>exact⟨j+1,_,by omega,rfl,by go_num,HM.out,by show _=_;rw[hwm2.out];exact World.drewN_drewN _ _ _⟩
    ·have HN:Hid (∀i j (hi:i<ones.length) (hj:j<others.length),i<k+1->bW vs.length ms ones[i] others[j]=true):=by
      intro i j' hi hj' hik
      by_cases e:i=k
      ·subst e;exact hrow.out j' hj' (by omega)
      ·exact hall.out i j' hi hj' (by omega)
     clear hrow hall;go_wp2
     go_roundg (ones.length-(k+1))
     case measure=>omega
     case rel=>exact⟨k+1,m2,by omega,rfl,by go_num,HN,hwm2⟩
  ·have HM:Hid (oD vs.length ms ones others=true):=Bm (fun i j hi hj=>hall.out i j hi hj (by omega))
   clear hall;go_wp2;go_ret;exact⟨GQ HM.out.symm,m,hwm.out⟩
structure eK(w:World)(g N:Nat)(F:Nat->List Nat)(K:Nat->Hd):Prop where
 arr:∃arr,w.heap[g]?=some (.cells arr 33 (0,0))/\arr.size=N/\∀n,n<N->arr[n]?=some (.slice (K n).ao (F n).length (K n).cap)
 own:∀n,n<N->au w (K n) (aP (F n))
 off:∀n,n<N->(K n).blk≠some g
theorem eK.still{w w':World}{g N:Nat}{F:Nat->List Nat}{K:Nat->Hd}(h:eK w g N F K)(q:aa [] w w'):eK w' g N F K:=by
 obtain⟨arr,h1,h2,h3⟩:=h.arr;exact⟨⟨arr,q.get h1 (by simp),h2,h3⟩,fun n hn=>(h.own n hn).moved (fun x hx=>q.block x ((h.own n hn).lt hx) (by simp)),h.off⟩
theorem eK.cell{w:World}{g N:Nat}{F:Nat->List Nat}{K:Nat->Hd}(h:eK w g N F K)(n:Nat)(hn:n<N):w.cell? ⟨g,n,none⟩=some (.slice (K n).ao (F n).length (K n).cap):=by
 obtain⟨arr,h1,h2,h3⟩:=h.arr;rw[ab h1];exact h3 n hn
theorem eK.free{w:World}{g N:Nat}{F:Nat->List Nat}{K:Nat->Hd}(h:eK w g N F K)(n:Nat):w.frozen? ⟨g,n,none⟩=false:=by
 obtain⟨arr,h1,h2,h3⟩:=h.arr;exact an h1 n
theorem eK.lt{w:World}{g N:Nat}{F:Nat->List Nat}{K:Nat->Hd}(h:eK w g N F K):g<w.heap.size:=by
 obtain⟨arr,h1,h2,h3⟩:=h.arr;exact ac h1
def xt(F:Nat->List Nat)(k:Nat)(v:List Nat):Nat->List Nat:=fun n=>if n=k then v else F n
theorem eK.store{w:World}{g N k:Nat}{F:Nat->List Nat}{K:Nat->Hd}(h:eK w g N F K)(v:List Nat)(hd:Hd)(o:au w hd (aP v))(hg:hd.blk≠some g) :
  eK (w.setCell ⟨g,k,none⟩ (.slice hd.ao v.length hd.cap)) g N (xt F k v) (cG K k hd):=by
 obtain⟨arr,h1,h2,h3⟩:=h.arr;refine⟨⟨_,ae h1 _ _,by simpa using h2,?_⟩,?_,?_⟩
 ·intro n hn
  by_cases en:n=k
  ·subst en
   rw[bN];simp[h2,hn,xt]
  ·rw[bd _ _ _ _ en]
   rw[Array.getElem?_setIfInBounds_ne (by omega)];simp only[xt,if_neg en];exact h3 n hn
 ·intro n hn
  by_cases en:n=k
  ·subst en
   rw[bN];simp only[xt,if_pos];exact o.moved (fun x hx=>Below.heap_setCell _ _ _ _ (by rintro rfl;exact hg hx))
  ·rw[bd _ _ _ _ en]
   simp only[xt,if_neg en];exact(h.own n hn).moved (fun x hx=>Below.heap_setCell _ _ _ _ (by rintro rfl;exact h.off n hn hx))
 ·intro n hn
  by_cases en:n=k
  ·subst en;rw[bN];exact hg
  ·rw[bd _ _ _ _ en];exact h.off n hn
def fL(vs:List ByteArray)(bs:List (List ByteArray))(k n:Nat):List Nat:=if n<k then gE vs (bs.getD n []) else []
theorem eK.congr{w:World}{g N:Nat}{F F':Nat->List Nat}{K:Nat->Hd}(h:eK w g N F K)(e:∀n,n<N->F n=F' n):eK w g N F' K:=by
 obtain⟨arr,h1,h2,h3⟩:=h.arr;exact⟨⟨arr,h1,h2,fun n hn=>by rw[<-e n hn];exact h3 n hn⟩,fun n hn=>by rw[<-e n hn];exact h.own n hn,h.off⟩
set_option maxRecDepth 100000 in
theorem xz(b rb ro g n tb:Nat)(vs:List ByteArray)(ms:List Bool)(hv hm hl:Hd)(be:List Ex)(w:World)(hp:qB w b rb ro g n tb)(h:gF w tb vs ms hv hm)(hvl:vs.length<=10000)
  (ho:au w hl (cE be)) (hbl:be.length<=10000) (hex:∀e∈be,bH w e.hd e.xs/\e.xs.length<=10000) :
  Calls Tryz.prog 190 #[.pointer (some ⟨b,0,none⟩),.slice hl.ao be.length hl.cap] w fun e w'=>∃(g':Nat) (K:Nat->Hd),e=.returned (.slice (some ⟨g',0,none⟩) be.length be.length)/\eK w' g' be.length (fL vs (be.map Ex.xs) be.length) K/\aa [] w w':=by
 obtain⟨i0,hi,hz0,hz1,hz2⟩:=info_parts E1;have m1:=fun w=>cA (P:=Tryz.prog) w 160 33 i0 _ Tryz.underlying160 hi hz0 be.length 1 hz1 (by rw[hz2];omega) (by omega)
 obtain⟨mc,hmc⟩:∃mc,mc=madeCells (Value.slice none 0 0).cells (be.length*1):=⟨_,rfl⟩
 rw[<-hmc]at m1
 have A0:Hid (eK (w.alloc (.cells mc 33)) w.heap.size be.length (fL vs (be.map Ex.xs) 0) gu):=by
  refine⟨⟨mc,heap_alloc_new _ _,by rw[hmc,size_madeCells];omega,?_⟩,?_,fun n _ e=>by simp[gu,Hd.blk]at e⟩
  ·intro n hn
   have e:fL vs (be.map Ex.xs) 0 n=[]:=by unfold fL;rw[if_neg (by omega)]
   rw[e,hmc];exact sG _ _ _ (by omega)
  ·intro n hn
   have e:fL vs (be.map Ex.xs) 0 n=[]:=by unfold fL;rw[if_neg (by omega)]
   rw[e];exact World.ownsRow_nil _ _ _ _
 clear hmc;go_enter Tryz.func190,Tryz.ntmps190;go_wp2
 go_loopg [6] be.length (fun gk i wr=>∃(k:Nat) (K:Nat->Hd),k<=be.length/\gk=be.length-k/\i=.int .i64 k/\eK wr w.heap.size be.length (fL vs (be.map Ex.xs) k) K/\aa [] w wr)
 case atStart=>exact⟨0,gu,by omega,by omega,rfl,A0.out,(aa.refl _ _).alloc _⟩
 case round =>
  obtain⟨k,K,hk,hg,rfl,hA,hK⟩:=hrel;clear A0 m1
  by_cases hlt:k<be.length
  ·rcases ho.ways with ⟨_,h0,_⟩ | ⟨gb,curb,eb,-,eb3,-⟩
   ·have:be.length=0:=h0
    omega
   have hob:au wr hl (cE be):=ho.moved (fun x hx=>hK.block x (ho.lt hx) (by simp));have cb:=hob.cell eb k (od be[k]) (mm be k hlt);have hcp:be.length<=hl.cap:=eb3;obtain⟨hvk,hxk⟩:=hex be[k] (List.getElem_mem hlt);have PO:=pv b rb ro g n tb vs ms hv hm be[k].hd be[k].xs wr (hp.still hK) (h.still hK) (by omega) (hvk.still hK) (by omega)
   have HNX:Hid (∀n,n<be.length->xt (fL vs (be.map Ex.xs) k) k (gE vs be[k].xs) n=fL vs (be.map Ex.xs) (k+1) n):=by
    intro n hn;unfold xt fL
    by_cases e:n=k
    ·subst e;simp[hlt]
    ·rw[if_neg e]
     by_cases e2:n<k
     ·rw[if_pos e2,if_pos (by omega)]
     ·rw[if_neg e2,if_neg (by omega)]
   unfold od at cb;obtain⟨ao,cap⟩:=hl;simp only at eb;subst eb;have hgw:=hA.lt;clear hob;generalize be[k]=ex at *;go_wp2_with fail;refine PO.mono ?_;rintro e w2 ⟨hd,rfl,o2,n2,k2⟩;have hA2:=hA.still k2;have c2:=hA2.cell k hlt;have f2:=hA2.free;have ST:=(show Hid _ from(hA2.store (k:=k) (gE vs ex.xs) hd o2 (fun e=>by have:=n2 _ e;omega)).congr HNX.out);have hKw:=hK.size;have hK2:=(hK.trans k2);have HK3:Hid (∀v,aa [] w (w2.setCell ⟨w.heap.size,k,none⟩ v)):=fun v=>hK2.setCell (Or.inr (Nat.le_refl _)) v
   go_wp2
   go_roundg (be.length-(k+1))
   case measure=>omega
   case rel=>exact⟨k+1,_,by omega,rfl,by go_num,ST.out,HK3.out _⟩
  ·have e:k=be.length:=by omega
   subst e;go_wp2;go_ret;exact⟨_,K,rfl,hA,hK⟩
def jQ(l:List St)(a:Nat)(S:List ByteArray×List (List ByteArray))(vs:List ByteArray)(ms:List Bool)(i j:Nat):Bool :=
 !(bW S.1.length (ce l a S.1) i j)||oD vs.length ms (gE vs (S.2.getD i [])) (gE vs (S.2.getD j []))
def lw(l:List St)(a:Nat)(S:List ByteArray×List (List ByteArray))(vs:List ByteArray)(ms:List Bool):Bool :=
 decide (∀i,i<S.1.length->∀j,j<S.1.length->i<j->jQ l a S vs ms i j=true)
set_option maxRecDepth 100000 in
theorem pd(b rb ro g n tb a sb:Nat)(l:List St)(HR:Nat->Hd)(vs:List ByteArray)(ms:List Bool)(hv hm:Hd)(us:List ByteArray)(be:List Ex)(H:Nat->Hd)(w:World)(hp:qB w b rb ro g n tb)(h:gF w tb vs ms hv hm)(hml:ms.length=vs.length*vs.length)(hvl:vs.length<=10000)
  (hr:bZ w rb ro l HR) (ok:db l) (hs:GR w sb us be H) (hul:us.length<=10000) (hxl:∀e∈be,e.xs.length<=10000) :
  Calls Tryz.prog 186 #[.pointer (some ⟨b,0,none⟩),.int .i64 a,.pointer (some ⟨sb,0,none⟩)] w fun e w'=>e=.returned (.bool (lw l a (us,be.map Ex.xs) vs ms))/\aa [] w w':=by
 obtain⟨p0,p1,p2⟩:=hp.cells;obtain⟨s0,s1⟩:=hs.cells;have HLE:Hid (be.length=us.length):=hs.len;have hbl:be.length<=10000:=by rw[HLE.out];exact hul
 obtain⟨R,HR'⟩:∃R,Hid (R=lw l a (us,be.map Ex.xs) vs ms):=⟨_,rfl⟩
 rw[<-HR'.out];have HO0:∀w1,aa [] w w1->au w1 (H 0) (am us):=fun w1 k1=>(hs.still k1).bag.own 0
 have HO1:∀w1,aa [] w w1->au w1 (H 1) (cE be):=fun w1 k1=>(hs.still k1).bag.own 1
 have HAT:=(show Hid _ from fun w1 (k1:aa [] w w1)=>vE rb ro a l HR (H 0) us w1 (hr.still k1) ok (HO0 w1 k1) hul)
 have HC:Hid (∀w',aa [] w.drew w'->w'.cell? ⟨b,0,none⟩=some (.pointer (some ⟨rb,ro,none⟩))/\w'.cell? ⟨sb,0,none⟩=some (.slice (H 0).ao us.length (H 0).cap)):=by
  intro w' k;exact⟨(hp.still ((aa.refl [] w).drew.trans k)).cells.1,(hs.still ((aa.refl [] w).drew.trans k)).cells.1⟩
 have hsb:=hs.bag.lt;go_enter Tryz.func186,Tryz.ntmps186
 go_upto_region 1 with fail
 go_region_held3 (fun w'=>w'.cell? ⟨b,0,none⟩=some (.pointer (some ⟨rb,ro,none⟩))/\w'.cell? ⟨sb,0,none⟩=some (.slice (H 0).ao us.length (H 0).cap)) (go_keep) (first | (go_at_call 128;refine(HAT.out _ (by exact(aa.refl [] _).drew)).mono ?_;rintro e w1 ⟨tb2,hv2,hm2,rfl,A2,-,-,k1⟩;obtain⟨x0,x1⟩:=HC.out w1 k1))
 have K1:=(aa.refl [] w).drew.trans k1;have hs1:=hs.still K1;obtain⟨y0,y1⟩:=hs1.cells;have WI:=xz b rb ro g n tb vs ms hv hm (H 1) be w1 (hp.still K1) (h.still K1) hvl (HO1 w1 K1) hbl (fun e he=>⟨(hs1.exs e he).view,hxl e he⟩);have hml2:=fW l a us l.length;go_wp2_with fail;refine WI.mono ?_;rintro e w2 ⟨g2,K,rfl,G2,k2⟩;have A2':=A2.still k2;have K2:=K1.trans k2;have hp2:=hp.still K2;have h2:=h.still K2
 have HT:Hid (R=true ↔ ∀i,i<be.length->∀j,j<be.length->i<j->jQ l a (us,be.map Ex.xs) vs ms i j=true):=by
  show _ ↔ _
  rw[HR'.out,HLE.out];unfold lw;rw[decide_eq_true_iff]
 have HIN:Hid (∀n,∀x∈fL vs (be.map Ex.xs) be.length n,x<vs.length):=by
  intro n x hx;unfold fL at hx
  split at hx
  ·exact AS hx
  ·cases hx
 have HLN:Hid (∀n,n<be.length->(fL vs (be.map Ex.xs) be.length n).length<=10000):=by
  intro n hn;unfold fL;rw[if_pos hn];refine Nat.le_trans (xA _ _) ?_;rw[List.getD_eq_getElem?_getD];simp[hn];exact hxl _ (List.getElem_mem hn)
 have HKP:Hid (∀i j,i<be.length->j<be.length->jQ l a (us,be.map Ex.xs) vs ms i j=(!(bW us.length (ce l a us) i j)||oD vs.length ms (fL vs (be.map Ex.xs) be.length i) (fL vs (be.map Ex.xs) be.length j))):=by
  intro i j hi hj;unfold jQ fL;rw[if_pos hi,if_pos hj]
 clear WI HO0 HO1 HAT HC y0 y1 p0 p1 p2 s0 s1 x0 x1;go_wp2
 go_loopg [9] be.length (fun gk iv wr=>∃(i:Nat),i<=be.length/\gk=be.length-i/\iv=.int .i64 i/\Hid (∀i',i'<i->∀j',j'<be.length->i'<j'->jQ l a (us,be.map Ex.xs) vs ms i' j'=true)/\aa [] w2 wr)
 case atStart=>exact⟨0,by omega,by omega,rfl,fun i' hi'=>by omega,aa.refl _ _⟩
 case round =>
  obtain⟨i,hi,hg,rfl,hall,hK⟩:=hrel
  by_cases hlt:i<be.length
  ·go_wp2_with fail
   go_loopg [10] (be.length-(i+1)) (fun gk2 jv wr2=>∃(j:Nat),i+1<=j/\j<=be.length/\gk2=be.length-j/\jv=.int .i64 j/\Hid (∀j',i<j'->j'<j->jQ l a (us,be.map Ex.xs) vs ms i j'=true)/\aa [] w2 wr2)
   case atStart=>exact⟨i+1,by omega,by omega,by omega,by go_num,fun j' h1 h2=>by omega,hK⟩
   case round =>
    obtain⟨j,hj1,hj,hg2,rfl,hrow,hK2⟩:=hrel;clear hK
    by_cases hlj:j<be.length
    ·have hA:=A2'.still hK2
     have hG:=G2.still hK2;have d1:=hG.cell i hlt;have d2:=hG.cell j hlj;have q1:=HLN.out i hlt;have q2:=HLN.out j hlj;have hij:(i:Int)<be.length:=by omega
     have hjj:(j:Int)<be.length:=by omega
     have AP:=fun nq=>kM tb2 us (ce l a us) hv2 hm2 i j (wr.drewN nq) (hA.still ((aa.refl [] _).drewN nq)) hml2 hul (by rw[<-HLE.out];exact hlt) (by rw[<-HLE.out];exact hlj)
     have AR:=fun nq=>sc b rb ro g n tb vs ms hv hm (K i) (K j) (fL vs (be.map Ex.xs) be.length i) (fL vs (be.map Ex.xs) be.length j) (wr.drewN nq) ((hp2.still hK2).still ((aa.refl [] _).drewN nq)) ((h2.still hK2).still ((aa.refl [] _).drewN nq)) hml hvl ((hG.still ((aa.refl [] _).drewN nq)).own i hlt) ((hG.still ((aa.refl [] _).drewN nq)).own j hlj) (by omega) (by omega) (HIN.out i) (HIN.out j)
     have HKPij:=(show Hid _ from HKP.out i j hlt hlj)
     have HYE:Hid (jQ l a (us,be.map Ex.xs) vs ms i j=true->∀j',i<j'->j'<j+1->jQ l a (us,be.map Ex.xs) vs ms i j'=true):=by
      intro hh j' h1 h2
      by_cases e:j'=j
      ·subst e;exact hh
      ·exact hrow.out j' h1 (by omega)
     have HNO:Hid (jQ l a (us,be.map Ex.xs) vs ms i j=false->R=false):=by
      intro hh
      cases e:R
      ·rfl
      ·have:=HT.out.1 e i hlt j hlj (by omega)
       rw[this]at hh;cases hh
     have HAP:=(show Hid _ from AP);have HAR:=(show Hid _ from AR);clear AP AR hall hrow hG hA;generalize fL vs (be.map Ex.xs) be.length i=X at *;generalize fL vs (be.map Ex.xs) be.length j=Y at *
     cases hb:bW us.length (ce l a us) i j
     ·have HM:=(show Hid _ from HYE.out (by rw[HKPij.out,hb];rfl))
      rw[hb]at HAP;clear HNO HYE
      go_upto_region 9 with fail
      go_quiet (first | (go_at_call 153;exact Calls.quiet_of_same (HAP.out _)))
      go_wp2
      go_roundg (be.length-(j+1))
      case measure=>omega
      case rel=>exact⟨j+1,by omega,by omega,rfl,by go_num,HM.out,hK2.drewN _⟩
     ·rw[hb]at HAP
      cases hc:oD vs.length ms X Y
      ·have HM:=(show Hid _ from HNO.out (by rw[HKPij.out,hb,hc];rfl))
       rw[hc]at HAR;clear HNO HYE
       go_upto_region 9 with fail
       go_quiet (first | (go_at_call 153;exact Calls.quiet_of_same (HAP.out _)) | (go_at_call 191;exact Calls.quiet_of (HAR.out _)))
       go_wp2;go_ret;exact⟨GQ HM.out.symm,K2.trans (hK2.drewN _)⟩
      ·have HM:=(show Hid _ from HYE.out (by rw[HKPij.out,hb,hc];rfl))
       rw[hc]at HAR;clear HNO HYE
       go_upto_region 9 with fail
       go_quiet (first | (go_at_call 153;exact Calls.quiet_of_same (HAP.out _)) | (go_at_call 191;exact Calls.quiet_of (HAR.out _)))
       go_wp2
       go_roundg (be.length-(j+1))
       case measure=>omega
       case rel=>exact⟨j+1,by omega,by omega,rfl,by go_num,HM.out,hK2.drewN _⟩
    ·have HN:Hid (∀i',i'<i+1->∀j',j'<be.length->i'<j'->jQ l a (us,be.map Ex.xs) vs ms i' j'=true):=by
      intro i' h1 j' h2 h3
      by_cases e:i'=i
      ·subst e;exact hrow.out j' h3 (by omega)
      ·exact hall.out i' (by omega) j' h2 h3
     clear hrow hall;go_wp2
     go_roundg (be.length-(i+1))
     case measure=>omega
     case rel=>exact⟨i+1,by omega,rfl,by go_num,HN,hK2⟩
  ·have HM:Hid (R=true):=HT.out.2 (fun i' h1 j' h2 h3=>hall.out i' (by omega) j' h2 h3)
   clear hall;go_wp2;go_ret;exact⟨GQ HM.out.symm,K2.trans hK⟩
def f7(l:List St)(a n:Nat):Option ByteArray:=match l[n]? with
 | some s=>if(s.kind==2)=true/\b7 l n a=true then some (al s) else none
 | none=>none
def jU(l:List St)(a k:Nat):List ByteArray:=(List.range k).filterMap (f7 l a)
def jM(l:List St)(a:Nat):List ByteArray:=jU l a l.length
theorem Bn(l:List St)(a k:Nat)(h:k<l.length)(h1:(l[k].kind==2)=true)(h2:b7 l k a=true):jU l a (k+1)=jU l a k++[al l[k]]:=by
 unfold jU;rw[List.range_succ,List.filterMap_append];simp[f7,h,h1,h2]
theorem DF(l:List St)(a k:Nat)(h:k<l.length)(h1:(l[k].kind==2)=false∨b7 l k a=false):jU l a (k+1)=jU l a k:=by
 unfold jU;rw[List.range_succ,List.filterMap_append]
 have:f7 l a k=none:=by
  unfold f7;rw[List.getElem?_eq_getElem h];simp only;rw[if_neg];rintro ⟨q1,q2⟩
  rcases h1 with h1 | h1
  ·rw[h1]at q1;cases q1
  ·rw[h1]at q2;cases q2
 simp[this]
theorem tG(l:List St)(a k:Nat):(jU l a k).length<=k:=by
 have:=List.length_filterMap_le (f7 l a) (List.range k);unfold jU;simpa using this
set_option maxRecDepth 100000 in
theorem lm(b o a:Nat)(l:List St)(H:Nat->Hd)(w:World)(h:bZ w b o l H)(ok:db l) :
  Calls Tryz.prog 127 #[.pointer (some ⟨b,o,none⟩),.int .i64 a] w fun e w'=>∃hd:Hd,e=.returned (.slice hd.ao (jM l a).length hd.cap)/\au w' hd (am (jM l a))/\(∀x,hd.blk=some x->w.heap.size<=x)/\aa [] w w':=by
 obtain⟨i0,hi,hz0,hz1,hz2⟩:=info_parts dp;have hlen:=ok.len;go_enter Tryz.func127,Tryz.ntmps127;go_wp2
 go_loopg [5,6] l.length (fun gk sv i wr=>∃(k:Nat) (hd:Hd),k<=l.length/\gk=l.length-k/\i=.int .i64 k/\sv=.slice hd.ao (jU l a k).length hd.cap/\au wr hd (am (jU l a k))/\(∀x,hd.blk=some x->w.heap.size<=x)/\aa [] w wr)
 case atStart=>exact⟨0,⟨none,0⟩,by omega,by omega,rfl,rfl,World.ownsRow_nil _ _ _ _,by intro x hx;simp[Hd.blk]at hx,aa.refl _ _⟩
 case round =>
  obtain⟨k,hd,hk,hg,rfl,rfl,hO,hN,hK⟩:=hrel;have hr:=h.still hK;have hal:=tG l a k
  by_cases hlt:k<l.length
  ·have hsl:=ok.syms k hlt
   have HY:=(show Hid _ from Bn l a k hlt);have HN0:=(show Hid _ from DF l a k hlt);have VA:=im l[k] (H (10+2*k)) (H (11+2*k));unfold cQ at VA;have HVA:=(show Hid _ from VA);clear VA
   go_upto_region 6 with (first | (go_at_call 77;refine(cL b o l H _ (by exact hr)).mono ?_;rintro e wc ⟨rfl,hwc⟩;rw[hwc]) | (go_at_call 87;refine(aI b o k l H _ (by exact hr) hlt).mono ?_;rintro e w3 ⟨rfl,hk3⟩;unfold cQ))
   obtain⟨W4,hW4⟩:∃W4,W4=w3.alloc (.cells #[.int .i64 l[k].kind,.string l[k].label,.slice (H (10+2*k)).ao l[k].symbols.length (H (10+2*k)).cap,.slice (H (11+2*k)).ao l[k].proof.length (H (11+2*k)).cap,.string l[k].fin.file,.int .i64 l[k].fin.line,.int .i64 l[k].fin.col,.int .i64 l[k].til] 144):=⟨_,rfl⟩
   have hk4:aa [] wr W4:=by rw[hW4];exact hk3.alloc _
   have B4:W4.heap[w3.heap.size]?=some (.cells #[.int .i64 l[k].kind,.string l[k].label,.slice (H (10+2*k)).ao l[k].symbols.length (H (10+2*k)).cap,.slice (H (11+2*k)).ao l[k].proof.length (H (11+2*k)).cap,.string l[k].fin.file,.int .i64 l[k].fin.line,.int .i64 l[k].fin.col,.int .i64 l[k].til] 144 (0,0)):=by rw[hW4];exact heap_alloc_new _ _
   rw[<-hW4];clear hW4;have u0:W4.cell? ⟨w3.heap.size,0,none⟩=some (.int .i64 l[k].kind):=by rw[ab B4];rfl
   have u1:W4.cell? ⟨w3.heap.size,1,none⟩=some (.string l[k].label):=by rw[ab B4];rfl
   have u2:W4.cell? ⟨w3.heap.size,2,none⟩=some (.slice (H (10+2*k)).ao l[k].symbols.length (H (10+2*k)).cap):=by rw[ab B4];rfl
   have u3:W4.cell? ⟨w3.heap.size,3,none⟩=some (.slice (H (11+2*k)).ao l[k].proof.length (H (11+2*k)).cap):=by rw[ab B4];rfl
   have u4:W4.cell? ⟨w3.heap.size,4,none⟩=some (.string l[k].fin.file):=by rw[ab B4];rfl
   have u5:W4.cell? ⟨w3.heap.size,5,none⟩=some (.int .i64 l[k].fin.line):=by rw[ab B4];rfl
   have u6:W4.cell? ⟨w3.heap.size,6,none⟩=some (.int .i64 l[k].fin.col):=by rw[ab B4];rfl
   have u7:W4.cell? ⟨w3.heap.size,7,none⟩=some (.int .i64 l[k].til):=by rw[ab B4];rfl
   have hr4:=hr.still hk4;have hO4:au W4 hd (am (jU l a k)):=hO.moved (fun x hx=>hk4.block x (hO.lt hx) (by simp));have hV4:=(hr4.sts.syms k l[k] (List.getElem?_eq_getElem hlt)).view;have hK4:=hK.trans hk4
   cases h2:(l[k].kind==2)
   ·have HT:=(show Hid _ from HN0.out (Or.inl h2))
    clear HY HN0;go_wp2
    go_roundg (l.length-(k+1))
    case measure=>omega
    case rel=>exact⟨k+1,hd,by omega,rfl,by go_num,by rw[HT.out],by rw[HT.out];exact hO4,hN,hK4⟩
   ·cases hh:b7 l k a
    ·have HT:=(show Hid _ from HN0.out (Or.inr hh))
     clear HY HN0;go_wp2_with (go_at_call 125;refine(dV b o k a l H _ (by exact hr4) hlt).mono ?_;rintro e wd ⟨rfl,hwd⟩;rw[hwd,hh])
     go_roundg (l.length-(k+1))
     case measure=>omega
     case rel=>exact⟨k+1,hd,by omega,rfl,by go_num,by rw[HT.out],by rw[HT.out];exact hO4,hN,hK4⟩
    ·have HT:=(show Hid _ from HY.out h2 hh)
     clear HY HN0;go_wp2_with (first | (go_at_call 125;refine(dV b o k a l H _ (by exact hr4) hlt).mono ?_;rintro e wd ⟨rfl,hwd⟩;rw[hwd,hh]) | (go_at_call 149;refine(HVA.out _ (by exact hV4) (by omega)).mono ?_;rintro e w5 ⟨rfl,k5⟩;have hO5:=hO4.moved (fun x hx=>(k5.alloc (.cells #[.string (al l[k])] 9)).block x (hO4.lt hx) (by simp))) | (at_builtin;refine ay _ rfl (.tmp 26) (.tmp 29) 22 rfl i0 (.string ⟨#[]⟩) 16 hd (am (jU l a k)) Tryz.underlying22 hi hz0 hz1 hz2 rfl Nat.one_pos rfl (by exact hO5) ⟨_,0,none⟩ 1 1 [.string (al l[k])] rfl rfl ?d1 ?d2 Nat.one_pos ?d3 ?d4 ?_))
     case d1=>intro j u hj;match j,hj with | 0,hj=>simp at hj;subst hj;simp[Addr.add]
     case d2=>intro u hu;simp at hu;subst hu;rfl
     case d3=>simp only[am];unfold maxLen;omega
     case d4=>simp only[am];omega
     intro g6 cap6 w6 hw6 hgr6 hfresh6;rw[bE (jU l a k) (al l[k]),<-HT.out]at hw6;have hK5:=(hK4.trans k5).alloc (.cells #[.string (al l[k])] 9);have hK6:=hK5.grown hgr6 hN
     have hg6:w.heap.size<=g6:=by
      rcases hfresh6 with e | e
      ·exact hN g6 e
      ·have:=hK5.size;simp at e this;omega
     have hEl:Hid ((am (jU l a k)).n+1=(jU l a (k+1)).length):=by show _=_;rw[HT.out];simp[am]
     rw[hEl.out];clear hgr6 hfresh6 hO5;go_wp2
     go_roundg (l.length-(k+1))
     case measure=>omega
     case rel=>exact⟨k+1,⟨some ⟨g6,0,none⟩,cap6⟩,by omega,rfl,by go_num,rfl,hw6,by intro x hx;simp[Hd.blk]at hx;omega,hK6⟩
  ·have e:k=l.length:=by omega
   subst e;go_wp2_with (go_at_call 77;refine(cL b o l H _ (by exact hr)).mono ?_;rintro e wc ⟨rfl,hwc⟩;rw[hwc]);go_ret;exact⟨hd,rfl,hO,hN,hK⟩
def dD:St:=⟨0,⟨#[]⟩,[],[],⟨⟨#[]⟩,0,0⟩,0⟩
abbrev Bg:=List ByteArray×List (List ByteArray)
def cS(l:List St):List Nat->List (List ByteArray)->Bg->Int×Bg
 | h :: hs,e :: es,S=>if((fw (l.getD h dD) e S).1==0)=true then cS l hs es (fw (l.getD h dD) e S).2 else fw (l.getD h dD) e S
 | _,_,S=>(0,S)
def j7(l:List St)(n:Nat)(vs:List ByteArray)(ms:List Bool)(sy:List ByteArray)(R:Int×Bg):Int×List ByteArray :=
 if(R.1==0)=true then(if lw l n R.2 vs ms=true then(0,gA R.2.1 R.2.2 sy) else(9,[])) else(R.1,[])
def dx(l:List St)(n:Nat)(vs:List ByteArray)(ms:List Bool)(th:List (List ByteArray)):Int×List ByteArray :=
 if th.length<(aq l n).length then(6,[])
 else j7 l n vs ms (l.getD n dD).symbols (cS l (aq l n) (th.drop (th.length-(aq l n).length)) ([],[]))
theorem sr(l:List St)(k:Nat)(h:k<l.length):l.getD k dD=l[k]:=by rw[List.getD_eq_getElem?_getD,List.getElem?_eq_getElem h];rfl
theorem za(l:List St)(hs:List Nat)(es:List (List ByteArray))(S:Bg)(i:Nat)(h1:i<hs.length)(h2:i<es.length)(hl:hs[i]<l.length) :
  cS l (hs.drop i) (es.drop i) S=if((fw l[hs[i]] es[i] S).1==0)=true then cS l (hs.drop (i+1)) (es.drop (i+1)) (fw l[hs[i]] es[i] S).2 else fw l[hs[i]] es[i] S:=by
 rw[List.drop_eq_getElem_cons h1,List.drop_eq_getElem_cons h2,cS,sr l _ hl]
theorem vS(l:List St)(hs:List Nat)(es:List (List ByteArray))(S:Bg)(i:Nat)(h1:¬i<hs.length):cS l (hs.drop i) es S=(0,S):=by
 rw[List.drop_of_length_le (by omega)];cases es <;> rfl
structure Bh(S:Bg)(N:Nat):Prop where
 one:S.1.length<=N
 two:∀y∈S.2,y.length<=10000
theorem DU(s:St)(e:List ByteArray)(S:Bg)(N:Nat)(h:Bh S N)(he:e.length<=10000):Bh (fw s e S).2 (N+1):=by
 have h1:=h.one;unfold fw
 split
 ·split <;> exact⟨by simp only;omega,h.two⟩
 ·split
  ·exact⟨by simp only;omega,h.two⟩
  ·next x r =>
   split
   ·refine⟨by simp;omega,fun y hy=>?_⟩
    simp at hy
    rcases hy with hy | rfl
    ·exact h.two y hy
    ·simp at he;omega
   ·exact⟨by simp only;omega,h.two⟩
theorem zj(l:List St)(a k:Nat):∀x∈cd l a k,x<k:=by
 induction k with
 | zero=>intro x hx;simp[cd]at hx
 | succ k ih =>
  intro x hx
  cases h:gn l (cc l a) a k
  ·rw[m9 l a k h]at hx
   have:=ih x hx;omega
  ·rw[oZ l a k h]at hx
   simp at hx
   rcases hx with hx | rfl
   ·have:=ih x hx;omega
   ·omega
theorem oY{l:List St}{a x:Nat}(h:x∈aq l a):x<l.length:=zj l a l.length x h
theorem au.cutE{w:World}{h:Hd}{l:List Ex}(o:au w h (cE l))(c:Nat)(hc:c<=l.length):au w h (cE (l.take c)):=by
 have hlen:(l.take c).length=c:=by simp;omega
 refine⟨by simp[cE,sj],?_⟩
 rcases o.2 with ⟨hv,hn⟩ | ⟨g,cap,cur,hv,hb,hh,h1,h2,h3,h4⟩
 ·left
  have:l.length=0:=hn;have hl:l=[]:=List.eq_nil_of_length_eq_zero this;subst hl;simp[cE]at hv ⊢;exact hv
 ·right
  have h1':l.length<=cap:=h1;refine⟨g,cap,cur,?_,hb,hh,?_,h2,h3,?_⟩
  ·injection hv with a1 a2 a3
   simp only[cE];rw[a1,a3]
  ·show(l.take c).length<=cap
   omega
  ·show cur.toList.take ((l.take c).length*1)=sj (l.take c)
   have h4':cur.toList.take (l.length*1)=sj l:=h4;rw[hlen];unfold sj at h4' ⊢;rw[List.map_take,<-h4',List.take_take]
   congr 1
   omega
def mL(sh th:List Ex):Nat->eI
 | 0=>cE sh
 | 1=>cE th
 | _+2=>cE []
def jF(rb ro g n tb:Nat)(sh th:List Ex)(H:Nat->Hd):List Value :=
 [.pointer (some ⟨rb,ro,none⟩),.slice (some ⟨g,0,none⟩) n n,.pointer (some ⟨tb,0,none⟩),.slice (H 0).ao sh.length (H 0).cap,.slice (H 1).ao th.length (H 1).cap]
structure nI(w:World)(b rb ro g n tb:Nat)(sh th:List Ex)(H:Nat->Hd):Prop where
 bag:af w b 213 (jF rb ro g n tb sh th H) (mL sh th) H
 shs:∀e∈sh,lD w b H e.hd e.xs/\e.xs.length<=32
 ths:∀e∈th,lD w b H e.hd e.xs/\e.xs.length<=32
theorem nI.still{w w':World}{b rb ro g n tb:Nat}{sh th:List Ex}{H:Nat->Hd}(h:nI w b rb ro g n tb sh th H)(k:aa [] w w'):nI w' b rb ro g n tb sh th H :=
 ⟨h.bag.still k,fun e he=>⟨(h.shs e he).1.still k,(h.shs e he).2⟩,fun e he=>⟨(h.ths e he).1.still k,(h.ths e he).2⟩⟩
theorem nI.ctx{w:World}{b rb ro g n tb:Nat}{sh th:List Ex}{H:Nat->Hd}(h:nI w b rb ro g n tb sh th H):qB w b rb ro g n tb:=⟨_,_,h.bag.blk,rfl,rfl,rfl⟩
theorem nI.cells{w:World}{b rb ro g n tb:Nat}{sh th:List Ex}{H:Nat->Hd}(h:nI w b rb ro g n tb sh th H) :
  w.cell? ⟨b,3,none⟩=some (.slice (H 0).ao sh.length (H 0).cap)/\w.cell? ⟨b,4,none⟩=some (.slice (H 1).ao th.length (H 1).cap):=⟨h.bag.cell 3,h.bag.cell 4⟩
structure vz(w:World)(rb ro g tb:Nat)(l:List St)(HR K:Nat->Hd)(vs:List ByteArray)(ms:List Bool)(hv hm:Hd):Prop where
 recd:bZ w rb ro l HR
 ok:db l
 all:ed w g l l.length K
 ap:gF w tb vs ms hv hm
 hml:ms.length=vs.length*vs.length
 hvl:vs.length<=10000
theorem vz.still{w w':World}{rb ro g tb:Nat}{l:List St}{HR K:Nat->Hd}{vs:List ByteArray}{ms:List Bool}{hv hm:Hd}(h:vz w rb ro g tb l HR K vs ms hv hm)(k:aa [] w w'):vz w' rb ro g tb l HR K vs ms hv hm :=
 ⟨h.recd.still k,h.ok,h.all.still k,h.ap.still k,h.hml,h.hvl⟩
structure ir(w0 w:World)(b rb ro g n tb:Nat)(sh th:List Ex)(H:Nat->Hd):Prop where
 ply:nI w b rb ro g n tb sh th H
 kept:aa [] w0 w
 hb:w0.heap.size<=b
 hin:∀x,cK H x->w0.heap.size<=x
theorem ir.still{w0 w w':World}{b rb ro g n tb:Nat}{sh th:List Ex}{H:Nat->Hd}(h:ir w0 w b rb ro g n tb sh th H)(k:aa [] w w'):ir w0 w' b rb ro g n tb sh th H :=
 ⟨h.ply.still k,h.kept.trans k,h.hb,h.hin⟩
end Go.Proofs.YtlbhbocbakijbaaGreat
