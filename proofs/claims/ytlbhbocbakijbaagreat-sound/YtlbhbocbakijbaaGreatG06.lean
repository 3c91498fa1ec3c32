import Derived.Test.YtlbhbocbakijbaaGreatG05
namespace Go.Proofs.YtlbhbocbakijbaaGreat
open Go.RowKit
set_option maxHeartbeats 0
theorem jE(l:List (Nat×Nat)):(kr l).length=l.length*2:=by
 induction l with
 | nil=>rfl
 | cons a r ih=>simp only[kr,List.flatMap_cons,List.length_append,List.length_cons,List.length_nil]at *;omega
theorem pJ(l:List (Nat×Nat))(x:Nat×Nat):(kr (l++[x]))[l.length*2]?=some (.int .i64 x.1)/\(kr (l++[x]))[l.length*2+1]?=some (.int .i64 x.2):=by
 rw[lP];have:=jE l
 constructor
 ·rw[List.getElem?_append_right (by omega),this];simp
 ·rw[List.getElem?_append_right (by omega),this];simp
theorem au.pop{w:World}{h:Hd}{l:List (Nat×Nat)}{x:Nat×Nat}(o:au w h (jp (l++[x]))):au w h (jp l):=by
 rcases o.ways with ⟨e0,h0,_⟩ | ⟨g,cur,e1,e2,e3,e4,e5,e6⟩
 ·have h0':(l++[x]).length=0:=h0
  simp at h0'
 ·obtain⟨ao,cap⟩:=h
  simp only at e1 e3 e4 e5;subst e1;have e3':(l++[x]).length<=cap:=e3;simp at e3';refine⟨by simp only[jp];exact jE l,Or.inr ⟨g,cap,cur,rfl,Nat.zero_le _,e2,?_,e4,e5,?_⟩⟩
  ·simp only[jp];omega
  ·have e6':cur.toList.take ((l++[x]).length*2)=kr (l++[x]):=e6
   simp only[jp];have e7:kr l=(kr (l++[x])).take (l.length*2):=by rw[lP,List.take_left' (jE l)]
   rw[e7,<-e6',List.take_take]
   congr 1
   simp
def b6(d:Db)(bl:List (Nat×Nat))(x:Nat×Nat):Db:={ d with blocks:=bl,active:=d.active.take x.1,typed:=d.typed.take x.2 }
theorem Df(l:List ByteArray)(c:Nat):(l.take c).length=if c<=l.length then c else l.length:=by
 rw[List.length_take];split <;> omega
theorem au.taken{w:World}{h:Hd}{l:List ByteArray}(o:au w h (am l))(c:Nat):au w h (am (l.take c)):=by
 by_cases hc:c<=l.length
 ·exact o.cut c hc
 ·rw[List.take_of_length_le (by omega)];exact o
theorem oU(hd:Hd)(l:List ByteArray)(c m:Nat)(w:World)(hm:Hid ((l.take c).length=m))(ho:au w hd (am l))(hc:c<=1073741824) :
  Calls Tryz.prog 175 #[.slice hd.ao l.length hd.cap,.int .i64 c] w fun e w'=>e=.returned (.slice hd.ao m hd.cap)/\w'=w:=by
 have e:m=if c<=l.length then c else l.length:=by rw[<-hm.out,Df]
 rw[e];exact y8 hd l c w ho hc
theorem kQ(i cell:Nat){w:World}{b t o:Nat}{pre post:List Value}{d d':Db}{H:Nat->Hd}(h:aE w b t pre post d H)(ho:pre.length=o)(hi:i<10)(ow:au w (H i) (aF d' H i))
  (hrow:∀j,j≠i->aF d' H j=aF d H j) (u:Value) (hc:cell<13) (hl:(bu d H).set cell u=bu d' (cG H i (H i))) :
  aE (w.setCell ⟨b,o+cell,none⟩ u) b t pre post d' H/\ag b w H (w.setCell ⟨b,o+cell,none⟩ u) H:=by
 have hu:=Dj H i;have:=h.put (d':=d') o cell ho i hi (H i) ow (World.grownBy.refl _ _) (Or.inr (Or.inl rfl)) hrow u hc hl;rw[hu]at this;exact this
set_option maxRecDepth 100000 in
theorem sg(b t o:Nat)(pre post:List Value)(d:Db)(H:Nat->Hd)(bl:List (Nat×Nat))(x:Nat×Nat)(w:World)(h:aE w b t pre post d H)(ho:pre.length=o)(hbl:d.blocks=bl++[x])
  (hs:dF d 1073741824) (hx:x.1<=1073741824/\x.2<=1073741824) :
  Calls Tryz.prog 158 #[.pointer (some ⟨b,o,none⟩)] w fun e w'=>e=.returned (.tuple #[])/\aE w' b t pre post (b6 d bl x) H/\ag b w H w' H:=by
 obtain⟨q0,q1,q2,q3,q4,q5,q6,q7,q8,q9,q10,q11,q12⟩:=h.cells o ho;obtain⟨x1,x2⟩:=x;simp only at hx;have hfr:=h.free;have hbw:=h.lt;have hw5:=h.own 5;have hw5':au w (H 5) (jp (bl++[(x1,x2)])):=by have:=hw5;simp only[aF,hbl]at this;exact this
 have hlen:=hs.blocks;rw[hbl]at hlen q5;simp only[List.length_append,List.length_cons,List.length_nil]at hlen q5
 rcases hw5'.ways with ⟨e0,h0,_⟩ | ⟨g,cur,e1,e2,e3,e4,e5,e6⟩
 ·have h0':(bl++[(x1,x2)]).length=0:=h0
  simp at h0'
 ·have p1:=hw5'.cell e1 (bl.length*2) _ (pJ bl (x1,x2)).1
  have p2:=hw5'.cell e1 (bl.length*2+1) _ (pJ bl (x1,x2)).2;have hcap:bl.length+1<=(H 5).cap:=by have:(bl++[(x1,x2)]).length<=(H 5).cap:=e3;simpa using this
  have hcap2:(H 5).cap<=9223372036854775807:=by unfold maxLen at e4;exact e4
  have hg:=ac e2;have P1:=kQ 5 5 (d':={ d with blocks:=bl }) h ho (by omega) hw5'.pop (nU d H bl) (.slice (some ⟨g,0,none⟩) bl.length (H 5).cap) (by omega) (by simp[bu,cG,e1]);obtain⟨w2,hw2⟩:∃w2,w2=(w.setCell ⟨b,o+5,none⟩ (.slice (some ⟨g,0,none⟩) bl.length (H 5).cap)).alloc (.cells #[.int .i64 x1,.int .i64 x2] 241):=⟨_,rfl⟩
  have D2:aE w2 b t pre post { d with blocks:=bl } H:=by rw[hw2];exact P1.1.still ((aa.refl [] _).alloc _)
  have T2:ag b w H w2 H:=by rw[hw2];exact P1.2.still ((aa.refl [] _).alloc _)
  have B2:w2.heap[w.heap.size]?=some (.cells #[.int .i64 x1,.int .i64 x2] 241 (0,0)):=by
   rw[hw2];have:=heap_alloc_new (w.setCell ⟨b,o+5,none⟩ (.slice (some ⟨g,0,none⟩) bl.length (H 5).cap)) (.cells #[.int .i64 x1,.int .i64 x2] 241);simpa [World.setCell] using this
  have HW:Hid ((w.setCell ⟨b,o+5,none⟩ (.slice (some ⟨g,0,none⟩) bl.length (H 5).cap)).alloc (.cells #[.int .i64 x1,.int .i64 x2] 241)=w2):=hw2.symm;have HL2:=hs.active;have HL3:=hs.typed;rw[e1]at q5;simp only at p1 p2;clear hw5 hw5' e3 e4 e5 e6 e2 h P1 hw2;go_enter Tryz.func158,Tryz.ntmps158
  go_upto_region 4 with fail
  rw[HW.out];have c0:w2.cell? ⟨w.heap.size,0,none⟩=some (.int .i64 x1):=by rw[ab B2];rfl
  have c1:w2.cell? ⟨w.heap.size,1,none⟩=some (.int .i64 x2):=by rw[ab B2];rfl
  have hne:w.heap.size≠b:=by omega
  have hB2:=ac B2;clear HW q0 q1 q2 q3 q4 q5 q6 q7 q8 q9 q10 q11 q12 p1 p2 hfr hg;obtain⟨q0,q1,q2,q3,q4,q5,q6,q7,q8,q9,q10,q11,q12⟩:=D2.cells o ho;have hfr:=D2.free;obtain⟨m1,hm1⟩:∃m,Hid ((d.active.take x1).length=m):=⟨_,rfl⟩
  obtain⟨m2,hm2⟩:∃m,Hid ((d.typed.take x2).length=m):=⟨_,rfl⟩
  have P3:=kQ 3 3 (d':={ d with blocks:=bl,active:=d.active.take x1 }) D2 ho (by omega) ((D2.own 3).taken x1) (nT { d with blocks:=bl } H (d.active.take x1)) (.slice (H 3).ao m1 (H 3).cap) (by omega) (by simp only[bu,bN,<-hm1.out];rfl);obtain⟨w3,hw3⟩:∃w3,w3=(w2.setCell ⟨b,o+3,none⟩ (.slice (H 3).ao m1 (H 3).cap)).drew:=⟨_,rfl⟩
  have D3:Hid (aE w3 b t pre post { d with blocks:=bl,active:=d.active.take x1 } H):=by rw[hw3];exact P3.1.still (aa.refl [] _).drew
  have T3:Hid (ag b w H w3 H):=by rw[hw3];exact T2.trans (P3.2.still (aa.refl [] _).drew)
  have B3:Hid (w3.heap[w.heap.size]?=some (.cells #[.int .i64 x1,.int .i64 x2] 241 (0,0))):=by
   show w3.heap[w.heap.size]?=_
   rw[hw3];exact(Below.heap_setCell w2 ⟨b,o+3,none⟩ (.slice (H 3).ao m1 (H 3).cap) w.heap.size hne).trans B2
  have HW3:Hid ((w2.setCell ⟨b,o+3,none⟩ (.slice (H 3).ao m1 (H 3).cap)).drew=w3):=hw3.symm;clear hw3 P3
  go_region_with (go_at_call 175;refine(oU (H 3) d.active x1 m1 _ hm1 (by exact D2.own 3) hx.1).mono ?_;rintro e w3 ⟨rfl,rfl⟩)
  all_goals go_upto_region 5 with fail
  all_goals rw[HW3.out]
  all_goals
   clear HW3 q0 q1 q2 q3 q4 q5 q6 q7 q8 q9 q10 q11 q12 hfr D2 T2 B2 c0 c1 hB2;have c0:w3.cell? ⟨w.heap.size,0,none⟩=some (.int .i64 x1):=by rw[ab B3.out];rfl
   have c1:w3.cell? ⟨w.heap.size,1,none⟩=some (.int .i64 x2):=by rw[ab B3.out];rfl
   obtain⟨q0,q1,q2,q3,q4,q5,q6,q7,q8,q9,q10,q11,q12⟩:=D3.out.cells o ho;have hfr:=D3.out.free;have P4:=kQ 4 4 (d':=b6 d bl (x1,x2)) D3.out ho (by omega) ((D3.out.own 4).taken x2) (p7 { d with blocks:=bl,active:=d.active.take x1 } H (d.typed.take x2)) (.slice (H 4).ao m2 (H 4).cap) (by omega) (by simp only[bu,b6,bN,<-hm2.out];rfl);have HP4:=(show Hid _ from P4);clear P4
   go_region_with (go_at_call 175;refine(oU (H 4) d.typed x2 m2 _ hm2 (by exact D3.out.own 4) hx.2).mono ?_;rintro e w3 ⟨rfl,rfl⟩)
   all_goals go_wp2
   all_goals go_end0
   all_goals exact⟨rfl,HP4.out.1.still (aa.refl [] _).drew,T3.out.trans (HP4.out.2.still (aa.refl [] _).drew)⟩
theorem tY{α:Type}(f:α->List Value)(n:Nat)(hf:∀a,(f a).length=n)(l:List α):(l.flatMap f).length=l.length*n:=by
 induction l with
 | nil=>simp
 | cons a l ih=>simp only[List.flatMap_cons,List.length_append,hf,ih,List.length_cons];rw[Nat.add_mul];omega
theorem tX{α:Type}(f:α->List Value)(n:Nat)(hf:∀a,(f a).length=n)(l:List α)(i j:Nat)(hi:i<l.length)(hj:j<n):(l.flatMap f)[i*n+j]?=(f l[i])[j]?:=by
 induction l generalizing i with
 | nil=>simp at hi
 | cons a l ih =>
  rw[List.flatMap_cons]
  cases i with
  | zero=>rw[List.getElem?_append_left (by rw[hf];omega)];simp
  | succ i =>
   have e:(i+1)*n+j=n+(i*n+j):=by rw[Nat.add_mul];omega
   rw[List.getElem?_append_right (by rw[hf,e];omega),hf,e,show n+(i*n+j)-n=i*n+j by omega];exact ih i (by simpa using hi)
theorem BK{α:Type}(f:α->List Value)(n:Nat)(hf:∀a,(f a).length=n)(l:List α)(i j:Nat)(hi:i<l.length)(hj:j<n)(a':α)(v:Value)(ha:f a'=(f l[i]).set j v) :
  (l.flatMap f).set (i*n+j) v=(l.set i a').flatMap f:=by
 induction l generalizing i with
 | nil=>simp at hi
 | cons a l ih =>
  cases i with
  | zero =>
   rw[List.set_cons_zero,List.flatMap_cons,List.flatMap_cons,List.set_append_left _ _ (by rw[hf];omega),ha];simp
  | succ i =>
   have e:(i+1)*n+j=n+(i*n+j):=by rw[Nat.add_mul];omega
   rw[List.set_cons_succ,List.flatMap_cons,List.flatMap_cons,List.set_append_right _ _ (by rw[hf,e];omega),hf,e,show n+(i*n+j)-n=i*n+j by omega];rw[ih i (by simpa using hi) (by simpa using ha)]
theorem C9(l:List St)(H:Nat->Hd):(il l H).length=l.length*8:=by
 unfold il;rw[tY _ 8 (fun _=>rfl)];simp
theorem xD(l:List (ByteArray×Pl)):(jc l).length=l.length*4:=tY _ 4 (fun _=>rfl) l
theorem yD(l:List St)(H:Nat->Hd)(i:Nat)(hi:i<l.length)(j:Nat)(hj:j<8):(il l H)[i*8+j]?=(Aq l[i] (H (10+2*i)) (H (11+2*i)))[j]?:=by
 unfold il;rw[tX _ 8 (fun _=>rfl) _ i j (by simpa using hi) hj];simp
theorem AY(l:List (ByteArray×Pl))(i:Nat)(hi:i<l.length)(j:Nat)(hj:j<4):(jc l)[i*4+j]?=(lC l[i])[j]?:=tX _ 4 (fun _=>rfl) l i j hi hj
theorem Aw(l:List St)(s:St)(H:Nat->Hd):il (l++[s]) H=il l H++Aq s (H (10+2*l.length)) (H (11+2*l.length)):=by
 unfold il;rw[List.zipIdx_append];simp
theorem xF(l:List St)(i:Nat)(s:St):(l.set i s).zipIdx=l.zipIdx.set i (s,i):=by
 apply List.ext_getElem?
 intro j;simp only[List.getElem?_zipIdx,List.getElem?_set,List.length_zipIdx]
 by_cases e:i=j
 ·subst e
  by_cases hi:i<l.length <;> simp[hi]
 ·simp[e]
theorem Da(l:List St)(H:Nat->Hd)(i:Nat)(hi:i<l.length)(N:Nat):(il l H).set (i*8+7) (.int .i64 N)=il (l.set i { l[i] with til:=N }) H:=by
 unfold il;rw[xF];exact BK _ 8 (fun _=>rfl) _ i 7 (by simpa using hi) (by omega) _ _ (by simp[Aq])
theorem vg(l:List ByteArray):(strs l).length=l.length*1:=by simp[strs]
theorem rB(l:List Nat)(x:Nat):iO (l++[x])=iO l++[.int .i64 x]:=by simp[iO]
theorem gL(l:List Nat)(x:Nat):(⟨(aP l).e,(aP l).size,(aP l).n+1,(aP l).xs++[.int .i64 x]⟩:eI)=aP (l++[x]):=by simp[aP,rB]
theorem fU:(Tryz.prog.info? 3).map (fun i=>(i.zero,i.size,i.bytes))=some (some (.int .i64 0),1,8):=by kernel_rfl
def jt(k:Int):Bool:=k==4||k==5
theorem cC(k:Int)(a1 a2 a3 a4 a5 a6 a7:Value)(w:World) :
  Calls Tryz.prog 108 #[.agg #[.int .i64 k,a1,a2,a3,a4,a5,a6,a7]] w fun e w'=>e=.returned (.bool (jt k))/\aa [] w w':=by
 cases h4:(k==4)
 ·have HT:Hid (jt k=(k==5)):=by show jt k=_;simp only[jt,h4,Bool.false_or]
  go_enter Tryz.func108,Tryz.ntmps108;go_wp2;go_ret;exact⟨GQ (by rw[HT.out]),(aa.refl _ _).alloc _⟩
 ·have HT:Hid (jt k=true):=by show jt k=_;simp only[jt,h4,Bool.true_or]
  go_enter Tryz.func108,Tryz.ntmps108;go_wp2;go_ret;exact⟨GQ (by rw[HT.out]),(aa.refl _ _).alloc _⟩
set_option maxRecDepth 100000 in
theorem sX(b t o:Nat)(pre post:List Value)(d:Db)(H:Nat->Hd)(w:World)(h:aE w b t pre post d H)(ho:pre.length=o)(hs:dF d 100000000) :
  Calls Tryz.prog 157 #[.pointer (some ⟨b,o+6,none⟩)] w fun e w'=>e=.returned (.tuple #[])/\∃H',aE w' b t pre post { d with rbl:=d.rbl++[d.sts.length] } H'/\ag b w H w' H':=by
 obtain⟨i0,hi,hz0,hz1,hz2⟩:=info_parts fU;obtain⟨q0,q1,q2,q3,q4,q5,q6,q7,q8,q9,q10,q11,q12⟩:=h.cells o ho;clear q0 q1 q2 q3 q4 q5 q8 q9 q10 q11 q12;have hfr:=h.free;have hbw:=h.lt;have hl1:=hs.rbl;have hD:Hid (aE (w.alloc (.cells #[.int .i64 d.sts.length] 3)).drew b t pre post d H):=h.still ((aa.refl [] w).alloc _).drew
 have s2:Hid (∀j u,([.int .i64 d.sts.length]:List Value)[j]?=some u->(w.alloc (.cells #[.int .i64 d.sts.length] 3)).drew.cell? ((⟨w.heap.size,0,none⟩:Addr).add j)=some u):=by
  intro j u hj;have hk:(w.alloc (.cells #[.int .i64 d.sts.length] 3)).drew.heap[w.heap.size]?=some (.cells #[.int .i64 d.sts.length] 3 (0,0)):=heap_alloc_new _ _;rw[aV,ab hk];simpa using hj
 have s3:Hid (∀u∈([.int .i64 d.sts.length]:List Value),u.oneCell'=true):=by intro u hu;simp at hu;subst hu;rfl
 have s4:Hid ((aP d.rbl).n+1<=maxLen):=by show _<=_;simp only[aP];unfold maxLen;omega
 have s5:Hid (((aP d.rbl).n+1)*8<=140737488355328):=by show _<=_;simp only[aP];omega
 clear h;go_enter Tryz.func157,Tryz.ntmps157;go_wp2_with fail
 go_region_law (refine aC rfl (.tmp 6) (.tmp 12) 33 rfl i0 (.int .i64 0) 8 (H 7) (aP d.rbl) Tryz.underlying33 hi hz0 hz1 hz2 rfl Nat.one_pos (by simp[Act.eval] <;> rfl) (hD.out.own 7) ⟨w.heap.size,0,none⟩ 1 1 [.int .i64 d.sts.length] (by simp[Act.eval]) rfl s2.out s3.out Nat.one_pos s4.out s5.out ?_;intro g cap' w1 hw1 hgr hfresh;obtain⟨k5,f5,HP⟩:=hD.out.app (d':={ d with rbl:=d.rbl++[d.sts.length] }) o 7 ho 7 (by omega) g cap' ((aP d.rbl).n+1) _ hw1 (gL d.rbl _) hgr (by simpa using hfresh) (uT d H _) (by omega) _ rfl (by simp[bu,cG,aP]);clear hw1 hgr hfresh)
 all_goals go_wp2
 all_goals go_end0
 all_goals exact⟨rfl,_,HP.out.1,HP.out.2.first ((aa.refl [] w).alloc _).drew⟩
def eW(N:Nat)(s:St):St:=if s.til=0/\jt s.kind=false then { s with til:=N } else s
def cU(l:List St)(b n:Nat):List St:=l.mapIdx (fun i s=>if b<=i/\i<n then eW l.length s else s)
def cr(l:List St)(b:Nat):List St:=cU l b l.length
theorem fS(l:List St)(b n:Nat):(cU l b n).length=l.length:=by simp[cU]
theorem jh(l:List St)(b n i:Nat):(cU l b n)[i]?=l[i]?.map (fun s=>if b<=i/\i<n then eW l.length s else s):=by simp[cU]
theorem tM(l:List St)(b:Nat):cU l b b=l:=by
 apply List.ext_getElem?
 intro i;rw[jh];have:¬(b<=i/\i<b):=by omega
 simp[this]
theorem oN(l:List St)(b n:Nat)(hb:b<=n)(hn:n<l.length):cU l b (n+1)=(cU l b n).set n (eW l.length l[n]):=by
 apply List.ext_getElem?
 intro i;rw[List.getElem?_set,jh,jh,fS]
 by_cases e:n=i
 ·subst e
  have h1:b<=n/\n<n+1:=⟨hb,by omega⟩;simp[hn,h1]
 ·have:(b<=i/\i<n+1) ↔ (b<=i/\i<n):=by omega
  simp[e,this]
theorem vP(l:List St)(b n:Nat)(hb:b<=n)(hn:n<l.length)(h:eW l.length l[n]=l[n]):cU l b (n+1)=cU l b n:=by
 rw[oN l b n hb hn,h]
 apply List.ext_getElem?
 intro i;rw[List.getElem?_set,fS]
 by_cases e:n=i
 ·subst e
  rw[jh];simp[hn]
 ·simp[e]
theorem BA(l:List St)(b n:Nat)(hn:n<l.length):(cU l b n)[n]?=some l[n]:=by
 rw[jh];simp[hn]
theorem qe(l:List St)(n:Nat)(hn:n<l.length)(N:Nat)(i:Nat):bS (l.set n { l[n] with til:=N }) i=bS l i/\mK (l.set n { l[n] with til:=N }) i=mK l i:=by
 unfold bS mK;rw[List.getElem?_set]
 by_cases e:n=i
 ·subst e;simp[hn]
 ·simp[e]
theorem aE.til{w:World}{b t:Nat}{pre post:List Value}{d:Db}{H:Nat->Hd}(h:aE w b t pre post d H)(g:Nat)(hg:(H 6).ao=some ⟨g,0,none⟩)(n:Nat)(hn:n<d.sts.length)(N:Nat) :
  aE (w.setCell ⟨g,n*8+7,none⟩ (.int .i64 N)) b t pre post { d with sts:=d.sts.set n { d.sts[n] with til:=N } } H/\ag b w H (w.setCell ⟨g,n*8+7,none⟩ (.int .i64 N)) H:=by
 have hb6:(H 6).blk=some g:=by unfold Hd.blk;rw[hg];rfl
 have hgb:g≠b:=by rintro rfl;exact h.off 6 hb6
 refine⟨⟨?_,?_,h.apart,h.off⟩,(dw.refl _ _).setCell (Or.inl (Or.inr ⟨6,hb6⟩)) _,fun _ hk=>Or.inl hk⟩
 ·rw[Below.heap_setCell _ _ _ _ (fun e=>hgb e.symm),h.blk]
  simp[bu]
 ·intro i
  by_cases e:i=6
  ·subst e
   have o6:au w (H 6) (eP d.sts H):=h.own 6
   show au _ (H 6) (eP (d.sts.set n { d.sts[n] with til:=N }) H)
   rcases o6.ways with ⟨e0,h0,_⟩ | ⟨g',cur,e1,e2,e3,e4,e5,e6⟩
   ·have:d.sts.length=0:=h0
    omega
   ·have:g'=g:=by rw[hg]at e1;injection e1 with e1;injection e1 with e1;exact e1.symm
    subst this;refine⟨by simp only[eP];rw[C9],Or.inr ⟨g',(H 6).cap,cur.setIfInBounds (n*8+7) (.int .i64 N),?_,Nat.zero_le _,ae e2 _ _,?_,e4,?_,?_⟩⟩
    ·simp[eP,hg]
    ·simpa [eP] using e3
    ·simpa [eP] using e5
    ·have e6':cur.toList.take (d.sts.length*8)=il d.sts H:=e6
     simp only[eP,List.length_set,Array.toList_setIfInBounds,List.take_set,e6'];exact Da d.sts H n hn N
  ·have hr:aF { d with sts:=d.sts.set n { d.sts[n] with til:=N } } H i=aF d H i:=by
    match i,e with
    | 0,_=>rfl
    | 1,_=>rfl
    | 2,_=>rfl
    | 3,_=>rfl
    | 4,_=>rfl
    | 5,_=>rfl
    | 6,e=>exact absurd rfl e
    | 7,_=>rfl
    | 8,_=>rfl
    | 9,_=>rfl
    | m+10,_=>simp only[aF,inner,(qe d.sts n hn N (m / 2)).1,(qe d.sts n hn N (m / 2)).2]
   rw[hr];refine(h.own i).moved (fun k hk=>Below.heap_setCell _ _ _ _ ?_);rintro rfl
   rcases h.apart i 6 e with a | a
   ·rw[a]at hk;cases hk
   ·exact a (hk.trans hb6.symm)
theorem aE.stmt{w:World}{b t:Nat}{pre post:List Value}{d:Db}{H:Nat->Hd}(h:aE w b t pre post d H)(g:Nat)(hg:(H 6).ao=some ⟨g,0,none⟩)(n:Nat)(s:St)(hs:d.sts[n]?=some s) :
  w.cell? ⟨g,n*8,none⟩=some (.int .i64 s.kind)/\w.cell? ⟨g,n*8+1,none⟩=some (.string s.label)/\w.cell? ⟨g,n*8+2,none⟩=some (.slice (H (10+2*n)).ao s.symbols.length (H (10+2*n)).cap) /\
  w.cell? ⟨g,n*8+3,none⟩=some (.slice (H (11+2*n)).ao s.proof.length (H (11+2*n)).cap)/\w.cell? ⟨g,n*8+4,none⟩=some (.string s.fin.file)/\w.cell? ⟨g,n*8+5,none⟩=some (.int .i64 s.fin.line) /\
  w.cell? ⟨g,n*8+6,none⟩=some (.int .i64 s.fin.col)/\w.cell? ⟨g,n*8+7,none⟩=some (.int .i64 s.til):=by
 obtain⟨hn,rfl⟩:=List.getElem?_eq_some_iff.1 hs;have o6:au w (H 6) (eP d.sts H):=h.own 6;have c:=fun j (hj:j<8) v (hv:(Aq d.sts[n] (H (10+2*n)) (H (11+2*n)))[j]?=some v)=>o6.cell hg (n*8+j) v ((yD d.sts H n hn j hj).trans hv)
 exact⟨c 0 (by omega) _ rfl,c 1 (by omega) _ rfl,c 2 (by omega) _ rfl,c 3 (by omega) _ rfl,c 4 (by omega) _ rfl,c 5 (by omega) _ rfl,c 6 (by omega) _ rfl,c 7 (by omega) _ rfl⟩
theorem uA(l:List Nat):(iO l).length=l.length*1:=by simp[iO]
theorem au.popN{w:World}{h:Hd}{l:List Nat}{x:Nat}(o:au w h (aP (l++[x]))):au w h (aP l):=by
 rcases o.ways with ⟨e0,h0,_⟩ | ⟨g,cur,e1,e2,e3,e4,e5,e6⟩
 ·have h0':(l++[x]).length=0:=h0
  simp at h0'
 ·obtain⟨ao,cap⟩:=h
  simp only at e1 e3 e4 e5;subst e1;have e3':(l++[x]).length<=cap:=e3;simp at e3';refine⟨by simp only[aP];exact uA l,Or.inr ⟨g,cap,cur,rfl,Nat.zero_le _,e2,?_,e4,e5,?_⟩⟩
  ·simp only[aP];omega
  ·have e6':cur.toList.take ((l++[x]).length*1)=iO (l++[x]):=e6
   simp only[aP];have e7:iO l=(iO (l++[x])).take (l.length*1):=by rw[rB,List.take_left' (uA l)]
   rw[e7,<-e6',List.take_take]
   congr 1
   simp
set_option maxRecDepth 100000 in
theorem wQ(b t o:Nat)(pre post:List Value)(d:Db)(H:Nat->Hd)(bl:List Nat)(x:Nat)(w:World)(h:aE w b t pre post d H)(ho:pre.length=o)(hbl:d.rbl=bl++[x])(hs:dF d 100000000)(hx:x<=d.sts.length) :
  Calls Tryz.prog 159 #[.pointer (some ⟨b,o+6,none⟩)] w fun e w'=>e=.returned (.tuple #[])/\aE w' b t pre post { d with rbl:=bl,sts:=cr d.sts x } H/\ag b w H w' H:=by
 obtain⟨q0,q1,q2,q3,q4,q5,q6,q7,q8,q9,q10,q11,q12⟩:=h.cells o ho;clear q0 q1 q2 q3 q4 q5 q8 q9 q10 q11 q12;have hfr:=h.free;have hbw:=h.lt;have hw7:au w (H 7) (aP (bl++[x])):=by have:=h.own 7;simp only[aF,hbl]at this;exact this
 have hlen:=hs.rbl;have hlen6:=hs.sts;rw[hbl]at hlen q7;simp only[List.length_append,List.length_cons,List.length_nil]at hlen q7
 rcases hw7.ways with ⟨e0,h0,_⟩ | ⟨g,cur,e1,e2,e3,e4,e5,e6⟩
 ·have h0':(bl++[x]).length=0:=h0
  simp at h0'
 ·have p1:=hw7.cell e1 bl.length (.int .i64 x) (by simp[aP,iO])
  have hcap:bl.length+1<=(H 7).cap:=by have:(bl++[x]).length<=(H 7).cap:=e3;simpa using this
  have hcap2:(H 7).cap<=9223372036854775807:=by unfold maxLen at e4;exact e4
  have P1:=kQ 7 7 (d':={ d with rbl:=bl }) h ho (by omega) hw7.popN (uT d H bl) (.slice (some ⟨g,0,none⟩) bl.length (H 7).cap) (by omega) (by simp[bu,cG,e1]);rw[e1]at q7;have HP:=(show Hid _ from P1);clear hw7 e3 e4 e5 e6 e2 h P1;go_enter Tryz.func159,Tryz.ntmps159;go_wp2
  go_loopg [4] (d.sts.length-x) (fun g i wr=>∃k:Nat,x<=k/\k<=d.sts.length/\g=d.sts.length-k/\i=.int .i64 k/\aE wr b t pre post { d with rbl:=bl,sts:=cU d.sts x k } H/\ag b w H wr H)
  case atStart=>exact⟨x,by omega,hx,rfl,rfl,by rw[tM];exact HP.out.1,HP.out.2⟩
  case round =>
   obtain⟨k,hk1,hk2,hg,rfl,D,T⟩:=hrel;clear HP q6 q7 p1 hfr;obtain⟨q0,q1,q2,q3,q4,q5,q6,q7,q8,q9,q10,q11,q12⟩:=D.cells o ho;clear q0 q1 q2 q3 q4 q5 q7 q8 q9 q10 q11 q12;have hfr:=D.free;simp only[fS]at q6
   by_cases hlt:k<d.sts.length
   ·have hat:=BA d.sts x k hlt
    have hw6:au wr (H 6) (eP (cU d.sts x k) H):=D.own 6
    rcases hw6.ways with ⟨_,h0,_⟩ | ⟨g6,cur6,e6,e62,e63,-⟩
    ·have:(cU d.sts x k).length=0:=h0
     rw[fS]at this;omega
    ·obtain⟨c0,c1,c2,c3,c4,c5,c6,c7⟩:=D.stmt g6 e6 k _ hat
     rw[e6]at q6;have hfg:=an e62
     have HS:Hid (∀N:Nat,aE wr b t pre post { d with rbl:=bl,sts:=cU d.sts x k } H->∀w1,aa [] wr w1->aE (w1.setCell ⟨g6,k*8+7,none⟩ (.int .i64 N)) b t pre post { d with rbl:=bl,sts:=(cU d.sts x k).set k { d.sts[k] with til:=N } } H/\ag b w H (w1.setCell ⟨g6,k*8+7,none⟩ (.int .i64 N)) H):=by
      intro N D w1 hk1;have D1:=D.still hk1;have hn:k<(cU d.sts x k).length:=by rw[fS];exact hlt
      have P:=D1.til g6 e6 k hn N;have es:(cU d.sts x k)[k]=d.sts[k]:=by have:=hat;rw[List.getElem?_eq_getElem hn]at this;simpa using this
      simp only[es]at P;exact⟨P.1,(T.still hk1).trans P.2⟩
     have H1:Hid (eW d.sts.length d.sts[k]=d.sts[k]->cU d.sts x (k+1)=cU d.sts x k):=vP d.sts x k hk1 hlt;have H2:Hid (cU d.sts x (k+1)=(cU d.sts x k).set k (eW d.sts.length d.sts[k])):=oN d.sts x k hk1 hlt;have hgw:=ac e62;have hcg:=e62;have hat2:=(show Hid _ from hat);have hcap6:d.sts.length<=(H 6).cap:=by have:(cU d.sts x k).length<=(H 6).cap:=e63;rw[fS]at this;exact this
     clear hat hw6 e62 e63;generalize d.sts[k]=s at *
     cases hz:((s.til:Int)==0)
     ·have HT:Hid (cU d.sts x (k+1)=cU d.sts x k):=H1.out (by
       have:¬s.til=0:=by intro e;simp[e]at hz
       simp[eW,this])
      clear HS H1 H2 hfg;go_wp2
      go_roundg (d.sts.length-(k+1))
      case measure=>omega
      case rel=>exact⟨k+1,by omega,by omega,rfl,by go_num,by rw[HT.out];exact D,T⟩
     ·have hz':s.til=0:=by have:=eq_of_beq hz;omega
      cases ha:jt s.kind
      ·have HT:Hid (cU d.sts x (k+1)=(cU d.sts x k).set k { s with til:=d.sts.length }):=by
        show _=_;rw[H2.out];simp[eW,hz',ha]
       clear H1 H2 hz';go_wp2_with (go_at_call 108;refine(cC s.kind _ _ _ _ _ _ _ _).mono ?_;rintro e w1 ⟨rfl,hk3⟩;have hG6:=hk3.get hcg (by simp));have D1:=D.still hk3;have PS:=(show Hid _ from fun N=>HS.out N D _ hk3);obtain⟨q0,q1,q2,q3,q4,q5,q6,q7,q8,q9,q10,q11,q12⟩:=D1.cells o ho;clear q0 q1 q2 q3 q4 q5 q7 q8 q9 q10 q11 q12;simp only[fS,e6]at q6;obtain⟨c0,c1,c2,c3,c4,c5,c6,c7⟩:=D1.stmt g6 e6 k _ hat2.out;clear c0 c1 c2 c3 c4 c5 c6;have hfg:=an hG6;have hfr:=D1.free
       go_region
       all_goals go_wp2
       all_goals
        go_roundg (d.sts.length-(k+1))
        case measure=>omega
        case rel=>exact⟨k+1,by omega,by omega,rfl,by go_num,by rw[HT.out];exact(PS.out _).1.still (aa.refl [] _).drew,(PS.out _).2.still (aa.refl [] _).drew⟩
      ·have HT:Hid (cU d.sts x (k+1)=cU d.sts x k):=H1.out (by simp[eW,ha])
       clear HS H1 H2 hfg hz';go_wp2_with (go_at_call 108;refine(cC s.kind _ _ _ _ _ _ _ _).mono ?_;rintro e w1 ⟨rfl,hk3⟩)
       go_roundg (d.sts.length-(k+1))
       case measure=>omega
       case rel=>exact⟨k+1,by omega,by omega,rfl,by go_num,by rw[HT.out];exact D.still hk3,T.still hk3⟩
   ·have e:k=d.sts.length:=by omega
    subst e;go_wp2;go_end0;exact⟨rfl,D,T⟩
theorem FZ:(Tryz.prog.info? 144).map (fun i=>(i.zero,i.size,i.bytes))=some (some (.agg #[.int .i64 0,.string ⟨#[]⟩,.slice none 0 0,.slice none 0 0,.string ⟨#[]⟩,.int .i64 0,.int .i64 0,.int .i64 0]),8,112):=by kernel_rfl
theorem E4:(Tryz.prog.info? 199).map (fun i=>(i.zero,i.size,i.bytes))=some (some (.agg #[.string ⟨#[]⟩,.string ⟨#[]⟩,.int .i64 0,.int .i64 0]),4,48):=by kernel_rfl
theorem nV(l:List St)(H H':Nat->Hd)(h:∀j,j<10+2*l.length->H' j=H j):il l H'=il l H:=by
 unfold il;rw[List.flatMap_def,List.flatMap_def]
 congr 1
 apply List.map_congr_left
 intro p hp
 have:p.2<l.length:=by
  have:=List.snd_lt_add_of_mem_zipIdx hp;omega
 rw[h _ (by omega),h _ (by omega)]
theorem CO(w:World)(h:Hd)(l:List ByteArray)(o:au w h (am l)):au w h (am []):=by
 have:=o.taken 0;simpa using this
theorem CP(w:World)(h:Hd)(l:List (ByteArray×Pl))(o:au w h (dZ l)):au w h (dZ []):=by
 rcases o.ways with ⟨e0,h0,_⟩ | ⟨g,cur,e1,e2,e3,e4,e5,e6⟩
 ·subst e0
  exact⟨by simp[dZ,jc],Or.inl ⟨by simp[dZ],by simp[dZ]⟩⟩
 ·obtain⟨ao,cap⟩:=h
  simp only at e1 e3 e4 e5;subst e1;exact⟨by simp[dZ,jc],Or.inr ⟨g,cap,cur,rfl,Nat.zero_le _,e2,by simp[dZ],e4,e5,by simp[dZ,jc]⟩⟩
theorem aE.addst{w0 w w1:World}{b t o:Nat}{pre post:List Value}{d:Db}{H:Nat->Hd}(h0:aE w0 b t pre post d H)(hk0:aa [] w0 w)(ho:pre.length=o)(s:St)(hs hp:Hd)(gs gp:Nat)
  (hsb:hs.blk=some gs) (hpb:hp.blk=some gp) (hs0:w0.heap.size<=gs) (hp0:w0.heap.size<=gp) (hne:gs≠gp) (os:au w hs (am s.symbols)) (op:au w hp (dZ s.proof))
  (g cap':Nat) (hw1:au w1 ⟨some ⟨g,0,none⟩,cap'⟩ ⟨(eP d.sts H).e,(eP d.sts H).size,(eP d.sts H).n+1,(eP d.sts H).xs++Aq s hs hp⟩) (hgr:w.grownBy w1 (H 6).blk) (hfresh:(H 6).blk=some g∨w.heap.size<=g) :
  w1.cell? ⟨b,o+6,none⟩=some (.slice (H 6).ao d.sts.length (H 6).cap)/\w1.frozen? ⟨b,o+6,none⟩=false /\
  Hid (∃H',aE (w1.setCell ⟨b,o+6,none⟩ (.slice (some ⟨g,0,none⟩) ((eP d.sts H).n+1) cap')) b t pre post { d with sts:=d.sts++[s] } H' /\
   ag b w0 H (w1.setCell ⟨b,o+6,none⟩ (.slice (some ⟨g,0,none⟩) ((eP d.sts H).n+1) cap')) H'/\∀j,j<10->j≠6->H' j=H j):=by
 have h:=h0.still hk0;have hk:=(hgr.block b h.lt (fun e=>h.off 6 e.symm)).trans h.blk;refine⟨(ab hk (o+6)).trans (sJ pre (bu d H) post o 6 ho (by simp[bu])),an hk _,?_⟩;have hlt:=fun {k} (hk:cK H k)=>h0.inlt hk
 have hbl:=h0.lt;obtain⟨H1,hH1⟩:∃H1,H1=cG (cG H (10+2*d.sts.length) hs) (11+2*d.sts.length) hp:=⟨_,rfl⟩
 have e1:∀j,j≠10+2*d.sts.length->j≠11+2*d.sts.length->H1 j=H j:=fun j a c=>by rw[hH1,bd _ _ _ _ c,bd _ _ _ _ a]
 have e2:H1 (10+2*d.sts.length)=hs:=by rw[hH1,bd _ _ _ _ (by omega),bN]
 have e3:H1 (11+2*d.sts.length)=hp:=by rw[hH1,bN]
 have e4:il d.sts H1=il d.sts H:=nV _ _ _ (fun j hj=>e1 j (by omega) (by omega));clear hH1
 have el:bu d H1=bu d H:=by
  unfold bu;rw[e1 0 (by omega) (by omega),e1 1 (by omega) (by omega),e1 2 (by omega) (by omega),e1 3 (by omega) (by omega),e1 4 (by omega) (by omega),e1 5 (by omega) (by omega),e1 6 (by omega) (by omega),e1 7 (by omega) (by omega),e1 8 (by omega) (by omega),e1 9 (by omega) (by omega)]
 have er:∀j,aF d H1 j=aF d H j:=by
  intro j;unfold aF
  split <;> first | rfl | (simp only[eP,e4])
 have bk:∀j,(H1 j).blk=(H j).blk∨((H1 j).blk=some gs/\j=10+2*d.sts.length)∨((H1 j).blk=some gp/\j=11+2*d.sts.length):=by
  intro j
  by_cases a:j=10+2*d.sts.length
  ·subst a;rw[e2];exact Or.inr (Or.inl ⟨hsb,rfl⟩)
  ·by_cases c:j=11+2*d.sts.length
   ·subst c;rw[e3];exact Or.inr (Or.inr ⟨hpb,rfl⟩)
   ·rw[e1 j a c];exact Or.inl rfl
 have D1:aE w b t pre post d H1:=by
  refine⟨by rw[el];exact h.blk,?_,?_,?_⟩
  ·intro j
   rw[er j]
   by_cases a:j=10+2*d.sts.length
   ·subst a
    rw[e2]
    have:aF d H (10+2*d.sts.length)=am []:=by
     rw[show 10+2*d.sts.length=2*d.sts.length+10 by omega];simp[aF,inner,bS]
    rw[this];exact CO w hs _ os
   ·by_cases c:j=11+2*d.sts.length
    ·subst c
     rw[e3]
     have:aF d H (11+2*d.sts.length)=dZ []:=by
      rw[show 11+2*d.sts.length=(2*d.sts.length+1)+10 by omega];have q:(2*d.sts.length+1) % 2=1:=by omega
      have q2:(2*d.sts.length+1) / 2=d.sts.length:=by omega
      simp[aF,inner,mK,q,q2]
     rw[this];exact CP w hp _ op
    ·rw[e1 j a c];exact h.own j
  ·intro i j hij
   have f:∀i k,(H i).blk=some k->k<w0.heap.size:=fun i k e=>hlt ⟨i,e⟩
   rcases bk i with a | ⟨a,ai⟩ | ⟨a,ai⟩ <;> rcases bk j with c | ⟨c,cj⟩ | ⟨c,cj⟩ <;> rw[a,c]
   ·exact h.apart i j hij
   ·cases e:(H i).blk with
    | none=>exact Or.inl rfl
    | some k=>right;intro ek;cases ek;have:=f i _ e;omega
   ·cases e:(H i).blk with
    | none=>exact Or.inl rfl
    | some k=>right;intro ek;cases ek;have:=f i _ e;omega
   ·right;intro ek;have:=f j _ ek.symm;omega
   ·omega
   ·right;intro ek;cases ek;exact hne rfl
   ·right;intro ek;have:=f j _ ek.symm;omega
   ·right;intro ek;cases ek;exact hne rfl
   ·omega
  ·intro j
   rcases bk j with a | ⟨a,_⟩ | ⟨a,_⟩ <;> rw[a]
   ·exact h.off j
   ·intro e;cases e;omega
   ·intro e;cases e;omega
 have T1:ag b w0 H w H1:=by
  refine⟨hk0.toP (by simp),?_⟩;rintro k ⟨j,hj⟩
  rcases bk j with a | ⟨a,_⟩ | ⟨a,_⟩ <;> rw[a]at hj
  ·exact Or.inl ⟨j,hj⟩
  ·cases hj;exact Or.inr hs0
  ·cases hj;exact Or.inr hp0
 have h6:H1 6=H 6:=e1 6 (by omega) (by omega)
 have er6:aF { d with sts:=d.sts++[s] } H1 6=⟨(eP d.sts H).e,(eP d.sts H).size,(eP d.sts H).n+1,(eP d.sts H).xs++Aq s hs hp⟩:=by
  simp only[aF,eP,Aw,e2,e3,e4,List.length_append,List.length_cons,List.length_nil]
 have P:=D1.putG (d':={ d with sts:=d.sts++[s] }) o 6 ho 6 (by omega) ⟨some ⟨g,0,none⟩,cap'⟩ (by rw[er6];exact hw1) (by rw[h6];exact hgr)
  (by
    rcases hfresh with e | e
    ·exact Or.inr (Or.inl (by rw[h6];exact e.symm))
    ·exact Or.inr (Or.inr ⟨g,rfl,e⟩))
  (by
   intro j hj
   by_cases a:j=10+2*d.sts.length
   ·subst a
    rw[e2]
    have:aF { d with sts:=d.sts++[s] } H1 (10+2*d.sts.length)=am s.symbols:=by
     rw[show 10+2*d.sts.length=2*d.sts.length+10 by omega];simp[aF,inner,bS]
    rw[this];exact os
   ·by_cases c:j=11+2*d.sts.length
    ·subst c
     rw[e3]
     have:aF { d with sts:=d.sts++[s] } H1 (11+2*d.sts.length)=dZ s.proof:=by
      rw[show 11+2*d.sts.length=(2*d.sts.length+1)+10 by omega];have q:(2*d.sts.length+1) % 2=1:=by omega
      have q2:(2*d.sts.length+1) / 2=d.sts.length:=by omega
      simp[aF,inner,mK,q,q2]
     rw[this];exact op
    ·have:aF { d with sts:=d.sts++[s] } H1 j=aF d H1 j:=by
      match j,hj,a,c with
      | 0,_,_,_=>rfl
      | 1,_,_,_=>rfl
      | 2,_,_,_=>rfl
      | 3,_,_,_=>rfl
      | 4,_,_,_=>rfl
      | 5,_,_,_=>rfl
      | 6,hj,_,_=>exact absurd rfl hj
      | 7,_,_,_=>rfl
      | 8,_,_,_=>rfl
      | 9,_,_,_=>rfl
      | m+10,_,a,c =>
       have hm:m / 2≠d.sts.length:=by omega
       have e:(d.sts++[s])[m / 2]?=d.sts[m / 2]?:=by
        rcases Nat.lt_or_ge (m / 2) d.sts.length with hl | hl
        ·exact List.getElem?_append_left hl
        ·rw[List.getElem?_append_right hl,List.getElem?_eq_none hl,List.getElem?_eq_none (by simp;omega)]
       simp only[aF,inner,bS,mK,e]
     rw[this];exact D1.own j)
  (.slice (some ⟨g,0,none⟩) ((eP d.sts H).n+1) cap') (by omega) (by
   rw[el];have u:∀j,j<10->j≠6->cG H1 6 (⟨some ⟨g,0,none⟩,cap'⟩:Hd) j=H j:=fun j hj hn=>by rw[bd _ _ _ _ hn];exact e1 j (by omega) (by omega)
   unfold bu;rw[u 0 (by omega) (by omega),u 1 (by omega) (by omega),u 2 (by omega) (by omega),u 3 (by omega) (by omega),u 4 (by omega) (by omega),u 5 (by omega) (by omega),u 7 (by omega) (by omega),u 8 (by omega) (by omega),u 9 (by omega) (by omega),bN];simp[eP])
 exact⟨_,P.1,T1.trans P.2,fun j hj hn=>by rw[bd _ _ _ _ hn];exact e1 j (by omega) (by omega)⟩
theorem xE(l:List (ByteArray×Pl)):∀u∈jc l,u.oneCell'=true:=by
 intro u hu;simp only[jc,List.mem_flatMap]at hu;obtain⟨p,_,hu⟩:=hu;simp only[lC,List.mem_cons,List.not_mem_nil,or_false]at hu
 rcases hu with rfl | rfl | rfl | rfl <;> rfl
theorem EJ(s:St)(a b:Hd):∀u∈Aq s a b,u.oneCell'=true:=by
 intro u hu;simp only[Aq,List.mem_cons,List.not_mem_nil,or_false]at hu
 rcases hu with rfl | rfl | rfl | rfl | rfl | rfl | rfl | rfl <;> rfl
set_option maxRecDepth 100000 in
theorem pW(b t o:Nat)(pre post:List Value)(d:Db)(H:Nat->Hd)(k:Int)(lab f:ByteArray)(l c:Int)(w:World)(h:aE w b t pre post d H)(ho:pre.length=o)(hs:dF d 100000000) :
  Calls Tryz.prog 181 #[.pointer (some ⟨b,o+6,none⟩),.agg #[.int .i64 k,.string lab,.slice (H 8).ao d.symbols.length (H 8).cap,.slice (H 9).ao d.proof.length (H 9).cap,.string f,.int .i64 l,.int .i64 c,.int .i64 0]] w fun e w' =>
   e=.returned (.tuple #[])/\∃H',aE w' b t pre post { d with sts:=d.sts++[⟨k,lab,d.symbols,d.proof,⟨f,l,c⟩,0⟩] } H'/\ag b w H w' H'/\∀j,j<10->j≠6->H' j=H j:=by
 obtain⟨i0,hi,hz0,hz1,hz2⟩:=info_parts dp;obtain⟨i1,hi1,hy0,hy1,hy2⟩:=info_parts E4;obtain⟨i2,hi2,hx0,hx1,hx2⟩:=info_parts FZ;have hl8:=hs.symbols;have hl9:=hs.proof;have hl6:=hs.sts;have m1:=fun w=>cA (P:=Tryz.prog) w 22 9 i0 _ Tryz.underlying22 hi hz0 d.symbols.length 1 hz1 (by rw[hz2];omega) (by omega)
 have m2:=fun w=>cA (P:=Tryz.prog) w 142 199 i1 _ Tryz.underlying142 hi1 hy0 d.proof.length 4 hy1 (by rw[hy2];omega) (by omega)
 obtain⟨mc1,hmc1⟩:∃mc,mc=madeCells (Value.string ⟨#[]⟩).cells (d.symbols.length*1):=⟨_,rfl⟩
 obtain⟨mc2,hmc2⟩:∃mc,mc=madeCells (Value.agg #[.string ⟨#[]⟩,.string ⟨#[]⟩,.int .i64 0,.int .i64 0]).cells (d.proof.length*4):=⟨_,rfl⟩
 have z1:mc1.size=d.symbols.length*1:=by rw[hmc1,size_madeCells]
 have z2:mc2.size=d.proof.length*4:=by rw[hmc2,size_madeCells]
 rw[<-hmc1]at m1;rw[<-hmc2]at m2;clear hmc1 hmc2;obtain⟨bx,hbx⟩:∃bx:Array Value,bx=#[.int .i64 k,.string lab,.slice (H 8).ao d.symbols.length (H 8).cap,.slice (H 9).ao d.proof.length (H 9).cap,.string f,.int .i64 l,.int .i64 c,.int .i64 0]:=⟨_,rfl⟩
 obtain⟨W2,hW2⟩:∃W2,W2=(w.alloc (.cells #[.int .i64 k,.string lab,.slice (H 8).ao d.symbols.length (H 8).cap,.slice (H 9).ao d.proof.length (H 9).cap,.string f,.int .i64 l,.int .i64 c,.int .i64 0] 144)).alloc (.cells mc1 9):=⟨_,rfl⟩
 have K2:aa [] w W2:=by rw[hW2];exact((aa.refl [] _).alloc _).alloc _
 have D2:=h.still K2;have Z2:W2.heap.size=w.heap.size+2:=by rw[hW2];simp
 have B2:W2.heap[w.heap.size]?=some (.cells bx 144 (0,0)):=by
  rw[hW2,hbx];exact((aa.refl [] _).alloc _).get (heap_alloc_new _ _) (by simp)
 have G2:W2.heap[w.heap.size+1]?=some (.cells mc1 9 (0,0)):=by
  rw[hW2];have:=heap_alloc_new (w.alloc (.cells #[.int .i64 k,.string lab,.slice (H 8).ao d.symbols.length (H 8).cap,.slice (H 9).ao d.proof.length (H 9).cap,.string f,.int .i64 l,.int .i64 c,.int .i64 0] 144)) (.cells mc1 9);simpa using this
 have HW2:=(show Hid _ from hW2.symm);have hbw:=h.lt;have Hsz1:Hid ((Tryz.prog.info? (am d.symbols).e).map (·.size)=some (am d.symbols).size):=by show _=_;simp[am,hi,hz1]
 have Hsz2:Hid ((Tryz.prog.info? (dZ d.proof).e).map (·.size)=some (dZ d.proof).size):=by show _=_;simp[dZ,hi1,hy1]
 clear hW2;go_enter Tryz.func181,Tryz.ntmps181
 go_upto_region 2 with fail
 rw[HW2.out];have b2:W2.cell? ⟨w.heap.size,2,none⟩=some (.slice (H 8).ao d.symbols.length (H 8).cap):=by rw[ab B2,hbx];rfl
 clear HW2 m1;obtain⟨w3,cp1,hg3,hk3,hz3⟩:=jf (P:=Tryz.prog) W2 22 22 3 (w.heap.size+1) d.symbols.length (H 8) (am d.symbols) mc1 9 Tryz.underlying22 Hsz1.out G2 (D2.own 8) z1 (jq _);simp only[am]at cp1 hg3;have K3:aa [] w w3:=((K2.mono (S':=[w.heap.size+1]) (by simp)).trans hk3).mono (by simp);have B3:=hk3.get B2 (by simp);rw[Z2]at hz3;have b3:w3.cell? ⟨w.heap.size,3,none⟩=some (.slice (H 9).ao d.proof.length (H 9).cap):=by rw[ab B3,hbx];rfl
 clear G2 B2 D2 hk3 K2;obtain⟨W4,hW4⟩:∃W4,W4=w3.alloc (.cells mc2 199):=⟨_,rfl⟩
 have K4:aa [] w W4:=by rw[hW4];exact K3.alloc _
 have k34:aa [] w3 W4:=by rw[hW4];exact(aa.refl [] _).alloc _
 have D4:=h.still K4;have B4:=k34.get B3 (by simp);have S4:=k34.get hg3 (by simp);have G4:W4.heap[w.heap.size+2]?=some (.cells mc2 199 (0,0)):=by rw[hW4,<-hz3];exact heap_alloc_new _ _
 have HW4:=(show Hid _ from hW4.symm);have Z4:W4.heap.size=w.heap.size+3:=by rw[hW4];simp[hz3]
 clear hW4 k34
 go_upto_region 4 with fail
 clear cp1 b2;rw[HW4.out];have b4:W4.cell? ⟨w.heap.size,3,none⟩=some (.slice (H 9).ao d.proof.length (H 9).cap):=by rw[ab B4,hbx];rfl
 clear HW4 m2 b3;obtain⟨w5,cp2,hg5,hk5,hz5⟩:=jf (P:=Tryz.prog) W4 142 142 3 (w.heap.size+2) d.proof.length (H 9) (dZ d.proof) mc2 199 Tryz.underlying142 Hsz2.out G4 (D4.own 9) z2 (xE _);simp only[dZ]at cp2 hg5;have K5:aa [] w w5:=((K4.mono (S':=[w.heap.size+2]) (by simp)).trans hk5).mono (by simp);have B5:=hk5.get B4 (by simp);have S5:=hk5.get S4 (by simp);rw[Z4]at hz5;clear G4 B4 D4 hk5 K4 S4;have bx2:w5.cell? ⟨w.heap.size,2,none⟩=some (.slice (H 8).ao d.symbols.length (H 8).cap):=by rw[ab B5,hbx];rfl
 have bx3:w5.cell? ⟨w.heap.size,3,none⟩=some (.slice (H 9).ao d.proof.length (H 9).cap):=by rw[ab B5,hbx];rfl
 have bx7:w5.cell? ⟨w.heap.size,7,none⟩=some (.int .i64 0):=by rw[ab B5,hbx];rfl
 have fx:=an B5;obtain⟨W8,hW8⟩:∃W8,W8=((w5.setCell ⟨w.heap.size,2,none⟩ (.slice (some ⟨w.heap.size+1,0,none⟩) d.symbols.length d.symbols.length)).setCell ⟨w.heap.size,3,none⟩ (.slice (some ⟨w.heap.size+2,0,none⟩) d.proof.length d.proof.length)).setCell ⟨w.heap.size,7,none⟩ (.int .i64 0):=⟨_,rfl⟩
 have HW8:=(show Hid _ from hW8.symm);have K8:aa [] w W8:=by rw[hW8];exact((K5.setCell (Or.inr (Nat.le_refl _)) _).setCell (Or.inr (Nat.le_refl _)) _).setCell (Or.inr (Nat.le_refl _)) _
 have k58:aa [w.heap.size] w5 W8:=by rw[hW8];exact(((aa.refl _ _).setCell (Or.inl (by simp)) _).setCell (Or.inl (by simp)) _).setCell (Or.inl (by simp)) _
 have B8:W8.heap[w.heap.size]?=some (.cells (Aq ⟨k,lab,d.symbols,d.proof,⟨f,l,c⟩,0⟩ ⟨some ⟨w.heap.size+1,0,none⟩,d.symbols.length⟩ ⟨some ⟨w.heap.size+2,0,none⟩,d.proof.length⟩).toArray 144 (0,0)):=by
  rw[hW8,ae (ae (ae B5 _ _) _ _),hbx];rfl
 have S8:=k58.get S5 (by simp);have P8:=k58.get hg5 (by simp);clear hW8 k58 S5 hg5 B5
 go_upto_region 8 with fail
 rw[HW8.out];clear HW8 cp2 bx2 bx3 bx7 fx b4 K5 hbx hg3 hz3 B3 K3;have y:=fun j v (hv:(Aq ⟨k,lab,d.symbols,d.proof,⟨f,l,c⟩,0⟩ ⟨some ⟨w.heap.size+1,0,none⟩,d.symbols.length⟩ ⟨some ⟨w.heap.size+2,0,none⟩,d.proof.length⟩)[j]?=some v)=>(ab B8 j).trans (by simpa using hv)
 have y0:=y 0 _ rfl;have y1:=y 1 _ rfl;have y2:=y 2 _ rfl;have y3:=y 3 _ rfl;have y4:=y 4 _ rfl;have y5:=y 5 _ rfl;have y6:=y 6 _ rfl;have y7:=y 7 _ rfl;simp only at y0 y1 y2 y3 y4 y5 y6 y7;clear y;have D8:=h.still K8;have q6:=D8.cellAt o ho 6 (by omega);simp only[bu,List.getElem?_cons_succ,List.getElem?_cons_zero]at q6;have hfr:=D8.free;have hb8:=D8.lt;obtain⟨news,hnews⟩:∃news:List Value,news=Aq ⟨k,lab,d.symbols,d.proof,⟨f,l,c⟩,0⟩ ⟨some ⟨w.heap.size+1,0,none⟩,d.symbols.length⟩ ⟨some ⟨w.heap.size+2,0,none⟩,d.proof.length⟩:=⟨_,rfl⟩
 obtain⟨W9,hW9⟩:∃W9,W9=(W8.alloc (.cells #[.int .i64 k,.string lab,.slice (some ⟨w.heap.size+1,0,none⟩) d.symbols.length d.symbols.length,.slice (some ⟨w.heap.size+2,0,none⟩) d.proof.length d.proof.length,.string f,.int .i64 l,.int .i64 c,.int .i64 0] 144)).drew:=⟨_,rfl⟩
 have K9:aa [] W8 W9:=by rw[hW9];exact((aa.refl [] _).alloc _).drew
 have G9:W9.heap[W8.heap.size]?=some (.cells news.toArray 144 (0,0)):=by rw[hW9,hnews];exact heap_alloc_new _ _
 have O1:au W9 ⟨some ⟨w.heap.size+1,0,none⟩,d.symbols.length⟩ (am d.symbols):=au.made (r:=am d.symbols) (K9.get S8 (by simp)) (vg _) (by simp only[am];unfold maxLen;omega);have O2:au W9 ⟨some ⟨w.heap.size+2,0,none⟩,d.proof.length⟩ (dZ d.proof):=au.made (r:=dZ d.proof) (K9.get P8 (by simp)) (xD _) (by simp only[dZ];unfold maxLen;omega);have D9:Hid (aE W9 b t pre post d H):=D8.still K9
 have s2:Hid (∀j u,news[j]?=some u->W9.cell? ((⟨W8.heap.size,0,none⟩:Addr).add j)=some u):=by
  intro j u hj;rw[aV,ab G9];simpa using hj
 have s3:Hid (∀u∈news,u.oneCell'=true):=by rw[hnews];exact EJ _ _ _
 have s4:Hid ((eP d.sts H).n+1<=maxLen):=by show _<=_;simp only[eP];unfold maxLen;omega
 have s5:Hid (((eP d.sts H).n+1)*112<=140737488355328):=by show _<=_;simp only[eP];omega
 have AF:=fun(g cap':Nat) (w1:World) (hw1:au w1 ⟨some ⟨g,0,none⟩,cap'⟩ ⟨(eP d.sts H).e,(eP d.sts H).size,(eP d.sts H).n+1,(eP d.sts H).xs++news⟩) hgr hfresh=>h.addst (K8.trans K9) ho ⟨k,lab,d.symbols,d.proof,⟨f,l,c⟩,0⟩ ⟨some ⟨w.heap.size+1,0,none⟩,d.symbols.length⟩ ⟨some ⟨w.heap.size+2,0,none⟩,d.proof.length⟩ (w.heap.size+1) (w.heap.size+2) rfl rfl (by omega) (by omega) (by omega) O1 O2 g cap' (w1:=w1) (by rw[<-hnews];exact hw1) hgr hfresh
 have HAF:=(show Hid _ from AF);have hlen:Hid (news.length=1*(eP d.sts H).size):=by show _=_;rw[hnews];rfl
 rw[hW9]at D9 s2 HAF;clear AF O1 O2 G9 K9 hW9 W9 hnews P8 S8 B8
 go_region_law (refine aC rfl (.tmp 31) (.tmp 33) 90 rfl i2 (.agg #[.int .i64 0,.string ⟨#[]⟩,.slice none 0 0,.slice none 0 0,.string ⟨#[]⟩,.int .i64 0,.int .i64 0,.int .i64 0]) 112 (H 6) (eP d.sts H) Tryz.underlying90 hi2 hx0 hx1 hx2 rfl (Nat.succ_pos 7) (by simp[Act.eval] <;> rfl) (D9.out.own 6) ⟨W8.heap.size,0,none⟩ 1 1 news (by simp[Act.eval]) hlen.out s2.out s3.out Nat.one_pos s4.out s5.out ?_;intro g cap' w1 hw1 hgr hfresh;obtain⟨k5,f5,HP⟩:=HAF.out g cap' w1 hw1 hgr (by simpa using hfresh);clear hw1 hgr hfresh)
 all_goals go_wp2
 all_goals go_end0
 all_goals
  obtain⟨H',P1,P2,P3⟩:=HP.out;exact⟨rfl,H',P1,P2,P3⟩
end Go.Proofs.YtlbhbocbakijbaaGreat
