import Derived.Deep.RegionLaw
import Derived.Test.YtpddjjabfbfifaaGreatG30
namespace Go.Proofs.YtpddjjabfbfifaaGreat
open Go.RowKit
set_option maxHeartbeats 40000000
structure jL where
 label:ByteArray
 verdict:Int
 why:Int
 file:ByteArray
 line:Int
 col:Int
def mT(r:jL):List Value:=[.string r.label,.int .i64 r.verdict,.int .i64 r.why,.string r.file,.int .i64 r.line,.int .i64 r.col]
theorem uC(r:jL):(mT r).length=6:=rfl
def xL(T:List Tk)(S:List Sm)(a:Nat)(P:List cQ)(l:ByteArray)(t:Tk)(M:List (List ByteArray)):jL :=
 if(dB P (P.length-1)==0)=false then⟨l,2,11,t.file,t.line,t.col⟩
 else if mg (cm T S a) (M.getD (P.length-1) [])=false then⟨l,2,12,t.file,t.line,t.col⟩ else⟨l,4,0,⟨#[]⟩,0,0⟩
def rY(T:List Tk)(S:List Sm)(a:Nat)(P:List cQ)(l:ByteArray)(t:Tk):Nat->Nat->List (List ByteArray)->jL
 | 0,_,M=>xL T S a P l t M
 | n+1,i,M=>if((ri T S a P i M).2==0)=false then⟨l,2,(ri T S a P i M).2,(bG P i).file,(bG P i).line,(bG P i).col⟩ else rY T S a P l t n (i+1) (M++[(ri T S a P i M).1])
def qw(T:List Tk)(S:List Sm)(a:Nat)(p:jD)(t:Tk):jL :=
 if(p.why==0)=false then⟨cd T (au S a),2,p.why,p.file,p.line,p.col⟩
 else if 0<=fO p.st then⟨cd T (au S a),3,p.why,(bG p.st (fO p.st).toNat).file,(bG p.st (fO p.st).toNat).line,(bG p.st (fO p.st).toNat).col⟩
 else rY T S a p.st (cd T (au S a)) t p.st.length 0 []
theorem me{w:World}{B:Nat}{a0 a1 a2 a3 a4 a5:Value}(h:w.heap[B]?=some (.cells #[a0,a1,a2,a3,a4,a5] 38 (0,0)))(v0 v1 v2 v3 v4 v5:Value) :
  (w.setCell ⟨B,0,none⟩ v0).cell? ⟨B,0,none⟩=some v0/\((w.setCell ⟨B,0,none⟩ v0).setCell ⟨B,1,none⟩ v1).cell? ⟨B,1,none⟩=some v1/\(((w.setCell ⟨B,0,none⟩ v0).setCell ⟨B,1,none⟩ v1).setCell ⟨B,2,none⟩ v2).cell? ⟨B,2,none⟩=some v2/\((((w.setCell ⟨B,0,none⟩ v0).setCell ⟨B,1,none⟩ v1).setCell ⟨B,2,none⟩ v2).setCell ⟨B,3,none⟩ v3).cell? ⟨B,3,none⟩=some v3 /\
  (((((w.setCell ⟨B,0,none⟩ v0).setCell ⟨B,1,none⟩ v1).setCell ⟨B,2,none⟩ v2).setCell ⟨B,3,none⟩ v3).setCell ⟨B,4,none⟩ v4).cell? ⟨B,4,none⟩=some v4/\((((((w.setCell ⟨B,0,none⟩ v0).setCell ⟨B,1,none⟩ v1).setCell ⟨B,2,none⟩ v2).setCell ⟨B,3,none⟩ v3).setCell ⟨B,4,none⟩ v4).setCell ⟨B,5,none⟩ v5).cell? ⟨B,5,none⟩=some v5:=by
 have b0:=ah h 0 v0;have b1:=ah b0 1 v1;have b2:=ah b1 2 v2;have b3:=ah b2 3 v3;have b4:=ah b3 4 v4;have b5:=ah b4 5 v5;exact⟨by rw[aa b0];rfl,by rw[aa b1];rfl,by rw[aa b2];rfl,by rw[aa b3];rfl,by rw[aa b4];rfl,by rw[aa b5];rfl⟩
theorem dH{w:World}{B:Nat}{r:jL}(h:w.heap[B]?=some (.cells (mT r).toArray 38 (0,0))) :
  (w.cell? ⟨B,0,none⟩=some (.string r.label)/\w.cell? ⟨B,1,none⟩=some (.int .i64 r.verdict)/\w.cell? ⟨B,2,none⟩=some (.int .i64 r.why)/\w.cell? ⟨B,3,none⟩=some (.string r.file)/\w.cell? ⟨B,4,none⟩=some (.int .i64 r.line)/\w.cell? ⟨B,5,none⟩=some (.int .i64 r.col)) /\
  (w.frozen? ⟨B,0,none⟩=false/\w.frozen? ⟨B,1,none⟩=false/\w.frozen? ⟨B,2,none⟩=false/\w.frozen? ⟨B,3,none⟩=false/\w.frozen? ⟨B,4,none⟩=false/\w.frozen? ⟨B,5,none⟩=false)/\B<w.heap.size:=by
 refine⟨⟨?_,?_,?_,?_,?_,?_⟩,⟨ak h 0,ak h 1,ak h 2,ak h 3,ak h 4,ak h 5⟩,ae h⟩
 all_goals (rw[aa h];rfl)
def JG:jL:=⟨⟨#[]⟩,0,0,⟨#[]⟩,0,0⟩
def Fz(w:World)(r:jL)(e:Ending)(w':World):Prop:=e=.returned (.agg (mT r).toArray)/\ab [] w w'
structure Fw(T:List Tk)(S:List Sm)(a:Nat)(p:jD):Prop where
 le:p.st.length<=100000000
 nd:IB p.st
 st:p.why=0->0<p.st.length/\∀i,i<p.st.length->(bG p.st i).ref≠-1->FD T S a p.st i
structure xV(w wr:World)(p:jD)(hp:Hd)(r:jL):Prop where
 e:wr.heap[w.heap.size]?=some (.cells #[.slice hp.ao p.st.length hp.cap,.int .i64 p.why,.string p.file,.int .i64 p.line,.int .i64 p.col] 122 (0,0))
 z:wr.heap[w.heap.size+1]?=some (.cells (mT JG).toArray 38 (0,0))
 r:wr.heap[w.heap.size+2]?=some (.cells (mT r).toArray 38 (0,0))
 kept:ab [] w wr
theorem xV.still{w wr wr':World}{p:jD}{hp:Hd}{r:jL}(a:xV w wr p hp r)(k:ab [] wr wr'):xV w wr' p hp r:=⟨k.get a.e (by simp),k.get a.z (by simp),k.get a.r (by simp),a.kept.trans k⟩
theorem xV.set{w wr:World}{p:jD}{hp:Hd}{r r':jL}(a:xV w wr p hp r)(i:Nat)(v:Value)(h:(mT r).set i v=mT r'):xV w (wr.setCell ⟨w.heap.size+2,i,none⟩ v) p hp r':=by
 have k:ab [w.heap.size+2] wr (wr.setCell ⟨w.heap.size+2,i,none⟩ v):=(ab.refl _ _).setCell (Or.inl (by simp)) _;refine⟨k.get a.e (by simp),k.get a.z (by simp),?_,a.kept.setCell (Or.inr (by simp)) _⟩;rw[ah a.r,<-h];simp
theorem xV.prf{w wr:World}{p:jD}{hp:Hd}{r:jL}(a:xV w wr p hp r):wr.cell? ⟨w.heap.size,0,none⟩=some (.slice hp.ao p.st.length hp.cap)/\wr.cell? ⟨w.heap.size,1,none⟩=some (.int .i64 p.why)/\wr.cell? ⟨w.heap.size,2,none⟩=some (.string p.file)/\wr.cell? ⟨w.heap.size,3,none⟩=some (.int .i64 p.line)/\wr.cell? ⟨w.heap.size,4,none⟩=some (.int .i64 p.col)/\w.heap.size<wr.heap.size :=
 ⟨by rw[aa a.e];rfl,by rw[aa a.e];rfl,by rw[aa a.e];rfl,by rw[aa a.e];rfl,by rw[aa a.e];rfl,ae a.e⟩
theorem Lw{w:World}{s:Sl}(h:mw w s):∃q o,s.ao=some ⟨q,o,none⟩/\q<w.heap.size:=by
 obtain⟨g,e,hg,-⟩:=h.x 0 _ (kP s.L 0 h.pos);exact⟨g,0,e,hg⟩
theorem Hh{w w':World}{h h':Hd}(g:bh w w' h h'){s:Sl}(a:mw w s)(n:∀q o,s.ao=some ⟨q,o,none⟩->h.blk≠some q):mw w' s:=by
 refine⟨⟨fun k x hk=>?_,a.ok.nil,a.ok.le⟩,fun k x hk=>?_,a.pos,a.le⟩
 ·obtain⟨q,o,e,hq,c⟩:=a.ok.src k x hk
  exact⟨q,o,e,Nat.lt_of_lt_of_le hq g.kept.size,by rw[World.cell?_of_block (g.kept.block q hq (fun hm=>n q o e (aK hm)))];exact c⟩
 ·obtain⟨q,e,hq,c⟩:=a.x k x hk
  exact⟨q,e,Nat.lt_of_lt_of_le hq g.kept.size,by rw[World.cell?_of_block (g.kept.block q hq (fun hm=>n q 0 e (aK hm)))];exact c⟩
theorem JJ{w w':World}{h h':Hd}(g:bh w w' h h'){A:List Sl}{s:Sl}(a:∀s∈A,mw w s)(n:∀s∈A,∀q o,s.ao=some ⟨q,o,none⟩->h.blk≠some q)(b:mw w s)(m:∀q o,s.ao=some ⟨q,o,none⟩->h.blk≠some q):∀t∈A++[s],mw w' t:=fun t ht=>by
 rcases List.mem_append.1 ht with ht | ht
 ·exact Hh g (a t ht) (n t ht)
 ·rw[List.mem_singleton.1 ht];exact Hh g b m
theorem IE{w w':World}{h h':Hd}(g:bh w w' h h'){A:List Sl}{s:Sl}(a:∀s∈A,mw w s)(n:∀s∈A,∀q o,s.ao=some ⟨q,o,none⟩->h.blk≠some q)(b:mw w s)(m:∀q o,s.ao=some ⟨q,o,none⟩->h.blk≠some q):∀t∈A++[s],∀q o,t.ao=some ⟨q,o,none⟩->h'.blk≠some q:=fun t ht q o e hb=>by
 have one:mw w t/\h.blk≠some q:=by
  rcases List.mem_append.1 ht with ht | ht
  ·exact⟨a t ht,n t ht q o e⟩
  ·rw[List.mem_singleton.1 ht]at e ⊢;exact⟨b,m q o e⟩
 rcases g.blk with e2 | ⟨q2,e2,hq2⟩
 ·exact one.2 (by rw[<-e2];exact hb)
 ·rw[e2]at hb;cases hb
  obtain⟨q3,o3,e3,h3⟩:=Lw one.1;rw[e]at e3
  cases e3
  omega
set_option maxRecDepth 100000 in
theorem xM(b n zt:Nat)(T:List Tk)(aoT:Option Addr)(cT:Nat)(S:List Sm)(aoS:Option Addr)(cS:Nat)(p:jD)(hp:Hd)(w:World)(hD:eW w b T aoT cT S aoS cS)(ok:mx T S n)(hB:Fq T S n)(hTc:Kg T S n)(hn:n<S.length)(hE:eD T (au S n).h)(hna:(au S n).a<T.length)(hto:(au S n).z=zt+1)(hzT:zt<T.length)(hP:cG w hp.ao 6 j5 p.st)(hpo:Fw T S n p) :
  Calls Tryz.prog 89 #[.pointer (some ⟨b,0,none⟩),.int .i64 n,.agg #[.slice hp.ao p.st.length hp.cap,.int .i64 p.why,.string p.file,.int .i64 p.line,.int .i64 p.col]] w fun e w'=>Fz w (qw T S n p (T.getD zt ic)) e w':=by
 obtain⟨W,HW⟩:∃W,Hid (((w.alloc (.cells #[.slice hp.ao p.st.length hp.cap,.int .i64 p.why,.string p.file,.int .i64 p.line,.int .i64 p.col] 122)).alloc (.cells #[.string ⟨#[]⟩,.int .i64 0,.int .i64 0,.string ⟨#[]⟩,.int .i64 0,.int .i64 0] 38)).alloc (.cells #[.string ⟨#[]⟩,.int .i64 2,.int .i64 p.why,.string p.file,.int .i64 p.line,.int .i64 p.col] 38)=W):=⟨_,rfl⟩
 have V0:xV w W p hp ⟨⟨#[]⟩,2,p.why,p.file,p.line,p.col⟩:=by
  obtain⟨W1,hW1⟩:∃W1,W1=w.alloc (.cells #[.slice hp.ao p.st.length hp.cap,.int .i64 p.why,.string p.file,.int .i64 p.line,.int .i64 p.col] 122):=⟨_,rfl⟩
  obtain⟨W2,hW2⟩:∃W2,W2=W1.alloc (.cells #[.string ⟨#[]⟩,.int .i64 0,.int .i64 0,.string ⟨#[]⟩,.int .i64 0,.int .i64 0] 38):=⟨_,rfl⟩
  have z1:W1.heap.size=w.heap.size+1:=by rw[hW1];simp
  have z2:W2.heap.size=w.heap.size+2:=by rw[hW2];simp[z1]
  have k0:ab [] w W1:=by rw[hW1];exact(ab.refl [] _).alloc _
  have k1:ab [] W1 W2:=by rw[hW2];exact(ab.refl [] _).alloc _
  have e0:W1.heap[w.heap.size]?=some (.cells #[.slice hp.ao p.st.length hp.cap,.int .i64 p.why,.string p.file,.int .i64 p.line,.int .i64 p.col] 122 (0,0)):=by rw[hW1];exact heap_alloc_new _ _
  have e1:W2.heap[w.heap.size+1]?=some (.cells (mT JG).toArray 38 (0,0)):=by rw[hW2,<-z1];exact heap_alloc_new _ _
  rw[<-HW.out,<-hW1,<-hW2];have k2:ab [] W2 (W2.alloc (.cells #[.string ⟨#[]⟩,.int .i64 2,.int .i64 p.why,.string p.file,.int .i64 p.line,.int .i64 p.col] 38)):=(ab.refl [] _).alloc _;exact⟨k2.get (k1.get e0 (by simp)) (by simp),k2.get e1 (by simp),by rw[<-z2];exact heap_alloc_new _ _,(k0.trans k1).trans k2⟩
 have HV0:=(show Hid _ from V0);have HD:=(show Hid _ from hD);have HOK:=(show Hid _ from ok);have HP:=(show Hid _ from hP);have hS2:=ok.sm;have hT2:=ok.tm;have HBO:=(show Hid _ from hB);have HTC:=(show Hid _ from hTc);have HSE:=(show Hid _ from hE);have hPl:=hpo.le;have HNd:=(show Hid _ from hpo.nd);have HST:=(show Hid _ from hpo.st)
 have HLB:Hid (Calls Tryz.prog 87 #[.pointer (some ⟨b,0,none⟩),.int .i64 n] W fun e w'=>e=.returned (.string (cd T (au S n)))/\ab [] W w'):=by
  have:=oc b n T aoT cT S aoS cS W (hD.still V0.kept) hn (by rw[bC S n hn];exact hna);rw[bC S n hn]at this;exact this
 have HVD:Hid (qw T S n p (T.getD zt ic)=if(p.why==0)=false then⟨cd T (au S n),2,p.why,p.file,p.line,p.col⟩
  else if 0<=fO p.st then⟨cd T (au S n),3,p.why,(bG p.st (fO p.st).toNat).file,(bG p.st (fO p.st).toNat).line,(bG p.st (fO p.st).toNat).col⟩
  else rY T S n p.st (cd T (au S n)) (T.getD zt ic) p.st.length 0 []):=rfl
 have HTZ:Hid (∀wx:World,ab [] w wx->∃gT gs,aoT=some ⟨gT,0,none⟩/\aoS=some ⟨gs,0,none⟩/\gT<wx.heap.size/\gs<wx.heap.size/\b<wx.heap.size/\wx.cell? ⟨b,0,none⟩=some (.slice aoT T.length cT)/\wx.cell? ⟨b,1,none⟩=some (.slice aoS S.length cS)/\wx.cell? ⟨gs,n*4+1,none⟩=some (.int .i64 ((zt:Int)+1))/\wx.cell? ⟨gT,zt*5+2,none⟩=some (.string (T.getD zt ic).file)/\wx.cell? ⟨gT,zt*5+3,none⟩=some (.int .i64 (T.getD zt ic).line)/\wx.cell? ⟨gT,zt*5+4,none⟩=some (.int .i64 (T.getD zt ic).col)):=fun wx kx=>by
  have hd:=eW.still HD.out kx;obtain⟨c0,c1,hb⟩:=hd.cells;obtain⟨gs,e3,hgs,-,q1,-,-⟩:=hd.s.2 n S[n] (List.getElem?_eq_getElem hn);rw[bC S n hn,hto,show((zt+1:Nat):Int)=(zt:Int)+1 by omega]at q1;obtain⟨gT,e4,hgT,-,-,t2,t3,t4⟩:=hd.t.2 zt _ (gg T zt hzT);exact⟨gT,gs,e4,e3,hgT,hgs,hb,c0,c1,q1,t2,t3,t4⟩
 have HHO:Hid (∀wx,ab [] w wx->Calls Tryz.prog 130 #[.agg #[.slice hp.ao p.st.length hp.cap,.int .i64 p.why,.string p.file,.int .i64 p.line,.int .i64 p.col]] wx fun e w'=>e=.returned (.int .i64 (fO p.st))/\ab [] wx w'):=fun wx kx=>DK p.st hp.ao hp.cap p.why p.file p.line p.col wx (hP.still kx) hPl
 have hhw:=AI p.st;obtain⟨iL,hiL,hzL0,hzL1,hzL2⟩:=info_parts AJ;clear hD ok hB hTc hE hP hpo V0;obtain⟨l,Hl⟩:∃l,Hid (cd T (au S n)=l):=⟨_,rfl⟩
 rw[Hl.out]at HLB HVD;obtain⟨V,HVe⟩:∃V,Hid (qw T S n p (T.getD zt ic)=V):=⟨_,rfl⟩
 rw[HVe.out]at HVD ⊢;obtain⟨P,y,pf,pl,pc⟩:=p;simp only at HVD HHO hhw hPl HNd HST HP;obtain⟨e0,e1,e2,e3,e4,e5⟩:=HV0.out.prf;obtain⟨⟨r0,r1,r2,r3,r4,r5⟩,⟨f0,f1,f2,f3,f4,f5⟩,hz2⟩:=dH HV0.out.r;obtain⟨⟨z0,z1,z2,z3,z4,z5⟩,⟨y0,y1,y2,y3,y4,y5⟩,hz1⟩:=dH HV0.out.z;simp only at r0 r1 r2 r3 r4 r5;go_enter Tryz.func89,Tryz.ntmps89
 go_upto_region 2 with fail
 rw[HW.out]
 go_upto_region 3 with (go_at_call 87;refine Calls.mono HLB.out ?_;rintro e w1 ⟨rfl,k1⟩;have V1:=HV0.out.still k1;obtain⟨⟨u0,-⟩,⟨u1,-⟩,u2⟩:=dH V1.r)
 have HV2:Hid (xV w (w1.setCell ⟨w.heap.size+2,0,none⟩ (.string l)) ⟨P,y,pf,pl,pc⟩ hp ⟨l,2,y,pf,pl,pc⟩):=V1.set 0 (.string l) rfl;obtain⟨X2,HX2⟩:∃X2,Hid (w1.setCell ⟨w.heap.size+2,0,none⟩ (.string l)=X2):=⟨_,rfl⟩
 rw[HX2.out]at HV2 ⊢;clear V1 u0 u1 u2 k1 HX2;clear e0 e1 e2 e3 e4 e5 r0 r1 r2 r3 r4 r5 f0 f1 f2 f3 f4 f5 hz2 z0 z1 z2 z3 z4 z5 y0 y1 y2 y3 y4 y5 hz1;obtain⟨e0,e1,e2,e3,e4,e5⟩:=HV2.out.prf;obtain⟨⟨r0,r1,r2,r3,r4,r5⟩,⟨f0,f1,f2,f3,f4,f5⟩,hz2⟩:=dH HV2.out.r;obtain⟨⟨z0,z1,z2,z3,z4,z5⟩,⟨y0,y1,y2,y3,y4,y5⟩,hz1⟩:=dH HV2.out.z;simp only at r0 r1 r2 r3 r4 r5;simp only at e0 e1 e2 e3 e4
 cases hy:(y==0)
 ·rw[hy,if_pos rfl]at HVD
  have HX:Hid (V=⟨l,2,y,pf,pl,pc⟩):=HVD.out;go_wp2;obtain⟨x0,x1,x2,x3,x4,x5⟩:=me HV2.out.z (.string l) (.int .i64 2) (.int .i64 y) (.string pf) (.int .i64 pl) (.int .i64 pc);exact bodyPost_ret (v:=.agg #[.string l,.int .i64 2,.int .i64 y,.string pf,.int .i64 pl,.int .i64 pc]) (by simp[results,Tryz.results89,go_sem,x0,x1,x2,x3,x4,x5]) rfl ⟨by rw[HX.out];rfl,(((((HV2.out.kept.setCell (Or.inr (by simp)) _).setCell (Or.inr (by simp)) _).setCell (Or.inr (by simp)) _).setCell (Or.inr (by simp)) _).setCell (Or.inr (by simp)) _).setCell (Or.inr (by simp)) _⟩
 ·rw[hy,if_neg (by simp)]at HVD
  have hy0:y=0:=by simpa using hy
  subst hy0;have HHC:=(show Hid _ from HHO.out X2 HV2.out.kept)
  go_upto_region 6 with (go_at_call 130;refine Calls.mono HHC.out ?_;rintro e w3 ⟨rfl,k3⟩)
  have HV3:=(show Hid _ from HV2.out.still k3);clear k3;clear e0 e1 e2 e3 e4 e5 r0 r1 r2 r3 r4 r5 f0 f1 f2 f3 f4 f5 hz2 z0 z1 z2 z3 z4 z5 y0 y1 y2 y3 y4 y5 hz1;obtain⟨e0,e1,e2,e3,e4,e5⟩:=HV3.out.prf;obtain⟨⟨r0,r1,r2,r3,r4,r5⟩,⟨f0,f1,f2,f3,f4,f5⟩,hz2⟩:=dH HV3.out.r;obtain⟨⟨z0,z1,z2,z3,z4,z5⟩,⟨y0,y1,y2,y3,y4,y5⟩,hz1⟩:=dH HV3.out.z;simp only at r0 r1 r2 r3 r4 r5;simp only at e0 e1 e2 e3 e4
  rcases hhw with ⟨hh,hnh⟩ | ⟨k,hk,hh⟩
  ·rw[hh,if_neg (by omega)]at HVD
   rw[hh];obtain⟨hP0,hst⟩:=HST.out (by trivial);have HSS:Hid (∀i,i<P.length->FD T S n P i):=fun i hi=>hst i hi (hnh i hi)
   have HN3:Hid (ir w3 w3 ⟨none,0⟩ (jZ [])):=⟨World.ownsRow_nil _ _ _ _,(by intro k hk;cases hk),ab.refl _ _⟩;have HV00:Hid (rY T S n P l (T.getD zt ic) (P.length-0) 0 (([]:List Sl).map (·.L))=V):=HVD.out.symm;obtain⟨tz,Htz⟩:∃tz,Hid (T.getD zt ic=tz):=⟨_,rfl⟩
   rw[Htz.out]at HTZ HV00;clear hst hnh hh HVD HST HHO HHC;go_wp2;clear e0 e1 e2 e3 e4 e5 r0 r1 r2 r3 r4 r5 f0 f1 f2 f3 f4 f5 hz2 z0 z1 z2 z3 z4 z5 y0 y1 y2 y3 y4 y5 hz1
   go_loopg [9,10] P.length (fun g o iv wr=>∃(i:Nat) (h:Hd) (A:List Sl),i<=P.length/\g=P.length-i/\o=.slice h.ao A.length h.cap/\iv=.int .i64 i/\Hid (A.length=i)/\Hid (∀s∈A,mw wr s)/\Hid (∀s∈A,∀q o,s.ao=some ⟨q,o,none⟩->h.blk≠some q)/\Hid (rY T S n P l tz (P.length-i) i (A.map (·.L))=V)/\Hid (ir w3 wr h (jZ A)))
   case atStart=>exact⟨0,⟨none,0⟩,[],by omega,rfl,rfl,rfl,rfl,(fun s hs=>by cases hs),(fun s hs=>by cases hs),HV00,HN3⟩
   case round =>
    obtain⟨i,h,A,hi,hg,rfl,rfl,HAl,HAO,HAP,HG,HW6⟩:=hrel;have HVr:=(show Hid _ from HV3.out.still HW6.out.kept);have HKr:=(show Hid _ from HVr.out.kept);obtain⟨e0,e1,e2,e3,e4,e5⟩:=HVr.out.prf;obtain⟨⟨r0,r1,r2,r3,r4,r5⟩,⟨f0,f1,f2,f3,f4,f5⟩,hz2⟩:=dH HVr.out.r;obtain⟨⟨z0,z1,z2,z3,z4,z5⟩,⟨y0,y1,y2,y3,y4,y5⟩,hz1⟩:=dH HVr.out.z;simp only at r0 r1 r2 r3 r4 r5;simp only at e0 e1 e2 e3 e4
    by_cases hlt:i<P.length
    ·have hii:(i:Int)<(P.length:Int):=by omega
     have HSC:=(show Hid _ from EV b n i T aoT cT S aoS cS P hp.ao hp.cap 0 pf pl pc A h.ao h.cap wr (eW.still HD.out HKr.out) HOK.out HBO.out HTC.out hn (cG.still HP.out HKr.out) hPl HNd.out hlt (HSS.out i hlt) (HW6.out.own.srcG sM) HAO.out HAl.out);obtain⟨d,hd⟩:∃d,P.length-i=d+1:=⟨P.length-i-1,by omega⟩
     have HG1:Hid (rY T S n P l tz (d+1) i (A.map (·.L))=V):=by rw[<-hd];exact HG
     rw[rY]at HG1;have Hd2:Hid (P.length-(i+1)=d):=by show _=_;omega
     clear hd HG;obtain⟨SR,HSR⟩:∃SR,Hid (ri T S n P i (A.map (·.L))=SR):=⟨_,rfl⟩
     rw[HSR.out]at HSC HG1;obtain⟨sE,sW⟩:=SR;simp only at HG1
     go_upto_region 15 with (go_at_call 131;refine Calls.mono HSC.out ?_;rintro e w4 ⟨s,rfl,hsL,hsok,hsf,k4⟩)
     have HV4:=(show Hid _ from HVr.out.still k4);have HW4:=(show Hid _ from HW6.out.still k4);have HAO4:Hid (∀s∈A,mw w4 s):=fun s hs=>(HAO.out s hs).still k4
     have HSL:Hid (s.L=sE):=hsL;have HSK:Hid ((sW==0)=true->mw w4 s):=hsok
     have HSF:Hid (∀q o,s.ao=some ⟨q,o,none⟩->h.blk≠some q):=fun q o e hb=>by
      rcases hsf with hm | hf
      ·exact HAP.out s hm q o e hb
      ·have:=hf q o e
       have:=HW6.out.own.lt hb;omega
     clear hsL hsok hsf k4 HSC;clear e0 e1 e2 e3 e4 e5 r0 r1 r2 r3 r4 r5 f0 f1 f2 f3 f4 f5 hz2 z0 z1 z2 z3 z4 z5 y0 y1 y2 y3 y4 y5 hz1;obtain⟨e0,e1,e2,e3,e4,e5⟩:=HV4.out.prf;obtain⟨⟨r0,r1,r2,r3,r4,r5⟩,⟨f0,f1,f2,f3,f4,f5⟩,hz2⟩:=dH HV4.out.r;obtain⟨⟨z0,z1,z2,z3,z4,z5⟩,⟨y0,y1,y2,y3,y4,y5⟩,hz1⟩:=dH HV4.out.z;simp only at r0 r1 r2 r3 r4 r5;simp only at e0 e1 e2 e3 e4
     cases hw:(sW==0)
     ·rw[hw,if_pos rfl]at HG1
      have HX:Hid (V=⟨l,2,sW,(bG P i).file,(bG P i).line,(bG P i).col⟩):=HG1.out.symm;obtain⟨gP,egP,hgP,-,-,-,q3,q4,q5⟩:=cG.step (cG.still HP.out HV4.out.kept) i hlt
      have HQ:Hid (∀wx:World,ab [] w wx->gP<wx.heap.size/\wx.cell? ⟨gP,i*6+3,none⟩=some (.string (bG P i).file)/\wx.cell? ⟨gP,i*6+4,none⟩=some (.int .i64 (bG P i).line)/\wx.cell? ⟨gP,i*6+5,none⟩=some (.int .i64 (bG P i).col)):=fun wx kx=>by
       obtain⟨g2,e2,h2,-,-,-,c3,c4,c5⟩:=cG.step (cG.still HP.out kx) i hlt;rw[egP]at e2
       cases e2
       exact⟨h2,c3,c4,c5⟩
      generalize (bG P i).file=sf at *;generalize (bG P i).line=sl at *;generalize (bG P i).col=sc at *;clear hgP q3 q4 q5
      go_upto_region 17 with fail
      have HV5:Hid (xV w (w4.setCell ⟨w.heap.size+2,2,none⟩ (.int .i64 sW)) ⟨P,0,pf,pl,pc⟩ hp ⟨l,2,sW,pf,pl,pc⟩):=HV4.out.set 2 (.int .i64 sW) rfl;obtain⟨X4,HX4⟩:∃X4,Hid (w4.setCell ⟨w.heap.size+2,2,none⟩ (.int .i64 sW)=X4):=⟨_,rfl⟩
      rw[HX4.out]at HV5 ⊢;clear e0 e1 e2 e3 e4 e5 r0 r1 r2 r3 r4 r5 f0 f1 f2 f3 f4 f5 hz2 z0 z1 z2 z3 z4 z5 y0 y1 y2 y3 y4 y5 hz1;obtain⟨e0,e1,e2,e3,e4,e5⟩:=HV5.out.prf;obtain⟨⟨r0,r1,r2,r3,r4,r5⟩,⟨f0,f1,f2,f3,f4,f5⟩,hz2⟩:=dH HV5.out.r;obtain⟨⟨z0,z1,z2,z3,z4,z5⟩,⟨y0,y1,y2,y3,y4,y5⟩,hz1⟩:=dH HV5.out.z;simp only at r0 r1 r2 r3 r4 r5;simp only at e0 e1 e2 e3 e4;obtain⟨hgP,q3,q4,q5⟩:=HQ.out X4 HV5.out.kept;rw[egP]at e0
      go_upto_region 18 with fail
      have HV6:Hid (xV w (((X4.setCell ⟨w.heap.size+2,3,none⟩ (.string sf)).setCell ⟨w.heap.size+2,4,none⟩ (.int .i64 sl)).setCell ⟨w.heap.size+2,5,none⟩ (.int .i64 sc)) ⟨P,0,pf,pl,pc⟩ hp ⟨l,2,sW,sf,sl,sc⟩):=((HV5.out.set (r':=⟨l,2,sW,sf,pl,pc⟩) 3 (.string sf) rfl).set (r':=⟨l,2,sW,sf,sl,pc⟩) 4 (.int .i64 sl) rfl).set 5 (.int .i64 sc) rfl;obtain⟨X5,HX5⟩:∃X5,Hid (((X4.setCell ⟨w.heap.size+2,3,none⟩ (.string sf)).setCell ⟨w.heap.size+2,4,none⟩ (.int .i64 sl)).setCell ⟨w.heap.size+2,5,none⟩ (.int .i64 sc)=X5):=⟨_,rfl⟩
      rw[HX5.out]at HV6 ⊢;clear e0 e1 e2 e3 e4 e5 r0 r1 r2 r3 r4 r5 f0 f1 f2 f3 f4 f5 hz2 z0 z1 z2 z3 z4 z5 y0 y1 y2 y3 y4 y5 hz1;obtain⟨e0,e1,e2,e3,e4,e5⟩:=HV6.out.prf;obtain⟨⟨r0,r1,r2,r3,r4,r5⟩,⟨f0,f1,f2,f3,f4,f5⟩,hz2⟩:=dH HV6.out.r;obtain⟨⟨z0,z1,z2,z3,z4,z5⟩,⟨y0,y1,y2,y3,y4,y5⟩,hz1⟩:=dH HV6.out.z;simp only at r0 r1 r2 r3 r4 r5;go_wp2;obtain⟨x0,x1,x2,x3,x4,x5⟩:=me HV6.out.z (.string l) (.int .i64 2) (.int .i64 sW) (.string sf) (.int .i64 sl) (.int .i64 sc);exact bodyPost_ret (v:=.agg #[.string l,.int .i64 2,.int .i64 sW,.string sf,.int .i64 sl,.int .i64 sc]) (by simp[results,Tryz.results89,go_sem,x0,x1,x2,x3,x4,x5]) rfl ⟨by rw[HX.out];rfl,(((((HV6.out.kept.setCell (Or.inr (by simp)) _).setCell (Or.inr (by simp)) _).setCell (Or.inr (by simp)) _).setCell (Or.inr (by simp)) _).setCell (Or.inr (by simp)) _).setCell (Or.inr (by simp)) _⟩
     ·rw[hw,if_neg (by simp)]at HG1
      have hw0:sW=0:=by simpa using hw
      subst hw0;have HOS:=(show Hid _ from HSK.out rfl);rw[<-HSL.out]at HG1;have HNW:Hid (([.slice s.ao sE.length s.cap]:List Value)=By s):=by show _=_;unfold By;rw[HSL.out]
      have hOw:=HW4.out.own;have HOb:Hid ((jZ A).n<=900000000):=by show A.length<=_;rw[HAl.out];omega
      go_wp2_with (at_builtin;refine bX _ rfl (.tmp 71) (.tmp 73) 218 rfl iL (.slice none 0 0) 24 h (jZ A) [.slice s.ao sE.length s.cap] Tryz.underlying218 hiL hzL0 hzL1 hzL2 rfl Nat.one_pos rfl hOw HOb.out (by omega) rfl rfl (by simp[Value.oneCell']) ?_;intro h7 w7 hw7 hg7;rw[HNW.out,oo]at hw7;have HM7:=(show Hid _ from HW4.out.grew hg7 hw7);have HAO7:=(show Hid _ from JJ hg7 HAO4.out HAP.out HOS.out HSF.out);have HAP7:=(show Hid _ from IE hg7 HAO4.out HAP.out HOS.out HSF.out);clear hw7 hg7)
      go_roundg (P.length-(i+1))
      case measure=>omega
      case rel=>exact⟨i+1,h7,A++[s],by omega,rfl,by simp[jZ,kq],by go_num,by show _=_;rw[List.length_append,HAl.out];rfl,HAO7,HAP7,by rw[Hd2.out,List.map_append];exact HG1,HM7⟩
    ·obtain⟨q,hq⟩:∃q,P.length=q+1:=⟨P.length-1,by omega⟩
     have hlt2:¬(i:Int)<(P.length:Int):=by omega
     have hwp:IntKind.i64.wrap ((P.length:Int)-1)=(q:Int):=by rw[IntKind.wrap_i64];omega
     have HG1:Hid (xL T S n P l tz (A.map (·.L))=V):=by have:=HG.out;rw[show P.length-i=0 by omega,rY]at this;exact this
     have HVE:Hid (xL T S n P l tz (A.map (·.L))=if(dB P q==0)=false then⟨l,2,11,tz.file,tz.line,tz.col⟩ else if mg (cm T S n) (eU A q).L=false then⟨l,2,12,tz.file,tz.line,tz.col⟩ else⟨l,4,0,⟨#[]⟩,0,0⟩):=by show _=_;unfold xL;rw[show P.length-1=q by omega,t9 A q (by rw[HAl.out];omega)]
     have hqA:q<A.length:=by rw[HAl.out];omega
     have hqAi:(q:Int)<(A.length:Int):=by omega
     have hqP:q<P.length:=by omega
     have hq0:(0:Int)<=(q:Int):=by omega
     clear hq HG;rw[HG1.out]at HVE;have HBG:=(show Hid _ from qG P hp.ao hp.cap 0 pf pl pc hPl HNd.out (q+1) q wr (by omega) hqP (cG.still HP.out HKr.out));generalize dB P q=bg at *
     have HBD:Hid (∀wx,ab [] w wx->Calls Tryz.prog 72 #[.pointer (some ⟨b,0,none⟩),.int .i64 (n:Int)] wx fun e w'=>∃h',e=.returned (.slice h'.ao (cm T S n).length h'.cap)/\sS wx w' h' (cm T S n)):=fun wx kx=>by
      have:=ki b n T aoT cT S aoS cS wx (eW.still HD.out kx) hn (by omega) (by rw[bC S n hn];exact HSE.out);rw[bC S n hn]at this;exact this
     have hXl:(cm T S n).length<=T.length:=jR T _;obtain⟨X,HXb⟩:∃X,Hid (cm T S n=X):=⟨_,rfl⟩
     rw[HXb.out]at HBD hXl HVE
     go_upto_region 22 with (go_at_call 132;refine Calls.mono HBG.out ?_;rintro e w4 ⟨rfl,k4⟩)
     have HBC:=(show Hid _ from HBD.out w4 (HKr.out.trans k4))
     go_upto_region 23 with (go_at_call 72;refine Calls.mono HBC.out ?_;rintro e w5 ⟨h5,rfl,x5⟩)
     have k5:=k4.trans x5.kept;have HV5:=(show Hid _ from HVr.out.still k5);obtain⟨gA,egA,hgA,cA0⟩:=cG.sl ((HW6.out.still k5).own.srcG sM) q hqA;have HSO:=(show Hid _ from(HAO.out (eU A q) (iJ A q hqA)).still k5);have HSA:=(show Hid _ from zE X (eU A q).L h5.ao (eU A q).ao h5.cap (eU A q).cap w5 x5.own.srcX HSO.out.x (by omega));generalize eU A q=s at *;obtain⟨sm,Hsm⟩:∃sm,Hid (mg X s.L=sm):=⟨_,rfl⟩
     rw[Hsm.out]at HSA HVE;rw[egA];clear k4 k5 x5 HBC HBG;clear e0 e1 e2 e3 e4 e5 r0 r1 r2 r3 r4 r5 f0 f1 f2 f3 f4 f5 hz2 z0 z1 z2 z3 z4 z5 y0 y1 y2 y3 y4 y5 hz1
     go_upto_region 24 with (go_at_call 133;refine Calls.mono HSA.out ?_;rintro e w6 ⟨rfl,k6⟩)
     have HV6:=(show Hid _ from HV5.out.still k6);clear k6 cA0 hgA HSA;obtain⟨e0,e1,e2,e3,e4,e5⟩:=HV6.out.prf;obtain⟨⟨r0,r1,r2,r3,r4,r5⟩,⟨f0,f1,f2,f3,f4,f5⟩,hz2⟩:=dH HV6.out.r;obtain⟨⟨z0,z1,z2,z3,z4,z5⟩,⟨y0,y1,y2,y3,y4,y5⟩,hz1⟩:=dH HV6.out.z;simp only at r0 r1 r2 r3 r4 r5;simp only at e0 e1 e2 e3 e4;obtain⟨gT,gs,rfl,rfl,hgT,hgs,hbz,c0,c1,q1,t2,t3,t4⟩:=HTZ.out w6 HV6.out.kept;have hni:(n:Int)<(S.length:Int):=by omega
     have hzi:(zt:Int)<(T.length:Int):=by omega
     obtain⟨ts,tr,tf,tl,tc⟩:=tz;simp only at t2 t3 t4 HVE;have HV7:Hid (xV w (((w6.setCell ⟨w.heap.size+2,3,none⟩ (.string tf)).setCell ⟨w.heap.size+2,4,none⟩ (.int .i64 tl)).setCell ⟨w.heap.size+2,5,none⟩ (.int .i64 tc)).drew ⟨P,0,pf,pl,pc⟩ hp ⟨l,2,0,tf,tl,tc⟩):=(((HV6.out.set (r':=⟨l,2,0,tf,pl,pc⟩) 3 (.string tf) rfl).set (r':=⟨l,2,0,tf,tl,pc⟩) 4 (.int .i64 tl) rfl).set (r':=⟨l,2,0,tf,tl,tc⟩) 5 (.int .i64 tc) rfl).still (ab.refl [] _).drew
     go_region
     obtain⟨X7,HX7⟩:∃X7,Hid ((((w6.setCell ⟨w.heap.size+2,3,none⟩ (.string tf)).setCell ⟨w.heap.size+2,4,none⟩ (.int .i64 tl)).setCell ⟨w.heap.size+2,5,none⟩ (.int .i64 tc)).drew=X7):=⟨_,rfl⟩
     rw[HX7.out]at HV7 ⊢;clear e0 e1 e2 e3 e4 e5 r0 r1 r2 r3 r4 r5 f0 f1 f2 f3 f4 f5 hz2 z0 z1 z2 z3 z4 z5 y0 y1 y2 y3 y4 y5 hz1;clear hgT hgs hbz c0 c1 q1 t2 t3 t4 HX7;obtain⟨e0,e1,e2,e3,e4,e5⟩:=HV7.out.prf;obtain⟨⟨r0,r1,r2,r3,r4,r5⟩,⟨f0,f1,f2,f3,f4,f5⟩,hz2⟩:=dH HV7.out.r;obtain⟨⟨z0,z1,z2,z3,z4,z5⟩,⟨y0,y1,y2,y3,y4,y5⟩,hz1⟩:=dH HV7.out.z;simp only at r0 r1 r2 r3 r4 r5;simp only at e0 e1 e2 e3 e4
     cases hbg:(bg==0)
     ·rw[hbg,if_pos rfl]at HVE
      have HX:Hid (V=⟨l,2,11,tf,tl,tc⟩):=HVE.out
      go_upto_region 27 with fail
      have HV8:Hid (xV w (X7.setCell ⟨w.heap.size+2,2,none⟩ (.int .i64 11)) ⟨P,0,pf,pl,pc⟩ hp ⟨l,2,11,tf,tl,tc⟩):=HV7.out.set 2 (.int .i64 11) rfl;obtain⟨X8,HX8⟩:∃X8,Hid (X7.setCell ⟨w.heap.size+2,2,none⟩ (.int .i64 11)=X8):=⟨_,rfl⟩
      rw[HX8.out]at HV8 ⊢;clear e0 e1 e2 e3 e4 e5 r0 r1 r2 r3 r4 r5 f0 f1 f2 f3 f4 f5 hz2 z0 z1 z2 z3 z4 z5 y0 y1 y2 y3 y4 y5 hz1;obtain⟨e0,e1,e2,e3,e4,e5⟩:=HV8.out.prf;obtain⟨⟨r0,r1,r2,r3,r4,r5⟩,⟨f0,f1,f2,f3,f4,f5⟩,hz2⟩:=dH HV8.out.r;obtain⟨⟨z0,z1,z2,z3,z4,z5⟩,⟨y0,y1,y2,y3,y4,y5⟩,hz1⟩:=dH HV8.out.z;simp only at r0 r1 r2 r3 r4 r5;go_wp2;obtain⟨x0,x1,x2,x3,x4,x5⟩:=me HV8.out.z (.string l) (.int .i64 2) (.int .i64 11) (.string tf) (.int .i64 tl) (.int .i64 tc);exact bodyPost_ret (v:=.agg #[.string l,.int .i64 2,.int .i64 11,.string tf,.int .i64 tl,.int .i64 tc]) (by simp[results,Tryz.results89,go_sem,x0,x1,x2,x3,x4,x5]) rfl ⟨by rw[HX.out];rfl,(((((HV8.out.kept.setCell (Or.inr (by simp)) _).setCell (Or.inr (by simp)) _).setCell (Or.inr (by simp)) _).setCell (Or.inr (by simp)) _).setCell (Or.inr (by simp)) _).setCell (Or.inr (by simp)) _⟩
     ·rw[hbg,if_neg (by simp)]at HVE
      cases sm
      ·rw[if_pos rfl]at HVE
       have HX:Hid (V=⟨l,2,12,tf,tl,tc⟩):=HVE.out
       go_upto_region 30 with fail
       have HV8:Hid (xV w (X7.setCell ⟨w.heap.size+2,2,none⟩ (.int .i64 12)) ⟨P,0,pf,pl,pc⟩ hp ⟨l,2,12,tf,tl,tc⟩):=HV7.out.set 2 (.int .i64 12) rfl;obtain⟨X8,HX8⟩:∃X8,Hid (X7.setCell ⟨w.heap.size+2,2,none⟩ (.int .i64 12)=X8):=⟨_,rfl⟩
       rw[HX8.out]at HV8 ⊢;clear e0 e1 e2 e3 e4 e5 r0 r1 r2 r3 r4 r5 f0 f1 f2 f3 f4 f5 hz2 z0 z1 z2 z3 z4 z5 y0 y1 y2 y3 y4 y5 hz1;obtain⟨e0,e1,e2,e3,e4,e5⟩:=HV8.out.prf;obtain⟨⟨r0,r1,r2,r3,r4,r5⟩,⟨f0,f1,f2,f3,f4,f5⟩,hz2⟩:=dH HV8.out.r;obtain⟨⟨z0,z1,z2,z3,z4,z5⟩,⟨y0,y1,y2,y3,y4,y5⟩,hz1⟩:=dH HV8.out.z;simp only at r0 r1 r2 r3 r4 r5;go_wp2;obtain⟨x0,x1,x2,x3,x4,x5⟩:=me HV8.out.z (.string l) (.int .i64 2) (.int .i64 12) (.string tf) (.int .i64 tl) (.int .i64 tc);exact bodyPost_ret (v:=.agg #[.string l,.int .i64 2,.int .i64 12,.string tf,.int .i64 tl,.int .i64 tc]) (by simp[results,Tryz.results89,go_sem,x0,x1,x2,x3,x4,x5]) rfl ⟨by rw[HX.out];rfl,(((((HV8.out.kept.setCell (Or.inr (by simp)) _).setCell (Or.inr (by simp)) _).setCell (Or.inr (by simp)) _).setCell (Or.inr (by simp)) _).setCell (Or.inr (by simp)) _).setCell (Or.inr (by simp)) _⟩
      ·rw[if_neg (by simp)]at HVE
       have HX:Hid (V=⟨l,4,0,⟨#[]⟩,0,0⟩):=HVE.out;go_wp2;obtain⟨x0,x1,x2,x3,x4,x5⟩:=me HV7.out.z (.string l) (.int .i64 4) (.int .i64 0) (.string ⟨#[]⟩) (.int .i64 0) (.int .i64 0);exact bodyPost_ret (v:=.agg #[.string l,.int .i64 4,.int .i64 0,.string ⟨#[]⟩,.int .i64 0,.int .i64 0]) (by simp[results,Tryz.results89,go_sem,x0,x1,x2,x3,x4,x5]) rfl ⟨by rw[HX.out];rfl,(((((HV7.out.kept.setCell (Or.inr (by simp)) _).setCell (Or.inr (by simp)) _).setCell (Or.inr (by simp)) _).setCell (Or.inr (by simp)) _).setCell (Or.inr (by simp)) _).setCell (Or.inr (by simp)) _⟩
  ·rw[hh,if_pos (by omega),Int.toNat_natCast]at HVD
   rw[hh];have hk0:(0:Int)<=(k:Int):=by omega
   have hkl:(k:Int)<(P.length:Int):=by omega
   have HX:Hid (V=⟨l,3,0,(bG P k).file,(bG P k).line,(bG P k).col⟩):=HVD.out;obtain⟨gP,egP,hgP,-,-,-,q3,q4,q5⟩:=cG.step (cG.still HP.out HV3.out.kept) k hk
   have HQ:Hid (∀wx:World,ab [] w wx->gP<wx.heap.size/\wx.cell? ⟨gP,k*6+3,none⟩=some (.string (bG P k).file)/\wx.cell? ⟨gP,k*6+4,none⟩=some (.int .i64 (bG P k).line)/\wx.cell? ⟨gP,k*6+5,none⟩=some (.int .i64 (bG P k).col)):=fun wx kx=>by
    obtain⟨g2,e2,h2,-,-,-,c3,c4,c5⟩:=cG.step (cG.still HP.out kx) k hk;rw[egP]at e2
    cases e2
    exact⟨h2,c3,c4,c5⟩
   generalize (bG P k).file=sf at *;generalize (bG P k).line=sl at *;generalize (bG P k).col=sc at *;clear hgP q3 q4 q5
   go_upto_region 8 with fail
   have HV4:Hid (xV w (w3.setCell ⟨w.heap.size+2,1,none⟩ (.int .i64 3)) ⟨P,0,pf,pl,pc⟩ hp ⟨l,3,0,pf,pl,pc⟩):=HV3.out.set 1 (.int .i64 3) rfl;obtain⟨X4,HX4⟩:∃X4,Hid (w3.setCell ⟨w.heap.size+2,1,none⟩ (.int .i64 3)=X4):=⟨_,rfl⟩
   rw[HX4.out]at HV4 ⊢;clear e0 e1 e2 e3 e4 e5 r0 r1 r2 r3 r4 r5 f0 f1 f2 f3 f4 f5 hz2 z0 z1 z2 z3 z4 z5 y0 y1 y2 y3 y4 y5 hz1;obtain⟨e0,e1,e2,e3,e4,e5⟩:=HV4.out.prf;obtain⟨⟨r0,r1,r2,r3,r4,r5⟩,⟨f0,f1,f2,f3,f4,f5⟩,hz2⟩:=dH HV4.out.r;obtain⟨⟨z0,z1,z2,z3,z4,z5⟩,⟨y0,y1,y2,y3,y4,y5⟩,hz1⟩:=dH HV4.out.z;simp only at r0 r1 r2 r3 r4 r5;simp only at e0 e1 e2 e3 e4;obtain⟨hgP,q3,q4,q5⟩:=HQ.out X4 HV4.out.kept;rw[egP]at e0
   go_upto_region 9 with fail
   have HV5:Hid (xV w (((X4.setCell ⟨w.heap.size+2,3,none⟩ (.string sf)).setCell ⟨w.heap.size+2,4,none⟩ (.int .i64 sl)).setCell ⟨w.heap.size+2,5,none⟩ (.int .i64 sc)) ⟨P,0,pf,pl,pc⟩ hp ⟨l,3,0,sf,sl,sc⟩):=((HV4.out.set (r':=⟨l,3,0,sf,pl,pc⟩) 3 (.string sf) rfl).set (r':=⟨l,3,0,sf,sl,pc⟩) 4 (.int .i64 sl) rfl).set 5 (.int .i64 sc) rfl;obtain⟨X5,HX5⟩:∃X5,Hid (((X4.setCell ⟨w.heap.size+2,3,none⟩ (.string sf)).setCell ⟨w.heap.size+2,4,none⟩ (.int .i64 sl)).setCell ⟨w.heap.size+2,5,none⟩ (.int .i64 sc)=X5):=⟨_,rfl⟩
   rw[HX5.out]at HV5 ⊢;clear e0 e1 e2 e3 e4 e5 r0 r1 r2 r3 r4 r5 f0 f1 f2 f3 f4 f5 hz2 z0 z1 z2 z3 z4 z5 y0 y1 y2 y3 y4 y5 hz1;obtain⟨e0,e1,e2,e3,e4,e5⟩:=HV5.out.prf;obtain⟨⟨r0,r1,r2,r3,r4,r5⟩,⟨f0,f1,f2,f3,f4,f5⟩,hz2⟩:=dH HV5.out.r;obtain⟨⟨z0,z1,z2,z3,z4,z5⟩,⟨y0,y1,y2,y3,y4,y5⟩,hz1⟩:=dH HV5.out.z;simp only at r0 r1 r2 r3 r4 r5;go_wp2;obtain⟨x0,x1,x2,x3,x4,x5⟩:=me HV5.out.z (.string l) (.int .i64 3) (.int .i64 0) (.string sf) (.int .i64 sl) (.int .i64 sc);exact bodyPost_ret (v:=.agg #[.string l,.int .i64 3,.int .i64 0,.string sf,.int .i64 sl,.int .i64 sc]) (by simp[results,Tryz.results89,go_sem,x0,x1,x2,x3,x4,x5]) rfl ⟨by rw[HX.out];rfl,(((((HV5.out.kept.setCell (Or.inr (by simp)) _).setCell (Or.inr (by simp)) _).setCell (Or.inr (by simp)) _).setCell (Or.inr (by simp)) _).setCell (Or.inr (by simp)) _).setCell (Or.inr (by simp)) _⟩
structure fI(w:World)(v:Nat)(fs:Fs)(h:Hd)(on:Bool)(p2 p3 p4:Value):Prop where
 d:w.heap[v]?=some (.cells #[.slice h.ao fs.length h.cap,.bool on,p2,p3,p4] 85 (0,0))
 own:aA w h (b8 fs)
 far:h.blk≠some v
 le:fs.length<=4
theorem fI.still{w w':World}{v:Nat}{fs:Fs}{h:Hd}{on:Bool}{p2 p3 p4:Value}(a:fI w v fs h on p2 p3 p4)(k:ab [] w w'):fI w' v fs h on p2 p3 p4 :=
 ⟨k.get a.d (by simp),a.own.still k,a.far,a.le⟩
def cW(w:World)(v:Nat)(h:Hd)(fs:Fs):Prop:=∃on p2 p3 p4,fI w v fs h on p2 p3 p4
theorem fI.keptS{S:List Nat}{w w':World}{v:Nat}{fs:Fs}{h:Hd}{on:Bool}{p2 p3 p4:Value}(a:fI w v fs h on p2 p3 p4)(k:ab S w w')(hv:v∉S)(hh:∀q,h.blk=some q->q∉S):fI w' v fs h on p2 p3 p4 :=
 ⟨k.get a.d hv,a.own.moved (fun q hq=>k.block q (a.own.lt hq) (hh q hq)),a.far,a.le⟩
theorem aA.putAt{w:World}{h:Hd}{r:dK}(o:aA w h r){g:Nat}(hg:h.ao=some ⟨g,0,none⟩)(j:Nat)(v:Value):aA (w.setCell ⟨g,j,none⟩ v) h ⟨r.e,r.size,r.n,r.xs.set j v⟩:=by
 refine⟨by rw[List.length_set];exact o.1,?_⟩
 rcases o.2 with ⟨hv,hn⟩ | ⟨g',cap,cur,hv,hb,hh,h1,h2,h3,h4⟩
 ·injection hv with a1
  rw[a1]at hg;cases hg
 ·injection hv with a1 a2 a3
  rw[a1]at hg
  cases hg
  refine Or.inr ⟨g,cap,cur.setIfInBounds j v,by rw[a1,a3],hb,by rw[ah hh],h1,h2,by rw[Array.size_setIfInBounds];exact h3,?_⟩;rw[Array.toList_setIfInBounds]
  show(cur.toList.set j v).take (r.n*r.size)=r.xs.set j v
  rw[<-h4,List.take_set]
theorem aA.srcFi{w:World}{h:Hd}{fs:Fs}(o:aA w h (b8 fs)):lO w h.ao h.cap fs:=by
 refine⟨?_,fun k hk=>?_⟩
 ·rcases o.ways with ⟨e,h0,_⟩ | ⟨g,cur,e1,e2,e3,-⟩
  ·have h0:fs.length=0:=h0
   omega
  ·exact e3
 ·obtain⟨g,eg,hg,-⟩:=oe o (show 0<fs.length by omega)
  obtain⟨h1,h2⟩:=tH fs k hk;exact⟨g,eg,hg,o.cell eg (k*2) _ h1,o.cell eg (k*2+1) _ h2⟩
theorem Eg(w:World) :
  Calls Tryz.prog 28 #[] w fun e w'=>e=.returned (.pointer (some ⟨w.heap.size,0,none⟩))/\fI w' w.heap.size [] ⟨none,0⟩ false (.pointer none) (.slice none 0 0) (.slice none 0 0)/\ab [] w w':=by
 have HR:Hid (fI (w.alloc (.cells #[.slice none 0 0,.bool false,.pointer none,.slice none 0 0,.slice none 0 0] 85)) w.heap.size [] ⟨none,0⟩ false (.pointer none) (.slice none 0 0) (.slice none 0 0)):=⟨heap_alloc_new _ _,World.ownsRow_nil _ _ _ _,(by intro e;cases e),by simp⟩;go_enter Tryz.func28,Tryz.ntmps28;go_wp2;go_ret;exact⟨rfl,HR.out,(ab.refl [] _).alloc _⟩
def Li(w:World)(v:Nat)(fs:Fs)(h:Hd)(n d:ByteArray)(p2 p3 p4:Value)(e:Ending)(w':World):Prop :=
 e=.returned (.int .i64 (gy fs n d).1)/\∃h' on',fI w' v (gy fs n d).2 h' on' p2 p3 p4/\qA w w' v h h'
theorem fI.off{w:World}{v:Nat}{fs:Fs}{h:Hd}{on:Bool}{p2 p3 p4:Value}(a:fI w v fs h on p2 p3 p4):fI (w.setCell ⟨v,1,none⟩ (.bool false)) v fs h false p2 p3 p4:=by
 have k:ab [v] w (w.setCell ⟨v,1,none⟩ (.bool false)):=(ab.refl _ _).setCell (Or.inl (by simp)) _;exact⟨by rw[ah a.d];rfl,a.own.moved (fun q hq=>k.block q (a.own.lt hq) (by simp;intro e;exact a.far (by rw[<-e];exact hq))),a.far,a.le⟩
theorem qA.set{w w':World}{v:Nat}{h h':Hd}(r:qA w w' v h h')(i:Nat)(u:Value):qA w (w'.setCell ⟨v,i,none⟩ u) v h h':=⟨r.kept.setCell (Or.inl (by simp)) _,r.blk⟩
theorem fI.grown{W w5:World}{v:Nat}{fs fs':Fs}{h h5:Hd}{on:Bool}{p2 p3 p4:Value}(a:fI W v fs h on p2 p3 p4)(g:bh W w5 h h5)(o:aA w5 h5 (b8 fs'))(hl:fs'.length<=4){m:Nat}(hm:m=fs'.length):fI (w5.setCell ⟨v,0,none⟩ (.slice h5.ao m h5.cap)) v fs' h5 on p2 p3 p4:=by
 have d5:=g.kept.get a.d (fun hq=>a.far (aK hq));have hz:=ae a.d
 have far5:h5.blk≠some v:=by
  rcases g.blk with e | ⟨q,e,hq⟩
  ·rw[e];exact a.far
  ·rw[e];intro x;cases x;omega
 have k:ab [v] w5 (w5.setCell ⟨v,0,none⟩ (.slice h5.ao m h5.cap)):=(ab.refl _ _).setCell (Or.inl (by simp)) _;subst hm;exact⟨by rw[ah d5];rfl,o.moved (fun q hq=>k.block q (o.lt hq) (by simp;intro e;exact far5 (by rw[<-e];exact hq))),far5,hl⟩
theorem fI.wrote{W:World}{v g k:Nat}{fs:Fs}{h:Hd}{on:Bool}{p2 p3 p4:Value}(a:fI W v fs h on p2 p3 p4)(hg:h.ao=some ⟨g,0,none⟩)(hk:k<fs.length)(n d:ByteArray):fI ((W.setCell ⟨g,k*2,none⟩ (.string n)).setCell ⟨g,k*2+1,none⟩ (.string d)).drew v (fs.set k (n,d)) h on p2 p3 p4:=by
 have hb:h.blk=some g:=by unfold Hd.blk;rw[hg];rfl
 have kk:ab [g] W ((W.setCell ⟨g,k*2,none⟩ (.string n)).setCell ⟨g,k*2+1,none⟩ (.string d)).drew:=(((ab.refl _ _).setCell (Or.inl (by simp)) _).setCell (Or.inl (by simp)) _).drew
 have o2:aA ((W.setCell ⟨g,k*2,none⟩ (.string n)).setCell ⟨g,k*2+1,none⟩ (.string d)) h (b8 (fs.set k (n,d))):=by
  have:=(a.own.putAt hg (k*2) (.string n)).putAt hg (k*2+1) (.string d)
  have e:(⟨(b8 fs).e,(b8 fs).size,(b8 fs).n,((b8 fs).xs.set (k*2) (.string n)).set (k*2+1) (.string d)⟩:dK)=b8 (fs.set k (n,d)):=by
   simp only[b8,List.length_set];rw[CD fs k n d hk]
  rw[e]at this;exact this
 refine⟨?_,o2.still (ab.refl [] _).drew,a.far,by rw[List.length_set];exact a.le⟩;rw[List.length_set];exact kk.get a.d (by simp;intro e;exact a.far (by rw[hb,e]))
set_option maxRecDepth 100000 in
theorem Ev(v:Nat)(fs:Fs)(h:Hd)(on:Bool)(p2 p3 p4:Value)(n d:ByteArray)(w:World)(hR:fI w v fs h on p2 p3 p4)(hn:n.size<=1073741824)(hd:d.size<=4294967296) :
  Calls Tryz.prog 15 #[.pointer (some ⟨v,0,none⟩),.string n,.string d] w fun e w'=>Li w v fs h n d p2 p3 p4 e w':=by
 have HF:Hid (Calls Tryz.prog 34 #[.string n,.string d] w fun e w'=>e=.returned (.int .i64 (cn n d))/\w'=w):=yI n d w hn hd
 cases hc:(cn n d==0)
 ·have HE:Hid (gy fs n d=(cn n d,fs)):=by show _=_;unfold gy;rw[if_pos (by simpa using hc)]
  have HR:=(show Hid _ from hR);generalize cn n d=c at *;go_enter Tryz.func15,Tryz.ntmps15;go_wp2_with (go_at_call 34;refine Calls.mono HF.out ?_;rintro e w1 ⟨rfl,hw1⟩;rw[hw1];clear hw1);go_ret;exact⟨by rw[HE.out];rfl,h,on,by rw[HE.out];exact HR.out,qA.refl _ _ _⟩
 ·have hc0:cn n d=0:=by simpa using hc
  rw[hc0]at HF;obtain⟨W,HW⟩:∃W,Hid (w.alloc (.cells #[.string n,.string d] 68)=W):=⟨_,rfl⟩
  have kW:ab [] w W:=by rw[<-HW.out];exact(ab.refl [] _).alloc _
  have BW:W.heap[w.heap.size]?=some (.cells #[.string n,.string d] 68 (0,0)):=by rw[<-HW.out];exact heap_alloc_new _ _
  have hRW:=hR.still kW;have HRW:=(show Hid _ from hRW);have c0:W.cell? ⟨v,0,none⟩=some (.slice h.ao fs.length h.cap):=by rw[aa hRW.d];rfl
  have c1:W.cell? ⟨v,1,none⟩=some (.bool on):=by rw[aa hRW.d];rfl
  have f0:=ak hRW.d 0;have f1:=ak hRW.d 1;have z0:=ae hRW.d;have b0:W.cell? ⟨w.heap.size,0,none⟩=some (.string n):=by rw[aa BW];rfl
  have b1:W.cell? ⟨w.heap.size,1,none⟩=some (.string d):=by rw[aa BW];rfl
  have zb:=ae BW;have HKW:=(show Hid _ from kW);have hle:=hR.le;have HFN:=(show Hid _ from kT fs h.ao h.cap n W (by omega) hRW.own.srcFi);clear hRW hR kW BW hc;obtain⟨m,Hm⟩:∃m,Hid (fs.length=m):=⟨_,rfl⟩
  rw[Hm.out]at c0 HFN hle
  rcases nE n fs with hf | ⟨k,hk,hf⟩
  ·rw[hf]at HFN
   by_cases hl:m=4
   ·have HE:Hid (gy fs n d=(1,fs)):=by show _=_;unfold gy;rw[if_neg (by simpa using hc0),hf,if_neg (by omega),if_pos (by rw[Hm.out];omega)]
    subst hl;clear hf hc0;go_enter Tryz.func15,Tryz.ntmps15
    go_upto_region 5 with (go_at_call 34;refine Calls.mono HF.out ?_;rintro e w1 ⟨rfl,hw1⟩;rw[hw1];clear hw1)
    rw[HW.out];go_wp2_with (go_at_call 35;refine Calls.mono HFN.out ?_;rintro e w1 ⟨rfl,hw1⟩;rw[hw1];clear hw1);go_ret;exact⟨by rw[HE.out];rfl,h,on,by rw[HE.out];exact HRW.out,qA.of (bh.still HKW.out)⟩
   ·have HE:Hid (gy fs n d=(0,fs++[(n,d)])):=by show _=_;unfold gy;rw[if_neg (by simpa using hc0),hf,if_neg (by omega),if_neg (by rw[Hm.out];omega)]
    have hli:((m:Int)==4)=false:=by simp;omega
    have HL0:Hid ((b8 fs).n=m):=Hm.out;clear hf hc0;obtain⟨i0,hi,hz0,hz1,hz2⟩:=info_parts xc;have hD:Hid (fI (W.alloc (.cells #[.string n,.string d] 68)).drew v fs h on p2 p3 p4):=HRW.out.still ((ab.refl [] W).alloc _).drew
    have s2:Hid (∀j u,([.string n,.string d]:List Value)[j]?=some u->(W.alloc (.cells #[.string n,.string d] 68)).drew.cell? ((⟨W.heap.size,0,none⟩:Addr).add j)=some u):=by
     intro j u hj;rw[bK];have hk:(W.alloc (.cells #[.string n,.string d] 68)).drew.heap[W.heap.size]?=some (.cells #[.string n,.string d] 68 (0,0)):=heap_alloc_new _ _;rw[aa hk];simpa using hj
    have s3:Hid (∀u∈([.string n,.string d]:List Value),u.oneCell'=true):=by intro u hu;simp only[List.mem_cons,List.not_mem_nil,or_false]at hu;rcases hu with rfl | rfl <;> rfl
    have s4:Hid ((b8 fs).n+1<=maxLen):=by show _<=_;rw[HL0.out];unfold maxLen;omega
    have s5:Hid (((b8 fs).n+1)*32<=140737488355328):=by show _<=_;rw[HL0.out];omega
    go_enter Tryz.func15,Tryz.ntmps15
    go_upto_region 5 with (go_at_call 34;refine Calls.mono HF.out ?_;rintro e w1 ⟨rfl,hw1⟩;rw[hw1];clear hw1)
    rw[HW.out]
    go_upto_region 9 with (go_at_call 35;refine Calls.mono HFN.out ?_;rintro e w1 ⟨rfl,hw1⟩;rw[hw1];clear hw1)
    go_region_law (refine ce rfl (.tmp 41) (.tmp 43) 33 rfl i0 (.agg #[.string ⟨#[]⟩,.string ⟨#[]⟩]) 32 h (b8 fs) Tryz.underlying33 hi hz0 hz1 hz2 rfl (show 0<2 by omega) (by rw[HL0.out];simp[Act.eval]) hD.out.own ⟨W.heap.size,0,none⟩ 1 1 [.string n,.string d] (by simp[Act.eval]) rfl s2.out s3.out Nat.one_pos s4.out s5.out ?_;intro g5 cap5 w5 hw5 hgr5 hf5;have G5:=(show Hid (bh W w5 h ⟨some ⟨g5,0,none⟩,cap5⟩) from(bh.still ((ab.refl [] W).alloc _).drew).trans (bh.made hgr5 (by simpa using hf5)));have d5:=G5.out.kept.get HRW.out.d (fun hq=>HRW.out.far (aK hq));have e5:=ak d5 0;have e6:w5.cell? ⟨v,0,none⟩=some (.slice h.ao m h.cap):=(by rw[aa d5,<-Hm.out];rfl);have z5:=ae d5)
    all_goals
     have hw6:aA w5 ⟨some ⟨g5,0,none⟩,cap5⟩ (b8 (fs++[(n,d)])):=by rw[<-ut];exact hw5
     have HA:=(show Hid _ from HRW.out.grown (m:=(b8 fs).n+1) G5.out hw6 (by simp;rw[Hm.out];omega) (by simp[b8]));obtain⟨X,HX⟩:∃X,Hid (w5.setCell ⟨v,0,none⟩ (.slice (some ⟨g5,0,none⟩) ((b8 fs).n+1) cap5)=X):=⟨_,rfl⟩
     have HRX:=(show Hid (qA w X v h ⟨some ⟨g5,0,none⟩,cap5⟩) by rw[<-HX.out];exact((qA.of (bh.still HKW.out)).trans (qA.of G5.out)).set 0 _);rw[HX.out]at HA ⊢;have x1:=ak HA.out.d 1;have x2:X.cell? ⟨v,1,none⟩=some (.bool on):=by rw[aa HA.out.d];rfl
     have x3:=ae HA.out.d;clear hw5 hgr5 hf5 d5 e5 e6 z5 hw6 c0 c1 f0 f1 HX;go_wp2;go_ret;exact⟨by rw[HE.out];rfl,_,false,by rw[HE.out];exact HA.out.off,HRX.out.set 1 _⟩
  ·have HE:Hid (gy fs n d=(0,fs.set k (n,d))):=by show _=_;unfold gy;rw[if_neg (by simpa using hc0),hf,if_pos (by omega),Int.toNat_natCast]
   rw[hf]at HFN;obtain⟨g,eg,hgW,hgc⟩:=oe HRW.out.own (show 0<fs.length by omega);obtain⟨g',e2,-,q0,q1⟩:=HRW.out.own.srcFi.2 k hk;rw[eg]at e2
   cases e2
   have HA:=(show Hid _ from HRW.out.wrote eg hk n d);have hki:(k:Int)<(m:Int):=by rw[Hm.out]at hk;omega
   have hk0:(0:Int)<=(k:Int):=by omega
   have hkl:¬(k:Int)<0:=by omega
   have u0:W.frozen? ⟨g,k*2,none⟩=false/\W.frozen? ⟨g,k*2+1,none⟩=false:=by
    rcases HRW.out.own.ways with ⟨e,-,-⟩ | ⟨g2,cur,e1,e2,-⟩
    ·rw[e]at eg;cases eg
    ·rw[eg]at e1;cases e1
     exact⟨ak e2 _,ak e2 _⟩
   obtain⟨u0,u1⟩:=u0
   have HRX:Hid (qA w ((W.setCell ⟨g,k*2,none⟩ (.string n)).setCell ⟨g,k*2+1,none⟩ (.string d)).drew v h h):=by
    have hb:h.blk=some g:=by unfold Hd.blk;rw[eg];rfl
    have:=HKW.out.mono (S':=v :: h.blk.toList) (by simp);exact⟨((this.setCell (Or.inl (by rw[hb];simp)) _).setCell (Or.inl (by rw[hb];simp)) _).drew,Or.inl rfl⟩
   rw[eg]at c0 HFN;clear hf hc0;go_enter Tryz.func15,Tryz.ntmps15
   go_upto_region 5 with (go_at_call 34;refine Calls.mono HF.out ?_;rintro e w1 ⟨rfl,hw1⟩;rw[hw1];clear hw1)
   rw[HW.out]
   go_upto_region 10 with (go_at_call 35;refine Calls.mono HFN.out ?_;rintro e w1 ⟨rfl,hw1⟩;rw[hw1];clear hw1)
   go_region
   obtain⟨X,HX⟩:∃X,Hid (((W.setCell ⟨g,k*2,none⟩ (.string n)).setCell ⟨g,k*2+1,none⟩ (.string d)).drew=X):=⟨_,rfl⟩
   rw[HX.out]at HA HRX ⊢;have x1:=ak HA.out.d 1;have x2:X.cell? ⟨v,1,none⟩=some (.bool on):=by rw[aa HA.out.d];rfl
   have x3:=ae HA.out.d;clear c0 c1 f0 f1 HX q0 q1 u0 u1;go_wp2;go_ret;exact⟨by rw[HE.out];rfl,_,false,by rw[HE.out];exact HA.out.off,HRX.out.set 1 _⟩
end Go.Proofs.YtpddjjabfbfifaaGreat
