import Derived.Test.YtpddjjabfbfifaaGreatG25
namespace Go.Proofs.YtpddjjabfbfifaaGreat
open Go.RowKit
set_option maxHeartbeats 40000000
def lE(T:List Tk)(S:List Sm)(a zt:Nat):Nat->Nat->List cQ->jD
 | 0,_,P=>if P.length=0 then lP 1 (AW (T.getD zt ic)) else⟨P,0,⟨#[]⟩,0,0⟩
 | n+1,i,P =>
  if((tS T i).toList == [63])=true then lE T S a zt n (i+1) (P++[⟨-1,0,0,(T.getD i ic).file,(T.getD i ic).line,(T.getD i ic).col⟩])
  else if dX T S a (tS T i)<0 then lP 2 (AW (T.getD i ic))
  else lE T S a zt n (i+1) (P++[⟨dX T S a (tS T i),0,gx T S (dX T S a (tS T i)),(T.getD i ic).file,(T.getD i ic).line,(T.getD i ic).col⟩])
def fa(T:List Tk)(S:List Sm)(a e zt:Nat):jD:=if((tS T (e+1)).toList == [40])=true then iQ T S a (e+2) zt else lE T S a zt (zt-(e+1)) (e+1) []
structure JT(w wr:World)(P:List cQ)(h:Hd):Prop where
 r:wr.heap[w.heap.size]?=some (.cells #[.slice none 0 0,.int .i64 0,.string ⟨#[]⟩,.int .i64 0,.int .i64 0] 122 (0,0))
 p:wr.heap[w.heap.size+1]?=some (.cells #[.slice h.ao P.length h.cap,.int .i64 0,.string ⟨#[]⟩,.int .i64 0,.int .i64 0] 122 (0,0))
 op:aA wr h (dN P)
 fp:∀k,h.blk=some k->w.heap.size+1<k
 kept:ab [] w wr
theorem JT.still{w wr wr':World}{P:List cQ}{h:Hd}(a:JT w wr P h)(k:ab [] wr wr'):JT w wr' P h:=⟨k.get a.r (by simp),k.get a.p (by simp),a.op.still k,a.fp,a.kept.trans k⟩
theorem JT.addP{w wr w5:World}{P P':List cQ}{h h5:Hd}(a:JT w wr P h)(g:bh wr w5 h h5)(o:aA w5 h5 (dN P')){m:Nat}(hm:m=P'.length):JT w (w5.setCell ⟨w.heap.size+1,0,none⟩ (.slice h5.ao m h5.cap)) P' h5:=by
 subst hm;have no:∀q,q<=w.heap.size+1->q∉h.blk.toList:=fun q hq hm=>by have:=a.fp q (aK hm);omega
 have hz:=ae a.p;have r5:=g.kept.get a.r (no _ (by omega));have p5:=g.kept.get a.p (no _ (by omega))
 have fp5:∀k,h5.blk=some k->w.heap.size+1<k:=fun k hk=>by
  rcases g.blk with e | ⟨q,e,hq⟩
  ·exact a.fp k (by rw[<-e];exact hk)
  ·rw[e]at hk;cases hk;omega
 have kS:ab [w.heap.size+1] w5 (w5.setCell ⟨w.heap.size+1,0,none⟩ (.slice h5.ao P'.length h5.cap)):=(ab.refl _ _).setCell (Or.inl (by simp)) _;have k5:ab [] w w5:=nI g.kept (fun q hq=>by have:=a.fp q (aK hq);omega) a.kept;exact⟨kS.get r5 (by simp),by rw[ah p5];rfl,o.moved (fun q hq=>kS.block q (o.lt hq) (by simp;have:=fp5 q hq;omega)),fp5,k5.setCell (Or.inr (by simp)) _⟩
set_option maxRecDepth 100000 in
theorem At(b n e zt:Nat)(T:List Tk)(aoT:Option Addr)(cT:Nat)(S:List Sm)(aoS:Option Addr)(cS:Nat)(w:World)(hD:eW w b T aoT cT S aoS cS)(ok:mx T S n)(hn:n<S.length)(hE:eD T (au S n).h)(hO:ev T)
  (he1:(au S n).h<=e) (he2:((tS T e).toList == [36,61])=true) (he3:∀q,(au S n).h<=q->q<e->((tS T q).toList == [36,61])=false) (hto:(au S n).z=zt+1) (het:e<zt) (htT:zt<T.length) (hdot:((tS T zt).toList == [36,46])=true) :
  Calls Tryz.prog 88 #[.pointer (some ⟨b,0,none⟩),.int .i64 n] w fun en w'=>mv w (fa T S n e zt) en w':=by
 obtain⟨W,HW⟩:∃W,Hid (w.alloc (.cells #[.slice none 0 0,.int .i64 0,.string ⟨#[]⟩,.int .i64 0,.int .i64 0] 122)=W):=⟨_,rfl⟩
 have BW:W.heap[w.heap.size]?=some (.cells #[.slice none 0 0,.int .i64 0,.string ⟨#[]⟩,.int .i64 0,.int .i64 0] 122 (0,0)):=by rw[<-HW.out];exact heap_alloc_new _ _
 have HKW:Hid (ab [] w W):=by show ab [] w W;rw[<-HW.out];exact(ab.refl [] _).alloc _
 have hWz:W.heap.size=w.heap.size+1:=by rw[<-HW.out];simp
 have HDW:=(show Hid _ from hD.still HKW.out);have HD0:=(show Hid _ from hD);have HOK:=(show Hid _ from ok);have HTK:=(show Hid _ from hO);have hT2:=ok.tm;have hS2:=ok.sm;have hni:(n:Int)<(S.length:Int):=by omega
 have HB:=(show Hid _ from BW);have HEQ:=(show Hid _ from he3);have HSE:=(show Hid _ from hE);obtain⟨iP,hiP,hzP0,hzP1,hzP2⟩:=info_parts Gx;obtain⟨c0,c1,hb⟩:=HDW.out.cells;obtain⟨gS,rfl,hgS,-,q1,q2,-⟩:=HDW.out.s.2 n S[n] (List.getElem?_eq_getElem hn);rw[bC S n hn]at q1 q2;rw[hto]at q1;obtain⟨gT,rfl,hgT,-⟩:=HDW.out.t.2 e _ (gg T e (by omega));obtain⟨hd,Hhd⟩:∃hd,Hid ((au S n).h=hd):=⟨_,rfl⟩
 rw[Hhd.out]at q2 he1 HEQ;clear hD ok hO he3 hE Hhd;have hc1:((zt+1:Nat):Int)=(zt:Int)+1:=by omega
 rw[hc1]at q1;go_enter Tryz.func88,Tryz.ntmps88
 go_upto_region 1 with fail
 rw[HW.out];go_wp2
 go_loopg [5] (e-hd) (fun g i wr=>∃k:Nat,(hd<=k/\k<=e)/\g=e-k/\i=.int .i64 k/\wr=W)
 case atStart=>exact⟨hd,⟨by omega,by omega⟩,rfl,rfl,rfl⟩
 case round =>
  obtain⟨k,⟨hk1,hk2⟩,hg,rfl,rfl⟩:=hrel;have hki:(k:Int)<(T.length:Int):=by omega
  obtain⟨gT2,e2,-,t0,-⟩:=HDW.out.t.2 k _ (gg T k (by omega))
  cases e2
  replace t0:wr.cell? ⟨gT,k*5,none⟩=some (.string (tS T k)):=t0
  by_cases hke:k<e
  ·have hx:=HEQ.out k hk1 hke
   generalize tS T k=x at *;go_wp2
   go_roundg (e-(k+1))
   case measure=>omega
   case rel=>exact⟨k+1,⟨by omega,by omega⟩,rfl,by go_num,rfl⟩
  ·have ek:k=e:=by omega
   subst ek;obtain⟨gT3,e3,-,u0,-⟩:=HDW.out.t.2 (k+1) _ (gg T (k+1) (by omega))
   cases e3
   replace u0:wr.cell? ⟨gT,(k+1)*5,none⟩=some (.string (tS T (k+1))):=u0;have hki1:(k:Int)+1<(T.length:Int):=by omega
   have HPK:Hid (((tS T (k+1)).toList == [40])=true->Calls Tryz.prog 127 #[.pointer (some ⟨b,0,none⟩),.int .i64 n,.int .i64 ((k:Int)+1+1),.int .i64 zt] wr fun en w'=>mv wr (iQ T S n (k+2) zt) en w'):=fun h=>by
    have hne:k+1≠zt:=fun e=>by
     rw[<-e]at hdot;have a1:(tS T (k+1)).toList=[40]:=by simpa using h
     rw[a1]at hdot;exact absurd hdot (by decide)
    have:=Bh b n (k+2) zt T _ cT S _ cS wr HDW.out HOK.out hn HSE.out HTK.out (by omega) htT;rw[show((k+2:Nat):Int)=(k:Int)+1+1 by omega]at this;exact this
   have HDF:Hid (fa T S n k zt=if((tS T (k+1)).toList == [40])=true then iQ T S n (k+2) zt else lE T S n zt (zt-(k+1)) (k+1) []):=rfl;obtain⟨x,Hx⟩:∃x,Hid (tS T (k+1)=x):=⟨_,rfl⟩
   rw[Hx.out]at u0 HPK HDF;generalize tS T k=y at *
   cases hx:(x.toList == [40])
   ·rw[if_neg (by rw[hx];simp)]at HDF
    have S0:Hid (JT w (wr.alloc (.cells #[.slice none 0 0,.int .i64 0,.string ⟨#[]⟩,.int .i64 0,.int .i64 0] 122)) [] ⟨none,0⟩):=⟨((ab.refl [] _).alloc _).get HB.out (by simp),by rw[<-hWz];exact heap_alloc_new _ _,World.ownsRow_nil _ _ _ _,(by intro k hk;cases hk),HKW.out.alloc _⟩;have HP0:Hid (lE T S n zt (zt-(k+1)) (k+1) []=fa T S n k zt):=HDF.out.symm;go_wp2
    go_loopg [8] (zt-(k+1)) (fun g i w1=>∃(m:Nat) (h:Hd) (P:List cQ),(k+1<=m/\m<=zt)/\g=zt-m/\i=.int .i64 m/\P.length<=m/\Hid (lE T S n zt (zt-m) m P=fa T S n k zt)/\Hid (JT w w1 P h))
    case atStart=>exact⟨k+1,⟨none,0⟩,[],⟨by omega,by omega⟩,rfl,by go_num,Nat.zero_le _,HP0,S0⟩
    case round =>
     obtain⟨m,h,P,⟨hm1,hm2⟩,hg2,rfl,hPl,HE2,HWr⟩:=hrel;have HKw:=(show Hid _ from HWr.out.kept);have HDr:=(show Hid _ from eW.still HD0.out HKw.out);clear c0 c1 hb q1 q2 hgS hgT t0 u0;obtain⟨c0,-,hb⟩:=HDr.out.cells
     by_cases hlt:m<zt
     ·have hmi:(m:Int)<(zt:Int):=by omega
      have hmi2:(m:Int)<(T.length:Int):=by omega
      obtain⟨gT4,e4,hgT,u0,-⟩:=HDr.out.t.2 m _ (gg T m (by omega))
      cases e4
      replace u0:wr.cell? ⟨gT,m*5,none⟩=some (.string (tS T m)):=u0;obtain⟨f,hf⟩:∃f,zt-m=f+1:=⟨zt-m-1,by omega⟩
      have hf2:zt-(m+1)=f:=by omega
      rw[hf,lE]at HE2;have HUS:Hid (Calls Tryz.prog 128 #[.pointer (some ⟨b,0,none⟩),.int .i64 n,.string (tS T m)] wr fun e w'=>e=.returned (.int .i64 (dX T S n (tS T m)))/\ab [] wr w'):=uN b n (tS T m) T _ cT S _ cS wr HDr.out HOK.out;have hus:=nX T S n (tS T m);obtain⟨v,Hv⟩:∃v,Hid (tS T m=v):=⟨_,rfl⟩
      rw[Hv.out]at u0 HE2 HUS hus
      go_upto_region 13 with (go_at_call 128;refine Calls.mono HUS.out ?_;rintro e w1 ⟨rfl,k1⟩)
      have HWr1:=(show Hid _ from HWr.out.still k1);have HKw1:=(show Hid _ from HWr1.out.kept);have HDr1:=(show Hid _ from eW.still HD0.out HKw1.out);have BR1:=HWr1.out.r;clear k1 c0 hb u0 hgT HUS;obtain⟨c0,-,hb⟩:=HDr1.out.cells;obtain⟨gT5,e5,hgT,u0,-,u2,u3,u4⟩:=HDr1.out.t.2 m _ (gg T m (by omega))
      cases e5
      replace u0:w1.cell? ⟨gT,m*5,none⟩=some (.string (tS T m)):=u0;rw[Hv.out]at u0
      cases hq:(v.toList == [63])
      ·rw[if_neg (by rw[hq];simp)]at HE2
       rcases hus with hus | ⟨j,hj,hus⟩
       ·rw[hus,if_pos (by omega)]at HE2
        rw[hus];have HX:Hid (fa T S n k zt=lP 2 (AW (T.getD m ic))):=HE2.out.symm;generalize T.getD m ic=tm at *;obtain⟨ms,mr,mf,ml,mc⟩:=tm;simp only at u2 u3 u4;obtain⟨⟨r0,r1,r2,r3,r4⟩,⟨f0,f1,f2,f3,f4⟩,hzr⟩:=og BR1;go_wp2;obtain⟨x0,x1,x2,x3,x4⟩:=eC BR1 (.slice none 0 0) (.int .i64 2) (.string mf) (.int .i64 ml) (.int .i64 mc);exact bodyPost_ret (v:=.agg #[.slice none 0 0,.int .i64 2,.string mf,.int .i64 ml,.int .i64 mc]) (by simp[results,Tryz.results88,go_sem,x0,x1,x2,x3,x4]) rfl (by rw[HX.out];exact fF rfl rfl (((((HKw1.out.setCell (Or.inr (by simp)) _).setCell (Or.inr (by simp)) _).setCell (Or.inr (by simp)) _).setCell (Or.inr (by simp)) _).setCell (Or.inr (by simp)) _))
       ·rw[hus,if_neg (by omega)]at HE2
        rw[hus];have hji:¬(j:Int)<0:=by omega
        have HND:=(show Hid _ from vX b n j T _ cT S _ cS w1 HDr1.out HOK.out hj);generalize gx T S (j:Int)=nd at *
        go_upto_region 18 with (go_at_call 129;refine Calls.mono HND.out ?_;rintro e w2 ⟨rfl,k2⟩)
        have HWr2:=(show Hid _ from HWr1.out.still k2);have HDr2:=(show Hid _ from eW.still HD0.out HWr2.out.kept);clear c0 hb u0 u2 u3 u4 hgT k2 HND;obtain⟨c0,-,hb⟩:=HDr2.out.cells;obtain⟨gT6,e6,hgT,-,-,u2,u3,u4⟩:=HDr2.out.t.2 m _ (gg T m (by omega))
        cases e6
        generalize T.getD m ic=tm at *;obtain⟨ms,mr,mf,ml,mc⟩:=tm;simp only at u2 u3 u4;have p0:w2.cell? ⟨w.heap.size+1,0,none⟩=some (.slice h.ao P.length h.cap):=by rw[aa HWr2.out.p];rfl
        have p1:=ak HWr2.out.p 0;have p2:=ae HWr2.out.p;have hOw3:=HWr2.out.op;have hPb:Hid ((dN P).n<=900000000):=by show P.length<=_;omega
        have HPn:Hid ((dN P).n=P.length):=rfl
        go_region_law (refine bD w2 rfl (.tmp 97) (.tmp 109) 120 rfl iP (.agg #[.int .i64 0,.int .i64 0,.int .i64 0,.string ⟨#[]⟩,.int .i64 0,.int .i64 0]) 56 h (dN P) [.int .i64 (j:Int),.int .i64 0,.int .i64 (nd:Int),.string mf,.int .i64 ml,.int .i64 mc] Tryz.underlying120 hiP hzP0 hzP1 hzP2 rfl (show 0<6 by omega) (by rw[HPn.out];simp[Act.eval]) hOw3 hPb.out (by omega) (by simp[Act.eval]) rfl (qt (⟨(j:Int),0,nd,mf,ml,mc⟩:cQ)) ?_;intro ao5 cap5 w5 hw5 hg5;have p5:=hg5.kept.get HWr2.out.p (fun hq=>by have:=HWr2.out.fp _ (aK hq);omega);have f5:=ak p5 0;have c5:w5.cell? ⟨w.heap.size+1,0,none⟩=some (.slice h.ao P.length h.cap):=(by rw[aa p5];rfl);have z5:=ae p5)
        all_goals
         rw[show([.int .i64 (j:Int),.int .i64 0,.int .i64 (nd:Int),.string mf,.int .i64 ml,.int .i64 mc]:List Value)=j5 (⟨(j:Int),0,nd,mf,ml,mc⟩:cQ) from rfl,lq]at hw5;have HA:=(show Hid _ from HWr2.out.addP (m:=(dN P).n+1) hg5 hw5 (by simp[dN,kq]));clear hw5 hg5 p5 f5 c5 z5;go_wp2
         go_roundg (zt-(m+1))
         case measure=>omega
         case rel=>exact⟨m+1,⟨ao5,cap5⟩,P++[(⟨(j:Int),0,nd,mf,ml,mc⟩:cQ)],⟨by omega,by omega⟩,rfl,by go_num,by simp;omega,by rw[hf2];exact HE2,HA⟩
      ·rw[if_pos hq]at HE2
       have HND:=(show Hid _ from Ef (.pointer (some ⟨b,0,none⟩)) T S w1);have HNZ:Hid (gx T S (-1)=0):=rfl;rw[HNZ.out]at HND
       go_upto_region 18 with (go_at_call 129;refine Calls.mono HND.out ?_;rintro e w2 ⟨rfl,k2⟩)
       have HWr2:=(show Hid _ from HWr1.out.still k2);have HDr2:=(show Hid _ from eW.still HD0.out HWr2.out.kept);clear c0 hb u0 u2 u3 u4 hgT k2 HND;obtain⟨c0,-,hb⟩:=HDr2.out.cells;obtain⟨gT6,e6,hgT,-,-,u2,u3,u4⟩:=HDr2.out.t.2 m _ (gg T m (by omega))
       cases e6
       generalize T.getD m ic=tm at *;obtain⟨ms,mr,mf,ml,mc⟩:=tm;simp only at u2 u3 u4;have p0:w2.cell? ⟨w.heap.size+1,0,none⟩=some (.slice h.ao P.length h.cap):=by rw[aa HWr2.out.p];rfl
       have p1:=ak HWr2.out.p 0;have p2:=ae HWr2.out.p;have hOw3:=HWr2.out.op;have hPb:Hid ((dN P).n<=900000000):=by show P.length<=_;omega
       have HPn:Hid ((dN P).n=P.length):=rfl
       go_region_law (refine bD w2 rfl (.tmp 97) (.tmp 109) 120 rfl iP (.agg #[.int .i64 0,.int .i64 0,.int .i64 0,.string ⟨#[]⟩,.int .i64 0,.int .i64 0]) 56 h (dN P) [.int .i64 (-1),.int .i64 0,.int .i64 0,.string mf,.int .i64 ml,.int .i64 mc] Tryz.underlying120 hiP hzP0 hzP1 hzP2 rfl (show 0<6 by omega) (by rw[HPn.out];simp[Act.eval]) hOw3 hPb.out (by omega) (by simp[Act.eval]) rfl (qt (⟨(-1),0,0,mf,ml,mc⟩:cQ)) ?_;intro ao5 cap5 w5 hw5 hg5;have p5:=hg5.kept.get HWr2.out.p (fun hq=>by have:=HWr2.out.fp _ (aK hq);omega);have f5:=ak p5 0;have c5:w5.cell? ⟨w.heap.size+1,0,none⟩=some (.slice h.ao P.length h.cap):=(by rw[aa p5];rfl);have z5:=ae p5)
       all_goals
        rw[show([.int .i64 (-1),.int .i64 0,.int .i64 0,.string mf,.int .i64 ml,.int .i64 mc]:List Value)=j5 (⟨(-1),0,0,mf,ml,mc⟩:cQ) from rfl,lq]at hw5;have HA:=(show Hid _ from HWr2.out.addP (m:=(dN P).n+1) hg5 hw5 (by simp[dN,kq]));clear hw5 hg5 p5 f5 c5 z5;go_wp2
        go_roundg (zt-(m+1))
        case measure=>omega
        case rel=>exact⟨m+1,⟨ao5,cap5⟩,P++[(⟨(-1),0,0,mf,ml,mc⟩:cQ)],⟨by omega,by omega⟩,rfl,by go_num,by simp;omega,by rw[hf2];exact HE2,HA⟩
     ·have em:m=zt:=by omega
      subst em;rw[Nat.sub_self,lE]at HE2;have hmi:¬(m:Int)<(m:Int):=by omega
      have hmi2:(m:Int)<(T.length:Int):=by omega
      obtain⟨gT5,e5,hgT,-,-,u2,u3,u4⟩:=HDr.out.t.2 m _ (gg T m (by omega))
      cases e5
      have BR1:=HWr.out.r;obtain⟨⟨r0,r1,r2,r3,r4⟩,⟨f0,f1,f2,f3,f4⟩,hzr⟩:=og BR1;have p0:wr.cell? ⟨w.heap.size+1,0,none⟩=some (.slice h.ao P.length h.cap):=by rw[aa HWr.out.p];rfl
      have p1:wr.cell? ⟨w.heap.size+1,1,none⟩=some (.int .i64 0):=by rw[aa HWr.out.p];rfl
      have p2:wr.cell? ⟨w.heap.size+1,2,none⟩=some (.string ⟨#[]⟩):=by rw[aa HWr.out.p];rfl
      have p3:wr.cell? ⟨w.heap.size+1,3,none⟩=some (.int .i64 0):=by rw[aa HWr.out.p];rfl
      have p4:wr.cell? ⟨w.heap.size+1,4,none⟩=some (.int .i64 0):=by rw[aa HWr.out.p];rfl
      have p5:=ae HWr.out.p
      by_cases hp0:P.length=0
      ·rw[if_pos hp0]at HE2
       have HX:Hid (fa T S n k m=lP 1 (AW (T.getD m ic))):=HE2.out.symm;have hpi:((P.length:Int)==0)=true:=by simpa using hp0
       generalize T.getD m ic=tm at *;obtain⟨ms,mr,mf,ml,mc⟩:=tm;simp only at u2 u3 u4;go_wp2;obtain⟨x0,x1,x2,x3,x4⟩:=eC BR1 (.slice none 0 0) (.int .i64 1) (.string mf) (.int .i64 ml) (.int .i64 mc);exact bodyPost_ret (v:=.agg #[.slice none 0 0,.int .i64 1,.string mf,.int .i64 ml,.int .i64 mc]) (by simp[results,Tryz.results88,go_sem,x0,x1,x2,x3,x4]) rfl (by rw[HX.out];exact fF rfl rfl (((((HKw.out.setCell (Or.inr (by simp)) _).setCell (Or.inr (by simp)) _).setCell (Or.inr (by simp)) _).setCell (Or.inr (by simp)) _).setCell (Or.inr (by simp)) _))
      ·rw[if_neg hp0]at HE2
       have HX:Hid (fa T S n k m=⟨P,0,⟨#[]⟩,0,0⟩):=HE2.out.symm;have hpi:((P.length:Int)==0)=false:=by simpa using hp0
       have HNE:Hid (∀q,h.blk=some q->q≠w.heap.size):=fun q hq=>by have:=HWr.out.fp q hq;omega
       go_wp2;obtain⟨x0,x1,x2,x3,x4⟩:=eC BR1 (.slice h.ao P.length h.cap) (.int .i64 0) (.string ⟨#[]⟩) (.int .i64 0) (.int .i64 0);exact bodyPost_ret (v:=.agg #[.slice h.ao P.length h.cap,.int .i64 0,.string ⟨#[]⟩,.int .i64 0,.int .i64 0]) (by simp[results,Tryz.results88,go_sem,x0,x1,x2,x3,x4]) rfl (by rw[HX.out];exact⟨h,rfl,⟨((((HWr.out.op.aside HNE.out _ _).aside HNE.out _ _).aside HNE.out _ _).aside HNE.out _ _).aside HNE.out _ _,fun q hq=>(by have:=HWr.out.fp q hq;omega),((((HKw.out.setCell (Or.inr (by simp)) _).setCell (Or.inr (by simp)) _).setCell (Or.inr (by simp)) _).setCell (Or.inr (by simp)) _).setCell (Or.inr (by simp)) _⟩⟩)
   ·rw[if_pos hx]at HDF
    have HP2:=(show Hid _ from HPK.out hx);generalize iQ T S n (k+2) zt=PF at *;obtain⟨pst,pw,pf,pl,pc⟩:=PF;have HP3:Hid (Calls Tryz.prog 127 #[.pointer (some ⟨b,0,none⟩),.int .i64 n,.int .i64 ((k:Int)+1+1),.int .i64 zt] wr fun en w'=>∃h',en=.returned (.agg #[.slice h'.ao pst.length h'.cap,.int .i64 pw,.string pf,.int .i64 pl,.int .i64 pc])/\ir wr w' h' (dN pst)):=HP2.out;go_wp2_with (go_at_call 127;refine Calls.mono HP3.out ?_;rintro en w2 ⟨h3,rfl,x2⟩;have BR2:=x2.kept.get HB.out (by simp);obtain⟨⟨r0,r1,r2,r3,r4⟩,⟨f0,f1,f2,f3,f4⟩,hzr⟩:=og BR2);obtain⟨y0,y1,y2,y3,y4⟩:=eC BR2 (.slice h3.ao pst.length h3.cap) (.int .i64 pw) (.string pf) (.int .i64 pl) (.int .i64 pc);have HNE:Hid (∀q,h3.blk=some q->q≠w.heap.size):=fun q hq=>by have:=x2.far q hq;omega
    have HK2:=(show Hid _ from HKW.out.trans x2.kept);exact bodyPost_ret (v:=.agg #[.slice h3.ao pst.length h3.cap,.int .i64 pw,.string pf,.int .i64 pl,.int .i64 pc]) (by simp[results,Tryz.results88,go_sem,y0,y1,y2,y3,y4]) rfl (by rw[HDF.out];exact⟨h3,rfl,⟨((((x2.own.aside HNE.out _ _).aside HNE.out _ _).aside HNE.out _ _).aside HNE.out _ _).aside HNE.out _ _,fun q hq=>(by have:=x2.far q hq;omega),((((HK2.out.setCell (Or.inr (by simp)) _).setCell (Or.inr (by simp)) _).setCell (Or.inr (by simp)) _).setCell (Or.inr (by simp)) _).setCell (Or.inr (by simp)) _⟩⟩)
def Lz:cQ:=⟨0,0,0,⟨#[]⟩,0,0⟩
def bG(P:List cQ)(i:Nat):cQ:=P.getD i Lz
theorem C2(P:List cQ)(i:Nat)(h:i<P.length):P[i]?=some (bG P i):=by
 unfold bG;rw[List.getD_eq_getElem?_getD,List.getElem?_eq_getElem h];rfl
def ve(P:List cQ)(i:Nat):Bool:=((bG P i).ref == -1)
def fO(P:List cQ):Int:=match (List.range P.length).find? (ve P) with
 | some i=>i
 | none=>-1
theorem DL{P:List cQ}{k:Nat}(hk:k<P.length)(h:ve P k=true)(ha:∀j,j<k->ve P j=false):fO P=k:=by
 have e:(List.range P.length).find? (ve P)=some k:=by
  rw[List.find?_range_eq_some];exact⟨h,List.mem_range.2 hk,fun j hj=>by rw[ha j hj];rfl⟩
 unfold fO;rw[e]
theorem Gq{P:List cQ}(ha:∀j,j<P.length->ve P j=false):fO P=-1:=by
 have e:(List.range P.length).find? (ve P)=none:=by
  rw[List.find?_eq_none];intro j hj;rw[ha j (List.mem_range.1 hj)];simp
 unfold fO;rw[e]
theorem AI(P:List cQ):(fO P=-1/\∀j,j<P.length->(bG P j).ref≠-1)∨∃k,k<P.length/\fO P=(k:Int):=by
 unfold fO
 cases h:(List.range P.length).find? (ve P) with
 | none =>
  refine Or.inl ⟨rfl,fun j hj e=>?_⟩;rw[List.find?_eq_none]at h;exact h j (List.mem_range.2 hj) (by unfold ve;rw[e];rfl)
 | some i=>exact Or.inr ⟨i,List.mem_range.1 (List.mem_of_find?_eq_some h),rfl⟩
theorem cG.step{w:World}{ao:Option Addr}{P:List cQ}(h:cG w ao 6 j5 P)(k:Nat)(hk:k<P.length):∃g,ao=some ⟨g,0,none⟩/\g<w.heap.size/\w.cell? ⟨g,k*6,none⟩=some (.int .i64 (bG P k).ref)/\w.cell? ⟨g,k*6+1,none⟩=some (.int .i64 ((bG P k).back:Nat))/\w.cell? ⟨g,k*6+2,none⟩=some (.int .i64 ((bG P k).need:Nat)) /\
  w.cell? ⟨g,k*6+3,none⟩=some (.string (bG P k).file)/\w.cell? ⟨g,k*6+4,none⟩=some (.int .i64 (bG P k).line)/\w.cell? ⟨g,k*6+5,none⟩=some (.int .i64 (bG P k).col):=by
 obtain⟨g,e,hg,c⟩:=h k _ (C2 P k hk);exact⟨g,e,hg,c 0 _ rfl,c 1 _ rfl,c 2 _ rfl,c 3 _ rfl,c 4 _ rfl,c 5 _ rfl⟩
set_option maxRecDepth 100000 in
theorem DK(P:List cQ)(ao:Option Addr)(cap:Nat)(y:Int)(pf:ByteArray)(pl pc:Int)(w:World)(hS:cG w ao 6 j5 P)(hl:P.length<=100000000) :
  Calls Tryz.prog 130 #[.agg #[.slice ao P.length cap,.int .i64 y,.string pf,.int .i64 pl,.int .i64 pc]] w fun e w'=>e=.returned (.int .i64 (fO P))/\ab [] w w':=by
 obtain⟨W,HW⟩:∃W,Hid (w.alloc (.cells #[.slice ao P.length cap,.int .i64 y,.string pf,.int .i64 pl,.int .i64 pc] 122)=W):=⟨_,rfl⟩
 have BW:W.heap[w.heap.size]?=some (.cells #[.slice ao P.length cap,.int .i64 y,.string pf,.int .i64 pl,.int .i64 pc] 122 (0,0)):=by rw[<-HW.out];exact heap_alloc_new _ _
 have HKW:Hid (ab [] w W):=by show ab [] w W;rw[<-HW.out];exact(ab.refl [] _).alloc _
 have HS:=(show Hid _ from hS.still HKW.out);have p0:W.cell? ⟨w.heap.size,0,none⟩=some (.slice ao P.length cap):=by rw[aa BW];rfl
 have hz:=ae BW;clear hS;go_enter Tryz.func130,Tryz.ntmps130
 go_upto_region 1 with fail
 rw[HW.out];go_wp2
 go_loopg [3] P.length (fun g i wr=>∃k:Nat,k<=P.length/\g=P.length-k/\i=.int .i64 k/\Hid (∀j,j<k->ve P j=false)/\wr=W)
 case atStart=>exact⟨0,by omega,rfl,rfl,(fun j hj=>by omega),rfl⟩
 case round =>
  obtain⟨k,hk,hg,rfl,HN,rfl⟩:=hrel
  by_cases hlt:k<P.length
  ·have hki:(k:Int)<(P.length:Int):=by omega
   obtain⟨g,rfl,hgw,q0,-⟩:=cG.step HS.out k hlt;have HP:Hid (ve P k=((bG P k).ref == -1)):=rfl;generalize (bG P k).ref=r at *
   cases hr:(r == -1)
   ·have HM:=(show Hid _ from dC HN.out (by rw[HP.out,hr]))
    go_wp2
    go_roundg (P.length-(k+1))
    case measure=>omega
    case rel=>exact⟨k+1,by omega,rfl,by go_num,HM,rfl⟩
   ·have HM:Hid (fO P=k):=DL hlt (by rw[HP.out,hr]) HN.out
    go_wp2;go_ret;exact⟨am HM.out.symm,HKW.out⟩
  ·have HM:Hid (fO P=-1):=Gq (fun j hj=>HN.out j (by omega))
   have hki:¬(k:Int)<(P.length:Int):=by omega
   go_wp2;go_ret;exact⟨am HM.out.symm,HKW.out⟩
def oB(rec:Nat->Int):Nat->Nat->Int
 | 0,b=>b
 | k+1,b=>if b=0 then -1 else if rec (b-1)<0 then -1 else oB rec k (rec (b-1)).toNat
def wN(P:List cQ):Nat->Nat->Int
 | 0,_=>0
 | f+1,i=>oB (wN P f) (bG P i).need i
theorem IK{rec:Nat->Int}(hr:∀i,rec i<=(i:Int))(k:Nat):∀b,oB rec k b<=(b:Int):=by
 induction k with
 | zero=>intro b;exact Int.le_refl _
 | succ k ih =>
  intro b;rw[oB]
  split
  ·omega
  ·split
   ·omega
   ·have h1:=ih (rec (b-1)).toNat
    have h2:=hr (b-1);omega
theorem wO(P:List cQ)(f:Nat):∀i,wN P f i<=(i:Int):=by
 induction f with
 | zero=>intro i;show(0:Int)<=i;omega
 | succ f ih=>intro i;rw[wN];exact IK ih _ _
theorem sY{r1 r2:Nat->Int}(hr:∀i,r1 i<=(i:Int))(k:Nat):∀b,(∀i,i<b->r1 i=r2 i)->oB r1 k b=oB r2 k b:=by
 induction k with
 | zero=>intro b _;rfl
 | succ k ih =>
  intro b h;rw[oB,oB]
  by_cases hb:b=0
  ·rw[if_pos hb,if_pos hb]
  ·rw[if_neg hb,if_neg hb,<-h (b-1) (by omega)]
   split
   ·rfl
   ·next h2 =>
    have:=hr (b-1);exact ih _ (fun i hi=>h i (by omega))
theorem Dm(P:List cQ):∀f g i,i<f->i<g->wN P f i=wN P g i:=by
 intro f
 induction f with
 | zero=>intro g i h;omega
 | succ f ih =>
  intro g i hf hg
  cases g with
  | zero=>omega
  | succ g =>
   rw[wN,wN];exact sY (wO P f) _ _ (fun j hj=>ih g j (by omega) (by omega))
def dB(P:List cQ)(i:Nat):Int:=wN P (i+1) i
theorem ta(P:List cQ)(i:Nat):dB P i=oB (dB P) (bG P i).need i:=by
 unfold dB;rw[wN];exact sY (wO P i) _ _ (fun j hj=>Dm P i (j+1) j hj (by omega))
theorem te(P:List cQ)(i:Nat):dB P i<=(i:Int):=wO P _ i
def IB(P:List cQ):Prop:=∀i,(bG P i).need<=100000
set_option maxRecDepth 100000 in
theorem qG(P:List cQ)(ao:Option Addr)(cap:Nat)(y:Int)(pf:ByteArray)(pl pc:Int)(hl:P.length<=100000000)(hN:IB P)(f:Nat):∀(i:Nat) (w:World),i<f->i<P.length->cG w ao 6 j5 P ->
  Calls Tryz.prog 132 #[.agg #[.slice ao P.length cap,.int .i64 y,.string pf,.int .i64 pl,.int .i64 pc],.int .i64 i] w fun e w'=>e=.returned (.int .i64 (dB P i))/\ab [] w w':=by
 induction f with
 | zero=>intro i w h;omega
 | succ f ih =>
  intro i w hif hi hS;have HIH:=(show Hid _ from ih);clear ih;obtain⟨W,HW⟩:∃W,Hid (w.alloc (.cells #[.slice ao P.length cap,.int .i64 y,.string pf,.int .i64 pl,.int .i64 pc] 122)=W):=⟨_,rfl⟩
  have BW:W.heap[w.heap.size]?=some (.cells #[.slice ao P.length cap,.int .i64 y,.string pf,.int .i64 pl,.int .i64 pc] 122 (0,0)):=by rw[<-HW.out];exact heap_alloc_new _ _
  have HKW:Hid (ab [] w W):=by show ab [] w W;rw[<-HW.out];exact(ab.refl [] _).alloc _
  have HS:=(show Hid _ from hS.still HKW.out);have p0:W.cell? ⟨w.heap.size,0,none⟩=some (.slice ao P.length cap):=by rw[aa BW];rfl
  have hz:=ae BW;have hii:(i:Int)<(P.length:Int):=by omega
  obtain⟨g,rfl,hgw,-,-,q2,-⟩:=cG.step HS.out i hi;have HB:=(show Hid _ from BW);have HBE:=(show Hid _ from ta P i);have hnd:=hN i;generalize (bG P i).need=n at *;generalize dB P i=R at *;clear hS BW;go_enter Tryz.func132,Tryz.ntmps132
  go_upto_region 1 with fail
  rw[HW.out];go_wp2;clear q2 hgw
  go_loopg [6,7] n (fun m bv kv wr=>∃(k b:Nat),k<=n/\m=n-k/\bv=.int .i64 b/\kv=.int .i64 k/\b<=i/\Hid (R=oB (dB P) (n-k) b)/\Hid (ab [] W wr))
  case atStart=>exact⟨0,i,by omega,rfl,rfl,rfl,by omega,HBE,ab.refl _ _⟩
  case round =>
   obtain⟨k,b,hk,hm,rfl,rfl,hb,HE,HK⟩:=hrel
   by_cases hlt:k<n
   ·have hki:(k:Int)<(n:Int):=by omega
    obtain⟨d,hd⟩:∃d,n-k=d+1:=⟨n-k-1,by omega⟩
    have hd2:n-(k+1)=d:=by omega
    rw[hd,oB]at HE;have HKr:=(show Hid _ from HKW.out.trans HK.out)
    cases b with
    | zero =>
     rw[if_pos rfl]at HE;go_wp2;go_ret;exact⟨am HE.out.symm,HKr.out⟩
    | succ q =>
     rw[if_neg (by omega),Nat.add_sub_cancel]at HE;have BR:=HK.out.get HB.out (by simp);have r0:wr.cell? ⟨w.heap.size,0,none⟩=some (.slice (some ⟨g,0,none⟩) P.length cap):=by rw[aa BR];rfl
     have r1:wr.cell? ⟨w.heap.size,1,none⟩=some (.int .i64 y):=by rw[aa BR];rfl
     have r2:wr.cell? ⟨w.heap.size,2,none⟩=some (.string pf):=by rw[aa BR];rfl
     have r3:wr.cell? ⟨w.heap.size,3,none⟩=some (.int .i64 pl):=by rw[aa BR];rfl
     have r4:wr.cell? ⟨w.heap.size,4,none⟩=some (.int .i64 pc):=by rw[aa BR];rfl
     have hzr:=ae BR;have HC:=(show Hid _ from HIH.out q wr (by omega) (by omega) (cG.still HS.out HK.out));have hle:=te P q;have hq0:((q:Int)+1==0)=false:=by simp;omega
     generalize dB P q=r at *
     by_cases hr:r<0
     ·rw[if_pos hr]at HE
      go_wp2_with (go_at_call 132;refine Calls.mono HC.out ?_;rintro e w1 ⟨rfl,k1⟩;have HK1:=(show Hid _ from HKr.out.trans k1);clear k1);go_ret;exact⟨am HE.out.symm,HK1.out⟩
     ·rw[if_neg hr]at HE
      obtain⟨rn,rfl⟩:∃rn:Nat,r=rn:=⟨r.toNat,by omega⟩
      rw[Int.toNat_natCast,<-hd2]at HE;go_wp2_with (go_at_call 132;refine Calls.mono HC.out ?_;rintro e w1 ⟨rfl,k1⟩;have HK1:=(show Hid _ from HK.out.trans k1);clear k1)
      go_roundg (n-(k+1))
      case measure=>omega
      case rel=>exact⟨k+1,rn,by omega,rfl,rfl,by go_num,by omega,HE,HK1⟩
   ·have e:k=n:=by omega
    subst e;rw[Nat.sub_self,oB]at HE;have HKr:=(show Hid _ from HKW.out.trans HK.out);go_wp2;go_ret;exact⟨am HE.out.symm,HKr.out⟩
def Hg(A B:List ByteArray)(i:Nat):Bool:=((A.getD i ⟨#[]⟩).toList==(B.getD i ⟨#[]⟩).toList)
def mg(A B:List ByteArray):Bool:=(A.length==B.length)&&(List.range A.length).all (Hg A B)
theorem kP(A:List ByteArray)(k:Nat)(h:k<A.length):A[k]?=some (A.getD k ⟨#[]⟩):=by
 rw[List.getD_eq_getElem?_getD,List.getElem?_eq_getElem h];rfl
set_option maxRecDepth 100000 in
theorem zE(A B:List ByteArray)(ao bo:Option Addr)(ca cb:Nat)(w:World)(hA:id w ao A)(hB:id w bo B)(hl:A.length<=1000000000) :
  Calls Tryz.prog 133 #[.slice ao A.length ca,.slice bo B.length cb] w fun e w'=>e=.returned (.bool (mg A B))/\ab [] w w':=by
 have HA:=(show Hid _ from hA);have HB:=(show Hid _ from hB);clear hA hB
 by_cases hle:A.length=B.length
 ·have HR:Hid (mg A B=(List.range A.length).all (Hg A B)):=by show _=_;unfold mg;rw[hle];simp
  obtain⟨nA,HnA⟩:∃nA,Hid (A.length=nA):=⟨_,rfl⟩
  have HnB:Hid (B.length=nA):=by show _=_;rw[<-hle];exact HnA.out
  rw[HnA.out,HnB.out];rw[HnA.out]at hl HR;clear hle;go_enter Tryz.func133,Tryz.ntmps133;go_wp2
  go_loopg [5] nA (fun g i wr=>∃k:Nat,k<=nA/\g=nA-k/\i=.int .i64 k/\Hid (∀j,j<k->Hg A B j=true)/\Hid (ab [] w wr))
  case atStart=>exact⟨0,by omega,rfl,rfl,(fun j hj=>by omega),ab.refl _ _⟩
  case round =>
   obtain⟨k,hk,hg,rfl,HN,HK⟩:=hrel
   by_cases hlt:k<nA
   ·have hki:(k:Int)<(nA:Int):=by omega
    obtain⟨ga,rfl,hga,qa⟩:=(id.still HA.out HK.out) k _ (kP A k (by rw[HnA.out];exact hlt));obtain⟨gb,rfl,hgb,qb⟩:=(id.still HB.out HK.out) k _ (kP B k (by rw[HnB.out];exact hlt));have HP:Hid (Hg A B k=((A.getD k ⟨#[]⟩).toList==(B.getD k ⟨#[]⟩).toList)):=rfl;generalize A.getD k ⟨#[]⟩=x at *;generalize B.getD k ⟨#[]⟩=z at *;have HKd:=(show Hid _ from HK.out.drew)
    cases hr:(x.toList==z.toList)
    ·have HM:Hid (mg A B=false):=by
      show _=_
      rw[HR.out,List.all_eq_false];exact⟨k,List.mem_range.2 hlt,by rw[HP.out,hr];simp⟩
     go_upto_region 6 with fail
     go_region
     all_goals
      go_wp2;go_ret;exact⟨aB HM.out.symm,HKd.out⟩
    ·have HM:Hid (∀j,j<k+1->Hg A B j=true):=fun j hj=>by
      by_cases e:j=k
      ·rw[e,HP.out,hr]
      ·exact HN.out j (by omega)
     go_upto_region 6 with fail
     go_region
     all_goals
      go_wp2
      go_roundg (nA-(k+1))
      case measure=>omega
      case rel=>exact⟨k+1,by omega,rfl,by go_num,HM,HKd⟩
   ·have HM:Hid (mg A B=true):=by
     show _=_
     rw[HR.out,List.all_eq_true];exact fun j hj=>HN.out j (by have:=List.mem_range.1 hj;omega)
    have hki:¬(k:Int)<(nA:Int):=by omega
    go_wp2;go_ret;exact⟨aB HM.out.symm,HK.out⟩
 ·have HM:Hid (mg A B=false):=by show _=_;unfold mg;simp[hle]
  have hne:((A.length:Int)==(B.length:Int))=false:=beq_false_of_ne (by omega);go_enter Tryz.func133,Tryz.ntmps133;go_wp2;go_ret;exact⟨aB HM.out.symm,ab.refl _ _⟩
def uy(rec:Nat->Int):Nat->Nat->List Nat->List Nat
 | 0,_,acc=>acc
 | m+1,b,acc=>uy rec m (rec (b-1)).toNat ((b-1) :: acc)
def lp(P:List cQ)(i:Nat):List Nat:=uy (dB P) (bG P i).need i []
theorem Hb(rec:Nat->Int)(m:Nat):∀b acc,(uy rec m b acc).length=m+acc.length:=by
 induction m with
 | zero=>intro b acc;simp[uy]
 | succ m ih=>intro b acc;rw[uy,ih];simp;omega
theorem EJ(P:List cQ)(i:Nat):(lp P i).length=(bG P i).need:=by unfold lp;rw[Hb];simp
theorem JF{rec:Nat->Int}(hr:∀i,rec i<=(i:Int))(m:Nat):∀b acc i,b<=i->0<=oB rec m b->(∀q∈acc,q<i)->∀q∈uy rec m b acc,q<i:=by
 induction m with
 | zero=>intro b acc i _ _ h;exact h
 | succ m ih =>
  intro b acc i hb h0 h q hq;rw[oB]at h0;rw[uy]at hq
  by_cases hz:b=0
  ·rw[if_pos hz]at h0;omega
  ·rw[if_neg hz]at h0
   by_cases h2:rec (b-1)<0
   ·rw[if_pos h2]at h0;omega
   ·rw[if_neg h2]at h0
    have:=hr (b-1);refine ih _ _ i (by omega) h0 (fun q hq=>?_) q hq
    rcases List.mem_cons.1 hq with e | e
    ·omega
    ·exact h q e
theorem G3(P:List cQ)(i:Nat)(h:0<=dB P i):∀q∈lp P i,q<i:=by
 rw[ta]at h;exact JF (te P) _ _ _ i (Nat.le_refl _) h (fun q hq=>by cases hq)
theorem JB(m x:Nat)(L:List Nat):(iW (List.replicate (m+1) 0++L)).set m (.int .i64 x)=iW (List.replicate m 0++x :: L):=by
 unfold iW
 induction m with
 | zero=>simp
 | succ m ih=>rw[List.replicate_succ,List.cons_append,List.map_cons,List.set_cons_succ,ih];simp[List.replicate_succ]
theorem DZ(n:Nat):madeCells (Value.int .i64 0).cells (n*1)=(iW (List.replicate n 0)).toArray:=by
 rw[Nat.mul_one]
 apply Array.ext
 ·rw[size_madeCells];simp[iW]
 ·intro i h1 h2
  have e:(Value.int .i64 0).cells=#[.int .i64 0]:=rfl;simp[madeCells,e,Nat.mod_one,iW]
def lX(w:World)(g:Nat)(L:List Nat):Prop:=w.heap[g]?=some (.cells (iW L).toArray 3 (0,0))
theorem lX.src{w:World}{g:Nat}{L:List Nat}(h:lX w g L):oX w (some ⟨g,0,none⟩) L:=by
 intro k x hk;refine⟨g,rfl,ae h,?_⟩;rw[aa h];simp[iW,hk]
set_option maxRecDepth 100000 in
theorem EI(P:List cQ)(ao:Option Addr)(cap:Nat)(y:Int)(pf:ByteArray)(pl pc:Int)(i:Nat)(w:World)(hl:P.length<=100000000)(hN:IB P)(hi:i<P.length)(hS:cG w ao 6 j5 P)(h0:0<=dB P i) :
  Calls Tryz.prog 102 #[.agg #[.slice ao P.length cap,.int .i64 y,.string pf,.int .i64 pl,.int .i64 pc],.int .i64 i] w fun e w'=>∃g,e=.returned (.slice (some ⟨g,0,none⟩) (bG P i).need (bG P i).need)/\lX w' g (lp P i)/\ab [] w w':=by
 obtain⟨i0,hi0,hy0,hy1,hy2⟩:=info_parts xd;have hnd:=hN i;have m2:=fun w=>dn (P:=Tryz.prog) w 26 3 i0 _ Tryz.underlying26 hi0 hy0 (bG P i).need 1 hy1 (by rw[hy2];omega) (by omega)
 obtain⟨mc,Hmc⟩:∃mc,Hid (madeCells (Value.int .i64 0).cells ((bG P i).need*1)=mc):=⟨_,rfl⟩
 have HMC:Hid (mc=(iW (List.replicate (bG P i).need 0)).toArray):=by show _=_;rw[<-Hmc.out,DZ]
 rw[Hmc.out]at m2;obtain⟨W,HW⟩:∃W,Hid (w.alloc (.cells #[.slice ao P.length cap,.int .i64 y,.string pf,.int .i64 pl,.int .i64 pc] 122)=W):=⟨_,rfl⟩
 have BW:W.heap[w.heap.size]?=some (.cells #[.slice ao P.length cap,.int .i64 y,.string pf,.int .i64 pl,.int .i64 pc] 122 (0,0)):=by rw[<-HW.out];exact heap_alloc_new _ _
 have HKW:Hid (ab [] w W):=by show ab [] w W;rw[<-HW.out];exact(ab.refl [] _).alloc _
 have HS:=(show Hid _ from hS.still HKW.out);have p0:W.cell? ⟨w.heap.size,0,none⟩=some (.slice ao P.length cap):=by rw[aa BW];rfl
 have hz:=ae BW;have hii:(i:Int)<(P.length:Int):=by omega
 obtain⟨g,rfl,hgw,-,-,q2,-⟩:=cG.step HS.out i hi;have HB:=(show Hid _ from BW);rw[ta]at h0;have H0:=(show Hid _ from h0);have HRS:Hid (uy (dB P) (bG P i).need i []=lp P i):=rfl;have HML:=(show Hid _ from m2 W);generalize (bG P i).need=n at *;generalize lp P i=RS at *;have I0:Hid (lX (W.alloc (.cells mc 3)) W.heap.size (List.replicate n 0++[])):=by show _=_;rw[List.append_nil,HMC.out];exact heap_alloc_new _ _
 clear hS BW h0;go_enter Tryz.func102,Tryz.ntmps102
 go_upto_region 1 with fail
 rw[HW.out];go_wp2;clear q2 hgw p0 m2
 go_loopg [7,8] n (fun ms bv kv wr=>∃(m b:Nat) (L:List Nat),m<=n/\ms=m/\bv=.int .i64 b/\kv=.int .i64 ((m:Int)-1)/\b<=i/\Hid (0<=oB (dB P) m b)/\Hid (uy (dB P) m b L=RS)/\Hid (lX wr W.heap.size (List.replicate m 0++L))/\Hid (ab [] W wr))
 case atStart=>exact⟨n,i,[],by omega,rfl,rfl,by go_num,by omega,H0,HRS,I0,(ab.refl _ _).alloc _⟩
 case round =>
  obtain⟨m,b,L,hm,hms,rfl,rfl,hb,HB0,HR,HI,HK⟩:=hrel;have HKr:=(show Hid _ from HKW.out.trans HK.out)
  cases m with
  | zero =>
   have HE:Hid (lX wr W.heap.size RS):=by show lX wr W.heap.size RS;have:=HI.out;rw[<-HR.out];simpa [uy] using this
   go_wp2;go_ret;exact⟨W.heap.size,rfl,HE.out,HKr.out⟩
  | succ q =>
   rw[oB]at HB0
   have hb0:b≠0:=fun e=>by
    have:=HB0.out;rw[if_pos e]at this;omega
   obtain⟨c,rfl⟩:∃c,b=c+1:=⟨b-1,by omega⟩
   rw[if_neg hb0,Nat.add_sub_cancel]at HB0
   have hc0:¬dB P c<0:=fun e=>by
    have:=HB0.out;rw[if_pos e]at this;omega
   rw[if_neg hc0]at HB0;rw[uy,Nat.add_sub_cancel]at HR;have BR:=HK.out.get HB.out (by simp);have r0:wr.cell? ⟨w.heap.size,0,none⟩=some (.slice (some ⟨g,0,none⟩) P.length cap):=by rw[aa BR];rfl
   have r1:wr.cell? ⟨w.heap.size,1,none⟩=some (.int .i64 y):=by rw[aa BR];rfl
   have r2:wr.cell? ⟨w.heap.size,2,none⟩=some (.string pf):=by rw[aa BR];rfl
   have r3:wr.cell? ⟨w.heap.size,3,none⟩=some (.int .i64 pl):=by rw[aa BR];rfl
   have r4:wr.cell? ⟨w.heap.size,4,none⟩=some (.int .i64 pc):=by rw[aa BR];rfl
   have hzr:=ae BR;have hgz:=ae HI.out;have u0:=ak HI.out q
   have u1:wr.cell? ⟨W.heap.size,q,none⟩=some (.int .i64 0):=by
    rw[aa HI.out];simp[iW,List.replicate_succ']
   have hqn:(q:Int)<(n:Int):=by omega
   have hq1:((q:Int)+1-1)=(q:Int):=by omega
   have HC:Hid (∀wx,ab [] W wx->Calls Tryz.prog 132 #[.agg #[.slice (some ⟨g,0,none⟩) P.length cap,.int .i64 y,.string pf,.int .i64 pl,.int .i64 pc],.int .i64 c] wx fun e w'=>e=.returned (.int .i64 (dB P c))/\ab [] wx w'):=fun wx kx=>qG P _ cap y pf pl pc hl hN (c+1) c wx (by omega) (by omega) (cG.still HS.out kx)
   have hle:=te P c;obtain⟨rn,hrn⟩:∃rn:Nat,dB P c=rn:=⟨(dB P c).toNat,by omega⟩
   rw[hrn]at HC HR HB0 hle;rw[Int.toNat_natCast]at HR HB0;obtain⟨X,HX⟩:∃X,Hid (wr.setCell ⟨W.heap.size,q,none⟩ (.int .i64 (c:Int))=X):=⟨_,rfl⟩
   have HKX:Hid (ab [] W X):=by show ab [] W X;rw[<-HX.out];exact HK.out.setCell (Or.inr (by simp)) _
   have HIX:Hid (lX X W.heap.size (List.replicate q 0++c :: L)):=by
    show _=_
    rw[<-HX.out,ah HI.out]
    congr 2
    have:=JB q c L;rw[<-this];simp
   have BX:=HKX.out.get HB.out (by simp);have x0:X.cell? ⟨w.heap.size,0,none⟩=some (.slice (some ⟨g,0,none⟩) P.length cap):=by rw[aa BX];rfl
   have x1:X.cell? ⟨w.heap.size,1,none⟩=some (.int .i64 y):=by rw[aa BX];rfl
   have x2:X.cell? ⟨w.heap.size,2,none⟩=some (.string pf):=by rw[aa BX];rfl
   have x3:X.cell? ⟨w.heap.size,3,none⟩=some (.int .i64 pl):=by rw[aa BX];rfl
   have x4:X.cell? ⟨w.heap.size,4,none⟩=some (.int .i64 pc):=by rw[aa BX];rfl
   have xz:=ae BX;have HC2:=(show Hid _ from HC.out X HKX.out);clear hrn hc0 hb0
   go_upto_region 8 with fail
   rw[HX.out];go_wp2_with (go_at_call 132;refine Calls.mono HC2.out ?_;rintro e w1 ⟨rfl,k1⟩;have HK1:=(show Hid _ from HKX.out.trans k1);have HI1:=(show Hid (lX w1 W.heap.size (List.replicate q 0++c :: L)) from k1.get HIX.out (by simp));clear k1)
   go_roundg q
   case measure=>omega
   case rel=>exact⟨q,rn,c :: L,by omega,rfl,rfl,by go_num,by omega,HB0,HR,HI1,HK1⟩
def jA(T:List Tk)(S:List Sm)(a:Nat)(e:List ByteArray):List ByteArray:=e.filter (fun x=>jG T S x a)
theorem Ff(T:List Tk)(S:List Sm)(a:Nat)(e:List ByteArray)(k:Nat)(h:k<e.length):jA T S a (e.take (k+1))=jA T S a (e.take k)++(if jG T S e[k] a=true then [e[k]] else []):=by
 unfold jA;rw[List.take_succ_eq_append_getElem h,List.filter_append]
 congr 1
 cases hv:jG T S e[k] a
 ·rw[List.filter_cons_of_neg (by rw[hv];simp)];rfl
 ·rw[List.filter_cons_of_pos (p:=fun x=>jG T S x a) hv];rfl
set_option maxRecDepth 100000 in
theorem oQ(b n:Nat)(E:List ByteArray)(aoE:Option Addr)(cE:Nat)(T:List Tk)(aoT:Option Addr)(cT:Nat)(S:List Sm)(aoS:Option Addr)(cS:Nat)(w:World)(hD:eW w b T aoT cT S aoS cS)(ok:mx T S n)(hE:id w aoE E)(hl:E.length<=900000000) :
  Calls Tryz.prog 241 #[.pointer (some ⟨b,0,none⟩),.int .i64 n,.slice aoE E.length cE] w fun e w'=>∃h',e=.returned (.slice h'.ao (jA T S n E).length h'.cap)/\ir w w' h' (aD (jA T S n E)):=by
 have HD:=(show Hid _ from hD);have HOK:=(show Hid _ from ok.ok);have HEE:=(show Hid _ from hE);have HN0:Hid (ir w w ⟨none,0⟩ (aD [])):=⟨World.ownsRow_nil _ _ _ _,(by intro k hk;cases hk),ab.refl _ _⟩;obtain⟨iS,hiS,hzS0,hzS1,hzS2⟩:=info_parts jI;clear hD ok hE;go_enter Tryz.func241,Tryz.ntmps241;go_wp2
 go_loopg [7,8] E.length (fun g o i wr=>∃(k:Nat) (h':Hd) (O:List ByteArray),k<=E.length/\g=E.length-k/\o=.slice h'.ao O.length h'.cap/\i=.int .i64 k/\O.length<=k/\Hid (O=jA T S n (E.take k))/\Hid (ir w wr h' (aD O)))
 case atStart=>exact⟨0,⟨none,0⟩,[],by omega,rfl,rfl,rfl,by simp,by show _=_;simp[jA],HN0⟩
 case round =>
  obtain⟨k,h',O,hk,hg,rfl,rfl,hO,HE,HW⟩:=hrel
  by_cases hlt:k<E.length
  ·have hki:(k:Int)<(E.length:Int):=by omega
   obtain⟨gE,rfl,hgE,cE0⟩:=(id.still HEE.out HW.out.kept) k E[k] (List.getElem?_eq_getElem hlt);have HNX:=(show Hid _ from Ff T S n E k hlt);rw[<-HE.out]at HNX;have HV:=(show Hid _ from xK b n E[k] T aoT cT S aoS cS wr (eW.still HD.out HW.out.kept) HOK.out.m HOK.out.s HOK.out.t HOK.out.v);have HCE:Hid (∀w',ab [] wr w'->w'.cell? ⟨gE,k,none⟩=some (.string E[k])/\gE<w'.heap.size):=fun w' kw=>⟨by rw[World.cell?_of_block (kw.block gE hgE (by simp))];exact cE0,Nat.lt_of_lt_of_le hgE kw.size⟩
   generalize E[k]=x at *;obtain⟨vb,Hvb⟩:∃vb,Hid (jG T S x n=vb):=⟨_,rfl⟩
   rw[Hvb.out]at HV HNX
   cases vb
   ·have HM:Hid (O=jA T S n (E.take (k+1))):=by have:=HNX.out;rw[if_neg (by simp),List.append_nil]at this;exact this.symm
    go_wp2_with (go_at_call 173;refine Calls.mono HV.out ?_;rintro e w1 ⟨rfl,k1⟩;have HW1:=(show Hid _ from HW.out.still k1);clear k1)
    go_roundg (E.length-(k+1))
    case measure=>omega
    case rel=>exact⟨k+1,h',O,by omega,rfl,rfl,by go_num,by omega,HM,HW1⟩
   ·have HM:Hid (O++[x]=jA T S n (E.take (k+1))):=by have:=HNX.out;rw[if_pos rfl]at this;exact this.symm
    go_upto_region 7 with (go_at_call 173;refine Calls.mono HV.out ?_;rintro e w1 ⟨rfl,k1⟩)
    have HW1:=(show Hid _ from HW.out.still k1);obtain⟨d0,d1⟩:=HCE.out w1 k1;have hOw:=HW1.out.own;have hOb:(aD O).n<=900000000:=by show O.length<=_;omega
    clear k1 cE0 hgE;go_wp2_with (at_builtin;refine bX _ rfl (.tmp 24) (.tmp 29) 61 rfl iS (.string ⟨#[]⟩) 16 h' (aD O) [.string x] Tryz.underlying61 hiS hzS0 hzS1 hzS2 rfl Nat.one_pos rfl hOw hOb (by omega) rfl rfl (by simp[Value.oneCell']) ?_;intro h5 w5 hw5 hg5;rw[dV]at hw5;have HM2:=(show Hid _ from HW1.out.grew hg5 hw5);clear hw5 hg5)
    go_roundg (E.length-(k+1))
    case measure=>omega
    case rel=>exact⟨k+1,h5,O++[x],by omega,rfl,by simp[aD],by go_num,by simp;omega,HM,HM2⟩
  ·have e:k=E.length:=by omega
   subst e;have HM:Hid (jA T S n E=O):=by show _=_;rw[HE.out,List.take_length]
   go_wp2;go_ret;exact⟨h',by rw[HM.out];rfl,by rw[HM.out];exact HW.out⟩
end Go.Proofs.YtpddjjabfbfifaaGreat
