import Derived.Test.YtnbhnocdhbcbcaaGreatU20
namespace Go.Proofs.YtnbhnocdhbcbcaaGreat
open Go.RowKit Tryz
open Value IntKind Ending
set_option maxHeartbeats 0
variable{T:List (jW×Hd)}{S:List iH}{H I:Nat}{y:List Bool}{x L:World}{N:Hd}(M:List Tk)(d:List Sm)(k:List (jW×Hd))(D:List iH)(f:List Bool)(n l:Nat)
def g9(PS:List (jW×Hd))(t:Nat):jW×Hd:=PS.getD t (⟨[],0,⟨#[]⟩,0,0⟩,⟨none,0⟩)
theorem un(h:l<k.length):k[l]?=some (g9 k l):=by
 unfold g9;rw[Uc,Ub h];rfl
def fk(PS:List (jW×Hd))(RS:List iH)(a k:Nat):Prop:=∀P:Nat->Prop,P a->(∀t k i:Nat,P t->cG RS t=true->i<(g9 PS t).1.st.length->(aQ (g9 PS t).1.st i).ref=(k:Int)->P k)->P k
theorem fk.self:fk T S H H:=fun _ h _=>h
theorem fk.step{t i:Nat}(h:fk T S H t)(c:cG S t=true)(d:i<(g9 T t).1.st.length)(e:(aQ (g9 T t).1.st i).ref=(I:Int)):fk T S H I:=fun P b a=>a t I i (h P b a) c d e
def xh(PS:List (jW×Hd))(RS:List iH)(inn:List Bool)(t:Nat):Prop:=inn.getD t false=true->cG RS t=true->∀i,i<(g9 PS t).1.st.length->∀k:Nat,(aQ (g9 PS t).1.st i).ref=(k:Int)->inn.getD k false=true
structure xi(PS:List (jW×Hd))(RS:List iH)(a:Nat)(inn:List Bool):Prop where
 len:inn.length=a+1
 self:inn.getD a false=true
 sub:∀k,inn.getD k false=true->fk PS RS a k
theorem BH(h:l<f.length):f[l]?=some (f.getD l false):=by
 rw[Uc,Ub h];rfl
theorem QI(h:f.getD l false=true):(f.set n true).getD l false=true:=by
 rw[Uc]at h ⊢;rw[Ve];by_cases e:n=l
 ·rw[Uf e];split
  ·rfl
  ·next a=>rw[UT (by omega)]at h;cases h
 ·rw[Ud e];exact h
theorem Jk(h:(f.set n true).getD l false=true):l=n∨f.getD l false=true:=by
 by_cases e:n=l
 ·exact Us e.symm
 ·right
  rw[Uc,Ve,Ud e,<-Uc]at h;exact h
theorem xi.set(h:xi T S H y)(a:fk T S H I):xi T S H (y.set I true) :=
 ⟨by rw[UZ];exact h.len,QI y I H h.self,fun q b=>by
  rcases Jk y I q b with e | e
  ·rw[e];exact a
  ·exact h.sub q e⟩
theorem xi.all(h:xi T S H y)(b:∀t,t<=H->xh T S y t)(k:Nat):y.getD k false=true ↔ fk T S H k:=by
 refine⟨h.sub k,fun f=>?_⟩;refine f (fun k=>y.getD k false=true) h.self (fun t k i a g d c=>?_);have j:t<=H:=by
  have l:=h.len;by_cases e:t<y.length
  ·omega
  ·rw[Uc,UT (by omega)]at a;cases a
 exact b t j a g i d k c
def Tw(S:List Sm)(inn:List Bool)(t:Nat):Bool:=inn.getD t false&&((aq S t).k.toList == [36,97])
def SN(S:List Sm)(RS:List iH)(inn:List Bool)(t:Nat):Bool:=inn.getD t false&&(((aq S t).k.toList == [36,112]) && !cG RS t)
def Pa(T:List Tk)(S:List Sm)(inn:List Bool)(n:Nat):Xt:=((List.range n).filter (Tw S inn)).map (fun t=>bD T (aq S t))
def Ft(T:List Tk)(S:List Sm)(RS:List iH)(inn:List Bool)(n:Nat):Xt:=((List.range n).filter (SN S RS inn)).map (fun t=>bD T (aq S t))
theorem MD:Pa M d f (l+1)=Pa M d f l++(if Tw d f l=true then [bD M (aq d l)] else []):=by
 unfold Pa;rw[iK,UJ];split <;> rfl
theorem MJ:Ft M d D f (l+1)=Ft M d D f l++(if SN d D f l=true then [bD M (aq d l)] else []):=by
 unfold Ft;rw[iK,UJ];split <;> rfl
def Ri(T:List Tk)(S:List Sm)(PS:List (jW×Hd))(RS:List iH)(a:Nat)(w:World)(e:Ending)(w':World):Prop :=
 ∃(inn:List Bool) (h1 h2:Hd),(∀k,inn.getD k false=true ↔ fk PS RS a k)/\e=returned (tuple #[slice h1.ao (Pa T S inn (a+1)).length h1.cap,slice h2.ao (Ft T S RS inn (a+1)).length h2.cap])/\ip w w' h1 (aD (Pa T S inn (a+1)))/\ip w w' h2 (aD (Ft T S RS inn (a+1)))
theorem ip.two{l:World}{c f:Hd}{r d p:ew}(a:ip x L N r)(b:ip x L f p)(m:∀k,N.Yv=some k->f.Yv≠some k)(g:bJ L l N c)(o:aB l c d):ip x l c d/\ip x l f p/\∀k,c.Yv=some k->f.Yv≠some k:=by
 have n:=a.Yr g o;refine⟨n,⟨g.beside b.YF (fun k i j=>m k j i),b.far,n.Yu⟩,fun k i j=>?_⟩;rcases g.Yv with e | ⟨q,e,s⟩
 ·exact m k (by rw[<-e];exact i) j
 ·have:=b.YF.lt j;rw[i]at e;cases e
  omega
theorem j9.o(h:j9 x H y):H<x.heap.size:=aj h
theorem IX(k:List UInt8)(h:(k == [36,97])=true):(k == [36,112])=false:=by
 have:=WP h;rw[this];rfl
set_option maxRecDepth 100000
theorem En(a:Nat)(T:List Tk)(ch:Xu)(cT:Nat)(S:List Sm)(a1:Xu)(cS:Nat)(x0 x1:Value)(v:List (jW×Hd))(a0:Xu)(cP:Nat)(y:List iH)(cf:Xu)(cR:Nat)(w:World)(hD:ge w l T ch cT S a1 cS)(hJ:O9 w n l x0 x1 v a0 cP y cf cR)(dt:a<v.length)(dv:a<y.length)(dz:a<S.length)(ha:a<=10000)(hA:∀j,j<=a->(aq S j).a<T.length)(cj:∀t,t<=a->(g9 v t).1.st.length<=100000000/\∀i,i<(g9 v t).1.st.length->(aQ (g9 v t).1.st i).ref<=(a:Int)) :
  Calls prog 68 #[pointer (some ⟨n,0,none⟩),int i64 a] w fun e C=>Ri T S v y a w e C:=by
 obtain⟨i1,c2,c7,c8,c9⟩:=UC Nt;obtain⟨iS,cl,bc,be,bf⟩:=UC jN;have m2:=fun w=>dV (P:=prog) w 134 4 i1 _ underlying134 c2 c7 (a+1) 1 c8 (by rw[c9];omega) (by omega);obtain⟨mc,ca⟩:=bm (madeCells (bool false).cells ((a+1)*1));have b1:Xr (mc=((List.replicate (a+1) false).map bool).toArray):=cM (by rw[<-ca.o,yl]);rw[ca.o]at m2;have cX:((a+1:Nat):Int)=(a:Int)+1:=by omega
 have m3:=m2 w;rw[cX]at m3;obtain⟨W,HW⟩:=bm (w.alloc (.cells (mc.setIfInBounds a (bool true)) 4));have aT:j9 (w.alloc (.cells mc 4)) w.heap.size (List.replicate (a+1) false):=by
  unfold j9;rw[b1.o];exact Ui _ _
 have ce:Xr (j9 W w.heap.size ((List.replicate (a+1) false).set a true)):=by
  show j9 _ _ _;unfold j9;rw[<-HW.o,b1.o];refine(Ui _ _).trans ?_;congr 2;rw[U0,Wo]
 have cy:Xr _:=fg HW.o;have cb:Xr (xi v y a ((List.replicate (a+1) false).set a true)):=by
  refine⟨by simp,by rw[Uc,List.getElem?_set_self (by simp)];rfl,fun k hk=>?_⟩;rcases Jk _ a k hk with e | e
  ·rw[e];exact fk.self
  ·rw[Uc,VC]at e;split at e <;> cases e
 have c0:(w.alloc (.cells mc 4)).cell? ⟨w.heap.size,a,none⟩=some (bool false):=aT.cell a false (by rw[VC,Uf (by omega)]);have f0:=am aT a;have z0:=aj aT;have dT:(a:Int)<(a:Int)+1:=by omega
 have HD:Xr _:=hD;have HJ:Xr _:=hJ;have HA:Xr _:=hA;have cB:Xr _:=cj;have b4:Xr (∀t,t<=a->∀wx,ae [] w wx->Calls prog 67 #[pointer (some ⟨n,0,none⟩),int i64 t] wx fun e C=>e=returned (bool (cG y t))/\C=wx):=fun t ht wx kx=>AQ n l t x0 x1 v a0 cP y cf cR wx (hJ.Yh kx) (by omega);clear hD hJ hA cj aT m2;go_enter func68,ntmps68;go_upto_region 3 with fail
 rw[HW.o];clear c0 f0 z0 m3;go_wp2;obtain⟨bg,cu⟩:=bm ((List.replicate (a+1) false).set a true);rw[cu.o]at ce cb
 go_loopg [7] (2*aU bg+1) (fun g ag wr=>∃(f:Bool) (b:List Bool),ag=bool f/\g=2*aU b+(if f=true then 1 else 0)/\Xr (xi v y a b)/\Xr (f=false->∀t,t<=a->xh v y b t)/\Xr (j9 wr w.heap.size b)/\Xr (ae [] w wr))
 ·exact⟨true,bg,rfl,rfl,cb,(fun h=>by cases h),ce,cy⟩
 obtain⟨f,b,rfl,hg,u,bl,m,F⟩:=hrel;cases f
 ·have cr:Xr _:=xi.all u.o (bl.o rfl);have HL:Xr _:=u.o.len;obtain⟨w1,bv⟩:=bm (wr);rw[bv.o];rw[bv.o]at m F;clear bv bl hg;have b2:Xr (ip w1 w1 ⟨none,0⟩ (aD [])):=⟨Uj _ _ _ _,(by intro k hk;cases hk),ae.refl _ _⟩;have cq:Xr (([]:Xt)=Pa T S b 0):=rfl;have ct:Xr (([]:Xt)=Ft T S y b 0):=rfl;go_wp2
  go_loopg [12,13,14] (a+1) (fun g ax bd tv wr=>∃(t:Nat) (U V:Hd) (A B:Xt),t<=a+1/\g=a+1-t/\ax=slice U.ao A.length U.cap/\bd=slice V.ao B.length V.cap/\tv=int i64 t/\(A.length<=t/\B.length<=t)/\Xr (A=Pa T S b t)/\Xr (B=Ft T S y b t)/\Xr (ip w1 wr U (aD A))/\Xr (ip w1 wr V (aD B))/\Xr (∀k,U.Yv=some k->V.Yv≠some k))
  ·exact⟨0,⟨none,0⟩,⟨none,0⟩,[],[],by omega,rfl,rfl,rfl,rfl,⟨Ue _,Ue _⟩,cq,ct,b2,b2,(by intro k hk;cases hk)⟩
  obtain⟨t,U,V,A,B,ht,c1,rfl,rfl,rfl,⟨dl,dp⟩,bj,bk,aS,b6,X⟩:=hrel;by_cases an:t<=a
  ·have bw:(t:Int)<=(a:Int):=(by omega);have ap:t<S.length:=(by omega);have bT:Xr _:=F.o.trans aS.o.Yu;have b0:Xr (Calls prog 88 #[pointer (some ⟨l,0,none⟩),int i64 t] wr fun e C=>e=returned (string (bD T (aq S t)))/\ae [] wr C):=by
    have:=pj l t T ch cT S a1 cS wr (ge.Yh HD.o bT.o) ap (by rw[bX S t ap];exact HA.o t an);rw[bX S t ap]at this;exact this
   have I:Xr (∀C:World,ae [] w1 C->C.cell? ⟨w.heap.size,t,none⟩=some (bool (b.getD t false))/\w.heap.size<C.heap.size/\C.cell? ⟨n,2,none⟩=some (pointer (some ⟨l,0,none⟩))/\n<C.heap.size/\∃gs,a1=some ⟨gs,0,none⟩/\gs<C.heap.size/\C.cell? ⟨l,1,none⟩=some (slice a1 S.length cS)/\l<C.heap.size/\C.cell? ⟨gs,t*4+3,none⟩=some (string (aq S t).k)):=fun C kw=>by
    have hs:=j9.Yu m.o kw (by simp);have hd:=ge.Yh HD.o (F.o.trans kw);have hj:=O9.Yh HJ.o (F.o.trans kw);obtain⟨-,s0,hb⟩:=hd.cells;obtain⟨gs,e3,a4,-,-,-,q3⟩:=hd.s.2 t S[t] (Ub ap);rw[bX S t ap]at q3;exact⟨hs.cell t _ (BH b t (by rw[HL.o];omega)),hs.o,by rw[ah hj.d];rfl,aj hj.d,gs,e3,a4,s0,hb,q3⟩
   have z:Xr _:=b4.o t an;have ad:Xr _:=MD T S b t;have K:Xr _:=MJ T S y b t;rw[<-bj.o]at ad;rw[<-bk.o]at K;have bo:Xr (Tw S b t=(b.getD t false&&((aq S t).k.toList == [36,97]))):=rfl;have Q:Xr (SN S y b t=(b.getD t false&&(((aq S t).k.toList == [36,112]) && !cG y t))):=rfl;obtain⟨sd,af⟩:=bm (cG y t);rw[af.o]at z Q;obtain⟨x,Hx⟩:=bm (bD T (aq S t));rw[Hx.o]at b0 ad K;generalize (aq S t).k=sk at *;generalize b.getD t false=ib at *;obtain⟨-,-,v2,cp,-⟩:=I.o wr aS.o.Yu;(go_upto_region 23 with (go_at_call 88;refine Ug b0.o ?_;rintro e w2 ⟨rfl,k2⟩));have ac:Xr _:=k2;clear k2 v2 cp;have b5:Xr _:=z.o w2 (bT.o.trans ac.o);(go_upto_region 24 with (go_at_call 67;refine Ug b5.o ?_;rintro e w3 ⟨rfl,D⟩;rw[D];clear D));have L:Xr _:=aS.o.Yh ac.o;have R:Xr _:=b6.o.Yh ac.o;obtain⟨y0,y1,y2,y3,gs,rfl,a4,s0,cV,q3⟩:=I.o w2 L.o.Yu;have d6:(t:Int)<S.length:=(by omega);have c6:(t:Int)<(a:Int)+1:=(by omega);have c5:(0:Int)<=(t:Int):=(by omega);cases ib
   ·have J:Xr (A=Pa T S b (t+1)):=(by show _=_;rw[ad.o,bo.o];simp);have G:Xr (B=Ft T S y b (t+1)):=cM (by rw[K.o,Q.o];simp);go_wp2;go_roundg (a+1-(t+1))
    ·exact⟨t+1,U,V,A,B,by omega,rfl,rfl,rfl,by go_num,⟨by omega,by omega⟩,J,G,L,R,X⟩
    omega
   ·cases a6:(sk.toList == [36,97])
    ·have J:Xr (A=Pa T S b (t+1)):=(by show _=_;rw[ad.o,bo.o,a6];simp);cases al:(sk.toList == [36,112])
     ·have G:Xr (B=Ft T S y b (t+1)):=(by show _=_;rw[K.o,Q.o,al];simp);go_wp2;go_roundg (a+1-(t+1))
      ·exact⟨t+1,U,V,A,B,by omega,rfl,rfl,rfl,by go_num,⟨by omega,by omega⟩,J,G,L,R,X⟩
      omega
     ·cases sd
      ·have G:Xr (B++[x]=Ft T S y b (t+1)):=(by show _=_;rw[K.o,Q.o,al];simp);have a3:=R.o.YF;have a2:(aD B).n<=900000000:=(by show B.length<=_;omega);go_wp2_with (at_builtin;refine cI _ rfl (.tmp 136) (.tmp 138) 61 rfl iS (string ⟨#[]⟩) 16 V (aD B) [string x] underlying61 cl bc be bf rfl UA rfl a3 a2 (by omega) rfl rfl (by simp[Value.oneCell']) ?_;intro h5 w5 N ai;rw[eI]at N;have H:Xr _:=(ip.two R.o L.o (fun k hk hq=>X.o k hq hk) ai N);clear N ai);go_roundg (a+1-(t+1))
       ·exact⟨t+1,U,h5,A,B++[x],by omega,rfl,rfl,by simp[aD],by go_num,⟨by omega,by simp;omega⟩,J,G,H.o.2.1,H.o.1,(fun k hk hq=>H.o.2.2 k hq hk)⟩
       omega
      ·have G:Xr (B=Ft T S y b (t+1)):=(by show _=_;rw[K.o,Q.o,al];simp);go_wp2;go_roundg (a+1-(t+1))
       ·exact⟨t+1,U,V,A,B,by omega,rfl,rfl,rfl,by go_num,⟨by omega,by omega⟩,J,G,L,R,X⟩
       omega
    ·have al:=IX _ a6;have J:Xr (A++[x]=Pa T S b (t+1)):=cM (by rw[ad.o,bo.o,a6];simp);have G:Xr (B=Ft T S y b (t+1)):=cM (by rw[K.o,Q.o,al];simp);have a3:=L.o.YF;have a2:(aD A).n<=900000000:=(by show A.length<=_;omega);(go_upto_region 26 with (at_builtin;refine cI _ rfl (.tmp 110) (.tmp 112) 61 rfl iS (string ⟨#[]⟩) 16 U (aD A) [string x] underlying61 cl bc be bf rfl UA rfl a3 a2 (by omega) rfl rfl (by simp[Value.oneCell']) ?_;intro h5 w5 N ai;rw[eI]at N;have H:Xr _:=ip.two L.o R.o X.o ai N;clear N ai));obtain⟨z0,z1,z2,z3,dk,ez,df,z4,z5,z6⟩:=I.o w5 H.o.1.Yu;cases ez
     clear y0 y1 y2 y3 a4 s0 cV q3 a3 a2;go_wp2;go_roundg (a+1-(t+1))
     ·exact⟨t+1,h5,V,A++[x],B,by omega,rfl,by simp[aD],rfl,by go_num,⟨by simp;omega,by omega⟩,J,G,H.o.1,H.o.2.1,H.o.2.2⟩
     omega
  ·have et:t=a+1:=(by omega);subst et;have bw:¬(a:Int)+1<=(a:Int):=by omega
   go_wp2;go_ret2;exact⟨b,U,V,cr.o,by rw[<-bj.o,<-bk.o];rfl,by rw[<-bj.o];exact aS.o.base F.o,by rw[<-bk.o];exact b6.o.base F.o⟩
 ·obtain⟨c,Hc⟩:∃c,Xr (aU b=c):=⟨_,rfl⟩
  rw[Hc.o]at hg;have hg:_=2*c+1:=hg;have bx:Xr (aU b<=c):=by show _<=_;rw[Hc.o];omega
  clear bl;go_wp2
  go_loopg [7,8] (a+1) (fun g2 ag tv wr=>∃(t:Nat) (f:Bool) (b:List Bool),t<=a+1/\g2=a+1-t/\ag=bool f/\tv=int i64 t/\Xr (aU b<=c/\(f=true->aU b<c))/\Xr (f=false->∀E,E<t->xh v y b E)/\Xr (xi v y a b)/\Xr (j9 wr w.heap.size b)/\Xr (ae [] w wr))
  ·exact⟨0,false,b,by omega,rfl,rfl,rfl,⟨bx.o,fun h=>by cases h⟩,(fun _ t ht=>absurd ht (WU t)),u,m,F⟩
  clear bx u m F Hc;obtain⟨t,f,b,ht,c1,rfl,rfl,Y,HT,u,m,F⟩:=hrel;by_cases an:t<=a
  ·have bw:(t:Int)<=(a:Int):=(by omega);have z:Xr _:=b4.o t an wr F.o;have y0:=j9.cell m.o t _ (BH b t (by rw[u.o.len];omega));have y1:=j9.o m.o;obtain⟨sd,af⟩:=bm (cG y t);rw[af.o]at z;obtain⟨ib,M⟩:=bm (b.getD t false);rw[M.o]at y0;have c5:(0:Int)<=(t:Int):=(by omega);have c6:(t:Int)<(a:Int)+1:=(by omega);have br:Xr (xh v y b t->f=false->∀E,E<t+1->xh v y b E):=fun hc h E c4=>by
    by_cases e:E=t
    ·rw[e];exact hc
    ·exact HT.o h E (by omega)
   cases ib
   ·have HM:Xr _:=br.o (fun h=>by rw[M.o]at h;cases h);go_wp2_with (go_at_call 67;refine Ug z.o ?_;rintro e w3 ⟨rfl,D⟩;rw[D];clear D);go_roundg (a+1-(t+1))
    ·exact⟨t+1,f,b,by omega,rfl,rfl,by go_num,Y,HM,u,m,F⟩
    omega
   ·cases sd
    ·have HM:Xr _:=br.o (fun _ h=>by rw[af.o]at h;cases h);go_wp2_with (go_at_call 67;refine Ug z.o ?_;rintro e w3 ⟨rfl,D⟩;rw[D];clear D);go_roundg (a+1-(t+1))
     ·exact⟨t+1,f,b,by omega,rfl,rfl,by go_num,Y,HM,u,m,F⟩
     omega
    ·have cA:Xr _:=u.o.sub t M.o;obtain⟨co,az⟩:=cB.o t an;have az:Xr _:=az;have d5:(t:Int)<v.length:=(by omega);have I:Xr (∀C:World,ae [] w C->∃gP,a0=some ⟨gP,0,none⟩/\gP<C.heap.size/\C.cell? ⟨n,3,none⟩=some (slice a0 v.length cP)/\n<C.heap.size/\C.cell? ⟨gP,t*5,none⟩=some (slice (g9 v t).2.ao (g9 v t).1.st.length (g9 v t).2.cap)/\cN C (g9 v t).2.ao 6 lp (g9 v t).1.st):=fun C kw=>by
      have hj:=O9.Yh HJ.o kw;obtain⟨gP,e,ck,cc⟩:=hj.p t _ (un v t (by omega));exact⟨gP,e,ck,by rw[ah hj.d];rfl,aj hj.d,cc 0 _ rfl,hj.q _ (Vq (un v t (by omega)))⟩
     have a7:Xr (∀b:List Bool,(∀i,i<(g9 v t).1.st.length->∀k:Nat,(aQ (g9 v t).1.st i).ref=(k:Int)->b.getD k false=true)->xh v y b t):=fun _ h _ _=>h;have ba:Xr (∀i,i<(g9 v t).1.st.length->∀k:Nat,(aQ (g9 v t).1.st i).ref=(k:Int)->fk v y a k):=fun i hi k he=>fk.step cA.o af.o hi he;have Z:Xr (f=false->(∀E,E<t->xh v y b E)/\∀i,i<0->∀k:Nat,(aQ (g9 v t).1.st i).ref=(k:Int)->b.getD k false=true):=fun h=>⟨HT.o h,fun i hi=>by omega⟩
     obtain⟨O,cL⟩:=bm ((g9 v t).1.st);obtain⟨hd,cH⟩:=bm ((g9 v t).2);rw[cL.o]at I a7 ba Z co az;rw[cH.o]at I;obtain⟨db,dg⟩:=hd;simp only at I;go_wp2_with (go_at_call 67;refine Ug z.o ?_;rintro e w3 ⟨rfl,D⟩;rw[D];clear D)
     go_loopg [7,10] O.length (fun g3 ag iv wr=>∃(i:Nat) (f:Bool) (b:List Bool),i<=O.length/\g3=O.length-i/\ag=bool f/\iv=int i64 i/\Xr (aU b<=c/\(f=true->aU b<c))/\Xr (f=false->(∀E,E<t->xh v y b E)/\∀i',i'<i->∀k:Nat,(aQ O i').ref=(k:Int)->b.getD k false=true)/\Xr (xi v y a b)/\Xr (j9 wr w.heap.size b)/\Xr (ae [] w wr))
     ·exact⟨0,f,b,by omega,rfl,rfl,rfl,Y,Z,u,m,F⟩
     clear Y Z HT u m F br y0 y1 M z;obtain⟨i,f,b,hi,d0,rfl,rfl,Y,HT,u,m,F⟩:=hrel;obtain⟨gP,rfl,ck,v3,cp,p0,bp⟩:=I.o wr F.o;rcases kn i O.length with ⟨a5,d3⟩ | ⟨a5,-⟩
     ·obtain⟨gs,es,a4,cs⟩:=bp i _ (Jo O i a5);replace es:db=some ⟨gs,0,none⟩:=es;subst es;have s0:wr.cell? ⟨gs,i*6,none⟩=some (int i64 (aQ O i).ref):=cs 0 _ rfl;have cz:Xr _:=az.o i a5;have cE:Xr _:=ba.o i a5
      have b3:Xr (f=false->(∀k:Nat,(aQ O i).ref=(k:Int)->b.getD k false=true)->(∀E,E<t->xh v y b E)/\∀i',i'<i+1->∀k:Nat,(aQ O i').ref=(k:Int)->b.getD k false=true):=fun h hk=>⟨(HT.o h).1,fun i' d1 k he=>by
       by_cases e:i'=i
       ·subst e;exact hk k he
       ·exact(HT.o h).2 i' (by omega) k he⟩
      generalize (aQ O i).ref=r at *;clear cs bp;have d2:(0:Int)<=(i:Int):=by omega
      by_cases c3:(0:Int)<=r
      ·obtain⟨k,rfl⟩:=Int.eq_ofNat_of_zero_le c3;have a6:k<=a:=(by have:=cz.o;omega);have d4:(k:Int)<(a:Int)+1:=(by omega);have y0:=j9.cell m.o k _ (BH b k (by rw[u.o.len];omega));have y1:=j9.o m.o;have bz:Xr _:=(BH b k (by rw[u.o.len];omega));obtain⟨ib,M⟩:=bm (b.getD k false);rw[M.o]at y0 bz;cases ib
       ·have HU:Xr _:=mm b k bz.o;have ar:Xr (aU (b.set k true)<c):=by
         have U:=HU.o;have V:=Y.o.1;show _<_;omega
        have cx:Xr _:=xi.set u.o (cE.o k rfl);obtain⟨W3,bs⟩:=bm (wr.setCell ⟨w.heap.size,k,none⟩ (bool true));have cF:Xr (j9 W3 w.heap.size (b.set k true)):=(by show j9 _ _ _;rw[<-bs.o];exact j9.set m.o k);have ac:Xr (ae [] w W3):=(by show ae [] w W3;rw[<-bs.o];exact F.o.sr1 (by simp) _);have f0:=am m.o k;(go_upto_region 17 with fail);rw[bs.o];go_wp2;go_roundg (O.length-(i+1))
        ·exact⟨i+1,true,b.set k true,by omega,rfl,rfl,by go_num,⟨Vb ar.o,fun _=>ar.o⟩,(fun h=>by cases h),cx,cF,ac⟩
        omega
       ·have HM:Xr _:=fun h=>b3.o h (fun q hq=>by rw[show q=k by omega];exact M.o);go_wp2;go_roundg (O.length-(i+1))
        ·exact⟨i+1,f,b,by omega,rfl,rfl,by go_num,Y,HM,u,m,F⟩
        omega
      ·have HM:Xr _:=fun h=>b3.o h (fun q hq=>absurd hq (by omega));go_wp2;go_roundg (O.length-(i+1))
       ·exact⟨i+1,f,b,by omega,rfl,rfl,by go_num,Y,HM,u,m,F⟩
       omega
     ·have ei:i=O.length:=(by omega);subst ei;have HM:Xr (f=false->∀E,E<t+1->xh v y b E):=fun h E c4=>by
       by_cases e:E=t
       ·rw[e];exact a7.o b (HT.o h).2
       ·exact(HT.o h).1 E (by omega)
      clear bp;go_wp2;go_roundg (a+1-(t+1))
      ·exact⟨t+1,f,b,by omega,rfl,rfl,by go_num,Y,HM,u,m,F⟩
      omega
  ·have et:t=a+1:=(by omega);subst et;have bw:¬(a:Int)+1<=(a:Int):=by omega
   have HM:Xr (f=false->∀t,t<=a->xh v y b t):=fun h t ht=>HT.o h t (by omega);have ds:=Y.o.1;have ar:Xr _:=Y.o.2;go_wp2;go_roundg (2*aU b+(if f=true then 1 else 0))
   case measure =>
    cases f
    ·rw[Ud (by simp)];omega
    ·have:=ar.o rfl;rw[Uf rfl];omega
   case rel=>exact⟨f,b,rfl,rfl,u,HM,m,F⟩
theorem RH:(prog.info? 122).map (fun i=>(i.zero,i.size,i.bytes))=some (some (agg #[slice none 0 0,int i64 0,string ⟨#[]⟩,int i64 0,int i64 0]),5,64):=by kernel_rfl
theorem IV:(prog.info? 38).map (fun i=>(i.zero,i.size,i.bytes))=some (some (agg #[string ⟨#[]⟩,int i64 0,int i64 0,string ⟨#[]⟩,int i64 0,int i64 0]),6,64):=by kernel_rfl
theorem qZ(x:jW×Hd):(⟨(gK k).e,(gK k).size,(gK k).n+1,(gK k).xs++Pb x⟩:ew)=gK (k++[x]):=gU _ _ _ _ _
theorem ti(x:iH):(⟨(gD D).e,(gD D).size,(gD D).n+1,(gD D).xs++ln x⟩:ew)=gD (D++[x]):=gU _ _ _ _ _
theorem cN.keptS{α:Type}{a:Xu}{f:α->List Value}{b:List α}{S:Xv}(h:cN x a H f b)(k:ae S x L)(l:∀g,a=some ⟨g,0,none⟩->g∉S):cN L a H f b:=fun j o n=>by
 obtain⟨g,e,d,c⟩:=h j o n;exact⟨g,e,Ul d k.size,fun i u m=>by rw[Uw (k.block g d (l g e))];exact c i u m⟩
def Mj(w:World)(h1 h2:Hd)(x:jW×Hd):Prop:=∀g,x.2.ao=some ⟨g,0,none⟩->w.heap.size<=g/\h1.Yv≠some g/\h2.Yv≠some g
structure xj(w wr:World)(v b:Nat)(x0 x1:Value)(PS:List (jW×Hd))(h1:Hd)(RS:List iH)(h2:Hd):Prop where
 d:wr.heap[v]?=some (.cells #[x0,x1,pointer (some ⟨b,0,none⟩),slice h1.ao PS.length h1.cap,slice h2.ao RS.length h2.cap] 85)
 lt:v<w.heap.size
 o1:aB wr h1 (gK PS)
 o2:aB wr h2 (gD RS)
 f1:∀k,h1.Yv=some k->w.heap.size<=k
 f2:∀k,h2.Yv=some k->w.heap.size<=k
 ap:∀k,h1.Yv=some k->h2.Yv≠some k
 Yu:ae [v] w wr
 q:∀x∈PS,cN wr x.2.ao 6 lp x.1.st/\Mj w h1 h2 x
 ql:∀x∈PS,∀g,x.2.ao=some ⟨g,0,none⟩->g<wr.heap.size
variable {w wr w':World} {v b:Nat} {x0 x1:Value} {PS:List (jW×Hd)} {h1 h1':Hd} {RS:List iH} {h2 h2':Hd}
theorem pQ{v:Nat}(k:ae [] x L):ae [v] x L:=k.mono (by simp)
theorem xj.Yh(a:xj w wr v b x0 x1 PS h1 RS h2)(k:ae [] wr w'):xj w w' v b x0 x1 PS h1 RS h2 :=
 ⟨k.get a.d (by simp),a.lt,a.o1.Yh k,a.o2.Yh k,a.f1,a.f2,a.ap,a.Yu.trans (pQ k),fun x c=>⟨(a.q x c).1.Yh k,(a.q x c).2⟩,fun x c g e=>Ul (a.ql x c g e) k.size⟩
theorem xj.jds(a:xj w wr v b x0 x1 PS h1 RS h2):O9 wr v b x0 x1 PS h1.ao h1.cap RS h2.ao h2.cap :=
 ⟨a.d,a.o1.srcG Qq,fun x c=>(a.q x c).1,a.o2.srcG yX⟩
theorem Bs(e:N.ao=some ⟨H,0,none⟩):N.Yv=some H:=by unfold Hd.Yv;rw[e];rfl
theorem xj.addP(a:xj w wr v b x0 x1 PS h1 RS h2)(x:jW×Hd)(D:cN wr x.2.ao 6 lp x.1.st)(B:Mj w h1 h2 x)(t:∀g,x.2.ao=some ⟨g,0,none⟩->g<wr.heap.size)(g:bJ wr w' h1 h1')(o:aB w' h1' (gK (PS++[x])))(m:Nat)(C:m=PS.length+1) :
  xj w (w'.setCell ⟨v,3,none⟩ (slice h1'.ao m h1'.cap)) v b x0 x1 (PS++[x]) h1' RS h2:=by
 have u:v∉h1.Yv.toList:=fun c=>by have:=a.f1 _ (aR c);have:=a.lt;omega
 have A:=g.Yu.get a.d u;have s:ae [v] w' (w'.setCell ⟨v,3,none⟩ (slice h1'.ao m h1'.cap)):=(ae.refl _ _).sl1 _;have j:∀k,h1'.Yv=some k->w.heap.size<=k:=fun k f=>by
  rcases g.Yv with e | ⟨q,e,c⟩
  ·exact a.f1 k (by rw[<-e];exact f)
  ·rw[f]at e;cases e;exact Un a.Yu.size c
 have i:∀y∈PS++[x],cN wr y.2.ao 6 lp y.1.st/\Mj w h1 h2 y/\∀g,y.2.ao=some ⟨g,0,none⟩->g<wr.heap.size:=fun y l=>by
  rcases UG.1 l with h | h
  ·exact⟨(a.q y h).1,(a.q y h).2,a.ql y h⟩
  ·rw[Uq]at h;subst h;exact⟨D,B,t⟩
 refine⟨?_,a.lt,?_,?_,j,a.f2,?_,?_,?_,?_⟩
 ·rw[ab A 3];congr 2;rw[C,Uh];rfl
 ·exact o.Yq (fun k f e=>by have:=j k f;have:=a.lt;omega) _ _
 ·exact(g.beside a.o2 (fun k f c=>a.ap k c f)).Yq (fun k f e=>by have:=a.f2 k f;have:=a.lt;omega) _ _
 ·intro k f c;rcases g.Yv with e | ⟨q,e,t⟩
  ·exact a.ap k (by rw[<-e];exact f) c
  ·have:=a.o2.lt c;rw[f]at e;cases e;omega
 ·refine⟨g.Yu.os.trans a.Yu.os,g.Yu.tape.trans a.Yu.tape,g.Yu.output.trans a.Yu.output,?_,fun k f z=>?_⟩
  ·exact Un (Un a.Yu.size g.Yu.size) s.size
  ·have h1:=a.Yu.size;have h2:=g.Yu.size;rw[s.block k (by omega) z,g.Yu.block k (by omega) (fun c=>by have:=a.f1 _ (aR c);omega),a.Yu.block k f z]
 ·intro y l;obtain⟨E,n,F⟩:=i y l;refine⟨(E.keptS g.Yu (fun q e c=>(n q e).2.1 (aR c))).keptS s (fun q e c=>?_),fun q e=>⟨(n q e).1,fun c=>?_,(n q e).2.2⟩⟩
  ·have:=(n q e).1;have:=a.lt;simp at c;omega
  ·rcases g.Yv with p | ⟨r,p,t⟩
   ·exact(n q e).2.1 (by rw[<-p];exact c)
   ·have:=F q e;rw[c]at p;cases p;omega
 ·intro y l q e;have h1:=(i y l).2.2 q e;have h2:=g.Yu.size;have G:=s.size;omega
theorem xj.addR(a:xj w wr v b x0 x1 PS h1 RS h2)(x:iH)(g:bJ wr w' h2 h2')(o:aB w' h2' (gD (RS++[x])))(m:Nat)(A:m=RS.length+1) :
  xj w (w'.setCell ⟨v,4,none⟩ (slice h2'.ao m h2'.cap)) v b x0 x1 PS h1 (RS++[x]) h2':=by
 have s:v∉h2.Yv.toList:=fun c=>by have:=a.f2 _ (aR c);have:=a.lt;omega
 have u:=g.Yu.get a.d s;have p:ae [v] w' (w'.setCell ⟨v,4,none⟩ (slice h2'.ao m h2'.cap)):=(ae.refl _ _).sl1 _;have i:∀k,h2'.Yv=some k->w.heap.size<=k:=fun k f=>by
  rcases g.Yv with e | ⟨q,e,c⟩
  ·exact a.f2 k (by rw[<-e];exact f)
  ·rw[f]at e;cases e;exact Un a.Yu.size c
 refine⟨?_,a.lt,?_,?_,a.f1,i,?_,?_,?_,?_⟩
 ·rw[ab u 4];congr 2;rw[A,Uh];rfl
 ·exact(g.beside a.o1 (fun k f c=>a.ap k f c)).Yq (fun k f e=>by have:=a.f1 k f;have:=a.lt;omega) _ _
 ·exact o.Yq (fun k f e=>by have:=i k f;have:=a.lt;omega) _ _
 ·intro k f c;rcases g.Yv with e | ⟨q,e,z⟩
  ·exact a.ap k f (by rw[<-e];exact c)
  ·have:=a.o1.lt f;rw[c]at e;cases e;omega
 ·refine⟨g.Yu.os.trans a.Yu.os,g.Yu.tape.trans a.Yu.tape,g.Yu.output.trans a.Yu.output,?_,fun k f t=>?_⟩
  ·exact Un (Un a.Yu.size g.Yu.size) p.size
  ·have h1:=a.Yu.size;have h2:=g.Yu.size;rw[p.block k (by omega) t,g.Yu.block k (by omega) (fun c=>by have:=a.f2 _ (aR c);omega),a.Yu.block k f t]
 ·intro y n;obtain⟨B,j⟩:=a.q y n;have C:=a.ql y n;refine⟨(B.keptS g.Yu (fun q e c=>(j q e).2.2 (aR c))).keptS p (fun q e c=>?_),fun q e=>⟨(j q e).1,(j q e).2.1,fun c=>?_⟩⟩
  ·have:=(j q e).1;have:=a.lt;simp at c;omega
  ·rcases g.Yv with l | ⟨r,l,z⟩
   ·exact(j q e).2.2 (by rw[<-l];exact c)
   ·have:=C q e;rw[c]at l;cases l;omega
 ·intro y n q e;have h1:=a.ql y n q e;have h2:=g.Yu.size;have D:=p.size;omega
theorem Sk(RS:List iH)(k:Nat)(h:k<RS.length)(u:Int):(RS.flatMap ln).set (k*6+1) (int i64 u)=(RS.set k { eK RS k with Yi:=u }).flatMap ln:=by
 induction RS generalizing k with
 | nil=>simp at h
 | cons r RS b =>
  cases k with
  | zero=>rfl
  | succ k =>
   have e:(k+1)*6+1=6+(k*6+1):=(by omega);have a:eK (r :: RS) (k+1)=eK RS k:=rfl;rw[a,Wb,U4,U4,<-b k (by simpa using h),e,V9 _ _ (by rw[yX];omega),yX];congr 2;omega
theorem xj.put(a:xj w wr v b x0 x1 PS h1 RS h2)(j:h2.ao=some ⟨H,0,none⟩)(k:Nat)(p:k<RS.length)(u:Int):xj w (wr.setCell ⟨H,k*6+1,none⟩ (int i64 u)) v b x0 x1 PS h1 (RS.set k { eK RS k with Yi:=u }) h2:=by
 have i:=Bs j;have o:=a.f2 H i;have m:=a.o2.lt i;have r:=a.lt;have c:ae [H] wr (wr.setCell ⟨H,k*6+1,none⟩ (int i64 u)):=(ae.refl _ _).sl1 _;refine⟨?_,a.lt,?_,?_,a.f1,a.f2,a.ap,?_,?_,?_⟩
 ·rw[c.get a.d (by simp;omega),UZ]
 ·exact a.o1.Yq (fun q f e=>a.ap q f (by rw[e];exact i)) _ _
 ·have:=a.o2.putAt j (k*6+1) (int i64 u);have e:(⟨(gD RS).e,(gD RS).size,(gD RS).n,(gD RS).xs.set (k*6+1) (int i64 u)⟩:ew)=gD (RS.set k { eK RS k with Yi:=u }):=by
   show(⟨_,_,RS.length,(RS.flatMap ln).set (k*6+1) (int i64 u)⟩:ew)=_
   rw[Sk RS k p u];unfold gD lm;rw[UZ]
  rw[e]at this;exact this
 ·exact⟨c.os.trans a.Yu.os,c.tape.trans a.Yu.tape,c.output.trans a.Yu.output,Un a.Yu.size c.size,fun q f s=>by
   have:=a.Yu.size;rw[c.block q (by omega) (by simp;omega),a.Yu.block q f s]⟩
 ·intro y g;exact⟨(a.q y g).1.keptS c (fun q e f=>by simp at f;subst f;exact((a.q y g).2 q e).2.2 i),(a.q y g).2⟩
 ·intro y g q e;exact Ul (a.ql y g q e) c.size
end Go.Proofs.YtnbhnocdhbcbcaaGreat
