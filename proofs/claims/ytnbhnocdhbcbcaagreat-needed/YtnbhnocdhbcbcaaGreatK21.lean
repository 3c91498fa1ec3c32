import Derived.Test.YtnbhnocdhbcbcaaGreatK20
namespace Go.Proofs.YtnbhnocdhbcbcaaGreat
open Go.RowKit Tryz
open Value IntKind Ending
set_option maxHeartbeats 0
variable{T:List (jP×Hd)}{S:List iq}{H I:Nat}{y:List Bool}{x L:World}{N:Hd}(M:List Tk)(d:List Sm)(k:List (jP×Hd))(D:List iq)(f:List Bool)(n l:Nat)
def hQ(PS:List (jP×Hd))(t:Nat):jP×Hd:=PS.getD t (⟨[],0,⟨#[]⟩,0,0⟩,⟨none,0⟩)
theorem BI(h:l<k.length):k[l]?=some (hQ k l):=by
 unfold hQ;rw[To,Tn h];rfl
def eJ(PS:List (jP×Hd))(RS:List iq)(a k:Nat):Prop:=∀P:Nat->Prop,P a->(∀t k i:Nat,P t->cM RS t=true->i<(hQ PS t).1.st.length->(bN (hQ PS t).1.st i).ref=(k:Int)->P k)->P k
theorem eJ.self:eJ T S H H:=fun _ h _=>h
theorem eJ.step{t i:Nat}(h:eJ T S H t)(c:cM S t=true)(d:i<(hQ T t).1.st.length)(e:(bN (hQ T t).1.st i).ref=(I:Int)):eJ T S H I:=fun P b a=>a t I i (h P b a) c d e
def wY(PS:List (jP×Hd))(RS:List iq)(inn:List Bool)(t:Nat):Prop:=inn.getD t false=true->cM RS t=true->∀i,i<(hQ PS t).1.st.length->∀k:Nat,(bN (hQ PS t).1.st i).ref=(k:Int)->inn.getD k false=true
structure wZ(PS:List (jP×Hd))(RS:List iq)(a:Nat)(inn:List Bool):Prop where
 len:inn.length=a+1
 self:inn.getD a false=true
 sub:∀k,inn.getD k false=true->eJ PS RS a k
theorem Bn(h:l<f.length):f[l]?=some (f.getD l false):=by
 rw[To,Tn h];rfl
theorem Qk(h:f.getD l false=true):(f.set n true).getD l false=true:=by
 rw[To]at h ⊢;rw[UA];by_cases e:n=l
 ·rw[Tr e];split
  ·rfl
  ·next a=>rw[Un (by omega)]at h;cases h
 ·rw[Tp e];exact h
theorem IS(h:(f.set n true).getD l false=true):l=n∨f.getD l false=true:=by
 by_cases e:n=l
 ·exact TH e.symm
 ·right
  rw[To,UA,Tp e,<-To]at h;exact h
theorem wZ.set(h:wZ T S H y)(a:eJ T S H I):wZ T S H (y.set I true) :=
 ⟨by rw[Um];exact h.len,Qk y I H h.self,fun q b=>by
  rcases IS y I q b with e | e
  ·rw[e];exact a
  ·exact h.sub q e⟩
theorem wZ.all(h:wZ T S H y)(b:∀t,t<=H->wY T S y t)(k:Nat):y.getD k false=true ↔ eJ T S H k:=by
 refine⟨h.sub k,fun f=>?_⟩;refine f (fun k=>y.getD k false=true) h.self (fun t k i a g d c=>?_);have j:t<=H:=by
  have l:=h.len;by_cases e:t<y.length
  ·omega
  ·rw[To,Un (by omega)]at a;cases a
 exact b t j a g i d k c
def R9(S:List Sm)(inn:List Bool)(t:Nat):Bool:=inn.getD t false&&((aq S t).k.toList == [36,97])
def QV(S:List Sm)(RS:List iq)(inn:List Bool)(t:Nat):Bool:=inn.getD t false&&(((aq S t).k.toList == [36,112]) && !cM RS t)
def Jm(T:List Tk)(S:List Sm)(inn:List Bool)(n:Nat):Xt:=((List.range n).filter (R9 S inn)).map (fun t=>bS T (aq S t))
def Cq(T:List Tk)(S:List Sm)(RS:List iq)(inn:List Bool)(n:Nat):Xt:=((List.range n).filter (QV S RS inn)).map (fun t=>bS T (aq S t))
theorem Ml:Jm M d f (l+1)=Jm M d f l++(if R9 d f l=true then [bS M (aq d l)] else []):=by
 unfold Jm;rw[fZ,Uh];split <;> rfl
theorem Mq:Cq M d D f (l+1)=Cq M d D f l++(if QV d D f l=true then [bS M (aq d l)] else []):=by
 unfold Cq;rw[fZ,Uh];split <;> rfl
def QM(T:List Tk)(S:List Sm)(PS:List (jP×Hd))(RS:List iq)(a:Nat)(w:World)(e:Ending)(w':World):Prop :=
 ∃(inn:List Bool) (h1 h2:Hd),(∀k,inn.getD k false=true ↔ eJ PS RS a k)/\e=returned (tuple #[slice h1.ao (Jm T S inn (a+1)).length h1.cap,slice h2.ao (Cq T S RS inn (a+1)).length h2.cap])/\ip w w' h1 (aE (Jm T S inn (a+1)))/\ip w w' h2 (aE (Cq T S RS inn (a+1)))
theorem ip.two{l:World}{c f:Hd}{r d p:eR}(a:ip x L N r)(b:ip x L f p)(m:∀k,N.XS=some k->f.XS≠some k)(g:bq L l N c)(o:aB l c d):ip x l c d/\ip x l f p/\∀k,c.XS=some k->f.XS≠some k:=by
 have n:=a.XO g o;refine⟨n,⟨g.beside b.X9 (fun k i j=>m k j i),b.far,n.XR⟩,fun k i j=>?_⟩;rcases g.XS with e | ⟨q,e,s⟩
 ·exact m k (by rw[<-e];exact i) j
 ·have:=b.X9.lt j;rw[i]at e;cases e
  omega
theorem gW.o(h:gW x H y):H<x.heap.size:=aj h
theorem Iy(k:List UInt8)(h:(k == [36,97])=true):(k == [36,112])=false:=by
 have:=Wh h;rw[this];rfl
set_option maxRecDepth 100000
theorem v7(a:Nat)(T:List Tk)(ch:Xu)(cT:Nat)(S:List Sm)(a0:Xu)(cS:Nat)(x0 x1:Value)(v:List (jP×Hd))(aT:Xu)(cP:Nat)(y:List iq)(cf:Xu)(cR:Nat)(w:World)(hD:gy w l T ch cT S a0 cS)(hJ:OH w n l x0 x1 v aT cP y cf cR)(ds:a<v.length)(dt:a<y.length)(dv:a<S.length)(ha:a<=10000)(hA:∀j,j<=a->(aq S j).a<T.length)(cj:∀t,t<=a->(hQ v t).1.st.length<=100000000/\∀i,i<(hQ v t).1.st.length->(bN (hQ v t).1.st i).ref<=(a:Int)) :
  Calls prog 68 #[pointer (some ⟨n,0,none⟩),int i64 a] w fun e C=>QM T S v y a w e C:=by
 obtain⟨i1,c2,c7,c8,c9⟩:=TZ Fo;obtain⟨iS,cl,ba,bc,be⟩:=TZ kg;have m2:=fun w=>dG (P:=prog) w 134 4 i1 _ underlying134 c2 c7 (a+1) 1 c8 (by rw[c9];omega) (by omega);obtain⟨mc,b6⟩:=bn (madeCells (bool false).cells ((a+1)*1));have b0:Xr (mc=((List.replicate (a+1) false).map bool).toArray):=ci (by rw[<-b6.o,sS]);rw[b6.o]at m2;have cX:((a+1:Nat):Int)=(a:Int)+1:=by omega
 have m3:=m2 w;rw[cX]at m3;obtain⟨W,HW⟩:=bn (w.alloc (.cells (mc.setIfInBounds a (bool true)) 4));have aS:gW (w.alloc (.cells mc 4)) w.heap.size (List.replicate (a+1) false):=by
  unfold gW;rw[b0.o];exact Tu _ _
 have cb:Xr (gW W w.heap.size ((List.replicate (a+1) false).set a true)):=by
  show gW _ _ _;unfold gW;rw[<-HW.o,b0.o];refine(Tu _ _).trans ?_;congr 2;rw[Uu,VI]
 have cy:Xr _:=fI HW.o;have ca:Xr (wZ v y a ((List.replicate (a+1) false).set a true)):=by
  refine⟨by simp,by rw[To,List.getElem?_set_self (by simp)];rfl,fun k hk=>?_⟩;rcases IS _ a k hk with e | e
  ·rw[e];exact eJ.self
  ·rw[To,UP]at e;split at e <;> cases e
 have c0:(w.alloc (.cells mc 4)).cell? ⟨w.heap.size,a,none⟩=some (bool false):=aS.cell a false (by rw[UP,Tr (by omega)]);have f0:=am aS a;have z0:=aj aS;have dz:(a:Int)<(a:Int)+1:=by omega
 have HD:Xr _:=hD;have HJ:Xr _:=hJ;have HA:Xr _:=hA;have cB:Xr _:=cj;have b3:Xr (∀t,t<=a->∀wx,ae [] w wx->Calls prog 67 #[pointer (some ⟨n,0,none⟩),int i64 t] wx fun e C=>e=returned (bool (cM y t))/\C=wx):=fun t ht wx kx=>Au n l t x0 x1 v aT cP y cf cR wx (hJ.XE kx) (by omega);clear hD hJ hA cj aS m2;go_enter func68,ntmps68;go_upto_region 3 with fail
 rw[HW.o];clear c0 f0 z0 m3;go_wp2;obtain⟨bf,cu⟩:=bn ((List.replicate (a+1) false).set a true);rw[cu.o]at cb ca
 go_loopg [7] (2*aV bf+1) (fun g ag wr=>∃(f:Bool) (b:List Bool),ag=bool f/\g=2*aV b+(if f=true then 1 else 0)/\Xr (wZ v y a b)/\Xr (f=false->∀t,t<=a->wY v y b t)/\Xr (gW wr w.heap.size b)/\Xr (ae [] w wr))
 ·exact⟨true,bf,rfl,rfl,ca,(fun h=>by cases h),cb,cy⟩
 obtain⟨f,b,rfl,hg,u,bk,m,F⟩:=hrel;cases f
 ·have cr:Xr _:=wZ.all u.o (bk.o rfl);have HL:Xr _:=u.o.len;obtain⟨w1,bs⟩:=bn (wr);rw[bs.o];rw[bs.o]at m F;clear bs bk hg;have b1:Xr (ip w1 w1 ⟨none,0⟩ (aE [])):=⟨Ty _ _ _ _,(by intro k hk;cases hk),ae.refl _ _⟩;have cq:Xr (([]:Xt)=Jm T S b 0):=rfl;have ct:Xr (([]:Xt)=Cq T S y b 0):=rfl;go_wp2
  go_loopg [12,13,14] (a+1) (fun g ax bd tv wr=>∃(t:Nat) (U V:Hd) (A B:Xt),t<=a+1/\g=a+1-t/\ax=slice U.ao A.length U.cap/\bd=slice V.ao B.length V.cap/\tv=int i64 t/\(A.length<=t/\B.length<=t)/\Xr (A=Jm T S b t)/\Xr (B=Cq T S y b t)/\Xr (ip w1 wr U (aE A))/\Xr (ip w1 wr V (aE B))/\Xr (∀k,U.XS=some k->V.XS≠some k))
  ·exact⟨0,⟨none,0⟩,⟨none,0⟩,[],[],by omega,rfl,rfl,rfl,rfl,⟨Tq _,Tq _⟩,cq,ct,b1,b1,(by intro k hk;cases hk)⟩
  obtain⟨t,U,V,A,B,ht,c1,rfl,rfl,rfl,⟨dk,dl⟩,bg,bj,az,b5,X⟩:=hrel;by_cases an:t<=a
  ·have bv:(t:Int)<=(a:Int):=(by omega);have ap:t<S.length:=(by omega);have bz:Xr _:=F.o.trans az.o.XR;have bT:Xr (Calls prog 88 #[pointer (some ⟨l,0,none⟩),int i64 t] wr fun e C=>e=returned (string (bS T (aq S t)))/\ae [] wr C):=by
    have:=rA l t T ch cT S a0 cS wr (gy.XE HD.o bz.o) ap (by rw[bW S t ap];exact HA.o t an);rw[bW S t ap]at this;exact this
   have I:Xr (∀C:World,ae [] w1 C->C.cell? ⟨w.heap.size,t,none⟩=some (bool (b.getD t false))/\w.heap.size<C.heap.size/\C.cell? ⟨n,2,none⟩=some (pointer (some ⟨l,0,none⟩))/\n<C.heap.size/\∃gs,a0=some ⟨gs,0,none⟩/\gs<C.heap.size/\C.cell? ⟨l,1,none⟩=some (slice a0 S.length cS)/\l<C.heap.size/\C.cell? ⟨gs,t*4+3,none⟩=some (string (aq S t).k)):=fun C kw=>by
    have hs:=gW.XR m.o kw (by simp);have hd:=gy.XE HD.o (F.o.trans kw);have hj:=OH.XE HJ.o (F.o.trans kw);obtain⟨-,s0,hb⟩:=hd.cells;obtain⟨gs,e3,a3,-,-,-,q3⟩:=hd.s.2 t S[t] (Tn ap);rw[bW S t ap]at q3;exact⟨hs.cell t _ (Bn b t (by rw[HL.o];omega)),hs.o,by rw[ah hj.d];rfl,aj hj.d,gs,e3,a3,s0,hb,q3⟩
   have z:Xr _:=b3.o t an;have ad:Xr _:=Ml T S b t;have K:Xr _:=Mq T S y b t;rw[<-bg.o]at ad;rw[<-bj.o]at K;have bl:Xr (R9 S b t=(b.getD t false&&((aq S t).k.toList == [36,97]))):=rfl;have Q:Xr (QV S y b t=(b.getD t false&&(((aq S t).k.toList == [36,112]) && !cM y t))):=rfl;obtain⟨sd,af⟩:=bn (cM y t);rw[af.o]at z Q;obtain⟨x,Hx⟩:=bn (bS T (aq S t));rw[Hx.o]at bT ad K;generalize (aq S t).k=sk at *;generalize b.getD t false=ib at *;obtain⟨-,-,v2,cp,-⟩:=I.o wr az.o.XR;(go_upto_region 23 with (go_at_call 88;refine Ts bT.o ?_;rintro e w2 ⟨rfl,k2⟩));have ac:Xr _:=k2;clear k2 v2 cp;have b4:Xr _:=z.o w2 (bz.o.trans ac.o);(go_upto_region 24 with (go_at_call 67;refine Ts b4.o ?_;rintro e w3 ⟨rfl,D⟩;rw[D];clear D));have L:Xr _:=az.o.XE ac.o;have R:Xr _:=b5.o.XE ac.o;obtain⟨y0,y1,y2,y3,gs,rfl,a3,s0,cV,q3⟩:=I.o w2 L.o.XR;have d5:(t:Int)<S.length:=(by omega);have c6:(t:Int)<(a:Int)+1:=(by omega);have c5:(0:Int)<=(t:Int):=(by omega);cases ib
   ·have J:Xr (A=Jm T S b (t+1)):=(by show _=_;rw[ad.o,bl.o];simp);have G:Xr (B=Cq T S y b (t+1)):=ci (by rw[K.o,Q.o];simp);go_wp2;go_roundg (a+1-(t+1))
    ·exact⟨t+1,U,V,A,B,by omega,rfl,rfl,rfl,by go_num,⟨by omega,by omega⟩,J,G,L,R,X⟩
    omega
   ·cases a5:(sk.toList == [36,97])
    ·have J:Xr (A=Jm T S b (t+1)):=(by show _=_;rw[ad.o,bl.o,a5];simp);cases al:(sk.toList == [36,112])
     ·have G:Xr (B=Cq T S y b (t+1)):=(by show _=_;rw[K.o,Q.o,al];simp);go_wp2;go_roundg (a+1-(t+1))
      ·exact⟨t+1,U,V,A,B,by omega,rfl,rfl,rfl,by go_num,⟨by omega,by omega⟩,J,G,L,R,X⟩
      omega
     ·cases sd
      ·have G:Xr (B++[x]=Cq T S y b (t+1)):=(by show _=_;rw[K.o,Q.o,al];simp);have a2:=R.o.X9;have a1:(aE B).n<=900000000:=(by show B.length<=_;omega);go_wp2_with (at_builtin;refine cD _ rfl (.tmp 136) (.tmp 138) 61 rfl iS (string ⟨#[]⟩) 16 V (aE B) [string x] underlying61 cl ba bc be rfl TR rfl a2 a1 (by omega) rfl rfl (by simp[Value.oneCell']) ?_;intro h5 w5 N ai;rw[dX]at N;have H:Xr _:=(ip.two R.o L.o (fun k hk hq=>X.o k hq hk) ai N);clear N ai);go_roundg (a+1-(t+1))
       ·exact⟨t+1,U,h5,A,B++[x],by omega,rfl,rfl,by simp[aE],by go_num,⟨by omega,by simp;omega⟩,J,G,H.o.2.1,H.o.1,(fun k hk hq=>H.o.2.2 k hq hk)⟩
       omega
      ·have G:Xr (B=Cq T S y b (t+1)):=(by show _=_;rw[K.o,Q.o,al];simp);go_wp2;go_roundg (a+1-(t+1))
       ·exact⟨t+1,U,V,A,B,by omega,rfl,rfl,rfl,by go_num,⟨by omega,by omega⟩,J,G,L,R,X⟩
       omega
    ·have al:=Iy _ a5;have J:Xr (A++[x]=Jm T S b (t+1)):=ci (by rw[ad.o,bl.o,a5];simp);have G:Xr (B=Cq T S y b (t+1)):=ci (by rw[K.o,Q.o,al];simp);have a2:=L.o.X9;have a1:(aE A).n<=900000000:=(by show A.length<=_;omega);(go_upto_region 26 with (at_builtin;refine cD _ rfl (.tmp 110) (.tmp 112) 61 rfl iS (string ⟨#[]⟩) 16 U (aE A) [string x] underlying61 cl ba bc be rfl TR rfl a2 a1 (by omega) rfl rfl (by simp[Value.oneCell']) ?_;intro h5 w5 N ai;rw[dX]at N;have H:Xr _:=ip.two L.o R.o X.o ai N;clear N ai));obtain⟨z0,z1,z2,z3,dg,ez,dc,z4,z5,z6⟩:=I.o w5 H.o.1.XR;cases ez
     clear y0 y1 y2 y3 a3 s0 cV q3 a2 a1;go_wp2;go_roundg (a+1-(t+1))
     ·exact⟨t+1,h5,V,A++[x],B,by omega,rfl,by simp[aE],rfl,by go_num,⟨by simp;omega,by omega⟩,J,G,H.o.1,H.o.2.1,H.o.2.2⟩
     omega
  ·have et:t=a+1:=(by omega);subst et;have bv:¬(a:Int)+1<=(a:Int):=by omega
   go_wp2;go_ret2;exact⟨b,U,V,cr.o,by rw[<-bg.o,<-bj.o];rfl,by rw[<-bg.o];exact az.o.base F.o,by rw[<-bj.o];exact b5.o.base F.o⟩
 ·obtain⟨c,Hc⟩:∃c,Xr (aV b=c):=⟨_,rfl⟩
  rw[Hc.o]at hg;have hg:_=2*c+1:=hg;have bw:Xr (aV b<=c):=by show _<=_;rw[Hc.o];omega
  clear bk;go_wp2
  go_loopg [7,8] (a+1) (fun g2 ag tv wr=>∃(t:Nat) (f:Bool) (b:List Bool),t<=a+1/\g2=a+1-t/\ag=bool f/\tv=int i64 t/\Xr (aV b<=c/\(f=true->aV b<c))/\Xr (f=false->∀E,E<t->wY v y b E)/\Xr (wZ v y a b)/\Xr (gW wr w.heap.size b)/\Xr (ae [] w wr))
  ·exact⟨0,false,b,by omega,rfl,rfl,rfl,⟨bw.o,fun h=>by cases h⟩,(fun _ t ht=>absurd ht (Wn t)),u,m,F⟩
  clear bw u m F Hc;obtain⟨t,f,b,ht,c1,rfl,rfl,Y,HT,u,m,F⟩:=hrel;by_cases an:t<=a
  ·have bv:(t:Int)<=(a:Int):=(by omega);have z:Xr _:=b3.o t an wr F.o;have y0:=gW.cell m.o t _ (Bn b t (by rw[u.o.len];omega));have y1:=gW.o m.o;obtain⟨sd,af⟩:=bn (cM y t);rw[af.o]at z;obtain⟨ib,M⟩:=bn (b.getD t false);rw[M.o]at y0;have c5:(0:Int)<=(t:Int):=(by omega);have c6:(t:Int)<(a:Int)+1:=(by omega);have bp:Xr (wY v y b t->f=false->∀E,E<t+1->wY v y b E):=fun hc h E c4=>by
    by_cases e:E=t
    ·rw[e];exact hc
    ·exact HT.o h E (by omega)
   cases ib
   ·have HM:Xr _:=bp.o (fun h=>by rw[M.o]at h;cases h);go_wp2_with (go_at_call 67;refine Ts z.o ?_;rintro e w3 ⟨rfl,D⟩;rw[D];clear D);go_roundg (a+1-(t+1))
    ·exact⟨t+1,f,b,by omega,rfl,rfl,by go_num,Y,HM,u,m,F⟩
    omega
   ·cases sd
    ·have HM:Xr _:=bp.o (fun _ h=>by rw[af.o]at h;cases h);go_wp2_with (go_at_call 67;refine Ts z.o ?_;rintro e w3 ⟨rfl,D⟩;rw[D];clear D);go_roundg (a+1-(t+1))
     ·exact⟨t+1,f,b,by omega,rfl,rfl,by go_num,Y,HM,u,m,F⟩
     omega
    ·have cA:Xr _:=u.o.sub t M.o;obtain⟨co,av⟩:=cB.o t an;have av:Xr _:=av;have d4:(t:Int)<v.length:=(by omega);have I:Xr (∀C:World,ae [] w C->∃gP,aT=some ⟨gP,0,none⟩/\gP<C.heap.size/\C.cell? ⟨n,3,none⟩=some (slice aT v.length cP)/\n<C.heap.size/\C.cell? ⟨gP,t*5,none⟩=some (slice (hQ v t).2.ao (hQ v t).1.st.length (hQ v t).2.cap)/\di C (hQ v t).2.ao 6 lI (hQ v t).1.st):=fun C kw=>by
      have hj:=OH.XE HJ.o kw;obtain⟨gP,e,ck,cc⟩:=hj.p t _ (BI v t (by omega));exact⟨gP,e,ck,by rw[ah hj.d];rfl,aj hj.d,cc 0 _ rfl,hj.q _ (U0 (BI v t (by omega)))⟩
     have a6:Xr (∀b:List Bool,(∀i,i<(hQ v t).1.st.length->∀k:Nat,(bN (hQ v t).1.st i).ref=(k:Int)->b.getD k false=true)->wY v y b t):=fun _ h _ _=>h;have a7:Xr (∀i,i<(hQ v t).1.st.length->∀k:Nat,(bN (hQ v t).1.st i).ref=(k:Int)->eJ v y a k):=fun i hi k he=>eJ.step cA.o af.o hi he;have Z:Xr (f=false->(∀E,E<t->wY v y b E)/\∀i,i<0->∀k:Nat,(bN (hQ v t).1.st i).ref=(k:Int)->b.getD k false=true):=fun h=>⟨HT.o h,fun i hi=>by omega⟩
     obtain⟨O,cL⟩:=bn ((hQ v t).1.st);obtain⟨hd,cH⟩:=bn ((hQ v t).2);rw[cL.o]at I a6 a7 Z co av;rw[cH.o]at I;obtain⟨db,df⟩:=hd;simp only at I;go_wp2_with (go_at_call 67;refine Ts z.o ?_;rintro e w3 ⟨rfl,D⟩;rw[D];clear D)
     go_loopg [7,10] O.length (fun g3 ag iv wr=>∃(i:Nat) (f:Bool) (b:List Bool),i<=O.length/\g3=O.length-i/\ag=bool f/\iv=int i64 i/\Xr (aV b<=c/\(f=true->aV b<c))/\Xr (f=false->(∀E,E<t->wY v y b E)/\∀i',i'<i->∀k:Nat,(bN O i').ref=(k:Int)->b.getD k false=true)/\Xr (wZ v y a b)/\Xr (gW wr w.heap.size b)/\Xr (ae [] w wr))
     ·exact⟨0,f,b,by omega,rfl,rfl,rfl,Y,Z,u,m,F⟩
     clear Y Z HT u m F bp y0 y1 M z;obtain⟨i,f,b,hi,dT,rfl,rfl,Y,HT,u,m,F⟩:=hrel;obtain⟨gP,rfl,ck,v3,cp,p0,bo⟩:=I.o wr F.o;rcases kn i O.length with ⟨a4,d2⟩ | ⟨a4,-⟩
     ·obtain⟨gs,es,a3,cs⟩:=bo i _ (IW O i a4);replace es:db=some ⟨gs,0,none⟩:=es;subst es;have s0:wr.cell? ⟨gs,i*6,none⟩=some (int i64 (bN O i).ref):=cs 0 _ rfl;have cz:Xr _:=av.o i a4;have cE:Xr _:=a7.o i a4
      have b2:Xr (f=false->(∀k:Nat,(bN O i).ref=(k:Int)->b.getD k false=true)->(∀E,E<t->wY v y b E)/\∀i',i'<i+1->∀k:Nat,(bN O i').ref=(k:Int)->b.getD k false=true):=fun h hk=>⟨(HT.o h).1,fun i' d0 k he=>by
       by_cases e:i'=i
       ·subst e;exact hk k he
       ·exact(HT.o h).2 i' (by omega) k he⟩
      generalize (bN O i).ref=r at *;clear cs bo;have d1:(0:Int)<=(i:Int):=by omega
      by_cases c3:(0:Int)<=r
      ·obtain⟨k,rfl⟩:=Int.eq_ofNat_of_zero_le c3;have a5:k<=a:=(by have:=cz.o;omega);have d3:(k:Int)<(a:Int)+1:=(by omega);have y0:=gW.cell m.o k _ (Bn b k (by rw[u.o.len];omega));have y1:=gW.o m.o;have bx:Xr _:=(Bn b k (by rw[u.o.len];omega));obtain⟨ib,M⟩:=bn (b.getD k false);rw[M.o]at y0 bx;cases ib
       ·have HU:Xr _:=l8 b k bx.o;have ar:Xr (aV (b.set k true)<c):=by
         have U:=HU.o;have V:=Y.o.1;show _<_;omega
        have cx:Xr _:=wZ.set u.o (cE.o k rfl);obtain⟨W3,br⟩:=bn (wr.setCell ⟨w.heap.size,k,none⟩ (bool true));have cF:Xr (gW W3 w.heap.size (b.set k true)):=(by show gW _ _ _;rw[<-br.o];exact gW.set m.o k);have ac:Xr (ae [] w W3):=(by show ae [] w W3;rw[<-br.o];exact F.o.sr1 (by simp) _);have f0:=am m.o k;(go_upto_region 17 with fail);rw[br.o];go_wp2;go_roundg (O.length-(i+1))
        ·exact⟨i+1,true,b.set k true,by omega,rfl,rfl,by go_num,⟨UB ar.o,fun _=>ar.o⟩,(fun h=>by cases h),cx,cF,ac⟩
        omega
       ·have HM:Xr _:=fun h=>b2.o h (fun q hq=>by rw[show q=k by omega];exact M.o);go_wp2;go_roundg (O.length-(i+1))
        ·exact⟨i+1,f,b,by omega,rfl,rfl,by go_num,Y,HM,u,m,F⟩
        omega
      ·have HM:Xr _:=fun h=>b2.o h (fun q hq=>absurd hq (by omega));go_wp2;go_roundg (O.length-(i+1))
       ·exact⟨i+1,f,b,by omega,rfl,rfl,by go_num,Y,HM,u,m,F⟩
       omega
     ·have ei:i=O.length:=(by omega);subst ei;have HM:Xr (f=false->∀E,E<t+1->wY v y b E):=fun h E c4=>by
       by_cases e:E=t
       ·rw[e];exact a6.o b (HT.o h).2
       ·exact(HT.o h).1 E (by omega)
      clear bo;go_wp2;go_roundg (a+1-(t+1))
      ·exact⟨t+1,f,b,by omega,rfl,rfl,by go_num,Y,HM,u,m,F⟩
      omega
  ·have et:t=a+1:=(by omega);subst et;have bv:¬(a:Int)+1<=(a:Int):=by omega
   have HM:Xr (f=false->∀t,t<=a->wY v y b t):=fun h t ht=>HT.o h t (by omega);have dp:=Y.o.1;have ar:Xr _:=Y.o.2;go_wp2;go_roundg (2*aV b+(if f=true then 1 else 0))
   case measure =>
    cases f
    ·rw[Tp (by simp)];omega
    ·have:=ar.o rfl;rw[Tr rfl];omega
   case rel=>exact⟨f,b,rfl,rfl,u,HM,m,F⟩
theorem Q7:(prog.info? 122).map (fun i=>(i.zero,i.size,i.bytes))=some (some (agg #[slice none 0 0,int i64 0,string ⟨#[]⟩,int i64 0,int i64 0]),5,64):=by kernel_rfl
theorem Iw:(prog.info? 38).map (fun i=>(i.zero,i.size,i.bytes))=some (some (agg #[string ⟨#[]⟩,int i64 0,int i64 0,string ⟨#[]⟩,int i64 0,int i64 0]),6,64):=by kernel_rfl
theorem qT(x:jP×Hd):(⟨(gO k).e,(gO k).size,(gO k).n+1,(gO k).xs++OI x⟩:eR)=gO (k++[x]):=iA _ _ _ _ _
theorem ti(x:iq):(⟨(gG D).e,(gG D).size,(gG D).n+1,(gG D).xs++lg x⟩:eR)=gG (D++[x]):=iA _ _ _ _ _
theorem di.keptS{α:Type}{a:Xu}{f:α->List Value}{b:List α}{S:Xv}(h:di x a H f b)(k:ae S x L)(l:∀g,a=some ⟨g,0,none⟩->g∉S):di L a H f b:=fun j o n=>by
 obtain⟨g,e,d,c⟩:=h j o n;exact⟨g,e,Tw d k.size,fun i u m=>by rw[TO (k.block g d (l g e))];exact c i u m⟩
def LT(w:World)(h1 h2:Hd)(x:jP×Hd):Prop:=∀g,x.2.ao=some ⟨g,0,none⟩->w.heap.size<=g/\h1.XS≠some g/\h2.XS≠some g
structure xa(w wr:World)(v b:Nat)(x0 x1:Value)(PS:List (jP×Hd))(h1:Hd)(RS:List iq)(h2:Hd):Prop where
 d:wr.heap[v]?=some (.cells #[x0,x1,pointer (some ⟨b,0,none⟩),slice h1.ao PS.length h1.cap,slice h2.ao RS.length h2.cap] 85)
 lt:v<w.heap.size
 o1:aB wr h1 (gO PS)
 o2:aB wr h2 (gG RS)
 f1:∀k,h1.XS=some k->w.heap.size<=k
 f2:∀k,h2.XS=some k->w.heap.size<=k
 ap:∀k,h1.XS=some k->h2.XS≠some k
 XR:ae [v] w wr
 q:∀x∈PS,di wr x.2.ao 6 lI x.1.st/\LT w h1 h2 x
 ql:∀x∈PS,∀g,x.2.ao=some ⟨g,0,none⟩->g<wr.heap.size
variable {w wr w':World} {v b:Nat} {x0 x1:Value} {PS:List (jP×Hd)} {h1 h1':Hd} {RS:List iq} {h2 h2':Hd}
theorem pG{v:Nat}(k:ae [] x L):ae [v] x L:=k.mono (by simp)
theorem xa.XE(a:xa w wr v b x0 x1 PS h1 RS h2)(k:ae [] wr w'):xa w w' v b x0 x1 PS h1 RS h2 :=
 ⟨k.get a.d (by simp),a.lt,a.o1.XE k,a.o2.XE k,a.f1,a.f2,a.ap,a.XR.trans (pG k),fun x c=>⟨(a.q x c).1.XE k,(a.q x c).2⟩,fun x c g e=>Tw (a.ql x c g e) k.size⟩
theorem xa.jds(a:xa w wr v b x0 x1 PS h1 RS h2):OH wr v b x0 x1 PS h1.ao h1.cap RS h2.ao h2.cap :=
 ⟨a.d,a.o1.srcG PQ,fun x c=>(a.q x c).1,a.o2.srcG yG⟩
theorem A9(e:N.ao=some ⟨H,0,none⟩):N.XS=some H:=by unfold Hd.XS;rw[e];rfl
theorem xa.addP(a:xa w wr v b x0 x1 PS h1 RS h2)(x:jP×Hd)(D:di wr x.2.ao 6 lI x.1.st)(B:LT w h1 h2 x)(t:∀g,x.2.ao=some ⟨g,0,none⟩->g<wr.heap.size)(g:bq wr w' h1 h1')(o:aB w' h1' (gO (PS++[x])))(m:Nat)(C:m=PS.length+1) :
  xa w (w'.setCell ⟨v,3,none⟩ (slice h1'.ao m h1'.cap)) v b x0 x1 (PS++[x]) h1' RS h2:=by
 have u:v∉h1.XS.toList:=fun c=>by have:=a.f1 _ (aQ c);have:=a.lt;omega
 have A:=g.XR.get a.d u;have s:ae [v] w' (w'.setCell ⟨v,3,none⟩ (slice h1'.ao m h1'.cap)):=(ae.refl _ _).sl1 _;have j:∀k,h1'.XS=some k->w.heap.size<=k:=fun k f=>by
  rcases g.XS with e | ⟨q,e,c⟩
  ·exact a.f1 k (by rw[<-e];exact f)
  ·rw[f]at e;cases e;exact TF a.XR.size c
 have i:∀y∈PS++[x],di wr y.2.ao 6 lI y.1.st/\LT w h1 h2 y/\∀g,y.2.ao=some ⟨g,0,none⟩->g<wr.heap.size:=fun y l=>by
  rcases Ug.1 l with h | h
  ·exact⟨(a.q y h).1,(a.q y h).2,a.ql y h⟩
  ·rw[TI]at h;subst h;exact⟨D,B,t⟩
 refine⟨?_,a.lt,?_,?_,j,a.f2,?_,?_,?_,?_⟩
 ·rw[ab A 3];congr 2;rw[C,Tv];rfl
 ·exact o.XN (fun k f e=>by have:=j k f;have:=a.lt;omega) _ _
 ·exact(g.beside a.o2 (fun k f c=>a.ap k c f)).XN (fun k f e=>by have:=a.f2 k f;have:=a.lt;omega) _ _
 ·intro k f c;rcases g.XS with e | ⟨q,e,t⟩
  ·exact a.ap k (by rw[<-e];exact f) c
  ·have:=a.o2.lt c;rw[f]at e;cases e;omega
 ·refine⟨g.XR.os.trans a.XR.os,g.XR.tape.trans a.XR.tape,g.XR.output.trans a.XR.output,?_,fun k f z=>?_⟩
  ·exact TF (TF a.XR.size g.XR.size) s.size
  ·have h1:=a.XR.size;have h2:=g.XR.size;rw[s.block k (by omega) z,g.XR.block k (by omega) (fun c=>by have:=a.f1 _ (aQ c);omega),a.XR.block k f z]
 ·intro y l;obtain⟨E,n,F⟩:=i y l;refine⟨(E.keptS g.XR (fun q e c=>(n q e).2.1 (aQ c))).keptS s (fun q e c=>?_),fun q e=>⟨(n q e).1,fun c=>?_,(n q e).2.2⟩⟩
  ·have:=(n q e).1;have:=a.lt;simp at c;omega
  ·rcases g.XS with p | ⟨r,p,t⟩
   ·exact(n q e).2.1 (by rw[<-p];exact c)
   ·have:=F q e;rw[c]at p;cases p;omega
 ·intro y l q e;have h1:=(i y l).2.2 q e;have h2:=g.XR.size;have G:=s.size;omega
theorem xa.addR(a:xa w wr v b x0 x1 PS h1 RS h2)(x:iq)(g:bq wr w' h2 h2')(o:aB w' h2' (gG (RS++[x])))(m:Nat)(A:m=RS.length+1) :
  xa w (w'.setCell ⟨v,4,none⟩ (slice h2'.ao m h2'.cap)) v b x0 x1 PS h1 (RS++[x]) h2':=by
 have s:v∉h2.XS.toList:=fun c=>by have:=a.f2 _ (aQ c);have:=a.lt;omega
 have u:=g.XR.get a.d s;have p:ae [v] w' (w'.setCell ⟨v,4,none⟩ (slice h2'.ao m h2'.cap)):=(ae.refl _ _).sl1 _;have i:∀k,h2'.XS=some k->w.heap.size<=k:=fun k f=>by
  rcases g.XS with e | ⟨q,e,c⟩
  ·exact a.f2 k (by rw[<-e];exact f)
  ·rw[f]at e;cases e;exact TF a.XR.size c
 refine⟨?_,a.lt,?_,?_,a.f1,i,?_,?_,?_,?_⟩
 ·rw[ab u 4];congr 2;rw[A,Tv];rfl
 ·exact(g.beside a.o1 (fun k f c=>a.ap k f c)).XN (fun k f e=>by have:=a.f1 k f;have:=a.lt;omega) _ _
 ·exact o.XN (fun k f e=>by have:=i k f;have:=a.lt;omega) _ _
 ·intro k f c;rcases g.XS with e | ⟨q,e,z⟩
  ·exact a.ap k f (by rw[<-e];exact c)
  ·have:=a.o1.lt f;rw[c]at e;cases e;omega
 ·refine⟨g.XR.os.trans a.XR.os,g.XR.tape.trans a.XR.tape,g.XR.output.trans a.XR.output,?_,fun k f t=>?_⟩
  ·exact TF (TF a.XR.size g.XR.size) p.size
  ·have h1:=a.XR.size;have h2:=g.XR.size;rw[p.block k (by omega) t,g.XR.block k (by omega) (fun c=>by have:=a.f2 _ (aQ c);omega),a.XR.block k f t]
 ·intro y n;obtain⟨B,j⟩:=a.q y n;have C:=a.ql y n;refine⟨(B.keptS g.XR (fun q e c=>(j q e).2.2 (aQ c))).keptS p (fun q e c=>?_),fun q e=>⟨(j q e).1,(j q e).2.1,fun c=>?_⟩⟩
  ·have:=(j q e).1;have:=a.lt;simp at c;omega
  ·rcases g.XS with l | ⟨r,l,z⟩
   ·exact(j q e).2.2 (by rw[<-l];exact c)
   ·have:=C q e;rw[c]at l;cases l;omega
 ·intro y n q e;have h1:=a.ql y n q e;have h2:=g.XR.size;have D:=p.size;omega
theorem Ry(RS:List iq)(k:Nat)(h:k<RS.length)(u:Int):(RS.flatMap lg).set (k*6+1) (int i64 u)=(RS.set k { dW RS k with XF:=u }).flatMap lg:=by
 induction RS generalizing k with
 | nil=>simp at h
 | cons r RS b =>
  cases k with
  | zero=>rfl
  | succ k =>
   have e:(k+1)*6+1=6+(k*6+1):=(by omega);have a:dW (r :: RS) (k+1)=dW RS k:=rfl;rw[a,Vi,Uv,Uv,<-b k (by simpa using h),e,Vw _ _ (by rw[yG];omega),yG];congr 2;omega
theorem xa.put(a:xa w wr v b x0 x1 PS h1 RS h2)(j:h2.ao=some ⟨H,0,none⟩)(k:Nat)(p:k<RS.length)(u:Int):xa w (wr.setCell ⟨H,k*6+1,none⟩ (int i64 u)) v b x0 x1 PS h1 (RS.set k { dW RS k with XF:=u }) h2:=by
 have i:=A9 j;have o:=a.f2 H i;have m:=a.o2.lt i;have r:=a.lt;have c:ae [H] wr (wr.setCell ⟨H,k*6+1,none⟩ (int i64 u)):=(ae.refl _ _).sl1 _;refine⟨?_,a.lt,?_,?_,a.f1,a.f2,a.ap,?_,?_,?_⟩
 ·rw[c.get a.d (by simp;omega),Um]
 ·exact a.o1.XN (fun q f e=>a.ap q f (by rw[e];exact i)) _ _
 ·have:=a.o2.putAt j (k*6+1) (int i64 u);have e:(⟨(gG RS).e,(gG RS).size,(gG RS).n,(gG RS).xs.set (k*6+1) (int i64 u)⟩:eR)=gG (RS.set k { dW RS k with XF:=u }):=by
   show(⟨_,_,RS.length,(RS.flatMap lg).set (k*6+1) (int i64 u)⟩:eR)=_
   rw[Ry RS k p u];unfold gG lG;rw[Um]
  rw[e]at this;exact this
 ·exact⟨c.os.trans a.XR.os,c.tape.trans a.XR.tape,c.output.trans a.XR.output,TF a.XR.size c.size,fun q f s=>by
   have:=a.XR.size;rw[c.block q (by omega) (by simp;omega),a.XR.block q f s]⟩
 ·intro y g;exact⟨(a.q y g).1.keptS c (fun q e f=>by simp at f;subst f;exact((a.q y g).2 q e).2.2 i),(a.q y g).2⟩
 ·intro y g q e;exact Tw (a.ql y g q e) c.size
end Go.Proofs.YtnbhnocdhbcbcaaGreat
