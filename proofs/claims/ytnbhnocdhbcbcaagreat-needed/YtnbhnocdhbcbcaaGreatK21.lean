import Derived.Test.YtnbhnocdhbcbcaaGreatK20
namespace Go.Proofs.YtnbhnocdhbcbcaaGreat
open Go.RowKit Tryz
open Value IntKind Ending
set_option maxHeartbeats 0
variable{T:List (jO×Hd)}{S:List ip}{H I:Nat}{y:List Bool}{x L:World}{N:Hd}(M:List Tk)(d:List Sm)(k:List (jO×Hd))(D:List ip)(f:List Bool)(n l:Nat)
def g9(PS:List (jO×Hd))(t:Nat):jO×Hd:=PS.getD t (⟨[],0,⟨#[]⟩,0,0⟩,⟨none,0⟩)
theorem BH(h:l<k.length):k[l]?=some (g9 k l):=by
 unfold g9;rw[Tn,Tm h];rfl
def eI(PS:List (jO×Hd))(RS:List ip)(a k:Nat):Prop:=∀P:Nat->Prop,P a->(∀t k i:Nat,P t->cK RS t=true->i<(g9 PS t).1.st.length->(bN (g9 PS t).1.st i).ref=(k:Int)->P k)->P k
theorem eI.self:eI T S H H:=fun _ h _=>h
theorem eI.step{t i:Nat}(h:eI T S H t)(c:cK S t=true)(d:i<(g9 T t).1.st.length)(e:(bN (g9 T t).1.st i).ref=(I:Int)):eI T S H I:=fun P b a=>a t I i (h P b a) c d e
def wX(PS:List (jO×Hd))(RS:List ip)(inn:List Bool)(t:Nat):Prop:=inn.getD t false=true->cK RS t=true->∀i,i<(g9 PS t).1.st.length->∀k:Nat,(bN (g9 PS t).1.st i).ref=(k:Int)->inn.getD k false=true
structure wY(PS:List (jO×Hd))(RS:List ip)(a:Nat)(inn:List Bool):Prop where
 len:inn.length=a+1
 self:inn.getD a false=true
 sub:∀k,inn.getD k false=true->eI PS RS a k
theorem Bm(h:l<f.length):f[l]?=some (f.getD l false):=by
 rw[Tn,Tm h];rfl
theorem Qj(h:f.getD l false=true):(f.set n true).getD l false=true:=by
 rw[Tn]at h ⊢;rw[Uz];by_cases e:n=l
 ·rw[Tq e];split
  ·rfl
  ·next a=>rw[Um (by omega)]at h;cases h
 ·rw[To e];exact h
theorem IR(h:(f.set n true).getD l false=true):l=n∨f.getD l false=true:=by
 by_cases e:n=l
 ·exact TG e.symm
 ·right
  rw[Tn,Uz,To e,<-Tn]at h;exact h
theorem wY.set(h:wY T S H y)(a:eI T S H I):wY T S H (y.set I true) :=
 ⟨by rw[Ul];exact h.len,Qj y I H h.self,fun q b=>by
  rcases IR y I q b with e | e
  ·rw[e];exact a
  ·exact h.sub q e⟩
theorem wY.all(h:wY T S H y)(b:∀t,t<=H->wX T S y t)(k:Nat):y.getD k false=true ↔ eI T S H k:=by
 refine⟨h.sub k,fun f=>?_⟩;refine f (fun k=>y.getD k false=true) h.self (fun t k i a g d c=>?_);have j:t<=H:=by
  have l:=h.len;by_cases e:t<y.length
  ·omega
  ·rw[Tn,Um (by omega)]at a;cases a
 exact b t j a g i d k c
def R8(S:List Sm)(inn:List Bool)(t:Nat):Bool:=inn.getD t false&&((aq S t).k.toList == [36,97])
def QU(S:List Sm)(RS:List ip)(inn:List Bool)(t:Nat):Bool:=inn.getD t false&&(((aq S t).k.toList == [36,112]) && !cK RS t)
def Jl(T:List Tk)(S:List Sm)(inn:List Bool)(n:Nat):Xt:=((List.range n).filter (R8 S inn)).map (fun t=>bR T (aq S t))
def Cp(T:List Tk)(S:List Sm)(RS:List ip)(inn:List Bool)(n:Nat):Xt:=((List.range n).filter (QU S RS inn)).map (fun t=>bR T (aq S t))
theorem Mk:Jl M d f (l+1)=Jl M d f l++(if R8 d f l=true then [bR M (aq d l)] else []):=by
 unfold Jl;rw[fY,Ug];split <;> rfl
theorem Mp:Cp M d D f (l+1)=Cp M d D f l++(if QU d D f l=true then [bR M (aq d l)] else []):=by
 unfold Cp;rw[fY,Ug];split <;> rfl
def QL(T:List Tk)(S:List Sm)(PS:List (jO×Hd))(RS:List ip)(a:Nat)(w:World)(e:Ending)(w':World):Prop :=
 ∃(inn:List Bool) (h1 h2:Hd),(∀k,inn.getD k false=true ↔ eI PS RS a k)/\e=returned (tuple #[slice h1.ao (Jl T S inn (a+1)).length h1.cap,slice h2.ao (Cp T S RS inn (a+1)).length h2.cap])/\io w w' h1 (aE (Jl T S inn (a+1)))/\io w w' h2 (aE (Cp T S RS inn (a+1)))
theorem io.two{l:World}{c f:Hd}{r d p:eQ}(a:io x L N r)(b:io x L f p)(m:∀k,N.XR=some k->f.XR≠some k)(g:bq L l N c)(o:aB l c d):io x l c d/\io x l f p/\∀k,c.XR=some k->f.XR≠some k:=by
 have n:=a.XN g o;refine⟨n,⟨g.beside b.X6 (fun k i j=>m k j i),b.far,n.XQ⟩,fun k i j=>?_⟩;rcases g.XR with e | ⟨q,e,s⟩
 ·exact m k (by rw[<-e];exact i) j
 ·have:=b.X6.lt j;rw[i]at e;cases e
  omega
theorem gU.o(h:gU x H y):H<x.heap.size:=aj h
theorem Ix(k:List UInt8)(h:(k == [36,97])=true):(k == [36,112])=false:=by
 have:=Wg h;rw[this];rfl
set_option maxRecDepth 100000
theorem v6(a:Nat)(T:List Tk)(ch:Xu)(cT:Nat)(S:List Sm)(a0:Xu)(cS:Nat)(x0 x1:Value)(v:List (jO×Hd))(aT:Xu)(cP:Nat)(y:List ip)(cf:Xu)(cR:Nat)(w:World)(hD:gx w l T ch cT S a0 cS)(hJ:OG w n l x0 x1 v aT cP y cf cR)(ds:a<v.length)(dt:a<y.length)(dv:a<S.length)(ha:a<=10000)(hA:∀j,j<=a->(aq S j).a<T.length)(cj:∀t,t<=a->(g9 v t).1.st.length<=100000000/\∀i,i<(g9 v t).1.st.length->(bN (g9 v t).1.st i).ref<=(a:Int)) :
  Calls prog 68 #[pointer (some ⟨n,0,none⟩),int i64 a] w fun e C=>QL T S v y a w e C:=by
 obtain⟨i1,c2,c7,c8,c9⟩:=TY Fn;obtain⟨iS,cl,ba,bc,be⟩:=TY ke;have m2:=fun w=>dF (P:=prog) w 134 4 i1 _ underlying134 c2 c7 (a+1) 1 c8 (by rw[c9];omega) (by omega);obtain⟨mc,b6⟩:=bn (madeCells (bool false).cells ((a+1)*1));have b0:Xr (mc=((List.replicate (a+1) false).map bool).toArray):=cg (by rw[<-b6.o,sR]);rw[b6.o]at m2;have cX:((a+1:Nat):Int)=(a:Int)+1:=by omega
 have m3:=m2 w;rw[cX]at m3;obtain⟨W,HW⟩:=bn (w.alloc (.cells (mc.setIfInBounds a (bool true)) 4));have aS:gU (w.alloc (.cells mc 4)) w.heap.size (List.replicate (a+1) false):=by
  unfold gU;rw[b0.o];exact Ts _ _
 have cb:Xr (gU W w.heap.size ((List.replicate (a+1) false).set a true)):=by
  show gU _ _ _;unfold gU;rw[<-HW.o,b0.o];refine(Ts _ _).trans ?_;congr 2;rw[Ut,VH]
 have cy:Xr _:=fH HW.o;have ca:Xr (wY v y a ((List.replicate (a+1) false).set a true)):=by
  refine⟨by simp,by rw[Tn,List.getElem?_set_self (by simp)];rfl,fun k hk=>?_⟩;rcases IR _ a k hk with e | e
  ·rw[e];exact eI.self
  ·rw[Tn,UO]at e;split at e <;> cases e
 have c0:(w.alloc (.cells mc 4)).cell? ⟨w.heap.size,a,none⟩=some (bool false):=aS.cell a false (by rw[UO,Tq (by omega)]);have f0:=am aS a;have z0:=aj aS;have dz:(a:Int)<(a:Int)+1:=by omega
 have HD:Xr _:=hD;have HJ:Xr _:=hJ;have HA:Xr _:=hA;have cB:Xr _:=cj;have b3:Xr (∀t,t<=a->∀wx,ae [] w wx->Calls prog 67 #[pointer (some ⟨n,0,none⟩),int i64 t] wx fun e C=>e=returned (bool (cK y t))/\C=wx):=fun t ht wx kx=>At n l t x0 x1 v aT cP y cf cR wx (hJ.XD kx) (by omega);clear hD hJ hA cj aS m2;go_enter func68,ntmps68;go_upto_region 3 with fail
 rw[HW.o];clear c0 f0 z0 m3;go_wp2;obtain⟨bf,cu⟩:=bn ((List.replicate (a+1) false).set a true);rw[cu.o]at cb ca
 go_loopg [7] (2*aV bf+1) (fun g ag wr=>∃(f:Bool) (b:List Bool),ag=bool f/\g=2*aV b+(if f=true then 1 else 0)/\Xr (wY v y a b)/\Xr (f=false->∀t,t<=a->wX v y b t)/\Xr (gU wr w.heap.size b)/\Xr (ae [] w wr))
 ·exact⟨true,bf,rfl,rfl,ca,(fun h=>by cases h),cb,cy⟩
 obtain⟨f,b,rfl,hg,u,bk,m,F⟩:=hrel;cases f
 ·have cr:Xr _:=wY.all u.o (bk.o rfl);have HL:Xr _:=u.o.len;obtain⟨w1,bs⟩:=bn (wr);rw[bs.o];rw[bs.o]at m F;clear bs bk hg;have b1:Xr (io w1 w1 ⟨none,0⟩ (aE [])):=⟨Tw _ _ _ _,(by intro k hk;cases hk),ae.refl _ _⟩;have cq:Xr (([]:Xt)=Jl T S b 0):=rfl;have ct:Xr (([]:Xt)=Cp T S y b 0):=rfl;go_wp2
  go_loopg [12,13,14] (a+1) (fun g ax bd tv wr=>∃(t:Nat) (U V:Hd) (A B:Xt),t<=a+1/\g=a+1-t/\ax=slice U.ao A.length U.cap/\bd=slice V.ao B.length V.cap/\tv=int i64 t/\(A.length<=t/\B.length<=t)/\Xr (A=Jl T S b t)/\Xr (B=Cp T S y b t)/\Xr (io w1 wr U (aE A))/\Xr (io w1 wr V (aE B))/\Xr (∀k,U.XR=some k->V.XR≠some k))
  ·exact⟨0,⟨none,0⟩,⟨none,0⟩,[],[],by omega,rfl,rfl,rfl,rfl,⟨Tp _,Tp _⟩,cq,ct,b1,b1,(by intro k hk;cases hk)⟩
  obtain⟨t,U,V,A,B,ht,c1,rfl,rfl,rfl,⟨dk,dl⟩,bg,bj,az,b5,X⟩:=hrel;by_cases an:t<=a
  ·have bv:(t:Int)<=(a:Int):=(by omega);have ap:t<S.length:=(by omega);have bz:Xr _:=F.o.trans az.o.XQ;have bT:Xr (Calls prog 88 #[pointer (some ⟨l,0,none⟩),int i64 t] wr fun e C=>e=returned (string (bR T (aq S t)))/\ae [] wr C):=by
    have:=rx l t T ch cT S a0 cS wr (gx.XD HD.o bz.o) ap (by rw[bV S t ap];exact HA.o t an);rw[bV S t ap]at this;exact this
   have I:Xr (∀C:World,ae [] w1 C->C.cell? ⟨w.heap.size,t,none⟩=some (bool (b.getD t false))/\w.heap.size<C.heap.size/\C.cell? ⟨n,2,none⟩=some (pointer (some ⟨l,0,none⟩))/\n<C.heap.size/\∃gs,a0=some ⟨gs,0,none⟩/\gs<C.heap.size/\C.cell? ⟨l,1,none⟩=some (slice a0 S.length cS)/\l<C.heap.size/\C.cell? ⟨gs,t*4+3,none⟩=some (string (aq S t).k)):=fun C kw=>by
    have hs:=gU.XQ m.o kw (by simp);have hd:=gx.XD HD.o (F.o.trans kw);have hj:=OG.XD HJ.o (F.o.trans kw);obtain⟨-,s0,hb⟩:=hd.cells;obtain⟨gs,e3,a3,-,-,-,q3⟩:=hd.s.2 t S[t] (Tm ap);rw[bV S t ap]at q3;exact⟨hs.cell t _ (Bm b t (by rw[HL.o];omega)),hs.o,by rw[ah hj.d];rfl,aj hj.d,gs,e3,a3,s0,hb,q3⟩
   have z:Xr _:=b3.o t an;have ad:Xr _:=Mk T S b t;have K:Xr _:=Mp T S y b t;rw[<-bg.o]at ad;rw[<-bj.o]at K;have bl:Xr (R8 S b t=(b.getD t false&&((aq S t).k.toList == [36,97]))):=rfl;have Q:Xr (QU S y b t=(b.getD t false&&(((aq S t).k.toList == [36,112]) && !cK y t))):=rfl;obtain⟨sd,af⟩:=bn (cK y t);rw[af.o]at z Q;obtain⟨x,Hx⟩:=bn (bR T (aq S t));rw[Hx.o]at bT ad K;generalize (aq S t).k=sk at *;generalize b.getD t false=ib at *;obtain⟨-,-,v2,cp,-⟩:=I.o wr az.o.XQ;(go_upto_region 23 with (go_at_call 88;refine Tr bT.o ?_;rintro e w2 ⟨rfl,k2⟩));have ac:Xr _:=k2;clear k2 v2 cp;have b4:Xr _:=z.o w2 (bz.o.trans ac.o);(go_upto_region 24 with (go_at_call 67;refine Tr b4.o ?_;rintro e w3 ⟨rfl,D⟩;rw[D];clear D));have L:Xr _:=az.o.XD ac.o;have R:Xr _:=b5.o.XD ac.o;obtain⟨y0,y1,y2,y3,gs,rfl,a3,s0,cV,q3⟩:=I.o w2 L.o.XQ;have d5:(t:Int)<S.length:=(by omega);have c6:(t:Int)<(a:Int)+1:=(by omega);have c5:(0:Int)<=(t:Int):=(by omega);cases ib
   ·have J:Xr (A=Jl T S b (t+1)):=(by show _=_;rw[ad.o,bl.o];simp);have G:Xr (B=Cp T S y b (t+1)):=cg (by rw[K.o,Q.o];simp);go_wp2;go_roundg (a+1-(t+1))
    ·exact⟨t+1,U,V,A,B,by omega,rfl,rfl,rfl,by go_num,⟨by omega,by omega⟩,J,G,L,R,X⟩
    omega
   ·cases a5:(sk.toList == [36,97])
    ·have J:Xr (A=Jl T S b (t+1)):=(by show _=_;rw[ad.o,bl.o,a5];simp);cases al:(sk.toList == [36,112])
     ·have G:Xr (B=Cp T S y b (t+1)):=(by show _=_;rw[K.o,Q.o,al];simp);go_wp2;go_roundg (a+1-(t+1))
      ·exact⟨t+1,U,V,A,B,by omega,rfl,rfl,rfl,by go_num,⟨by omega,by omega⟩,J,G,L,R,X⟩
      omega
     ·cases sd
      ·have G:Xr (B++[x]=Cp T S y b (t+1)):=(by show _=_;rw[K.o,Q.o,al];simp);have a2:=R.o.X6;have a1:(aE B).n<=900000000:=(by show B.length<=_;omega);go_wp2_with (at_builtin;refine cC _ rfl (.tmp 136) (.tmp 138) 61 rfl iS (string ⟨#[]⟩) 16 V (aE B) [string x] underlying61 cl ba bc be rfl TQ rfl a2 a1 (by omega) rfl rfl (by simp[Value.oneCell']) ?_;intro h5 w5 N ai;rw[dW]at N;have H:Xr _:=(io.two R.o L.o (fun k hk hq=>X.o k hq hk) ai N);clear N ai);go_roundg (a+1-(t+1))
       ·exact⟨t+1,U,h5,A,B++[x],by omega,rfl,rfl,by simp[aE],by go_num,⟨by omega,by simp;omega⟩,J,G,H.o.2.1,H.o.1,(fun k hk hq=>H.o.2.2 k hq hk)⟩
       omega
      ·have G:Xr (B=Cp T S y b (t+1)):=(by show _=_;rw[K.o,Q.o,al];simp);go_wp2;go_roundg (a+1-(t+1))
       ·exact⟨t+1,U,V,A,B,by omega,rfl,rfl,rfl,by go_num,⟨by omega,by omega⟩,J,G,L,R,X⟩
       omega
    ·have al:=Ix _ a5;have J:Xr (A++[x]=Jl T S b (t+1)):=cg (by rw[ad.o,bl.o,a5];simp);have G:Xr (B=Cp T S y b (t+1)):=cg (by rw[K.o,Q.o,al];simp);have a2:=L.o.X6;have a1:(aE A).n<=900000000:=(by show A.length<=_;omega);(go_upto_region 26 with (at_builtin;refine cC _ rfl (.tmp 110) (.tmp 112) 61 rfl iS (string ⟨#[]⟩) 16 U (aE A) [string x] underlying61 cl ba bc be rfl TQ rfl a2 a1 (by omega) rfl rfl (by simp[Value.oneCell']) ?_;intro h5 w5 N ai;rw[dW]at N;have H:Xr _:=io.two L.o R.o X.o ai N;clear N ai));obtain⟨z0,z1,z2,z3,dg,ez,dc,z4,z5,z6⟩:=I.o w5 H.o.1.XQ;cases ez
     clear y0 y1 y2 y3 a3 s0 cV q3 a2 a1;go_wp2;go_roundg (a+1-(t+1))
     ·exact⟨t+1,h5,V,A++[x],B,by omega,rfl,by simp[aE],rfl,by go_num,⟨by simp;omega,by omega⟩,J,G,H.o.1,H.o.2.1,H.o.2.2⟩
     omega
  ·have et:t=a+1:=(by omega);subst et;have bv:¬(a:Int)+1<=(a:Int):=by omega
   go_wp2;go_ret2;exact⟨b,U,V,cr.o,by rw[<-bg.o,<-bj.o];rfl,by rw[<-bg.o];exact az.o.base F.o,by rw[<-bj.o];exact b5.o.base F.o⟩
 ·obtain⟨c,Hc⟩:∃c,Xr (aV b=c):=⟨_,rfl⟩
  rw[Hc.o]at hg;have hg:_=2*c+1:=hg;have bw:Xr (aV b<=c):=by show _<=_;rw[Hc.o];omega
  clear bk;go_wp2
  go_loopg [7,8] (a+1) (fun g2 ag tv wr=>∃(t:Nat) (f:Bool) (b:List Bool),t<=a+1/\g2=a+1-t/\ag=bool f/\tv=int i64 t/\Xr (aV b<=c/\(f=true->aV b<c))/\Xr (f=false->∀E,E<t->wX v y b E)/\Xr (wY v y a b)/\Xr (gU wr w.heap.size b)/\Xr (ae [] w wr))
  ·exact⟨0,false,b,by omega,rfl,rfl,rfl,⟨bw.o,fun h=>by cases h⟩,(fun _ t ht=>absurd ht (Wm t)),u,m,F⟩
  clear bw u m F Hc;obtain⟨t,f,b,ht,c1,rfl,rfl,Y,HT,u,m,F⟩:=hrel;by_cases an:t<=a
  ·have bv:(t:Int)<=(a:Int):=(by omega);have z:Xr _:=b3.o t an wr F.o;have y0:=gU.cell m.o t _ (Bm b t (by rw[u.o.len];omega));have y1:=gU.o m.o;obtain⟨sd,af⟩:=bn (cK y t);rw[af.o]at z;obtain⟨ib,M⟩:=bn (b.getD t false);rw[M.o]at y0;have c5:(0:Int)<=(t:Int):=(by omega);have c6:(t:Int)<(a:Int)+1:=(by omega);have bp:Xr (wX v y b t->f=false->∀E,E<t+1->wX v y b E):=fun hc h E c4=>by
    by_cases e:E=t
    ·rw[e];exact hc
    ·exact HT.o h E (by omega)
   cases ib
   ·have HM:Xr _:=bp.o (fun h=>by rw[M.o]at h;cases h);go_wp2_with (go_at_call 67;refine Tr z.o ?_;rintro e w3 ⟨rfl,D⟩;rw[D];clear D);go_roundg (a+1-(t+1))
    ·exact⟨t+1,f,b,by omega,rfl,rfl,by go_num,Y,HM,u,m,F⟩
    omega
   ·cases sd
    ·have HM:Xr _:=bp.o (fun _ h=>by rw[af.o]at h;cases h);go_wp2_with (go_at_call 67;refine Tr z.o ?_;rintro e w3 ⟨rfl,D⟩;rw[D];clear D);go_roundg (a+1-(t+1))
     ·exact⟨t+1,f,b,by omega,rfl,rfl,by go_num,Y,HM,u,m,F⟩
     omega
    ·have cA:Xr _:=u.o.sub t M.o;obtain⟨co,av⟩:=cB.o t an;have av:Xr _:=av;have d4:(t:Int)<v.length:=(by omega);have I:Xr (∀C:World,ae [] w C->∃gP,aT=some ⟨gP,0,none⟩/\gP<C.heap.size/\C.cell? ⟨n,3,none⟩=some (slice aT v.length cP)/\n<C.heap.size/\C.cell? ⟨gP,t*5,none⟩=some (slice (g9 v t).2.ao (g9 v t).1.st.length (g9 v t).2.cap)/\dh C (g9 v t).2.ao 6 lH (g9 v t).1.st):=fun C kw=>by
      have hj:=OG.XD HJ.o kw;obtain⟨gP,e,ck,cc⟩:=hj.p t _ (BH v t (by omega));exact⟨gP,e,ck,by rw[ah hj.d];rfl,aj hj.d,cc 0 _ rfl,hj.q _ (UZ (BH v t (by omega)))⟩
     have a6:Xr (∀b:List Bool,(∀i,i<(g9 v t).1.st.length->∀k:Nat,(bN (g9 v t).1.st i).ref=(k:Int)->b.getD k false=true)->wX v y b t):=fun _ h _ _=>h;have a7:Xr (∀i,i<(g9 v t).1.st.length->∀k:Nat,(bN (g9 v t).1.st i).ref=(k:Int)->eI v y a k):=fun i hi k he=>eI.step cA.o af.o hi he;have Z:Xr (f=false->(∀E,E<t->wX v y b E)/\∀i,i<0->∀k:Nat,(bN (g9 v t).1.st i).ref=(k:Int)->b.getD k false=true):=fun h=>⟨HT.o h,fun i hi=>by omega⟩
     obtain⟨O,cL⟩:=bn ((g9 v t).1.st);obtain⟨hd,cH⟩:=bn ((g9 v t).2);rw[cL.o]at I a6 a7 Z co av;rw[cH.o]at I;obtain⟨db,df⟩:=hd;simp only at I;go_wp2_with (go_at_call 67;refine Tr z.o ?_;rintro e w3 ⟨rfl,D⟩;rw[D];clear D)
     go_loopg [7,10] O.length (fun g3 ag iv wr=>∃(i:Nat) (f:Bool) (b:List Bool),i<=O.length/\g3=O.length-i/\ag=bool f/\iv=int i64 i/\Xr (aV b<=c/\(f=true->aV b<c))/\Xr (f=false->(∀E,E<t->wX v y b E)/\∀i',i'<i->∀k:Nat,(bN O i').ref=(k:Int)->b.getD k false=true)/\Xr (wY v y a b)/\Xr (gU wr w.heap.size b)/\Xr (ae [] w wr))
     ·exact⟨0,f,b,by omega,rfl,rfl,rfl,Y,Z,u,m,F⟩
     clear Y Z HT u m F bp y0 y1 M z;obtain⟨i,f,b,hi,dT,rfl,rfl,Y,HT,u,m,F⟩:=hrel;obtain⟨gP,rfl,ck,v3,cp,p0,bo⟩:=I.o wr F.o;rcases kn i O.length with ⟨a4,d2⟩ | ⟨a4,-⟩
     ·obtain⟨gs,es,a3,cs⟩:=bo i _ (IV O i a4);replace es:db=some ⟨gs,0,none⟩:=es;subst es;have s0:wr.cell? ⟨gs,i*6,none⟩=some (int i64 (bN O i).ref):=cs 0 _ rfl;have cz:Xr _:=av.o i a4;have cE:Xr _:=a7.o i a4
      have b2:Xr (f=false->(∀k:Nat,(bN O i).ref=(k:Int)->b.getD k false=true)->(∀E,E<t->wX v y b E)/\∀i',i'<i+1->∀k:Nat,(bN O i').ref=(k:Int)->b.getD k false=true):=fun h hk=>⟨(HT.o h).1,fun i' d0 k he=>by
       by_cases e:i'=i
       ·subst e;exact hk k he
       ·exact(HT.o h).2 i' (by omega) k he⟩
      generalize (bN O i).ref=r at *;clear cs bo;have d1:(0:Int)<=(i:Int):=by omega
      by_cases c3:(0:Int)<=r
      ·obtain⟨k,rfl⟩:=Int.eq_ofNat_of_zero_le c3;have a5:k<=a:=(by have:=cz.o;omega);have d3:(k:Int)<(a:Int)+1:=(by omega);have y0:=gU.cell m.o k _ (Bm b k (by rw[u.o.len];omega));have y1:=gU.o m.o;have bx:Xr _:=(Bm b k (by rw[u.o.len];omega));obtain⟨ib,M⟩:=bn (b.getD k false);rw[M.o]at y0 bx;cases ib
       ·have HU:Xr _:=l6 b k bx.o;have ar:Xr (aV (b.set k true)<c):=by
         have U:=HU.o;have V:=Y.o.1;show _<_;omega
        have cx:Xr _:=wY.set u.o (cE.o k rfl);obtain⟨W3,br⟩:=bn (wr.setCell ⟨w.heap.size,k,none⟩ (bool true));have cF:Xr (gU W3 w.heap.size (b.set k true)):=(by show gU _ _ _;rw[<-br.o];exact gU.set m.o k);have ac:Xr (ae [] w W3):=(by show ae [] w W3;rw[<-br.o];exact F.o.sr1 (by simp) _);have f0:=am m.o k;(go_upto_region 17 with fail);rw[br.o];go_wp2;go_roundg (O.length-(i+1))
        ·exact⟨i+1,true,b.set k true,by omega,rfl,rfl,by go_num,⟨UA ar.o,fun _=>ar.o⟩,(fun h=>by cases h),cx,cF,ac⟩
        omega
       ·have HM:Xr _:=fun h=>b2.o h (fun q hq=>by rw[show q=k by omega];exact M.o);go_wp2;go_roundg (O.length-(i+1))
        ·exact⟨i+1,f,b,by omega,rfl,rfl,by go_num,Y,HM,u,m,F⟩
        omega
      ·have HM:Xr _:=fun h=>b2.o h (fun q hq=>absurd hq (by omega));go_wp2;go_roundg (O.length-(i+1))
       ·exact⟨i+1,f,b,by omega,rfl,rfl,by go_num,Y,HM,u,m,F⟩
       omega
     ·have ei:i=O.length:=(by omega);subst ei;have HM:Xr (f=false->∀E,E<t+1->wX v y b E):=fun h E c4=>by
       by_cases e:E=t
       ·rw[e];exact a6.o b (HT.o h).2
       ·exact(HT.o h).1 E (by omega)
      clear bo;go_wp2;go_roundg (a+1-(t+1))
      ·exact⟨t+1,f,b,by omega,rfl,rfl,by go_num,Y,HM,u,m,F⟩
      omega
  ·have et:t=a+1:=(by omega);subst et;have bv:¬(a:Int)+1<=(a:Int):=by omega
   have HM:Xr (f=false->∀t,t<=a->wX v y b t):=fun h t ht=>HT.o h t (by omega);have dp:=Y.o.1;have ar:Xr _:=Y.o.2;go_wp2;go_roundg (2*aV b+(if f=true then 1 else 0))
   case measure =>
    cases f
    ·rw[To (by simp)];omega
    ·have:=ar.o rfl;rw[Tq rfl];omega
   case rel=>exact⟨f,b,rfl,rfl,u,HM,m,F⟩
theorem Q6:(prog.info? 122).map (fun i=>(i.zero,i.size,i.bytes))=some (some (agg #[slice none 0 0,int i64 0,string ⟨#[]⟩,int i64 0,int i64 0]),5,64):=by kernel_rfl
theorem Iv:(prog.info? 38).map (fun i=>(i.zero,i.size,i.bytes))=some (some (agg #[string ⟨#[]⟩,int i64 0,int i64 0,string ⟨#[]⟩,int i64 0,int i64 0]),6,64):=by kernel_rfl
theorem qS(x:jO×Hd):(⟨(gN k).e,(gN k).size,(gN k).n+1,(gN k).xs++OH x⟩:eQ)=gN (k++[x]):=iz _ _ _ _ _
theorem te(x:ip):(⟨(gF D).e,(gF D).size,(gF D).n+1,(gF D).xs++ld x⟩:eQ)=gF (D++[x]):=iz _ _ _ _ _
theorem dh.keptS{α:Type}{a:Xu}{f:α->List Value}{b:List α}{S:Xv}(h:dh x a H f b)(k:ae S x L)(l:∀g,a=some ⟨g,0,none⟩->g∉S):dh L a H f b:=fun j o n=>by
 obtain⟨g,e,d,c⟩:=h j o n;exact⟨g,e,Tv d k.size,fun i u m=>by rw[TN (k.block g d (l g e))];exact c i u m⟩
def LS(w:World)(h1 h2:Hd)(x:jO×Hd):Prop:=∀g,x.2.ao=some ⟨g,0,none⟩->w.heap.size<=g/\h1.XR≠some g/\h2.XR≠some g
structure wZ(w wr:World)(v b:Nat)(x0 x1:Value)(PS:List (jO×Hd))(h1:Hd)(RS:List ip)(h2:Hd):Prop where
 d:wr.heap[v]?=some (.cells #[x0,x1,pointer (some ⟨b,0,none⟩),slice h1.ao PS.length h1.cap,slice h2.ao RS.length h2.cap] 85)
 lt:v<w.heap.size
 o1:aB wr h1 (gN PS)
 o2:aB wr h2 (gF RS)
 f1:∀k,h1.XR=some k->w.heap.size<=k
 f2:∀k,h2.XR=some k->w.heap.size<=k
 ap:∀k,h1.XR=some k->h2.XR≠some k
 XQ:ae [v] w wr
 q:∀x∈PS,dh wr x.2.ao 6 lH x.1.st/\LS w h1 h2 x
 ql:∀x∈PS,∀g,x.2.ao=some ⟨g,0,none⟩->g<wr.heap.size
variable {w wr w':World} {v b:Nat} {x0 x1:Value} {PS:List (jO×Hd)} {h1 h1':Hd} {RS:List ip} {h2 h2':Hd}
theorem pF{v:Nat}(k:ae [] x L):ae [v] x L:=k.mono (by simp)
theorem wZ.XD(a:wZ w wr v b x0 x1 PS h1 RS h2)(k:ae [] wr w'):wZ w w' v b x0 x1 PS h1 RS h2 :=
 ⟨k.get a.d (by simp),a.lt,a.o1.XD k,a.o2.XD k,a.f1,a.f2,a.ap,a.XQ.trans (pF k),fun x c=>⟨(a.q x c).1.XD k,(a.q x c).2⟩,fun x c g e=>Tv (a.ql x c g e) k.size⟩
theorem wZ.jds(a:wZ w wr v b x0 x1 PS h1 RS h2):OG wr v b x0 x1 PS h1.ao h1.cap RS h2.ao h2.cap :=
 ⟨a.d,a.o1.srcG PP,fun x c=>(a.q x c).1,a.o2.srcG yF⟩
theorem A8(e:N.ao=some ⟨H,0,none⟩):N.XR=some H:=by unfold Hd.XR;rw[e];rfl
theorem wZ.addP(a:wZ w wr v b x0 x1 PS h1 RS h2)(x:jO×Hd)(D:dh wr x.2.ao 6 lH x.1.st)(B:LS w h1 h2 x)(t:∀g,x.2.ao=some ⟨g,0,none⟩->g<wr.heap.size)(g:bq wr w' h1 h1')(o:aB w' h1' (gN (PS++[x])))(m:Nat)(C:m=PS.length+1) :
  wZ w (w'.setCell ⟨v,3,none⟩ (slice h1'.ao m h1'.cap)) v b x0 x1 (PS++[x]) h1' RS h2:=by
 have u:v∉h1.XR.toList:=fun c=>by have:=a.f1 _ (aQ c);have:=a.lt;omega
 have A:=g.XQ.get a.d u;have s:ae [v] w' (w'.setCell ⟨v,3,none⟩ (slice h1'.ao m h1'.cap)):=(ae.refl _ _).sl1 _;have j:∀k,h1'.XR=some k->w.heap.size<=k:=fun k f=>by
  rcases g.XR with e | ⟨q,e,c⟩
  ·exact a.f1 k (by rw[<-e];exact f)
  ·rw[f]at e;cases e;exact TE a.XQ.size c
 have i:∀y∈PS++[x],dh wr y.2.ao 6 lH y.1.st/\LS w h1 h2 y/\∀g,y.2.ao=some ⟨g,0,none⟩->g<wr.heap.size:=fun y l=>by
  rcases Uf.1 l with h | h
  ·exact⟨(a.q y h).1,(a.q y h).2,a.ql y h⟩
  ·rw[TH]at h;subst h;exact⟨D,B,t⟩
 refine⟨?_,a.lt,?_,?_,j,a.f2,?_,?_,?_,?_⟩
 ·rw[ab A 3];congr 2;rw[C,Tu];rfl
 ·exact o.XM (fun k f e=>by have:=j k f;have:=a.lt;omega) _ _
 ·exact(g.beside a.o2 (fun k f c=>a.ap k c f)).XM (fun k f e=>by have:=a.f2 k f;have:=a.lt;omega) _ _
 ·intro k f c;rcases g.XR with e | ⟨q,e,t⟩
  ·exact a.ap k (by rw[<-e];exact f) c
  ·have:=a.o2.lt c;rw[f]at e;cases e;omega
 ·refine⟨g.XQ.os.trans a.XQ.os,g.XQ.tape.trans a.XQ.tape,g.XQ.output.trans a.XQ.output,?_,fun k f z=>?_⟩
  ·exact TE (TE a.XQ.size g.XQ.size) s.size
  ·have h1:=a.XQ.size;have h2:=g.XQ.size;rw[s.block k (by omega) z,g.XQ.block k (by omega) (fun c=>by have:=a.f1 _ (aQ c);omega),a.XQ.block k f z]
 ·intro y l;obtain⟨E,n,F⟩:=i y l;refine⟨(E.keptS g.XQ (fun q e c=>(n q e).2.1 (aQ c))).keptS s (fun q e c=>?_),fun q e=>⟨(n q e).1,fun c=>?_,(n q e).2.2⟩⟩
  ·have:=(n q e).1;have:=a.lt;simp at c;omega
  ·rcases g.XR with p | ⟨r,p,t⟩
   ·exact(n q e).2.1 (by rw[<-p];exact c)
   ·have:=F q e;rw[c]at p;cases p;omega
 ·intro y l q e;have h1:=(i y l).2.2 q e;have h2:=g.XQ.size;have G:=s.size;omega
theorem wZ.addR(a:wZ w wr v b x0 x1 PS h1 RS h2)(x:ip)(g:bq wr w' h2 h2')(o:aB w' h2' (gF (RS++[x])))(m:Nat)(A:m=RS.length+1) :
  wZ w (w'.setCell ⟨v,4,none⟩ (slice h2'.ao m h2'.cap)) v b x0 x1 PS h1 (RS++[x]) h2':=by
 have s:v∉h2.XR.toList:=fun c=>by have:=a.f2 _ (aQ c);have:=a.lt;omega
 have u:=g.XQ.get a.d s;have p:ae [v] w' (w'.setCell ⟨v,4,none⟩ (slice h2'.ao m h2'.cap)):=(ae.refl _ _).sl1 _;have i:∀k,h2'.XR=some k->w.heap.size<=k:=fun k f=>by
  rcases g.XR with e | ⟨q,e,c⟩
  ·exact a.f2 k (by rw[<-e];exact f)
  ·rw[f]at e;cases e;exact TE a.XQ.size c
 refine⟨?_,a.lt,?_,?_,a.f1,i,?_,?_,?_,?_⟩
 ·rw[ab u 4];congr 2;rw[A,Tu];rfl
 ·exact(g.beside a.o1 (fun k f c=>a.ap k f c)).XM (fun k f e=>by have:=a.f1 k f;have:=a.lt;omega) _ _
 ·exact o.XM (fun k f e=>by have:=i k f;have:=a.lt;omega) _ _
 ·intro k f c;rcases g.XR with e | ⟨q,e,z⟩
  ·exact a.ap k f (by rw[<-e];exact c)
  ·have:=a.o1.lt f;rw[c]at e;cases e;omega
 ·refine⟨g.XQ.os.trans a.XQ.os,g.XQ.tape.trans a.XQ.tape,g.XQ.output.trans a.XQ.output,?_,fun k f t=>?_⟩
  ·exact TE (TE a.XQ.size g.XQ.size) p.size
  ·have h1:=a.XQ.size;have h2:=g.XQ.size;rw[p.block k (by omega) t,g.XQ.block k (by omega) (fun c=>by have:=a.f2 _ (aQ c);omega),a.XQ.block k f t]
 ·intro y n;obtain⟨B,j⟩:=a.q y n;have C:=a.ql y n;refine⟨(B.keptS g.XQ (fun q e c=>(j q e).2.2 (aQ c))).keptS p (fun q e c=>?_),fun q e=>⟨(j q e).1,(j q e).2.1,fun c=>?_⟩⟩
  ·have:=(j q e).1;have:=a.lt;simp at c;omega
  ·rcases g.XR with l | ⟨r,l,z⟩
   ·exact(j q e).2.2 (by rw[<-l];exact c)
   ·have:=C q e;rw[c]at l;cases l;omega
 ·intro y n q e;have h1:=a.ql y n q e;have h2:=g.XQ.size;have D:=p.size;omega
theorem Rx(RS:List ip)(k:Nat)(h:k<RS.length)(u:Int):(RS.flatMap ld).set (k*6+1) (int i64 u)=(RS.set k { dV RS k with XE:=u }).flatMap ld:=by
 induction RS generalizing k with
 | nil=>simp at h
 | cons r RS b =>
  cases k with
  | zero=>rfl
  | succ k =>
   have e:(k+1)*6+1=6+(k*6+1):=(by omega);have a:dV (r :: RS) (k+1)=dV RS k:=rfl;rw[a,Vh,Uu,Uu,<-b k (by simpa using h),e,Vv _ _ (by rw[yF];omega),yF];congr 2;omega
theorem wZ.put(a:wZ w wr v b x0 x1 PS h1 RS h2)(j:h2.ao=some ⟨H,0,none⟩)(k:Nat)(p:k<RS.length)(u:Int):wZ w (wr.setCell ⟨H,k*6+1,none⟩ (int i64 u)) v b x0 x1 PS h1 (RS.set k { dV RS k with XE:=u }) h2:=by
 have i:=A8 j;have o:=a.f2 H i;have m:=a.o2.lt i;have r:=a.lt;have c:ae [H] wr (wr.setCell ⟨H,k*6+1,none⟩ (int i64 u)):=(ae.refl _ _).sl1 _;refine⟨?_,a.lt,?_,?_,a.f1,a.f2,a.ap,?_,?_,?_⟩
 ·rw[c.get a.d (by simp;omega),Ul]
 ·exact a.o1.XM (fun q f e=>a.ap q f (by rw[e];exact i)) _ _
 ·have:=a.o2.putAt j (k*6+1) (int i64 u);have e:(⟨(gF RS).e,(gF RS).size,(gF RS).n,(gF RS).xs.set (k*6+1) (int i64 u)⟩:eQ)=gF (RS.set k { dV RS k with XE:=u }):=by
   show(⟨_,_,RS.length,(RS.flatMap ld).set (k*6+1) (int i64 u)⟩:eQ)=_
   rw[Rx RS k p u];unfold gF lF;rw[Ul]
  rw[e]at this;exact this
 ·exact⟨c.os.trans a.XQ.os,c.tape.trans a.XQ.tape,c.output.trans a.XQ.output,TE a.XQ.size c.size,fun q f s=>by
   have:=a.XQ.size;rw[c.block q (by omega) (by simp;omega),a.XQ.block q f s]⟩
 ·intro y g;exact⟨(a.q y g).1.keptS c (fun q e f=>by simp at f;subst f;exact((a.q y g).2 q e).2.2 i),(a.q y g).2⟩
 ·intro y g q e;exact Tv (a.ql y g q e) c.size
end Go.Proofs.YtnbhnocdhbcbcaaGreat
