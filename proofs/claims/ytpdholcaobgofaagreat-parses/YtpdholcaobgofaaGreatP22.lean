import Derived.Test.YtpdholcaobgofaaGreatP21
namespace Go.Proofs.YtpdholcaobgofaaGreat
open Go.RowKit Tryz
open Value IntKind Ending
set_option maxHeartbeats 0
variable{T:List (lF×Hd)}{S:List j4}{H i:Nat}{x:List Bool}{D I:World}(L:List Tk)(y:List Sm)(d:List (lF×Hd))(k:List j4)(f:List Bool)(n l:Nat)
def mZ(PS:List (lF×Hd))(t:Nat):lF×Hd:=PS.getD t (⟨[],0,⟨#[]⟩,0,0⟩,⟨none,0⟩)
theorem E0(h:l<d.length):d[l]?=some (mZ d l):=by
 unfold mZ;rw[Xw,Xv h];rfl
def kP(PS:List (lF×Hd))(RS:List j4)(a k:Nat):Prop:=∀P:Nat->Prop,P a->(∀t k i:Nat,P t->il RS t=true->i<(mZ PS t).1.st.length->(cn (mZ PS t).1.st i).ref=(k:Int)->P k)->P k
theorem kP.self:kP T S H H:=fun _ h _=>h
theorem kP.step{t a:Nat}(h:kP T S H t)(d:il S t=true)(e:a<(mZ T t).1.st.length)(f:(cn (mZ T t).1.st a).ref=(i:Int)):kP T S H i:=fun P c b=>b t i a (h P c b) d e f
def zA(PS:List (lF×Hd))(RS:List j4)(inn:List Bool)(t:Nat):Prop:=inn.getD t false=true->il RS t=true->∀i,i<(mZ PS t).1.st.length->∀k:Nat,(cn (mZ PS t).1.st i).ref=(k:Int)->inn.getD k false=true
structure zE(PS:List (lF×Hd))(RS:List j4)(a:Nat)(inn:List Bool):Prop where
 len:inn.length=a+1
 self:inn.getD a false=true
 sub:∀k,inn.getD k false=true->kP PS RS a k
theorem Ey(h:l<f.length):f[l]?=some (f.getD l false):=by
 rw[Xw,Xv h];rfl
theorem Wo(h:f.getD l false=true):(f.set n true).getD l false=true:=by
 rw[Xw]at h ⊢;rw[Yv];by_cases e:n=l
 ·rw[XA e];split
  ·rfl
  ·next a=>rw[Yb (by omega)]at h;cases h
 ·rw[Xz e];exact h
theorem M4(h:(f.set n true).getD l false=true):l=n∨f.getD l false=true:=by
 by_cases e:n=l
 ·exact XQ e.symm
 ·right
  rw[Xw,Yv,Xz e,<-Xw]at h;exact h
theorem zE.set(h:zE T S H x)(a:kP T S H i):zE T S H (x.set i true) :=
 ⟨by rw[Yq];exact h.len,Wo x i H h.self,fun q b=>by
  rcases M4 x i q b with e | e
  ·rw[e];exact a
  ·exact h.sub q e⟩
theorem zE.all(h:zE T S H x)(b:∀t,t<=H->zA T S x t)(k:Nat):x.getD k false=true ↔ kP T S H k:=by
 refine⟨h.sub k,fun f=>?_⟩;refine f (fun k=>x.getD k false=true) h.self (fun t k i a g d c=>?_);have j:t<=H:=by
  have l:=h.len;by_cases e:t<x.length
  ·omega
  ·rw[Xw,Yb (by omega)]at a;cases a
 exact b t j a g i d k c
def axP(S:List Sm)(inn:List Bool)(t:Nat):Bool:=inn.getD t false&&((ay S t).k.toList == [36,97])
def bdP(S:List Sm)(RS:List j4)(inn:List Bool)(t:Nat):Bool:=inn.getD t false&&(((ay S t).k.toList == [36,112]) && !il RS t)
def Ux(T:List Tk)(S:List Sm)(inn:List Bool)(n:Nat):Xs:=((List.range n).filter (axP S inn)).map (fun t=>bP T (ay S t))
def JH(T:List Tk)(S:List Sm)(RS:List j4)(inn:List Bool)(n:Nat):Xs:=((List.range n).filter (bdP S RS inn)).map (fun t=>bP T (ay S t))
theorem QN:Ux L y f (l+1)=Ux L y f l++(if axP y f l=true then [bP L (ay y l)] else []):=by
 unfold Ux;rw[jm,Yj];split <;> rfl
theorem QS:JH L y k f (l+1)=JH L y k f l++(if bdP y k f l=true then [bP L (ay y l)] else []):=by
 unfold JH;rw[jm,Yj];split <;> rfl
def zaa(T:List Tk)(S:List Sm)(PS:List (lF×Hd))(RS:List j4)(a:Nat)(w:World)(e:Ending)(w':World):Prop :=
 ∃(inn:List Bool) (h1 h2:Hd),(∀k,inn.getD k false=true ↔ kP PS RS a k)/\e=returned (tuple #[slice h1.ao (Ux T S inn (a+1)).length h1.cap,slice h2.ao (JH T S RS inn (a+1)).length h2.cap])/\iG w w' h1 (aE (Ux T S inn (a+1)))/\iG w w' h2 (aE (JH T S RS inn (a+1)))
theorem kV.o(h:kV D H x):H<D.heap.size:=ah h
theorem MA(k:List UInt8)(h:(k == [36,97])=true):(k == [36,112])=false:=by
 have:=ZR h;rw[this];rfl
set_option maxRecDepth 100000
theorem Ir(a:Nat)(T:List Tk)(b6:Xt)(cT:Nat)(S:List Sm)(aS:Xt)(cS:Nat)(x0 x1:Value)(v:List (lF×Hd))(az:Xt)(cP:Nat)(y:List j4)(b5:Xt)(cR:Nat)(w:World)(hD:gM w l T b6 cT S aS cS)(hJ:WR w n l x0 x1 v az cP y b5 cR)(db:a<v.length)(df:a<y.length)(dk:a<S.length)(ha:a<=10000)(hA:∀j,j<=a->(ay S j).a<T.length)(b7:∀t,t<=a->(mZ v t).1.st.length<=100000000/\∀i,i<(mZ v t).1.st.length->(cn (mZ v t).1.st i).ref<=(a:Int)) :
  Calls prog 66 #[pointer (some ⟨n,0,none⟩),int i64 a] w fun e C=>zaa T S v y a w e C:=by
 obtain⟨i1,cE,cX,c1,c2⟩:=XV RN;obtain⟨iS,ca,a6,a7,ba⟩:=XV i9;have m2:=fun w=>bY (P:=prog) w 134 4 i1 _ underlying134 cE cX (a+1) 1 c1 (by rw[c2];omega) (by omega);obtain⟨mc,b2⟩:=aP (madeCells (bool false).cells ((a+1)*1));have bw:Xq (mc=((List.replicate (a+1) false).map bool).toArray):=cm (by rw[<-b2.o,AB]);rw[b2.o]at m2;have cA:((a+1:Nat):Int)=(a:Int)+1:=by omega
 have m3:=m2 w;rw[cA]at m3;obtain⟨W,HW⟩:=aP (w.alloc (.cells (mc.setIfInBounds a (bool true)) 4));have av:kV (w.alloc (.cells mc 4)) w.heap.size (List.replicate (a+1) false):=by
  unfold kV;rw[bw.o];exact XD _ _
 have b4:Xq (kV W w.heap.size ((List.replicate (a+1) false).set a true)):=by
  show kV _ _ _;unfold kV;rw[<-HW.o,bw.o];refine(XD _ _).trans ?_;congr 2;rw[Yh,Zm]
 have cl:Xq _:=dx HW.o;have b3:Xq (zE v y a ((List.replicate (a+1) false).set a true)):=by
  refine⟨by simp,by rw[Xw,List.getElem?_set_self (by simp)];rfl,fun k hk=>?_⟩;rcases M4 _ a k hk with e | e
  ·rw[e];exact kP.self
  ·rw[Xw,Y4]at e;split at e <;> cases e
 have c0:(w.alloc (.cells mc 4)).cell? ⟨w.heap.size,a,none⟩=some (bool false):=av.cell a false (by rw[Y4,XA (by omega)]);have f0:=zcW av a;have z0:=ah av;have dl:(a:Int)<(a:Int)+1:=by omega
 have HD:Xq _:=hD;have HJ:Xq _:=hJ;have HA:Xq _:=hA;have ct:Xq _:=b7;have bT:Xq (∀t,t<=a->∀wx,aa [] w wx->Calls prog 65 #[pointer (some ⟨n,0,none⟩),int i64 t] wx fun e C=>e=returned (bool (il y t))/\C=wx):=fun t ht wx kx=>Py n l t x0 x1 v az cP y b5 cR wx (hJ.Zbj kx) (by omega);clear hD hJ hA b7 av m2;go_enter func66,ntmps66;go_upto_region 3 with fail
 rw[HW.o];clear c0 f0 z0 m3;go_wp2;obtain⟨bc,cj⟩:=aP ((List.replicate (a+1) false).set a true);rw[cj.o]at b4 b3
 go_loopg [7] (2*a8 bc+1) (fun g ag wr=>∃(f:Bool) (b:List Bool),ag=bool f/\g=2*a8 b+(if f=true then 1 else 0)/\Xq (zE v y a b)/\Xq (f=false->∀t,t<=a->zA v y b t)/\Xq (kV wr w.heap.size b)/\Xq (aa [] w wr))
 ·exact⟨true,bc,rfl,rfl,b3,(fun h=>by cases h),b4,cl⟩
 obtain⟨f,b,rfl,hg,u,bg,m,F⟩:=hrel;cases f
 ·have cg:Xq _:=zE.all u.o (bg.o rfl);have HL:Xq _:=u.o.len;obtain⟨w1,bo⟩:=aP (wr);rw[bo.o];rw[bo.o]at m F;clear bo bg hg;have bx:Xq (iG w1 w1 ⟨none,0⟩ (aE [])):=⟨XE _ _ _ _,(by intro k hk;cases hk),aa.refl _ _⟩;have cf:Xq (([]:Xs)=Ux T S b 0):=rfl;have ch:Xq (([]:Xs)=JH T S y b 0):=rfl;go_wp2
  go_loopg [12,13,14] (a+1) (fun g ax bd tv wr=>∃(t:Nat) (U V:Hd) (A B:Xs),t<=a+1/\g=a+1-t/\ax=slice U.ao A.length U.cap/\bd=slice V.ao B.length V.cap/\tv=int i64 t/\(A.length<=t/\B.length<=t)/\Xq (A=Ux T S b t)/\Xq (B=JH T S y b t)/\Xq (iG w1 wr U (aE A))/\Xq (iG w1 wr V (aE B))/\Xq (∀k,U.Zbx=some k->V.Zbx≠some k))
  ·exact⟨0,⟨none,0⟩,⟨none,0⟩,[],[],by omega,rfl,rfl,rfl,rfl,⟨Xy _,Xy _⟩,cf,ch,bx,bx,(by intro k hk;cases hk)⟩
  obtain⟨t,U,V,A,B,ht,cB,rfl,rfl,rfl,⟨c7,c8⟩,be,bf,ar,b1,X⟩:=hrel;by_cases am:t<=a
  ·have bp:(t:Int)<=(a:Int):=(by omega);have an:t<S.length:=(by omega);have bs:Xq _:=F.o.trans ar.o.Zbw;have bv:Xq (Calls prog 86 #[pointer (some ⟨l,0,none⟩),int i64 t] wr fun e C=>e=returned (string (bP T (ay S t)))/\aa [] wr C):=by
    have:=oN l t T b6 cT S aS cS wr (gM.Zbj HD.o bs.o) an (by rw[bA S t an];exact HA.o t am);rw[bA S t an]at this;exact this
   have I:Xq (∀C:World,aa [] w1 C->C.cell? ⟨w.heap.size,t,none⟩=some (bool (b.getD t false))/\w.heap.size<C.heap.size/\C.cell? ⟨n,2,none⟩=some (pointer (some ⟨l,0,none⟩))/\n<C.heap.size/\∃gs,aS=some ⟨gs,0,none⟩/\gs<C.heap.size/\C.cell? ⟨l,1,none⟩=some (slice aS S.length cS)/\l<C.heap.size/\C.cell? ⟨gs,t*4+3,none⟩=some (string (ay S t).k)):=fun C kw=>by
    have hs:=kV.Zbw m.o kw (by simp);have hd:=gM.Zbj HD.o (F.o.trans kw);have hj:=WR.Zbj HJ.o (F.o.trans kw);obtain⟨-,s0,hb⟩:=hd.cells;obtain⟨gs,e3,a1,-,-,-,q3⟩:=hd.s.2 t S[t] (Xv an);rw[bA S t an]at q3;exact⟨hs.cell t _ (Ey b t (by rw[HL.o];omega)),hs.o,by rw[ab hj.d];rfl,ah hj.d,gs,e3,a1,s0,hb,q3⟩
   have z:Xq _:=bT.o t am;have ad:Xq _:=QN T S b t;have K:Xq _:=QS T S y b t;rw[<-be.o]at ad;rw[<-bf.o]at K;have bj:Xq (axP S b t=(b.getD t false&&((ay S t).k.toList == [36,97]))):=rfl;have Q:Xq (bdP S y b t=(b.getD t false&&(((ay S t).k.toList == [36,112]) && !il y t))):=rfl;obtain⟨sd,af⟩:=aP (il y t);rw[af.o]at z Q;obtain⟨x,Hx⟩:=aP (bP T (ay S t));rw[Hx.o]at bv ad K;generalize (ay S t).k=sk at *;generalize b.getD t false=ib at *;obtain⟨-,-,v2,cd,-⟩:=I.o wr ar.o.Zbw;(go_upto_region 23 with (go_at_call 86;refine Xx bv.o ?_;rintro e w2 ⟨rfl,k2⟩));have ac:Xq _:=k2;clear k2 v2 cd;have b0:Xq _:=z.o w2 (bs.o.trans ac.o);(go_upto_region 24 with (go_at_call 65;refine Xx b0.o ?_;rintro e w3 ⟨rfl,D⟩;rw[D];clear D));have L:Xq _:=ar.o.Zbj ac.o;have R:Xq _:=b1.o.Zbj ac.o;obtain⟨y0,y1,y2,y3,gs,rfl,a1,s0,cz,q3⟩:=I.o w2 L.o.Zbw;have d0:(t:Int)<S.length:=(by omega);have cV:(t:Int)<(a:Int)+1:=(by omega);have cL:(0:Int)<=(t:Int):=(by omega);cases ib
   ·have J:Xq (A=Ux T S b (t+1)):=(by show _=_;rw[ad.o,bj.o];simp);have G:Xq (B=JH T S y b (t+1)):=cm (by rw[K.o,Q.o];simp);go_wp2;go_roundg (a+1-(t+1))
    ·exact⟨t+1,U,V,A,B,by omega,rfl,rfl,rfl,by go_num,⟨by omega,by omega⟩,J,G,L,R,X⟩
    omega
   ·cases a3:(sk.toList == [36,97])
    ·have J:Xq (A=Ux T S b (t+1)):=(by show _=_;rw[ad.o,bj.o,a3];simp);cases al:(sk.toList == [36,112])
     ·have G:Xq (B=JH T S y b (t+1)):=(by show _=_;rw[K.o,Q.o,al];simp);go_wp2;go_roundg (a+1-(t+1))
      ·exact⟨t+1,U,V,A,B,by omega,rfl,rfl,rfl,by go_num,⟨by omega,by omega⟩,J,G,L,R,X⟩
      omega
     ·cases sd
      ·have G:Xq (B++[x]=JH T S y b (t+1)):=(by show _=_;rw[K.o,Q.o,al];simp);have a0:=R.o.ZbH;have aT:(aE B).n<=900000000:=(by show B.length<=_;omega);go_wp2_with (at_builtin;refine cQ _ rfl (.tmp 136) (.tmp 138) 61 rfl iS (string ⟨#[]⟩) 16 V (aE B) [string x] underlying61 ca a6 a7 ba rfl XR rfl a0 aT (by omega) rfl rfl (by simp[Value.oneCell']) ?_;intro h5 w5 N ai;rw[dy]at N;have H:Xq _:=(iG.two R.o L.o (fun k hk hq=>X.o k hq hk) ai N);clear N ai);go_roundg (a+1-(t+1))
       ·exact⟨t+1,U,h5,A,B++[x],by omega,rfl,rfl,by simp[aE],by go_num,⟨by omega,by simp;omega⟩,J,G,H.o.2.1,H.o.1,(fun k hk hq=>H.o.2.2 k hq hk)⟩
       omega
      ·have G:Xq (B=JH T S y b (t+1)):=(by show _=_;rw[K.o,Q.o,al];simp);go_wp2;go_roundg (a+1-(t+1))
       ·exact⟨t+1,U,V,A,B,by omega,rfl,rfl,rfl,by go_num,⟨by omega,by omega⟩,J,G,L,R,X⟩
       omega
    ·have al:=MA _ a3;have J:Xq (A++[x]=Ux T S b (t+1)):=cm (by rw[ad.o,bj.o,a3];simp);have G:Xq (B=JH T S y b (t+1)):=cm (by rw[K.o,Q.o,al];simp);have a0:=L.o.ZbH;have aT:(aE A).n<=900000000:=(by show A.length<=_;omega);(go_upto_region 26 with (at_builtin;refine cQ _ rfl (.tmp 110) (.tmp 112) 61 rfl iS (string ⟨#[]⟩) 16 U (aE A) [string x] underlying61 ca a6 a7 ba rfl XR rfl a0 aT (by omega) rfl rfl (by simp[Value.oneCell']) ?_;intro h5 w5 N ai;rw[dy]at N;have H:Xq _:=iG.two L.o R.o X.o ai N;clear N ai));obtain⟨z0,z1,z2,z3,c6,ez,c4,z4,z5,z6⟩:=I.o w5 H.o.1.Zbw;cases ez
     clear y0 y1 y2 y3 a1 s0 cz q3 a0 aT;go_wp2;go_roundg (a+1-(t+1))
     ·exact⟨t+1,h5,V,A++[x],B,by omega,rfl,by simp[aE],rfl,by go_num,⟨by simp;omega,by omega⟩,J,G,H.o.1,H.o.2.1,H.o.2.2⟩
     omega
  ·have et:t=a+1:=(by omega);subst et;have bp:¬(a:Int)+1<=(a:Int):=by omega
   go_wp2;go_ret2;exact⟨b,U,V,cg.o,by rw[<-be.o,<-bf.o];rfl,by rw[<-be.o];exact ar.o.base F.o,by rw[<-bf.o];exact b1.o.base F.o⟩
 ·obtain⟨c,Hc⟩:∃c,Xq (a8 b=c):=⟨_,rfl⟩
  rw[Hc.o]at hg;have hg:_=2*c+1:=hg;have bq:Xq (a8 b<=c):=by show _<=_;rw[Hc.o];omega
  clear bg;go_wp2
  go_loopg [7,8] (a+1) (fun g2 ag tv wr=>∃(t:Nat) (f:Bool) (b:List Bool),t<=a+1/\g2=a+1-t/\ag=bool f/\tv=int i64 t/\Xq (a8 b<=c/\(f=true->a8 b<c))/\Xq (f=false->∀E,E<t->zA v y b E)/\Xq (zE v y a b)/\Xq (kV wr w.heap.size b)/\Xq (aa [] w wr))
  ·exact⟨0,false,b,by omega,rfl,rfl,rfl,⟨bq.o,fun h=>by cases h⟩,(fun _ t ht=>absurd ht (Zh t)),u,m,F⟩
  clear bq u m F Hc;obtain⟨t,f,b,ht,cB,rfl,rfl,Y,HT,u,m,F⟩:=hrel;by_cases am:t<=a
  ·have bp:(t:Int)<=(a:Int):=(by omega);have z:Xq _:=bT.o t am wr F.o;have y0:=kV.cell m.o t _ (Ey b t (by rw[u.o.len];omega));have y1:=kV.o m.o;obtain⟨sd,af⟩:=aP (il y t);rw[af.o]at z;obtain⟨ib,M⟩:=aP (b.getD t false);rw[M.o]at y0;have cL:(0:Int)<=(t:Int):=(by omega);have cV:(t:Int)<(a:Int)+1:=(by omega);have bl:Xq (zA v y b t->f=false->∀E,E<t+1->zA v y b E):=fun hc h E cH=>by
    by_cases e:E=t
    ·rw[e];exact hc
    ·exact HT.o h E (by omega)
   cases ib
   ·have HM:Xq _:=bl.o (fun h=>by rw[M.o]at h;cases h);go_wp2_with (go_at_call 65;refine Xx z.o ?_;rintro e w3 ⟨rfl,D⟩;rw[D];clear D);go_roundg (a+1-(t+1))
    ·exact⟨t+1,f,b,by omega,rfl,rfl,by go_num,Y,HM,u,m,F⟩
    omega
   ·cases sd
    ·have HM:Xq _:=bl.o (fun _ h=>by rw[af.o]at h;cases h);go_wp2_with (go_at_call 65;refine Xx z.o ?_;rintro e w3 ⟨rfl,D⟩;rw[D];clear D);go_roundg (a+1-(t+1))
     ·exact⟨t+1,f,b,by omega,rfl,rfl,by go_num,Y,HM,u,m,F⟩
     omega
    ·have cq:Xq _:=u.o.sub t M.o;obtain⟨cb,aq⟩:=ct.o t am;have aq:Xq _:=aq;have dT:(t:Int)<v.length:=(by omega);have I:Xq (∀C:World,aa [] w C->∃gP,az=some ⟨gP,0,none⟩/\gP<C.heap.size/\C.cell? ⟨n,3,none⟩=some (slice az v.length cP)/\n<C.heap.size/\C.cell? ⟨gP,t*5,none⟩=some (slice (mZ v t).2.ao (mZ v t).1.st.length (mZ v t).2.cap)/\cW C (mZ v t).2.ao 6 mG (mZ v t).1.st):=fun C kw=>by
      have hj:=WR.Zbj HJ.o kw;obtain⟨gP,e,b8,cc⟩:=hj.p t _ (E0 v t (by omega));exact⟨gP,e,b8,by rw[ab hj.d];rfl,ah hj.d,cc 0 _ rfl,hj.q _ (YH (E0 v t (by omega)))⟩
     have a4:Xq (∀b:List Bool,(∀i,i<(mZ v t).1.st.length->∀k:Nat,(cn (mZ v t).1.st i).ref=(k:Int)->b.getD k false=true)->zA v y b t):=fun _ h _ _=>h;have a5:Xq (∀i,i<(mZ v t).1.st.length->∀k:Nat,(cn (mZ v t).1.st i).ref=(k:Int)->kP v y a k):=fun i hi k he=>kP.step cq.o af.o hi he;have Z:Xq (f=false->(∀E,E<t->zA v y b E)/\∀i,i<0->∀k:Nat,(cn (mZ v t).1.st i).ref=(k:Int)->b.getD k false=true):=fun h=>⟨HT.o h,fun i hi=>by omega⟩
     obtain⟨O,cy⟩:=aP ((mZ v t).1.st);obtain⟨hd,cx⟩:=aP ((mZ v t).2);rw[cy.o]at I a4 a5 Z cb aq;rw[cx.o]at I;obtain⟨c3,c5⟩:=hd;simp only at I;go_wp2_with (go_at_call 65;refine Xx z.o ?_;rintro e w3 ⟨rfl,D⟩;rw[D];clear D)
     go_loopg [7,10] O.length (fun g3 ag iv wr=>∃(i:Nat) (f:Bool) (b:List Bool),i<=O.length/\g3=O.length-i/\ag=bool f/\iv=int i64 i/\Xq (a8 b<=c/\(f=true->a8 b<c))/\Xq (f=false->(∀E,E<t->zA v y b E)/\∀i',i'<i->∀k:Nat,(cn O i').ref=(k:Int)->b.getD k false=true)/\Xq (zE v y a b)/\Xq (kV wr w.heap.size b)/\Xq (aa [] w wr))
     ·exact⟨0,f,b,by omega,rfl,rfl,rfl,Y,Z,u,m,F⟩
     clear Y Z HT u m F bl y0 y1 M z;obtain⟨i,f,b,hi,dp,rfl,rfl,Y,HT,u,m,F⟩:=hrel;obtain⟨gP,rfl,b8,v3,cd,p0,bk⟩:=I.o wr F.o;rcases kn i O.length with ⟨a2,dv⟩ | ⟨a2,-⟩
     ·obtain⟨gs,es,a1,cs⟩:=bk i _ (Nc O i a2);replace es:c3=some ⟨gs,0,none⟩:=es;subst es;have s0:wr.cell? ⟨gs,i*6,none⟩=some (int i64 (cn O i).ref):=cs 0 _ rfl;have co:Xq _:=aq.o i a2;have cu:Xq _:=a5.o i a2
      have bz:Xq (f=false->(∀k:Nat,(cn O i).ref=(k:Int)->b.getD k false=true)->(∀E,E<t->zA v y b E)/\∀i',i'<i+1->∀k:Nat,(cn O i').ref=(k:Int)->b.getD k false=true):=fun h hk=>⟨(HT.o h).1,fun i' ds k he=>by
       by_cases e:i'=i
       ·subst e;exact hk k he
       ·exact(HT.o h).2 i' (by omega) k he⟩
      generalize (cn O i).ref=r at *;clear cs bk;have dt:(0:Int)<=(i:Int):=by omega
      by_cases cF:(0:Int)<=r
      ·obtain⟨k,rfl⟩:=Int.eq_ofNat_of_zero_le cF;have a3:k<=a:=(by have:=co.o;omega);have dz:(k:Int)<(a:Int)+1:=(by omega);have y0:=kV.cell m.o k _ (Ey b k (by rw[u.o.len];omega));have y1:=kV.o m.o;have br:Xq _:=(Ey b k (by rw[u.o.len];omega));obtain⟨ib,M⟩:=aP (b.getD k false);rw[M.o]at y0 br;cases ib
       ·have HU:Xq _:=nu b k br.o;have ap:Xq (a8 (b.set k true)<c):=by
         have U:=HU.o;have V:=Y.o.1;show _<_;omega
        have ck:Xq _:=zE.set u.o (cu.o k rfl);obtain⟨W3,bm⟩:=aP (wr.setCell ⟨w.heap.size,k,none⟩ (bool true));have cv:Xq (kV W3 w.heap.size (b.set k true)):=(by show kV _ _ _;rw[<-bm.o];exact kV.set m.o k);have ac:Xq (aa [] w W3):=(by show aa [] w W3;rw[<-bm.o];exact F.o.sr1 (by simp) _);have f0:=zcW m.o k;(go_upto_region 17 with fail);rw[bm.o];go_wp2;go_roundg (O.length-(i+1))
        ·exact⟨i+1,true,b.set k true,by omega,rfl,rfl,by go_num,⟨Ys ap.o,fun _=>ap.o⟩,(fun h=>by cases h),ck,cv,ac⟩
        omega
       ·have HM:Xq _:=fun h=>bz.o h (fun q hq=>by rw[show q=k by omega];exact M.o);go_wp2;go_roundg (O.length-(i+1))
        ·exact⟨i+1,f,b,by omega,rfl,rfl,by go_num,Y,HM,u,m,F⟩
        omega
      ·have HM:Xq _:=fun h=>bz.o h (fun q hq=>absurd hq (by omega));go_wp2;go_roundg (O.length-(i+1))
       ·exact⟨i+1,f,b,by omega,rfl,rfl,by go_num,Y,HM,u,m,F⟩
       omega
     ·have ei:i=O.length:=(by omega);subst ei;have HM:Xq (f=false->∀E,E<t+1->zA v y b E):=fun h E cH=>by
       by_cases e:E=t
       ·rw[e];exact a4.o b (HT.o h).2
       ·exact(HT.o h).1 E (by omega)
      clear bk;go_wp2;go_roundg (a+1-(t+1))
      ·exact⟨t+1,f,b,by omega,rfl,rfl,by go_num,Y,HM,u,m,F⟩
      omega
  ·have et:t=a+1:=(by omega);subst et;have bp:¬(a:Int)+1<=(a:Int):=by omega
   have HM:Xq (f=false->∀t,t<=a->zA v y b t):=fun h t ht=>HT.o h t (by omega);have c9:=Y.o.1;have ap:Xq _:=Y.o.2;go_wp2;go_roundg (2*a8 b+(if f=true then 1 else 0))
   case measure =>
    cases f
    ·rw[Xz (by simp)];omega
    ·have:=ap.o rfl;rw[XA rfl];omega
   case rel=>exact⟨f,b,rfl,rfl,u,HM,m,F⟩
theorem zaA:(prog.info? 122).map (fun i=>(i.zero,i.size,i.bytes))=some (some (agg #[slice none 0 0,int i64 0,string ⟨#[]⟩,int i64 0,int i64 0]),5,64):=by kernel_rfl
theorem Mx:(prog.info? 38).map (fun i=>(i.zero,i.size,i.bytes))=some (some (agg #[string ⟨#[]⟩,int i64 0,int i64 0,string ⟨#[]⟩,int i64 0,int i64 0]),6,64):=by kernel_rfl
theorem tF(x:lF×Hd):(⟨(ij d).e,(ij d).size,(ij d).n+1,(ij d).xs++VZ x⟩:eD)=ij (d++[x]):=fT _ _ _ _ _
theorem vC(x:j4):(⟨(ie k).e,(ie k).size,(ie k).n+1,(ie k).xs++lZ x⟩:eD)=ie (k++[x]):=fT _ _ _ _ _
theorem cW.keptS{α:Type}{a:Xt}{f:α->List Value}{L:List α}{S:Xu}(h:cW D a H f L)(k:aa S D I)(d:∀g,a=some ⟨g,0,none⟩->g∉S):cW I a H f L:=fun j x m=>by
 obtain⟨g,e,b,c⟩:=h j x m;exact⟨g,e,XB b k.size,fun i u l=>by rw[XJ (k.block g b (d g e))];exact c i u l⟩
def Qt(w:World)(h1 h2:Hd)(x:lF×Hd):Prop:=∀g,x.2.ao=some ⟨g,0,none⟩->w.heap.size<=g/\h1.Zbx≠some g/\h2.Zbx≠some g
structure zF(w wr:World)(v b:Nat)(x0 x1:Value)(PS:List (lF×Hd))(h1:Hd)(RS:List j4)(h2:Hd):Prop where
 d:wr.heap[v]?=some (.cells #[x0,x1,pointer (some ⟨b,0,none⟩),slice h1.ao PS.length h1.cap,slice h2.ao RS.length h2.cap] 85)
 lt:v<w.heap.size
 o1:aD wr h1 (ij PS)
 o2:aD wr h2 (ie RS)
 f1:∀k,h1.Zbx=some k->w.heap.size<=k
 f2:∀k,h2.Zbx=some k->w.heap.size<=k
 ap:∀k,h1.Zbx=some k->h2.Zbx≠some k
 Zbw:aa [v] w wr
 q:∀x∈PS,cW wr x.2.ao 6 mG x.1.st/\Qt w h1 h2 x
 ql:∀x∈PS,∀g,x.2.ao=some ⟨g,0,none⟩->g<wr.heap.size
variable {w wr w':World} {v b:Nat} {x0 x1:Value} {PS:List (lF×Hd)} {h1 h1':Hd} {RS:List j4} {h2 h2':Hd}
theorem rx{v:Nat}(k:aa [] D I):aa [v] D I:=k.mono (by simp)
theorem zF.Zbj(a:zF w wr v b x0 x1 PS h1 RS h2)(k:aa [] wr w'):zF w w' v b x0 x1 PS h1 RS h2 :=
 ⟨k.get a.d (by simp),a.lt,a.o1.Zbj k,a.o2.Zbj k,a.f1,a.f2,a.ap,a.Zbw.trans (rx k),fun x c=>⟨(a.q x c).1.Zbj k,(a.q x c).2⟩,fun x c g e=>XB (a.ql x c g e) k.size⟩
theorem zF.jds(a:zF w wr v b x0 x1 PS h1 RS h2):WR wr v b x0 x1 PS h1.ao h1.cap RS h2.ao h2.cap :=
 ⟨a.d,a.o1.srcG V3,fun x c=>(a.q x c).1,a.o2.srcG Bl⟩
theorem xk{h:Hd}(e:h.ao=some ⟨H,0,none⟩):h.Zbx=some H:=by unfold Hd.Zbx;rw[e];rfl
theorem zF.addP(a:zF w wr v b x0 x1 PS h1 RS h2)(x:lF×Hd)(D:cW wr x.2.ao 6 mG x.1.st)(B:Qt w h1 h2 x)(t:∀g,x.2.ao=some ⟨g,0,none⟩->g<wr.heap.size)(g:bL wr w' h1 h1')(o:aD w' h1' (ij (PS++[x])))(m:Nat)(C:m=PS.length+1) :
  zF w (w'.setCell ⟨v,3,none⟩ (slice h1'.ao m h1'.cap)) v b x0 x1 (PS++[x]) h1' RS h2:=by
 have u:v∉h1.Zbx.toList:=fun c=>by have:=a.f1 _ (aX c);have:=a.lt;omega
 have A:=g.Zbw.get a.d u;have s:aa [v] w' (w'.setCell ⟨v,3,none⟩ (slice h1'.ao m h1'.cap)):=(aa.refl _ _).sl1 _;have j:∀k,h1'.Zbx=some k->w.heap.size<=k:=fun k f=>by
  rcases g.Zbx with e | ⟨q,e,c⟩
  ·exact a.f1 k (by rw[<-e];exact f)
  ·rw[f]at e;cases e;exact XF a.Zbw.size c
 have i:∀y∈PS++[x],cW wr y.2.ao 6 mG y.1.st/\Qt w h1 h2 y/\∀g,y.2.ao=some ⟨g,0,none⟩->g<wr.heap.size:=fun y l=>by
  rcases X9.1 l with h | h
  ·exact⟨(a.q y h).1,(a.q y h).2,a.ql y h⟩
  ·rw[XH]at h;subst h;exact⟨D,B,t⟩
 refine⟨?_,a.lt,?_,?_,j,a.f2,?_,?_,?_,?_⟩
 ·rw[ae A 3];congr 2;rw[C,XC];rfl
 ·exact o.Zbs (fun k f e=>by have:=j k f;have:=a.lt;omega) _ _
 ·exact(g.beside a.o2 (fun k f c=>a.ap k c f)).Zbs (fun k f e=>by have:=a.f2 k f;have:=a.lt;omega) _ _
 ·intro k f c;rcases g.Zbx with e | ⟨q,e,t⟩
  ·exact a.ap k (by rw[<-e];exact f) c
  ·have:=a.o2.lt c;rw[f]at e;cases e;omega
 ·refine⟨g.Zbw.os.trans a.Zbw.os,g.Zbw.tape.trans a.Zbw.tape,g.Zbw.output.trans a.Zbw.output,?_,fun k f z=>?_⟩
  ·exact XF (XF a.Zbw.size g.Zbw.size) s.size
  ·have h1:=a.Zbw.size;have h2:=g.Zbw.size;rw[s.block k (by omega) z,g.Zbw.block k (by omega) (fun c=>by have:=a.f1 _ (aX c);omega),a.Zbw.block k f z]
 ·intro y l;obtain⟨E,n,F⟩:=i y l;refine⟨(E.keptS g.Zbw (fun q e c=>(n q e).2.1 (aX c))).keptS s (fun q e c=>?_),fun q e=>⟨(n q e).1,fun c=>?_,(n q e).2.2⟩⟩
  ·have:=(n q e).1;have:=a.lt;simp at c;omega
  ·rcases g.Zbx with p | ⟨r,p,t⟩
   ·exact(n q e).2.1 (by rw[<-p];exact c)
   ·have:=F q e;rw[c]at p;cases p;omega
 ·intro y l q e;have h1:=(i y l).2.2 q e;have h2:=g.Zbw.size;have G:=s.size;omega
theorem zF.addR(a:zF w wr v b x0 x1 PS h1 RS h2)(x:j4)(g:bL wr w' h2 h2')(o:aD w' h2' (ie (RS++[x])))(m:Nat)(A:m=RS.length+1) :
  zF w (w'.setCell ⟨v,4,none⟩ (slice h2'.ao m h2'.cap)) v b x0 x1 PS h1 (RS++[x]) h2':=by
 have s:v∉h2.Zbx.toList:=fun c=>by have:=a.f2 _ (aX c);have:=a.lt;omega
 have u:=g.Zbw.get a.d s;have p:aa [v] w' (w'.setCell ⟨v,4,none⟩ (slice h2'.ao m h2'.cap)):=(aa.refl _ _).sl1 _;have i:∀k,h2'.Zbx=some k->w.heap.size<=k:=fun k f=>by
  rcases g.Zbx with e | ⟨q,e,c⟩
  ·exact a.f2 k (by rw[<-e];exact f)
  ·rw[f]at e;cases e;exact XF a.Zbw.size c
 refine⟨?_,a.lt,?_,?_,a.f1,i,?_,?_,?_,?_⟩
 ·rw[ae u 4];congr 2;rw[A,XC];rfl
 ·exact(g.beside a.o1 (fun k f c=>a.ap k f c)).Zbs (fun k f e=>by have:=a.f1 k f;have:=a.lt;omega) _ _
 ·exact o.Zbs (fun k f e=>by have:=i k f;have:=a.lt;omega) _ _
 ·intro k f c;rcases g.Zbx with e | ⟨q,e,z⟩
  ·exact a.ap k f (by rw[<-e];exact c)
  ·have:=a.o1.lt f;rw[c]at e;cases e;omega
 ·refine⟨g.Zbw.os.trans a.Zbw.os,g.Zbw.tape.trans a.Zbw.tape,g.Zbw.output.trans a.Zbw.output,?_,fun k f t=>?_⟩
  ·exact XF (XF a.Zbw.size g.Zbw.size) p.size
  ·have h1:=a.Zbw.size;have h2:=g.Zbw.size;rw[p.block k (by omega) t,g.Zbw.block k (by omega) (fun c=>by have:=a.f2 _ (aX c);omega),a.Zbw.block k f t]
 ·intro y n;obtain⟨B,j⟩:=a.q y n;have C:=a.ql y n;refine⟨(B.keptS g.Zbw (fun q e c=>(j q e).2.2 (aX c))).keptS p (fun q e c=>?_),fun q e=>⟨(j q e).1,(j q e).2.1,fun c=>?_⟩⟩
  ·have:=(j q e).1;have:=a.lt;simp at c;omega
  ·rcases g.Zbx with l | ⟨r,l,z⟩
   ·exact(j q e).2.2 (by rw[<-l];exact c)
   ·have:=C q e;rw[c]at l;cases l;omega
 ·intro y n q e;have h1:=a.ql y n q e;have h2:=g.Zbw.size;have D:=p.size;omega
theorem zbc(RS:List j4)(k:Nat)(h:k<RS.length)(u:Int):(RS.flatMap lZ).set (k*6+1) (int i64 u)=(RS.set k { gi RS k with Zbk:=u }).flatMap lZ:=by
 induction RS generalizing k with
 | nil=>simp at h
 | cons r RS c =>
  cases k with
  | zero=>rfl
  | succ k =>
   have e:(k+1)*6+1=6+(k*6+1):=(by omega);have b:gi (r :: RS) (k+1)=gi RS k:=rfl;rw[b,ZG,Yz,Yz,<-c k (by simpa using h),e,Zr _ _ (by rw[Bl];omega),Bl];congr 2;omega
theorem zF.put(a:zF w wr v b x0 x1 PS h1 RS h2)(l:h2.ao=some ⟨H,0,none⟩)(k:Nat)(p:k<RS.length)(u:Int):zF w (wr.setCell ⟨H,k*6+1,none⟩ (int i64 u)) v b x0 x1 PS h1 (RS.set k { gi RS k with Zbk:=u }) h2:=by
 have i:=xk l;have o:=a.f2 H i;have m:=a.o2.lt i;have r:=a.lt;have c:aa [H] wr (wr.setCell ⟨H,k*6+1,none⟩ (int i64 u)):=(aa.refl _ _).sl1 _;refine⟨?_,a.lt,?_,?_,a.f1,a.f2,a.ap,?_,?_,?_⟩
 ·rw[c.get a.d (by simp;omega),Yq]
 ·exact a.o1.Zbs (fun q f e=>a.ap q f (by rw[e];exact i)) _ _
 ·have:=a.o2.putAt l (k*6+1) (int i64 u);have e:(⟨(ie RS).e,(ie RS).size,(ie RS).n,(ie RS).xs.set (k*6+1) (int i64 u)⟩:eD)=ie (RS.set k { gi RS k with Zbk:=u }):=by
   show(⟨_,_,RS.length,(RS.flatMap lZ).set (k*6+1) (int i64 u)⟩:eD)=_
   rw[zbc RS k p u];unfold ie lu;rw[Yq]
  rw[e]at this;exact this
 ·exact⟨c.os.trans a.Zbw.os,c.tape.trans a.Zbw.tape,c.output.trans a.Zbw.output,XF a.Zbw.size c.size,fun q f s=>by
   have:=a.Zbw.size;rw[c.block q (by omega) (by simp;omega),a.Zbw.block q f s]⟩
 ·intro y g;exact⟨(a.q y g).1.keptS c (fun q e f=>by simp at f;subst f;exact((a.q y g).2 q e).2.2 i),(a.q y g).2⟩
 ·intro y g q e;exact XB (a.ql y g q e) c.size
end Go.Proofs.YtpdholcaobgofaaGreat
