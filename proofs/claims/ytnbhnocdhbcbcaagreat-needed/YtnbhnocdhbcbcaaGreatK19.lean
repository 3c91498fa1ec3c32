import Derived.Test.YtnbhnocdhbcbcaaGreatK18
namespace Go.Proofs.YtnbhnocdhbcbcaaGreat
open Go.RowKit Tryz
open Value IntKind Ending
set_option maxHeartbeats 0
variable{a k:World}{i:Hd}{D o:Nat}{T:Xt}(n f l:Nat)(b:List Tk)(S:Xu)(x:Nat)(w:List Sm)(d:Xt)(y:List Xt)(v:Xu)(H:Nat)
def Ab(T:List Tk)(S:List Sm)(hs:Xv)(M:List Xt)(V:Xt)(B:List Xt)(i:Nat):Int :=
 if so S hs i=true then(if(((M.getD i []).getD 0 ⟨#[]⟩).toList==((bb T S (hs.getD i 0)).getD 0 ⟨#[]⟩).toList)=true then 0 else 7)
 else if lu (ed V B (bb T S (hs.getD i 0))) (M.getD i [])=true then 0 else 8
def LQ(T:List Tk)(S:List Sm)(a:Nat)(V:Xt)(B:List Xt)(p:Xs×Xs):Bool:=qA T S a (ed V B [p.1]) (ed V B [p.2])
def nM(T:List Tk)(S:List Sm)(a c:Nat)(hs:Xv)(M:List Xt)(V:Xt)(B:List Xt):Int :=
 if(de (Ab T S hs M V B) hs.length==0)=false then de (Ab T S hs M V B) hs.length else if(lY T S c).all (LQ T S a V B)=true then 0 else 9
theorem qO(x:Xs)(N:Nat)(a:∀l∈y,l.length<=N)(b:1<=N):(ed d y [x]).length<=N:=by
 unfold ed;rw[Uv,WB,TY];unfold vq;split
 ·rw[To];cases h:y[nj d x]? with
  | none=>simp
  | some l=>exact a l (U0 h)
 ·simpa using b
theorem P9(b:∀l∈y,l.length<=H)(c:1<=H)(e:Xt):(ed d y e).length<=H*e.length:=by
 induction e with
 | nil=>exact Uc _
 | cons x e g =>
  have f:=qO d y x H b c;have a:ed d y (x :: e)=ed d y [x]++ed d y e:=by unfold ed;simp
  rw[a,Tv,Uj,Nat.mul_succ];omega
theorem Kw(V:Xt)(a:V.length<=10000)(k:Nat):(lN b w H V k).length<=10000*k:=by
 induction k with
 | zero=>simp[lN]
 | succ k c =>
  have:=F0 b w H V k V.length;rw[yk,Tv];omega
theorem Kt(d:H<=10000):(lY b w H).length<=100000000:=by
 have a:=nz b w H;have c:(fU b w (a9 b w H) (a9 b w H).length).length<=(a9 b w H).length:=by
  unfold fU;rw[TT,UO];exact U3 _ _
 have:=Kw b w H (fU b w (a9 b w H) (a9 b w H).length) (by omega) (fU b w (a9 b w H) (a9 b w H).length).length;unfold lY;omega
set_option maxRecDepth 100000
theorem Kd(a:Xv)(bx:Xu)(cH:Nat)(A:List Sl)(ba:Xu)(cA:Nat)(V:Xt)(R:Xu)(cV:Nat)(B:List Sl)(Q:Xu)(cB:Nat)(J:World)(hD:gy J n b S x w v H)(ok:pA b w f)(c3:l<f)(c0:ce (aq w l).k=false)(hH:sD J bx a)(F:∀j∈a,j<f/\ce (aq w j).k=false)(dv:a.length<=10000)(hA:di J ba 1 Gr A)(_c:pX J A)(bT:∀s∈A,ie J s.ao s.L)(dt:a.length<=A.length)(ds:A.length<=100000)(hF:∀i,i<a.length->so w a i=true->1<(bb b w (a.getD i 0)).length)(hN:∀s∈A,0<s.L.length/\s.L.length<=10000)(hV:ie J R V)(hB:di J Q 1 Gr B)(b0:pX J B)(cR:V.length<=B.length)(cF:B.length<=100000)(bc:∀s∈B,s.L.length<=10000) :
  Calls prog 179 #[pointer (some ⟨n,0,none⟩),int i64 f,int i64 l,slice bx a.length cH,slice ba A.length cA,agg #[slice R V.length cV,slice Q B.length cB]] J fun e t=>e=returned (int i64 (nM b w f l a (A.map (·.L)) V (B.map (·.L))))/\ae [] J t:=by
 obtain⟨W,HW⟩:=bn (J.alloc (.cells #[slice R V.length cV,slice Q B.length cB] 271));have BW:=f9 HW.o;have u:Xr _:=fI HW.o;have hn:=ok.ok.m;have d0:=ok.sm;have d1:=ok.tm;have bg:Xr _:=BW;have HD:Xr _:=hD.XE u.o;have a5:Xr _:=ok;have HH:Xr _:=hH.XE u.o;have ch:Xr _:=F;have HA:Xr _:=hA.XE u.o;have cc:Xr (∀s∈A,∀wx,ae [] J wx->ie wx s.ao s.L):=fun s a wx kx=>(bT s a).XE kx;have HF:Xr _:=hF;have HN:Xr _:=hN;obtain⟨M,bl⟩:=bn (A.map (·.L));obtain⟨d,az⟩:=bn (B.map (·.L));have a6:Xr (∀(E:Xt) (af:Xu) (cE:Nat) (wx:World),ae [] J wx->ie wx af E->E.length<=10000->Calls prog 180 #[agg #[slice R V.length cV,slice Q B.length cB],slice af E.length cE] wx fun e t=>∃h',e=returned (slice h'.ao (ed V d E).length h'.cap)/\ip wx t h' (aE (ed V d E))):=fun E af cE wx kx hE hl=>by rw[<-az.o];exact DR V R cV B Q cB E af cE wx (hV.XE kx) (hB.XE kx) (b0.XE kx) cR cF hE hl bc
 have U:Xr (∀dk∈d,dk.length<=10000):=fun dk hl=>by
  rw[<-az.o]at hl;obtain⟨s,a,rfl⟩:=UG.1 hl;exact bc s a
 have cj:Xr (∀k,k<A.length->M.getD k []=(gQ A k).L):=fun k hk=>by rw[<-bl.o];exact xV A k hk
 rw[bl.o,az.o];have ck:Xr _:=FW n l b S x w v H;have cf:Xr (dV b (aq w l).h):=ok.e l c3 c0;have HR:Xr (nM b w f l a M V d=if(de (Ab b w a M V d) a.length==0)=false then de (Ab b w a M V d) a.length else if(lY b w l).all (LQ b w f V d)=true then 0 else 9):=rfl;clear hD ok hH F hA _c bT hF hN hV hB b0 bc;go_enter func179,ntmps179;go_upto_region 1 with fail
 rw[HW.o];go_wp2
 go_loopg [13] a.length (fun g i wr=>∃k:Nat,k<=a.length/\g=a.length-k/\i=int i64 k/\Xr (de (Ab b w a M V d) k=0)/\Xr (ae [] W wr))
 ·exact⟨0,by omega,rfl,rfl,rfl,ae.refl _ _⟩
 obtain⟨k,hk,hg,rfl,HZ,HK⟩:=hrel;rcases kn k a.length with ⟨F,c8⟩ | ⟨F,-⟩
 ·obtain⟨c7,b5⟩:=ch.o a[k] (TP F);have Z:a[k]<w.length:=by omega
  have be:a.getD k 0=a[k]:=by rw[To,Tn F];rfl
  obtain⟨gH,rfl,c5,cu⟩:=(sD.XE HH.o HK.o) k a[k] (Tn F);have ax:Xr (Calls prog 73 #[pointer (some ⟨n,0,none⟩),int i64 ((a[k]:Nat):Int)] wr fun e t=>∃h',e=returned (slice h'.ao (bB b w[a[k]].h).length h'.cap)/\zD wr t h' (bB b w[a[k]].h)):=mq n a[k] b S x w _ H wr (gy.XE HD.o HK.o) Z (by omega) (by rw[bW w a[k] Z];exact a5.o.e a[k] c7 b5);have bj:Xr (bB b w[a[k]].h=bb b w (a.getD k 0)):=ci (by unfold bb;rw[be,bW w a[k] Z]);have b2:=lT b w[a[k]].h;rw[bj.o]at ax b2;have br:Xr (so w a k=(w[a[k]].k.toList == [36,102])):=ci (by unfold so;rw[be,bW w a[k] Z]);have aT:Xr _:=HF.o k F;have co:Xr (∀t:World,ae [] W t->t.cell? ⟨gH,k,none⟩=some (int i64 ((a[k]:Nat):Int))/\gH<t.heap.size/\∃gs,v=some ⟨gs,0,none⟩/\gs<t.heap.size/\t.cell? ⟨n,1,none⟩=some (slice v w.length H)/\n<t.heap.size/\t.cell? ⟨gs,a[k]*4+3,none⟩=some (string w[a[k]].k)):=fun t kw=>by
   obtain⟨g2,e2,h2,c2⟩:=(sD.XE HH.o kw) k a[k] (Tn F);cases e2
   have hd:=gy.XE HD.o kw;obtain⟨-,s0,hb⟩:=hd.cells;obtain⟨gs,e3,ag,-,-,-,q3⟩:=hd.s.2 a[k] w[a[k]] (Tn Z);exact⟨c2,h2,gs,e3,ag,s0,hb,q3⟩
  have ai:k<A.length:=by omega
  have c:Xr (Ab b w a M V d k=if so w a k=true then(if(((gQ A k).L.getD 0 ⟨#[]⟩).toList==((bb b w (a.getD k 0)).getD 0 ⟨#[]⟩).toList)=true then 0 else 7) else if lu (ed V d (bb b w (a.getD k 0))) (gQ A k).L=true then 0 else 8):=ci (by unfold Ab;rw[cj.o k ai]);have G:Xr ((Ab b w a M V d k==0)=false->nM b w f l a M V d=Ab b w a M V d k):=fun h=>by
   have:=ng HZ.o h F;rw[HR.o,this,Tr h]
  have ad:Xr (Ab b w a M V d k=0->de (Ab b w a M V d) (k+1)=0):=fun h=>by rw[de,HZ.o];exact h
  rw[br.o]at c aT;clear bj br be b5;have d6:((a[k]:Nat):Int)<w.length:=by omega
  have d5:(0:Int)<=((a[k]:Nat):Int):=by omega
  obtain⟨X,HX⟩:=bn (bb b w (a.getD k 0));rw[HX.o]at ax b2 c aT;generalize w[a[k]].k=sk at *;generalize a[k]=j at *;go_upto_region 5 with (go_at_call 73;refine Ts ax.o ?_;rintro e w1 ⟨h1,rfl,x1⟩)
  have a0:Xr _:=HK.o.trans x1.XR;have bv:Xr _:=x1.X9.srcX;obtain⟨bz,an,gs,rfl,ag,s0,b4,q3⟩:=co.o w1 a0.o;obtain⟨a1,c1⟩:=h1;clear cu c5 x1;have b1:=HN.o (gQ A k) (ko A k ai);have T:Xr _:=cc.o (gQ A k) (ko A k ai);have av:Xr (∀t:World,ae [] W t->∃gA,ba=some ⟨gA,0,none⟩/\gA<t.heap.size/\t.cell? ⟨gA,k,none⟩=some (slice (gQ A k).ao (gQ A k).L.length (gQ A k).cap)):=fun t kw=>di.sl (di.XE HA.o kw) k ai;have dg:(k:Int)<A.length:=by omega
  generalize gQ A k=s at *;obtain⟨df,cb,sL⟩:=s;simp only at T av b1 c;obtain⟨cL,dz⟩:=b1;cases hf:(sk.toList == [36,102])
  ·rw[hf,Tp (by simp)]at c;go_quiet (fail);obtain⟨W2,N⟩:=bn (w1.drewN nq);(go_upto_region 8 with fail);rw[N.o];have k2:ae [] w1 W2:=by rw[<-N.o];exact(ae.refl [] w1).drewN nq
   have r:Xr _:=a0.o.trans k2;have BR:=r.o.get bg.o (by simp);obtain⟨r0,r1⟩:=Ba BR;have P:Xr _:=(a6.o X a1 c1 W2 (u.o.trans r.o) (ie.XE bv.o k2) (by omega));have db:=P9 V d 10000 U.o (by omega) X;obtain⟨Y,HY⟩:=bn (ed V d X);rw[HY.o]at P c db;clear bz an ag s0 b4 q3 N;(go_upto_region 9 with (go_at_call 180;refine Ts P.o ?_;rintro e w3 ⟨h3,rfl,x3⟩));have I:Xr _:=r.o.trans x3.XR;obtain⟨gA,rfl,c4,ct⟩:=av.o w3 I.o;have a7:Xr _:=(Eg Y sL h3.ao df h3.cap cb w3 x3.X9.srcX (T.o w3 (u.o.trans I.o)) (by omega));obtain⟨sm,cs⟩:=bn (lu Y sL);rw[cs.o]at a7 c;clear x3 r0 r1;cases sm
   ·rw[Tp (by simp)]at c;have K:Xr _:=(G.o (by rw[c.o];rfl));rw[c.o]at K;go_wp2_with (go_at_call 134;refine Ts a7.o ?_;rintro e w4 ⟨rfl,k4⟩;have D:Xr _:=I.o.trans k4;clear k4);go_ret;exact⟨au K.o.symm,u.o.trans D.o⟩
   ·rw[Tr rfl]at c;have K:Xr _:=ad.o c.o;go_wp2_with (go_at_call 134;refine Ts a7.o ?_;rintro e w4 ⟨rfl,k4⟩;have D:Xr _:=I.o.trans k4;clear k4);go_roundg (a.length-(k+1))
    ·exact⟨k+1,by omega,rfl,by go_num,K,D⟩
    omega
  ·rw[hf,Tr rfl]at c;have d2:=aT.o hf;obtain⟨gX,eX,c6,cX⟩:=bv.o 0 _ (ni X 0 (by omega));replace eX:a1=some ⟨gX,0,none⟩:=eX;subst eX;go_quiet (fail);obtain⟨W2,N⟩:=bn (w1.drewN nq);(go_upto_region 6 with fail);rw[N.o];have k2:ae [] w1 W2:=by rw[<-N.o];exact(ae.refl [] w1).drewN nq
   have r:Xr _:=a0.o.trans k2;obtain⟨gA,rfl,c4,ct⟩:=av.o W2 r.o;obtain⟨g0,es,d3,dl⟩:=T.o W2 (u.o.trans r.o) 0 _ (ni sL 0 cL);subst es;have dp:W2.cell? ⟨gX,0,none⟩=some (string (X.getD 0 ⟨#[]⟩)):=(by rw[TO (k2.block gX c6 (by simp))];exact cX);generalize sL.getD 0 ⟨#[]⟩=al at *;generalize X.getD 0 ⟨#[]⟩=y at *;clear bz an ag s0 b4 q3 N cX k2 nq;cases ca:(al.toList==y.toList)
   ·rw[ca,Tp (by simp)]at c;have K:Xr _:=(G.o (by rw[c.o];rfl));rw[c.o]at K;go_quiet (fail);have D:Xr _:=r.o.trans ((ae.refl [] W2).drewN nq);go_wp2;go_ret;exact⟨au K.o.symm,u.o.trans D.o⟩
   ·rw[ca,Tr rfl]at c;have K:Xr _:=ad.o c.o;go_quiet (fail);have D:Xr _:=r.o.trans ((ae.refl [] W2).drewN nq);go_wp2;go_roundg (a.length-(k+1))
    ·exact⟨k+1,by omega,rfl,by go_num,K,D⟩
    omega
 ·have e:k=a.length:=by omega
  subst e;rw[HZ.o,Tp (by decide)]at HR;have c8:¬(a.length:Int)<a.length:=by omega
  have P:Xr _:=(ck.o wr (gy.XE HD.o HK.o) (a5.o.mono (by omega)) (by omega) cf.o);obtain⟨C,bp⟩:=bn (lY b w l);rw[bp.o]at P HR;go_upto_region 13 with (go_at_call 65;refine Ts P.o ?_;rintro e w2 ⟨h2,rfl,x2⟩)
  have r:Xr _:=HK.o.trans x2.XR;have cq:Xr _:=x2.X9.srcG NG;have dT:C.length<=100000000:=by rw[<-bp.o];exact Kt b w l (by omega)
  obtain⟨ap,cp⟩:=h2;clear x2 P HZ;go_wp2
  go_loopg [18] C.length (fun g i wr=>∃m:Nat,m<=C.length/\g=C.length-m/\i=int i64 m/\Xr (∀q (O:q<C.length),q<m->LQ b w f V d C[q]=true)/\Xr (ae [] w2 wr))
  ·exact⟨0,by omega,rfl,rfl,(fun q _ h=>by omega),ae.refl _ _⟩
  obtain⟨m,hm,d4,rfl,bf,I⟩:=hrel;have D:Xr _:=r.o.trans I.o;rcases kn m C.length with ⟨ac,c9⟩ | ⟨ac,-⟩
  ·obtain⟨gP,eP,bd,cP⟩:=cq.o m C[m] (Tn ac);subst eP;have bk:Xr (∀t:World,ae [] w2 t->t.cell? ⟨gP,m*2,none⟩=some (string C[m].1)/\t.cell? ⟨gP,m*2+1,none⟩=some (string C[m].2)/\gP<t.heap.size/\t.cell? ⟨J.heap.size,0,none⟩=some (slice R V.length cV)/\t.cell? ⟨J.heap.size,1,none⟩=some (slice Q B.length cB)/\J.heap.size<t.heap.size):=fun t kw=>by
    have BR:=(r.o.trans kw).get bg.o (by simp);exact⟨by rw[TO (kw.block gP bd (by simp))];exact cP 0 _ rfl,by rw[TO (kw.block gP bd (by simp))];exact cP 1 _ rfl,Tw bd kw.size,by rw[ah BR];rfl,by rw[ah BR];rfl,aj BR⟩
   have bo:Xr (LQ b w f V d C[m]=qA b w f (ed V d [C[m].1]) (ed V d [C[m].2])):=rfl;have G:Xr (LQ b w f V d C[m]=false->nM b w f l a M V d=9):=fun h=>by
    rw[HR.o,Tp];rw[Uw];intro b3;have:=b3 C[m] (TP ac);rw[h]at this;cases this
   have ad:Xr (LQ b w f V d C[m]=true->∀q (O:q<C.length),q<m+1->LQ b w f V d C[q]=true):=fun h q O h2=>by
    by_cases e:q=m
    ·subst e;exact h
    ·exact bf.o q O (by omega)
   generalize LQ b w f V d C[m]=mp at *;generalize C[m].1=al at *;generalize C[m].2=y at *;clear cP;obtain⟨cx,cy,ar,v0,v1,b6⟩:=bk.o wr I.o;have dc:=qO V d al 10000 U.o (by omega);have d7:=qO V d y 10000 U.o (by omega);have bs:Xr (ie (wr.alloc (.cells #[string al] 9)).drew (some ⟨wr.heap.size,0,none⟩) [al]):=by
    intro q z O;have hk:(wr.alloc (.cells #[string al] 9)).drew.heap[wr.heap.size]?=some (.cells #[string al] 9):=Tu _ _;refine⟨_,rfl,aj hk,?_⟩;rw[ah hk]
    match q,O with
    | 0,O=>simp at O;subst O;rfl
   (go_upto_region 16 with fail);go_region_with (go_at_call 180;refine(a6.o [al] (some ⟨wr.heap.size,0,none⟩) 1 _ (by exact((u.o.trans D.o).alloc _).drew) (by exact bs.o) (by simp)).mono ?_;rintro e w5 ⟨h5,rfl,x5⟩)
   all_goals
    have a2:Xr (ae [] w2 w5):=((I.o.alloc _).drew).trans x5.XR;have bw:Xr _:=x5.X9.srcX;obtain⟨PX,cl⟩:=bn (ed V d [al]);rw[cl.o]at bw dc bo ⊢;have cr:Xr (ie (w5.alloc (.cells #[string y] 9)).drew (some ⟨w5.heap.size,0,none⟩) [y]):=by
     intro q z O;have hk:(w5.alloc (.cells #[string y] 9)).drew.heap[w5.heap.size]?=some (.cells #[string y] 9):=Tu _ _;refine⟨_,rfl,aj hk,?_⟩;rw[ah hk]
     match q,O with
     | 0,O=>simp at O;subst O;rfl
    clear cx cy ar v0 v1 b6 x5 bs;obtain⟨cx,cy,ar,v0,v1,b6⟩:=bk.o w5 a2.o;(go_upto_region 17 with fail);go_region_with (go_at_call 180;refine(a6.o [y] (some ⟨w5.heap.size,0,none⟩) 1 _ (by exact(((u.o.trans r.o).trans a2.o).alloc _).drew) (by exact cr.o) (by simp)).mono ?_;rintro e w6 ⟨h6,rfl,x6⟩)
    all_goals
     have a3:Xr (ae [] w2 w6):=((a2.o.alloc _).drew).trans x6.XR;have aS:Xr _:=(JD n f PX (ed V d [y]) h5.ao h6.ao h5.cap h6.cap b S x w v H w6 (gy.XE HD.o (r.o.trans a3.o)) a5.o (ie.XE bw.o ((((ae.refl [] w5).alloc _).drew).trans x6.XR)) x6.X9.srcX (by omega) (by omega));rw[<-bo.o]at aS;clear x6;cases mp
     ·have K:Xr _:=G.o rfl;go_wp2_with (go_at_call 215;refine Ts aS.o ?_;rintro e w7 ⟨rfl,k7⟩;have a4:Xr _:=(r.o.trans a3.o).trans k7;clear k7);go_ret;exact⟨au K.o.symm,u.o.trans a4.o⟩
     ·have K:Xr _:=ad.o rfl;go_wp2_with (go_at_call 215;refine Ts aS.o ?_;rintro e w7 ⟨rfl,k7⟩;have a4:Xr _:=a3.o.trans k7;clear k7);go_roundg (C.length-(m+1))
      ·exact⟨m+1,by omega,rfl,by go_num,K,a4⟩
      omega
  ·have em:m=C.length:=(by omega);have K:Xr (nM b w f l a M V d=0):=by
    show _=_;rw[HR.o,Tr];rw[Uw];intro p hp;obtain⟨q,O,e⟩:=Uy hp;rw[<-e];exact bf.o q O (by omega)
   have c9:¬(m:Int)<C.length:=(by omega);go_wp2;go_ret;exact⟨au K.o.symm,u.o.trans D.o⟩
def iD(T:List Tk)(S:List Sm)(a:Nat)(P:List dj)(i:Nat)(M:List Xt):Xt×Int :=
 if(bN P i).ref=-2 then(M.getD (bN P i).back [],0)
 else if aA (aq S (bN P i).ref.toNat).k=false then(if 32<(bb T S (bN P i).ref.toNat).length then([],10) else(bb T S (bN P i).ref.toNat,0))
 else if dQ P i<0 then([],6)
 else
  let hs:=a9 T S (bN P i).ref.toNat
  let on:=(fX P i).map (fun q=>M.getD q [])
  let why:=nM T S a (bN P i).ref.toNat hs on (bL T S hs hs.length) (bu S hs on hs.length)
  if(why==0)=false then([],why)
  else if 32<(ed (bL T S hs hs.length) (bu S hs on hs.length) (bb T S (bN P i).ref.toNat)).length then([],10)
  else(ed (bL T S hs hs.length) (bu S hs on hs.length) (bb T S (bN P i).ref.toNat),0)
structure px(w:World)(s:Sl):Prop where
 ok:qn w s
 x:ie w s.ao s.L
 pos:0<s.L.length
 le:s.L.length<=10000
theorem px.XE{s:Sl}(h:px a s)(b:ae [] a k):px k s:=⟨h.ok.XE b,h.x.XE b,h.pos,h.le⟩
def LS(T:List Tk)(S:List Sm)(n:Nat):Prop:=∀j,j<n->(aA (aq S j).k||aH (aq S j).k)=true->0<(bb T S j).length/\(((aq S j).k.toList == [36,102])=true->1<(bb T S j).length)
structure L9(T:List Tk)(S:List Sm)(a:Nat)(P:List dj)(i:Nat):Prop where
 XP:((bN P i).ref=-2/\(bN P i).back<i)∨∃r,r<a/\(bN P i).ref=(r:Nat)/\(aA (aq S r).k||aH (aq S r).k)=true/\(aA (aq S r).k=true->(bN P i).need=(a9 T S r).length)
theorem zX:∀j∈a9 b w H,j<H/\ce (aq w j).k=false/\aH (aq w j).k=true:=fun j c=>by
 have d:=qF b w H j c;have a:=(Uk.1 c).2;unfold t7 at a;rw[TN,Ul,TN]at a;rcases a.2 with h | ⟨h,-⟩
 all_goals
  exact⟨d,fO h (by decide),by unfold aH;rw[h];simp⟩
def L8(w:World)(A:List Sl)(r:Xt×Int)(e:Ending)(w':World):Prop:=∃s:Sl,e=returned (tuple #[slice s.ao s.L.length s.cap,int i64 r.2])/\s.L=r.1/\((r.2==0)=true->px w' s)/\(s∈A∨∀q o,s.ao=some ⟨q,o,none⟩->w.heap.size<=q)/\ae [] w w'
theorem Mu(e:i.ao=some ⟨D,o,none⟩):i.XS=some D:=by unfold Hd.XS;rw[e];rfl
theorem rL{A:List Sl}{r:Xt×Int}{e:Ending}(b:r.1=[])(c:(r.2==0)=false)(d:e=returned (tuple #[slice none 0 0,int i64 r.2]))(f:ae [] a k):L8 a A r e k :=
 ⟨⟨none,0,[]⟩,d,b.symm,fun h=>(by rw[c]at h;cases h),TE (fun q o e=>by cases e),f⟩
theorem ip.sh(b:ip a k i (aE T))(c:0<T.length)(d:T.length<=10000):px k ⟨i.ao,i.cap,T⟩:=⟨b.sl,b.X9.srcX,c,d⟩
theorem zo{α:Type}(R:Xv)(f:Nat->α)(k:Nat)(h:k<R.length):(R.take (k+1)).map f=(R.take k).map f++[f R[k]]:=by
 rw[Up h,Uh];rfl
theorem M7{x:Xs}(h:aK T x=false):nj T x=T.length:=by
 refine M5 rfl (fun j a _=>?_);unfold aK at h;rw[V9]at h;have:=h T[j] (TP a);simpa using this
theorem Qa{B:List Xt}{X:Xt}(a:0<X.length)(h:aK T (X.getD 0 ⟨#[]⟩)=false):0<(ed T B X).length:=by
 cases X with
 | nil=>simp at a
 | cons x X =>
  have e:(x :: X).getD 0 ⟨#[]⟩=x:=rfl;rw[e]at h;unfold ed;rw[Uv,Tv];unfold vq;rw[M7 h,Tp (by omega)];simp;omega
theorem KG{S:List Sm}{b:Xv}{M:List Xt}(h:∀l∈M,l.length<=o):∀l∈bu S b M D,l.length<=o:=by
 intro l a;unfold bu at a;obtain⟨i,-,rfl⟩:=UG.1 a;rw[Ux,To];cases e:M[i]? with
 | none=>simp
 | some m=>have:=h m (U0 e);show m.length-1<=o;omega
def QQ(T:List Tk)(S:List Sm)(n:Nat):Prop:=∀r,r<n->aA (aq S r).k=true->aK (bL T S (a9 T S r) (a9 T S r).length) ((bb T S r).getD 0 ⟨#[]⟩)=false
theorem Lh(P:List dj)(bT:Xu)(cP:Nat)(y:Int)(pf:Xs)(pl pc:Int)(A:List Sl)(c5:Xu)(cA:Nat)(t:World)(hD:gy t n b S x w v H)(ok:pA b w f)(hB:LS b w f)(dl:QQ b w f)(hn:f<w.length)(hP:di t bT 6 lI P)(dg:P.length<=100000000)(b5:ON P)(hi:l<P.length)(dk:L9 b w f P l)(hA:di t c5 1 Gr A)(c8:∀s∈A,px t s)(eX:A.length=l) :
  Calls prog 132 #[pointer (some ⟨n,0,none⟩),int i64 f,agg #[slice bT P.length cP,int i64 y,string pf,int i64 pl,int i64 pc],int i64 l,slice c5 A.length cA] t fun e w'=>L8 t A (iD b w f P l (A.map (·.L))) e w':=by
 obtain⟨W,HW⟩:=bn (t.alloc (.cells #[slice bT P.length cP,int i64 y,string pf,int i64 pl,int i64 pc] 122));have BW:=f9 HW.o;have cz:Xr _:=fI HW.o;obtain⟨p0,-⟩:=od BW;have e5:(l:Int)<P.length:=by omega
 obtain⟨gP,rfl,eA,q0,q1,q2,q3,q4,q5⟩:=di.step (hP.XE cz.o) l hi;have HP:Xr _:=hP;have HD:Xr _:=hD;have ac:Xr _:=ok;have cr:Xr _:=hB;have eo:Xr _:=dl;have HA:Xr _:=hA;have ck:Xr _:=c8;have e0:=ok.sm;have e1:=ok.tm;obtain⟨M,cB⟩:=bn (A.map (·.L));have cE:Xr (∀k,k<A.length->M.getD k []=(gQ A k).L):=fun k hk=>by rw[<-cB.o];exact xV A k hk
 rw[cB.o];have d4:Xr _:=uS P (some ⟨gP,0,none⟩) cP y pf pl pc dg b5 (l+1) l;have cL:Xr (∀c,di c (some ⟨gP,0,none⟩) 6 lI P->0<=dQ P l->Calls prog 103 #[agg #[slice (some ⟨gP,0,none⟩) P.length cP,int i64 y,string pf,int i64 pl,int i64 pc],int i64 l] c fun e w'=>∃g,e=returned (slice (some ⟨g,0,none⟩) (bN P l).need (bN P l).need)/\oK w' g (fX P l)/\ae [] c w'):=fun c h1 h2=>KT P _ cP y pf pl pc l c dg b5 hi h1 h2;have ai:Xr _:=KU P l;have cH:Xr _:=NX P l
 have a:Xr (iD b w f P l M=if(bN P l).ref=-2 then(M.getD (bN P l).back [],0)
  else if aA (aq w (bN P l).ref.toNat).k=false then(if 32<(bb b w (bN P l).ref.toNat).length then([],10) else(bb b w (bN P l).ref.toNat,0))
  else if dQ P l<0 then([],6)
  else
   let d:=a9 b w (bN P l).ref.toNat
   let on:=(fX P l).map (fun q=>M.getD q [])
   let av:=nM b w f (bN P l).ref.toNat d on (bL b w d d.length) (bu w d on d.length)
   if(av==0)=false then([],av)
   else if 32<(ed (bL b w d d.length) (bu w d on d.length) (bb b w (bN P l).ref.toNat)).length then([],10)
   else(ed (bL b w d d.length) (bu w d on d.length) (bb b w (bN P l).ref.toNat),0)):=rfl
 have ar:=dk.XP;have d2:Xr _:=BW;clear dk hD ok hB hP hA c8 b5 dl;obtain⟨iL,eE,dT,d0,d1⟩:=TZ Fp;generalize bN P l=st at *;obtain⟨sr,sb,sn,sf,sl,sc⟩:=st;simp only at q0 q1 q2 q3 q4 q5 ar a cL ai;obtain⟨W1,a1⟩:=bn (W.alloc (.cells #[int i64 sr,int i64 (sb:Int),int i64 (sn:Int),string sf,int i64 sl,int i64 sc] 162));have B1:=f9 a1.o;have ch:=fI a1.o;have G:Xr _:=cz.o.trans ch;have F:Xr (∀c:World,ae [] W1 c->(c.cell? ⟨W.heap.size,0,none⟩=some (int i64 sr)/\c.cell? ⟨W.heap.size,1,none⟩=some (int i64 (sb:Int))/\W.heap.size<c.heap.size)/\(c.cell? ⟨t.heap.size,0,none⟩=some (slice (some ⟨gP,0,none⟩) P.length cP)/\c.cell? ⟨t.heap.size,1,none⟩=some (int i64 y)/\c.cell? ⟨t.heap.size,2,none⟩=some (string pf)/\c.cell? ⟨t.heap.size,3,none⟩=some (int i64 pl)/\c.cell? ⟨t.heap.size,4,none⟩=some (int i64 pc)/\t.heap.size<c.heap.size)):=fun c kx=>by
  have b1:=kx.get B1 (by simp);have b0:=(ch.trans kx).get d2.o (by simp);exact⟨⟨by rw[ah b1];rfl,by rw[ah b1];rfl,aj b1⟩,by rw[ah b0];rfl,by rw[ah b0];rfl,by rw[ah b0];rfl,by rw[ah b0];rfl,by rw[ah b0];rfl,aj b0⟩
 clear B1 ch BW;obtain⟨⟨K,s1,m⟩,p1,p2,p3,p4,p5,D⟩:=F.o W1 (ae.refl _ _);rcases ar with ⟨rfl,e2⟩ | ⟨r,hr,rfl,a3,a5⟩
 ·rw[Tr rfl]at a;have a4:sb<A.length:=by omega
  obtain⟨gA,rfl,ez,b2⟩:=di.sl (di.XE HA.o G.o) sb a4;have HO:Xr _:=(ck.o (gQ A sb) (ko A sb a4)).XE G.o;have eh:Xr (gQ A sb∈A):=ko A sb a4;rw[cE.o sb a4]at a;generalize gQ A sb=s at *;obtain⟨N,p,sL⟩:=s;simp only at b2 a;go_enter func132,ntmps132;go_upto_region 1 with fail
  rw[HW.o];go_upto_region 2 with fail
  rw[a1.o];go_wp2;go_ret2;rw[a.o];exact⟨⟨N,p,sL⟩,rfl,rfl,fun _=>HO.o,TH eh.o,G.o⟩
 ·have J:r<w.length:=by omega
  rw[Tp (by omega),Ur]at a;have fb:(((r:Nat):Int) == -2)=false:=Xo (by omega);have fd:((r:Nat):Int)<w.length:=by omega
  have e9:(0:Int)<=((r:Nat):Int):=by omega
  have C:ce (aq w r).k=false:=by
   unfold aA aH at a3;simp only[Bool.or_eq_true]at a3;rcases a3 with (h | h) | (h | h) <;> exact fO h (by decide)
  have co:Xr (∀c,ae [] t c->Calls prog 73 #[pointer (some ⟨n,0,none⟩),int i64 ((r:Nat):Int)] c fun e w'=>∃h',e=returned (slice h'.ao (bb b w r).length h'.cap)/\zD c w' h' (bb b w r)):=fun c kx=>by
   have:=mq n r b S x w v H c (gy.XE HD.o kx) J (by omega) (by rw[bW w r J];exact ac.o.e r hr C);rw[bW w r J]at this;exact this
  obtain⟨b6,-⟩:=cr.o r hr a3;have ex:(bb b w r).length<=b.length:=lT b _;obtain⟨X,HX⟩:=bn (bb b w r);rw[HX.o]at co a b6 ex;have en:Xr (∀c:World,ae [] t c->∃gs,v=some ⟨gs,0,none⟩/\gs<c.heap.size/\c.cell? ⟨n,1,none⟩=some (slice v w.length H)/\n<c.heap.size/\c.cell? ⟨gs,r*4+3,none⟩=some (string (aq w r).k)):=fun c kx=>by
   have hd:=gy.XE HD.o kx;obtain⟨-,K,hb⟩:=hd.cells;obtain⟨gs,e3,ca,-,-,-,q3⟩:=hd.s.2 r w[r] (Tn J);rw[bW w r J]at q3;exact⟨gs,e3,ca,K,hb,q3⟩
  have cp:Xr _:=co.o W1 G.o;go_enter func132,ntmps132;go_upto_region 1 with fail
  rw[HW.o];go_upto_region 2 with fail
  rw[a1.o];clear q0 q1 q2 q3 q4 q5 p0 eA;go_upto_region 5 with (go_at_call 73;refine Ts cp.o ?_;rintro e w2 ⟨h2,rfl,x2⟩)
  have cy:Xr _:=G.o.trans x2.XR;have cX:Xr _:=x2.XR;have d9:Xr _:=x2.toL;clear x2 K s1 m p1 p2 p3 p4 p5 D;obtain⟨⟨K,s1,m⟩,p1,p2,p3,p4,p5,D⟩:=F.o w2 cX.o;obtain⟨gs,rfl,ca,t0,ey,t1⟩:=en.o w2 cy.o;obtain⟨sk,c3⟩:=bn ((aq w r).k);rw[c3.o]at t1 a a5;obtain⟨c7,bx⟩:=bn (aA sk);have cj:Xr (∀c,Calls prog 123 #[string sk] c fun e w'=>e=returned (bool c7)/\w'=c):=fun c=>by rw[<-bx.o];exact gZ sk c
  rw[bx.o]at a a5;go_quiet ((go_at_call 123;exact T0 (cj.o _)));go_upto_region 6 with fail
  obtain⟨w3,bz⟩:=bn (w2.drewN nq);rw[bz.o];have k3:ae [] w2 w3:=by rw[<-bz.o];exact(ae.refl [] w2).drewN nq
  have V:Xr _:=cy.o.trans k3;have c0:Xr _:=cX.o.trans k3;have br:Xr _:=d9.o.XE k3;clear K s1 m p1 p2 p3 p4 p5 D ca t0 ey t1 k3 bz cj;obtain⟨⟨K,s1,m⟩,p1,p2,p3,p4,p5,D⟩:=F.o w3 c0.o;cases c7
  ·rw[Tr rfl]at a;by_cases al:32<X.length
   ·rw[Tr al]at a;have an:(32:Int)<X.length:=(by omega);go_wp2;go_ret2;rw[a.o];exact rL rfl rfl rfl V.o
   ·rw[Tp al]at a;have an:¬(32:Int)<X.length:=(by omega);go_wp2;go_ret2;rw[a.o];exact⟨⟨h2.ao,h2.cap,X⟩,rfl,rfl,fun _=>br.o.sh b6 (by omega),TE (fun q o e=>TF G.o.size (br.o.far q (Mu e))),V.o⟩
  ·rw[Tp (by simp)]at a;have bv:Xr (sn=(a9 b w r).length):=a5 rfl;clear a5;have bl:Xr _:=d4.o w3 (by omega) hi (di.XE HP.o V.o);by_cases ds:dQ P l<0
   ·rw[Tr ds]at a;generalize dQ P l=bg at *;go_wp2_with (go_at_call 133;refine Ts bl.o ?_;rintro e w4 ⟨rfl,k4⟩;have ax:Xr _:=V.o.trans k4;clear k4);go_ret2;rw[a.o];exact rL rfl rfl rfl ax.o
   ·rw[Tp ds]at a;have cF:Xr (∀c,ae [] t c->Calls prog 103 #[agg #[slice (some ⟨gP,0,none⟩) P.length cP,int i64 y,string pf,int i64 pl,int i64 pc],int i64 l] c fun e w'=>∃g,e=returned (slice (some ⟨g,0,none⟩) sn sn)/\oK w' g (fX P l)/\ae [] c w'):=fun c kx=>cL.o c (di.XE HP.o kx) (by omega);have aT:Xr _:=(cH.o (by omega));obtain⟨R,HR⟩:=bn (fX P l);rw[HR.o]at cF aT a ai;generalize dQ P l=bg at *;(go_upto_region 11 with (go_at_call 133;refine Ts bl.o ?_;rintro e w4 ⟨rfl,k4⟩));have ax:Xr _:=V.o.trans k4;have c1:Xr _:=c0.o.trans k4;have ea:Xr _:=br.o.XE k4;clear K s1 m p1 p2 p3 p4 p5 D k4;obtain⟨⟨K,s1,m⟩,p1,p2,p3,p4,p5,D⟩:=F.o w4 c1.o;have bd:Xr _:=cF.o w4 ax.o;(go_upto_region 14 with (go_at_call 103;refine Ts bd.o ?_;rintro e w5 ⟨g5,rfl,i5,k5⟩));have d8:Xr _:=ax.o.trans k5;have eq:Xr _:=c1.o.trans k5;have eb:Xr _:=ea.o.XE k5;have d7:Xr _:=i5;have ei:Xr (ip w5 w5 ⟨none,0⟩ (l5 [])):=⟨Ty _ _ _ _,(by intro k hk;cases hk),ae.refl _ _⟩;clear K s1 m p1 p2 p3 p4 p5 D k5 i5 bd bl;have fi:sn<=10000:=(by rw[bv.o];have:=nz b w r;omega);go_wp2
    go_loopg [17,18] sn (fun g o kv wr=>∃(k:Nat) (h:Hd) (O:List Sl),k<=sn/\g=sn-k/\o=slice h.ao O.length h.cap/\kv=int i64 k/\O.length<=k/\Xr (O=(R.take k).map (gQ A))/\Xr (ip w5 wr h (l5 O)))
    ·exact⟨0,⟨none,0⟩,[],by omega,rfl,rfl,rfl,Tq _,by show _=_;simp,ei⟩
    obtain⟨k,h,O,hk,hg,rfl,rfl,eY,HO,z⟩:=hrel;have bp:Xr _:=d8.o.trans z.o.XR;have c2:Xr _:=eq.o.trans z.o.XR;rcases kn k sn with ⟨dv,eH⟩ | ⟨dv,-⟩
    ·have cb:k<R.length:=(by rw[ai.o];exact dv);have e8:=aT.o R[k] (TP cb);have eL:R[k]<A.length:=(by omega);obtain⟨g6,e6,e4,c6⟩:=(oK.src (show oK wr g5 R from z.o.XR.get d7.o (by simp))) k R[k] (Tn cb);cases e6
     obtain⟨gA,rfl,ez,b2⟩:=di.sl (di.XE HA.o bp.o) R[k] eL;have em:Xr (O++[gQ A R[k]]=(R.take (k+1)).map (gQ A)):=ci (by rw[zo R _ k cb,HO.o]);have e7:(0:Int)<=((R[k]:Nat):Int):=(by omega);generalize gQ A R[k]=s at *;generalize R[k]=q at *;obtain⟨N,p,sL⟩:=s;simp only at b2;have ev:=z.o.X9;have et:(l5 O).n<=900000000:=by show O.length<=_;omega
     go_wp2_with (at_builtin;refine cD _ rfl (.tmp 70) (.tmp 78) 218 rfl iL (slice none 0 0) 24 h (l5 O) [slice N sL.length p] underlying218 eE dT d0 d1 rfl TR rfl ev et (by omega) rfl rfl (by simp[Value.oneCell']) ?_;intro h7 w7 cf dt;rw[show([slice N sL.length p]:List Value)=Gr ⟨N,p,sL⟩ from rfl,rJ]at cf;have eg:Xr _:=z.o.XO dt cf;clear cf dt);go_roundg (sn-(k+1))
     ·exact⟨k+1,h7,O++[⟨N,p,sL⟩],by omega,rfl,by simp[l5,lG],by go_num,by simp;omega,em,eg⟩
     omega
    ·have ek:k=sn:=(by omega);subst ek;have bw:Xr (O=R.map (gQ A)):=ci (by rw[HO.o,Vf (by rw[ai.o];exact Tq _)]);have af:Xr (O.length=k):=ci (by rw[bw.o,TT,ai.o]);have el:Xr (O.map (·.L)=R.map (fun q=>M.getD q [])):=by
      show _=_;rw[bw.o,List.map_map];refine VH (fun q hq=>?_);have:=aT.o q hq;exact(cE.o q (by omega)).symm
     have u:Xr (∀s∈O,∀c,ae [] t c->px c s):=fun s d c kx=>by
      rw[bw.o]at d;obtain⟨q,hq,rfl⟩:=UG.1 d;have:=aT.o q hq;exact(ck.o _ (ko A q (by omega))).XE kx
     have eH:¬(k:Int)<(k:Int):=(by omega);rw[<-el.o]at a;have bo:Xr _:=(rx n r b S x w _ H wr (gy.XE HD.o bp.o) (ac.o.mono (by omega)) J (ac.o.e r hr C));have T:Xr _:=zX b w r;have a0:Xr _:=(eo.o r hr (by rw[c3.o];exact bx.o));rw[HX.o]at a0;have b4:(a9 b w r).length<=10000:=by have:=nz b w r;omega
     obtain⟨i,d6⟩:=bn (a9 b w r);rw[d6.o]at bo T a bv a0 b4;obtain⟨⟨K,s1,m⟩,-⟩:=F.o wr c2.o;(go_upto_region 20 with (go_at_call 63;refine Ts bo.o ?_;rintro e w7 ⟨h7,rfl,x7⟩));have Z:Xr _:=bp.o.trans x7.XR;have er:Xr _:=c2.o.trans x7.XR;have ec:Xr _:=(eb.o.XE z.o.XR).XE x7.XR;have ej:Xr _:=z.o.XE x7.XR;have be:Xr _:=x7.X9.srcN;have bf:Xr _:=ej.o.X9.srcG wU;have dc:∀l,l<i.length->so w i l=true->1<(bb b w (i.getD l 0)).length:=fun q hq cc=>by
      have e:i.getD q 0=i[q]:=(by rw[To,Tn hq];rfl);unfold so at cc;rw[e]at cc ⊢;obtain⟨j1,-,j3⟩:=T.o i[q] (TP hq);exact(cr.o i[q] (by omega) (by rw[j3];simp)).2 cc
     have cu:Xr _:=dc;have bk:i.length<=O.length:=(by rw[af.o,bv.o];exact Tq _);have df:O.length<=100000:=(by have:=af.o;omega);have ag:Xr _:=(KP n f b S x w _ H i h7.ao h7.cap O h.ao h.cap w7 (gy.XE HD.o Z.o) ac.o be.o (fun j hj=>by have:=(T.o j hj).1;omega) b4 bf.o (fun s d=>(u.o s d w7 Z.o).ok) bk cu.o (fun s d=>(u.o s d w7 Z.o).pos));clear dc K s1 m x7 bo;obtain⟨VV,cV⟩:=bn (bL b w i i.length);rw[cV.o]at ag a a0;have ep:Xr (VV.length=(s9 w i i.length).length):=ci (by rw[<-cV.o];unfold bL;simp);obtain⟨OM,ad⟩:=bn (O.map (·.L));rw[ad.o]at ag a;have ct:Xr ((bu w i OM i.length).length=(s9 w i i.length).length):=ci (by unfold bu;simp);have cx:Xr ((s9 w i i.length).length<=i.length):=by
      show _<=_;unfold s9;have:=U3 (so w i) (List.range i.length);rw[U8]at this;exact this
     have bc:Xr (∀eV∈bu w i OM i.length,eV.length<=10000):=KG (fun eV hl=>by
      rw[<-ad.o]at hl;obtain⟨s,d,rfl⟩:=UG.1 hl;exact(u.o s d w7 Z.o).le)
     obtain⟨BV,d5⟩:=bn (bu w i OM i.length);rw[d5.o]at ag a ct bc;(go_upto_region 21 with (go_at_call 178;refine Ts ag.o ?_;rintro e w8 ⟨hv,hb,B,rfl,ap,db,nv,nb⟩));obtain⟨W8,a2⟩:=bn (w8.alloc (.cells #[slice hv.ao VV.length hv.cap,slice hb.ao B.length hb.cap] 271));rw[a2.o];have k8:=fI a2.o;have B8:=f9 a2.o;have E:=nv.XR.trans k8;have I:Xr _:=Z.o.trans E;have es:Xr _:=er.o.trans E;have ba:Xr (B.length=(s9 w i i.length).length):=ci (by rw[<-ct.o,<-ap,TT]);have dp:VV.length<=B.length:=(by rw[ep.o,ba.o];exact Tq _);have c9:B.length<=100000:=(by have:=cx.o;rw[ba.o];omega);have a7:Xr (∀s∈B,s.L.length<=10000):=fun s d=>bc.o s.L (by rw[<-ap];exact UG.2 ⟨s,d,rfl⟩);have cR:Xr _:=nv.X9.srcX.XE k8;have cs:Xr _:=(nb.X9.srcG wU).XE k8;have cl:Xr _:=db.XE E;have bs:Xr _:=(Kd n f r b S x w _ H i h7.ao h7.cap O h.ao h.cap VV hv.ao hv.cap B hb.ao hb.cap W8 (gy.XE HD.o I.o) ac.o hr C (sD.XE be.o E) (fun j hj=>⟨by have:=(T.o j hj).1;omega,(T.o j hj).2.1⟩) b4 (di.XE bf.o E) (fun s d=>(u.o s d W8 I.o).ok) (fun s d=>(u.o s d W8 I.o).x) bk df cu.o (fun s d=>⟨(u.o s d W8 I.o).pos,(u.o s d W8 I.o).le⟩) cR.o cs.o cl.o dp c9 a7.o);rw[ad.o,ap]at bs;obtain⟨av,c4⟩:=bn (nM b w f r i OM VV BV);rw[c4.o]at bs a;obtain⟨⟨K,s1,m⟩,-⟩:=F.o W8 es.o;obtain⟨v0,v1⟩:=Ba B8;have d3:Xr _:=B8;have ef:Xr _:=ec.o.XE E;have cq:Xr _:=ap;clear k8 E nv nb db B8 ag a2 ap;(go_upto_region 22 with (go_at_call 179;refine Ts bs.o ?_;rintro e w9 ⟨rfl,k9⟩));have az:Xr _:=I.o.trans k9;cases a6:(av==0)
     ·rw[Tr a6]at a;go_wp2;go_ret2;rw[a.o];exact rL rfl a6 rfl az.o
     ·rw[Tp (by rw[a6];simp)]at a;have eP:av=0:=(by simpa using a6);subst eP;have aS:Xr _:=(DR VV hv.ao hv.cap B hb.ao hb.cap X h2.ao h2.cap w9 (ie.XE cR.o k9) (di.XE cs.o k9) (pX.XE cl.o k9) dp c9 (ie.XE ef.o.X9.srcX k9) (by omega) a7.o);rw[cq.o]at aS;have dz:=Qa (B:=BV) b6 a0.o;have B9:=k9.get d3.o (by simp);obtain⟨Y,HY⟩:=bn (ed VV BV X);rw[HY.o]at aS a dz;obtain⟨v3,v4⟩:=Ba B9;clear k9 v0 v1 K s1 m;by_cases al:32<Y.length
      ·rw[Tr al]at a;have an:(32:Int)<Y.length:=(by omega);go_wp2_with (go_at_call 180;refine Ts aS.o ?_;rintro e eT ⟨b3,rfl,Q⟩;have U:Xr _:=az.o.trans Q.XR;clear Q);go_ret2;rw[a.o];exact rL rfl rfl rfl U.o
      ·rw[Tp al]at a;have an:¬(32:Int)<Y.length:=(by omega);go_wp2_with (go_at_call 180;refine Ts aS.o ?_;rintro e eT ⟨b3,rfl,Q⟩;have U:Xr _:=az.o.trans Q.XR;have bj:Xr _:=Q;clear Q);go_ret2;rw[a.o];exact⟨⟨b3.ao,b3.cap,Y⟩,rfl,rfl,fun _=>bj.o.sh dz (by omega),TE (fun q o e=>TF az.o.size (bj.o.far q (Mu e))),U.o⟩
end Go.Proofs.YtnbhnocdhbcbcaaGreat
