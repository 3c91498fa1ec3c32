import Derived.Test.YtnbhnocdhbcbcaaGreatK18
namespace Go.Proofs.YtnbhnocdhbcbcaaGreat
open Go.RowKit Tryz
open Value IntKind Ending
set_option maxHeartbeats 0
variable{a k:World}{i:Hd}{D o:Nat}{T:Xt}(n f l:Nat)(b:List Tk)(S:Xu)(x:Nat)(w:List Sm)(d:Xt)(y:List Xt)(v:Xu)(H:Nat)
def Aa(T:List Tk)(S:List Sm)(hs:Xv)(M:List Xt)(V:Xt)(B:List Xt)(i:Nat):Int :=
 if si S hs i=true then(if(((M.getD i []).getD 0 ⟨#[]⟩).toList==((bb T S (hs.getD i 0)).getD 0 ⟨#[]⟩).toList)=true then 0 else 7)
 else if lr (dZ V B (bb T S (hs.getD i 0))) (M.getD i [])=true then 0 else 8
def LP(T:List Tk)(S:List Sm)(a:Nat)(V:Xt)(B:List Xt)(p:Xs×Xs):Bool:=qz T S a (dZ V B [p.1]) (dZ V B [p.2])
def nL(T:List Tk)(S:List Sm)(a c:Nat)(hs:Xv)(M:List Xt)(V:Xt)(B:List Xt):Int :=
 if(dd (Aa T S hs M V B) hs.length==0)=false then dd (Aa T S hs M V B) hs.length else if(lX T S c).all (LP T S a V B)=true then 0 else 9
theorem qN(x:Xs)(N:Nat)(a:∀l∈y,l.length<=N)(b:1<=N):(dZ d y [x]).length<=N:=by
 unfold dZ;rw[Uu,WA,TV];unfold vp;split
 ·rw[Tn];cases h:y[ni d x]? with
  | none=>simp
  | some l=>exact a l (UZ h)
 ·simpa using b
theorem P7(b:∀l∈y,l.length<=H)(c:1<=H)(e:Xt):(dZ d y e).length<=H*e.length:=by
 induction e with
 | nil=>exact Ub _
 | cons x e g =>
  have f:=qN d y x H b c;have a:dZ d y (x :: e)=dZ d y [x]++dZ d y e:=by unfold dZ;simp
  rw[a,Tu,Ui,Nat.mul_succ];omega
theorem Kv(V:Xt)(a:V.length<=10000)(k:Nat):(lM b w H V k).length<=10000*k:=by
 induction k with
 | zero=>simp[lM]
 | succ k c =>
  have:=FZ b w H V k V.length;rw[yj,Tu];omega
theorem Ks(d:H<=10000):(lX b w H).length<=100000000:=by
 have a:=ny b w H;have c:(fT b w (a9 b w H) (a9 b w H).length).length<=(a9 b w H).length:=by
  unfold fT;rw[TR,UN];exact U0 _ _
 have:=Kv b w H (fT b w (a9 b w H) (a9 b w H).length) (by omega) (fT b w (a9 b w H) (a9 b w H).length).length;unfold lX;omega
set_option maxRecDepth 100000
theorem Kc(a:Xv)(bx:Xu)(cH:Nat)(A:List Sl)(ba:Xu)(cA:Nat)(V:Xt)(R:Xu)(cV:Nat)(B:List Sl)(Q:Xu)(cB:Nat)(J:World)(hD:gx J n b S x w v H)(ok:px b w f)(c3:l<f)(c0:cd (aq w l).k=false)(hH:sC J bx a)(F:∀j∈a,j<f/\cd (aq w j).k=false)(dv:a.length<=10000)(hA:dh J ba 1 Gq A)(cz:pW J A)(bT:∀s∈A,ic J s.ao s.L)(dt:a.length<=A.length)(ds:A.length<=100000)(hF:∀i,i<a.length->si w a i=true->1<(bb b w (a.getD i 0)).length)(hN:∀s∈A,0<s.L.length/\s.L.length<=10000)(hV:ic J R V)(hB:dh J Q 1 Gq B)(b0:pW J B)(cR:V.length<=B.length)(cF:B.length<=100000)(bc:∀s∈B,s.L.length<=10000) :
  Calls prog 179 #[pointer (some ⟨n,0,none⟩),int i64 f,int i64 l,slice bx a.length cH,slice ba A.length cA,agg #[slice R V.length cV,slice Q B.length cB]] J fun e t=>e=returned (int i64 (nL b w f l a (A.map (·.L)) V (B.map (·.L))))/\ae [] J t:=by
 obtain⟨W,HW⟩:=bn (J.alloc (.cells #[slice R V.length cV,slice Q B.length cB] 271));have BW:=f8 HW.o;have u:Xr _:=fH HW.o;have hn:=ok.ok.m;have d0:=ok.sm;have d1:=ok.tm;have bg:Xr _:=BW;have HD:Xr _:=hD.XD u.o;have a5:Xr _:=ok;have HH:Xr _:=hH.XD u.o;have ch:Xr _:=F;have HA:Xr _:=hA.XD u.o;have cc:Xr (∀s∈A,∀wx,ae [] J wx->ic wx s.ao s.L):=fun s a wx kx=>(bT s a).XD kx;have HF:Xr _:=hF;have HN:Xr _:=hN;obtain⟨M,bl⟩:=bn (A.map (·.L));obtain⟨d,az⟩:=bn (B.map (·.L));have a6:Xr (∀(E:Xt) (af:Xu) (cE:Nat) (wx:World),ae [] J wx->ic wx af E->E.length<=10000->Calls prog 180 #[agg #[slice R V.length cV,slice Q B.length cB],slice af E.length cE] wx fun e t=>∃h',e=returned (slice h'.ao (dZ V d E).length h'.cap)/\io wx t h' (aE (dZ V d E))):=fun E af cE wx kx hE hl=>by rw[<-az.o];exact DQ V R cV B Q cB E af cE wx (hV.XD kx) (hB.XD kx) (b0.XD kx) cR cF hE hl bc
 have U:Xr (∀dk∈d,dk.length<=10000):=fun dk hl=>by
  rw[<-az.o]at hl;obtain⟨s,a,rfl⟩:=UF.1 hl;exact bc s a
 have cj:Xr (∀k,k<A.length->M.getD k []=(gO A k).L):=fun k hk=>by rw[<-bl.o];exact xU A k hk
 rw[bl.o,az.o];have ck:Xr _:=FV n l b S x w v H;have cf:Xr (dU b (aq w l).h):=ok.e l c3 c0;have HR:Xr (nL b w f l a M V d=if(dd (Aa b w a M V d) a.length==0)=false then dd (Aa b w a M V d) a.length else if(lX b w l).all (LP b w f V d)=true then 0 else 9):=rfl;clear hD ok hH F hA cz bT hF hN hV hB b0 bc;go_enter func179,ntmps179;go_upto_region 1 with fail
 rw[HW.o];go_wp2
 go_loopg [13] a.length (fun g i wr=>∃k:Nat,k<=a.length/\g=a.length-k/\i=int i64 k/\Xr (dd (Aa b w a M V d) k=0)/\Xr (ae [] W wr))
 ·exact⟨0,by omega,rfl,rfl,rfl,ae.refl _ _⟩
 obtain⟨k,hk,hg,rfl,HZ,HK⟩:=hrel;rcases kn k a.length with ⟨F,c8⟩ | ⟨F,-⟩
 ·obtain⟨c7,b5⟩:=ch.o a[k] (TO F);have Z:a[k]<w.length:=by omega
  have be:a.getD k 0=a[k]:=by rw[Tn,Tm F];rfl
  obtain⟨gH,rfl,c5,cu⟩:=(sC.XD HH.o HK.o) k a[k] (Tm F);have ax:Xr (Calls prog 73 #[pointer (some ⟨n,0,none⟩),int i64 ((a[k]:Nat):Int)] wr fun e t=>∃h',e=returned (slice h'.ao (bB b w[a[k]].h).length h'.cap)/\zC wr t h' (bB b w[a[k]].h)):=mo n a[k] b S x w _ H wr (gx.XD HD.o HK.o) Z (by omega) (by rw[bV w a[k] Z];exact a5.o.e a[k] c7 b5);have bj:Xr (bB b w[a[k]].h=bb b w (a.getD k 0)):=cg (by unfold bb;rw[be,bV w a[k] Z]);have b2:=lS b w[a[k]].h;rw[bj.o]at ax b2;have br:Xr (si w a k=(w[a[k]].k.toList == [36,102])):=cg (by unfold si;rw[be,bV w a[k] Z]);have aT:Xr _:=HF.o k F;have co:Xr (∀t:World,ae [] W t->t.cell? ⟨gH,k,none⟩=some (int i64 ((a[k]:Nat):Int))/\gH<t.heap.size/\∃gs,v=some ⟨gs,0,none⟩/\gs<t.heap.size/\t.cell? ⟨n,1,none⟩=some (slice v w.length H)/\n<t.heap.size/\t.cell? ⟨gs,a[k]*4+3,none⟩=some (string w[a[k]].k)):=fun t kw=>by
   obtain⟨g2,e2,h2,c2⟩:=(sC.XD HH.o kw) k a[k] (Tm F);cases e2
   have hd:=gx.XD HD.o kw;obtain⟨-,s0,hb⟩:=hd.cells;obtain⟨gs,e3,ag,-,-,-,q3⟩:=hd.s.2 a[k] w[a[k]] (Tm Z);exact⟨c2,h2,gs,e3,ag,s0,hb,q3⟩
  have ai:k<A.length:=by omega
  have c:Xr (Aa b w a M V d k=if si w a k=true then(if(((gO A k).L.getD 0 ⟨#[]⟩).toList==((bb b w (a.getD k 0)).getD 0 ⟨#[]⟩).toList)=true then 0 else 7) else if lr (dZ V d (bb b w (a.getD k 0))) (gO A k).L=true then 0 else 8):=cg (by unfold Aa;rw[cj.o k ai]);have G:Xr ((Aa b w a M V d k==0)=false->nL b w f l a M V d=Aa b w a M V d k):=fun h=>by
   have:=nf HZ.o h F;rw[HR.o,this,Tq h]
  have ad:Xr (Aa b w a M V d k=0->dd (Aa b w a M V d) (k+1)=0):=fun h=>by rw[dd,HZ.o];exact h
  rw[br.o]at c aT;clear bj br be b5;have d6:((a[k]:Nat):Int)<w.length:=by omega
  have d5:(0:Int)<=((a[k]:Nat):Int):=by omega
  obtain⟨X,HX⟩:=bn (bb b w (a.getD k 0));rw[HX.o]at ax b2 c aT;generalize w[a[k]].k=sk at *;generalize a[k]=j at *;go_upto_region 5 with (go_at_call 73;refine Tr ax.o ?_;rintro e w1 ⟨h1,rfl,x1⟩)
  have a0:Xr _:=HK.o.trans x1.XQ;have bv:Xr _:=x1.X6.srcX;obtain⟨bz,an,gs,rfl,ag,s0,b4,q3⟩:=co.o w1 a0.o;obtain⟨a1,c1⟩:=h1;clear cu c5 x1;have b1:=HN.o (gO A k) (km A k ai);have T:Xr _:=cc.o (gO A k) (km A k ai);have av:Xr (∀t:World,ae [] W t->∃gA,ba=some ⟨gA,0,none⟩/\gA<t.heap.size/\t.cell? ⟨gA,k,none⟩=some (slice (gO A k).ao (gO A k).L.length (gO A k).cap)):=fun t kw=>dh.sl (dh.XD HA.o kw) k ai;have dg:(k:Int)<A.length:=by omega
  generalize gO A k=s at *;obtain⟨df,cb,sL⟩:=s;simp only at T av b1 c;obtain⟨cL,dz⟩:=b1;cases hf:(sk.toList == [36,102])
  ·rw[hf,To (by simp)]at c;go_quiet (fail);obtain⟨W2,N⟩:=bn (w1.drewN nq);(go_upto_region 8 with fail);rw[N.o];have k2:ae [] w1 W2:=by rw[<-N.o];exact(ae.refl [] w1).drewN nq
   have r:Xr _:=a0.o.trans k2;have BR:=r.o.get bg.o (by simp);obtain⟨r0,r1⟩:=A9 BR;have P:Xr _:=(a6.o X a1 c1 W2 (u.o.trans r.o) (ic.XD bv.o k2) (by omega));have db:=P7 V d 10000 U.o (by omega) X;obtain⟨Y,HY⟩:=bn (dZ V d X);rw[HY.o]at P c db;clear bz an ag s0 b4 q3 N;(go_upto_region 9 with (go_at_call 180;refine Tr P.o ?_;rintro e w3 ⟨h3,rfl,x3⟩));have I:Xr _:=r.o.trans x3.XQ;obtain⟨gA,rfl,c4,ct⟩:=av.o w3 I.o;have a7:Xr _:=(Ef Y sL h3.ao df h3.cap cb w3 x3.X6.srcX (T.o w3 (u.o.trans I.o)) (by omega));obtain⟨sm,cs⟩:=bn (lr Y sL);rw[cs.o]at a7 c;clear x3 r0 r1;cases sm
   ·rw[To (by simp)]at c;have K:Xr _:=(G.o (by rw[c.o];rfl));rw[c.o]at K;go_wp2_with (go_at_call 134;refine Tr a7.o ?_;rintro e w4 ⟨rfl,k4⟩;have D:Xr _:=I.o.trans k4;clear k4);go_ret;exact⟨au K.o.symm,u.o.trans D.o⟩
   ·rw[Tq rfl]at c;have K:Xr _:=ad.o c.o;go_wp2_with (go_at_call 134;refine Tr a7.o ?_;rintro e w4 ⟨rfl,k4⟩;have D:Xr _:=I.o.trans k4;clear k4);go_roundg (a.length-(k+1))
    ·exact⟨k+1,by omega,rfl,by go_num,K,D⟩
    omega
  ·rw[hf,Tq rfl]at c;have d2:=aT.o hf;obtain⟨gX,eX,c6,cX⟩:=bv.o 0 _ (nh X 0 (by omega));replace eX:a1=some ⟨gX,0,none⟩:=eX;subst eX;go_quiet (fail);obtain⟨W2,N⟩:=bn (w1.drewN nq);(go_upto_region 6 with fail);rw[N.o];have k2:ae [] w1 W2:=by rw[<-N.o];exact(ae.refl [] w1).drewN nq
   have r:Xr _:=a0.o.trans k2;obtain⟨gA,rfl,c4,ct⟩:=av.o W2 r.o;obtain⟨g0,es,d3,dl⟩:=T.o W2 (u.o.trans r.o) 0 _ (nh sL 0 cL);subst es;have dp:W2.cell? ⟨gX,0,none⟩=some (string (X.getD 0 ⟨#[]⟩)):=(by rw[TN (k2.block gX c6 (by simp))];exact cX);generalize sL.getD 0 ⟨#[]⟩=al at *;generalize X.getD 0 ⟨#[]⟩=y at *;clear bz an ag s0 b4 q3 N cX k2 nq;cases ca:(al.toList==y.toList)
   ·rw[ca,To (by simp)]at c;have K:Xr _:=(G.o (by rw[c.o];rfl));rw[c.o]at K;go_quiet (fail);have D:Xr _:=r.o.trans ((ae.refl [] W2).drewN nq);go_wp2;go_ret;exact⟨au K.o.symm,u.o.trans D.o⟩
   ·rw[ca,Tq rfl]at c;have K:Xr _:=ad.o c.o;go_quiet (fail);have D:Xr _:=r.o.trans ((ae.refl [] W2).drewN nq);go_wp2;go_roundg (a.length-(k+1))
    ·exact⟨k+1,by omega,rfl,by go_num,K,D⟩
    omega
 ·have e:k=a.length:=by omega
  subst e;rw[HZ.o,To (by decide)]at HR;have c8:¬(a.length:Int)<a.length:=by omega
  have P:Xr _:=(ck.o wr (gx.XD HD.o HK.o) (a5.o.mono (by omega)) (by omega) cf.o);obtain⟨C,bp⟩:=bn (lX b w l);rw[bp.o]at P HR;go_upto_region 13 with (go_at_call 65;refine Tr P.o ?_;rintro e w2 ⟨h2,rfl,x2⟩)
  have r:Xr _:=HK.o.trans x2.XQ;have cq:Xr _:=x2.X6.srcG NF;have dT:C.length<=100000000:=by rw[<-bp.o];exact Ks b w l (by omega)
  obtain⟨ap,cp⟩:=h2;clear x2 P HZ;go_wp2
  go_loopg [18] C.length (fun g i wr=>∃m:Nat,m<=C.length/\g=C.length-m/\i=int i64 m/\Xr (∀q (O:q<C.length),q<m->LP b w f V d C[q]=true)/\Xr (ae [] w2 wr))
  ·exact⟨0,by omega,rfl,rfl,(fun q _ h=>by omega),ae.refl _ _⟩
  obtain⟨m,hm,d4,rfl,bf,I⟩:=hrel;have D:Xr _:=r.o.trans I.o;rcases kn m C.length with ⟨ac,c9⟩ | ⟨ac,-⟩
  ·obtain⟨gP,eP,bd,cP⟩:=cq.o m C[m] (Tm ac);subst eP;have bk:Xr (∀t:World,ae [] w2 t->t.cell? ⟨gP,m*2,none⟩=some (string C[m].1)/\t.cell? ⟨gP,m*2+1,none⟩=some (string C[m].2)/\gP<t.heap.size/\t.cell? ⟨J.heap.size,0,none⟩=some (slice R V.length cV)/\t.cell? ⟨J.heap.size,1,none⟩=some (slice Q B.length cB)/\J.heap.size<t.heap.size):=fun t kw=>by
    have BR:=(r.o.trans kw).get bg.o (by simp);exact⟨by rw[TN (kw.block gP bd (by simp))];exact cP 0 _ rfl,by rw[TN (kw.block gP bd (by simp))];exact cP 1 _ rfl,Tv bd kw.size,by rw[ah BR];rfl,by rw[ah BR];rfl,aj BR⟩
   have bo:Xr (LP b w f V d C[m]=qz b w f (dZ V d [C[m].1]) (dZ V d [C[m].2])):=rfl;have G:Xr (LP b w f V d C[m]=false->nL b w f l a M V d=9):=fun h=>by
    rw[HR.o,To];rw[Uv];intro b3;have:=b3 C[m] (TO ac);rw[h]at this;cases this
   have ad:Xr (LP b w f V d C[m]=true->∀q (O:q<C.length),q<m+1->LP b w f V d C[q]=true):=fun h q O h2=>by
    by_cases e:q=m
    ·subst e;exact h
    ·exact bf.o q O (by omega)
   generalize LP b w f V d C[m]=mp at *;generalize C[m].1=al at *;generalize C[m].2=y at *;clear cP;obtain⟨cx,cy,ar,v0,v1,b6⟩:=bk.o wr I.o;have dc:=qN V d al 10000 U.o (by omega);have d7:=qN V d y 10000 U.o (by omega);have bs:Xr (ic (wr.alloc (.cells #[string al] 9)).drew (some ⟨wr.heap.size,0,none⟩) [al]):=by
    intro q z O;have hk:(wr.alloc (.cells #[string al] 9)).drew.heap[wr.heap.size]?=some (.cells #[string al] 9):=Ts _ _;refine⟨_,rfl,aj hk,?_⟩;rw[ah hk]
    match q,O with
    | 0,O=>simp at O;subst O;rfl
   (go_upto_region 16 with fail);go_region_with (go_at_call 180;refine(a6.o [al] (some ⟨wr.heap.size,0,none⟩) 1 _ (by exact((u.o.trans D.o).alloc _).drew) (by exact bs.o) (by simp)).mono ?_;rintro e w5 ⟨h5,rfl,x5⟩)
   all_goals
    have a2:Xr (ae [] w2 w5):=((I.o.alloc _).drew).trans x5.XQ;have bw:Xr _:=x5.X6.srcX;obtain⟨PX,cl⟩:=bn (dZ V d [al]);rw[cl.o]at bw dc bo ⊢;have cr:Xr (ic (w5.alloc (.cells #[string y] 9)).drew (some ⟨w5.heap.size,0,none⟩) [y]):=by
     intro q z O;have hk:(w5.alloc (.cells #[string y] 9)).drew.heap[w5.heap.size]?=some (.cells #[string y] 9):=Ts _ _;refine⟨_,rfl,aj hk,?_⟩;rw[ah hk]
     match q,O with
     | 0,O=>simp at O;subst O;rfl
    clear cx cy ar v0 v1 b6 x5 bs;obtain⟨cx,cy,ar,v0,v1,b6⟩:=bk.o w5 a2.o;(go_upto_region 17 with fail);go_region_with (go_at_call 180;refine(a6.o [y] (some ⟨w5.heap.size,0,none⟩) 1 _ (by exact(((u.o.trans r.o).trans a2.o).alloc _).drew) (by exact cr.o) (by simp)).mono ?_;rintro e w6 ⟨h6,rfl,x6⟩)
    all_goals
     have a3:Xr (ae [] w2 w6):=((a2.o.alloc _).drew).trans x6.XQ;have aS:Xr _:=(JC n f PX (dZ V d [y]) h5.ao h6.ao h5.cap h6.cap b S x w v H w6 (gx.XD HD.o (r.o.trans a3.o)) a5.o (ic.XD bw.o ((((ae.refl [] w5).alloc _).drew).trans x6.XQ)) x6.X6.srcX (by omega) (by omega));rw[<-bo.o]at aS;clear x6;cases mp
     ·have K:Xr _:=G.o rfl;go_wp2_with (go_at_call 215;refine Tr aS.o ?_;rintro e w7 ⟨rfl,k7⟩;have a4:Xr _:=(r.o.trans a3.o).trans k7;clear k7);go_ret;exact⟨au K.o.symm,u.o.trans a4.o⟩
     ·have K:Xr _:=ad.o rfl;go_wp2_with (go_at_call 215;refine Tr aS.o ?_;rintro e w7 ⟨rfl,k7⟩;have a4:Xr _:=a3.o.trans k7;clear k7);go_roundg (C.length-(m+1))
      ·exact⟨m+1,by omega,rfl,by go_num,K,a4⟩
      omega
  ·have em:m=C.length:=(by omega);have K:Xr (nL b w f l a M V d=0):=by
    show _=_;rw[HR.o,Tq];rw[Uv];intro p hp;obtain⟨q,O,e⟩:=Ux hp;rw[<-e];exact bf.o q O (by omega)
   have c9:¬(m:Int)<C.length:=(by omega);go_wp2;go_ret;exact⟨au K.o.symm,u.o.trans D.o⟩
def iC(T:List Tk)(S:List Sm)(a:Nat)(P:List di)(i:Nat)(M:List Xt):Xt×Int :=
 if(bN P i).ref=-2 then(M.getD (bN P i).back [],0)
 else if aA (aq S (bN P i).ref.toNat).k=false then(if 32<(bb T S (bN P i).ref.toNat).length then([],10) else(bb T S (bN P i).ref.toNat,0))
 else if dP P i<0 then([],6)
 else
  let hs:=a9 T S (bN P i).ref.toNat
  let on:=(fV P i).map (fun q=>M.getD q [])
  let why:=nL T S a (bN P i).ref.toNat hs on (bL T S hs hs.length) (bu S hs on hs.length)
  if(why==0)=false then([],why)
  else if 32<(dZ (bL T S hs hs.length) (bu S hs on hs.length) (bb T S (bN P i).ref.toNat)).length then([],10)
  else(dZ (bL T S hs hs.length) (bu S hs on hs.length) (bb T S (bN P i).ref.toNat),0)
structure pv(w:World)(s:Sl):Prop where
 ok:qm w s
 x:ic w s.ao s.L
 pos:0<s.L.length
 le:s.L.length<=10000
theorem pv.XD{s:Sl}(h:pv a s)(b:ae [] a k):pv k s:=⟨h.ok.XD b,h.x.XD b,h.pos,h.le⟩
def LR(T:List Tk)(S:List Sm)(n:Nat):Prop:=∀j,j<n->(aA (aq S j).k||aH (aq S j).k)=true->0<(bb T S j).length/\(((aq S j).k.toList == [36,102])=true->1<(bb T S j).length)
structure L8(T:List Tk)(S:List Sm)(a:Nat)(P:List di)(i:Nat):Prop where
 XO:((bN P i).ref=-2/\(bN P i).back<i)∨∃r,r<a/\(bN P i).ref=(r:Nat)/\(aA (aq S r).k||aH (aq S r).k)=true/\(aA (aq S r).k=true->(bN P i).need=(a9 T S r).length)
theorem zW:∀j∈a9 b w H,j<H/\cd (aq w j).k=false/\aH (aq w j).k=true:=fun j c=>by
 have d:=qE b w H j c;have a:=(Uj.1 c).2;unfold tZ at a;rw[TM,Uk,TM]at a;rcases a.2 with h | ⟨h,-⟩
 all_goals
  exact⟨d,fN h (by decide),by unfold aH;rw[h];simp⟩
def L7(w:World)(A:List Sl)(r:Xt×Int)(e:Ending)(w':World):Prop:=∃s:Sl,e=returned (tuple #[slice s.ao s.L.length s.cap,int i64 r.2])/\s.L=r.1/\((r.2==0)=true->pv w' s)/\(s∈A∨∀q o,s.ao=some ⟨q,o,none⟩->w.heap.size<=q)/\ae [] w w'
theorem Mt(e:i.ao=some ⟨D,o,none⟩):i.XR=some D:=by unfold Hd.XR;rw[e];rfl
theorem rK{A:List Sl}{r:Xt×Int}{e:Ending}(b:r.1=[])(c:(r.2==0)=false)(d:e=returned (tuple #[slice none 0 0,int i64 r.2]))(f:ae [] a k):L7 a A r e k :=
 ⟨⟨none,0,[]⟩,d,b.symm,fun h=>(by rw[c]at h;cases h),TA (fun q o e=>by cases e),f⟩
theorem io.sh(b:io a k i (aE T))(c:0<T.length)(d:T.length<=10000):pv k ⟨i.ao,i.cap,T⟩:=⟨b.sl,b.X6.srcX,c,d⟩
theorem zn{α:Type}(R:Xv)(f:Nat->α)(k:Nat)(h:k<R.length):(R.take (k+1)).map f=(R.take k).map f++[f R[k]]:=by
 rw[Uo h,Ug];rfl
theorem M5{x:Xs}(h:aK T x=false):ni T x=T.length:=by
 refine M4 rfl (fun j a _=>?_);unfold aK at h;rw[V8]at h;have:=h T[j] (TO a);simpa using this
theorem P9{B:List Xt}{X:Xt}(a:0<X.length)(h:aK T (X.getD 0 ⟨#[]⟩)=false):0<(dZ T B X).length:=by
 cases X with
 | nil=>simp at a
 | cons x X =>
  have e:(x :: X).getD 0 ⟨#[]⟩=x:=rfl;rw[e]at h;unfold dZ;rw[Uu,Tu];unfold vp;rw[M5 h,To (by omega)];simp;omega
theorem KE{S:List Sm}{b:Xv}{M:List Xt}(h:∀l∈M,l.length<=o):∀l∈bu S b M D,l.length<=o:=by
 intro l a;unfold bu at a;obtain⟨i,-,rfl⟩:=UF.1 a;rw[Uw,Tn];cases e:M[i]? with
 | none=>simp
 | some m=>have:=h m (UZ e);show m.length-1<=o;omega
def QP(T:List Tk)(S:List Sm)(n:Nat):Prop:=∀r,r<n->aA (aq S r).k=true->aK (bL T S (a9 T S r) (a9 T S r).length) ((bb T S r).getD 0 ⟨#[]⟩)=false
theorem Lg(P:List di)(bT:Xu)(cP:Nat)(y:Int)(pf:Xs)(pl pc:Int)(A:List Sl)(c5:Xu)(cA:Nat)(t:World)(hD:gx t n b S x w v H)(ok:px b w f)(hB:LR b w f)(dl:QP b w f)(hn:f<w.length)(hP:dh t bT 6 lH P)(dg:P.length<=100000000)(b5:OL P)(hi:l<P.length)(dk:L8 b w f P l)(hA:dh t c5 1 Gq A)(c8:∀s∈A,pv t s)(eX:A.length=l) :
  Calls prog 132 #[pointer (some ⟨n,0,none⟩),int i64 f,agg #[slice bT P.length cP,int i64 y,string pf,int i64 pl,int i64 pc],int i64 l,slice c5 A.length cA] t fun e w'=>L7 t A (iC b w f P l (A.map (·.L))) e w':=by
 obtain⟨W,HW⟩:=bn (t.alloc (.cells #[slice bT P.length cP,int i64 y,string pf,int i64 pl,int i64 pc] 122));have BW:=f8 HW.o;have cz:Xr _:=fH HW.o;obtain⟨p0,-⟩:=oc BW;have e5:(l:Int)<P.length:=by omega
 obtain⟨gP,rfl,eA,q0,q1,q2,q3,q4,q5⟩:=dh.step (hP.XD cz.o) l hi;have HP:Xr _:=hP;have HD:Xr _:=hD;have ac:Xr _:=ok;have cr:Xr _:=hB;have eo:Xr _:=dl;have HA:Xr _:=hA;have ck:Xr _:=c8;have e0:=ok.sm;have e1:=ok.tm;obtain⟨M,cB⟩:=bn (A.map (·.L));have cE:Xr (∀k,k<A.length->M.getD k []=(gO A k).L):=fun k hk=>by rw[<-cB.o];exact xU A k hk
 rw[cB.o];have d4:Xr _:=uR P (some ⟨gP,0,none⟩) cP y pf pl pc dg b5 (l+1) l;have cL:Xr (∀c,dh c (some ⟨gP,0,none⟩) 6 lH P->0<=dP P l->Calls prog 103 #[agg #[slice (some ⟨gP,0,none⟩) P.length cP,int i64 y,string pf,int i64 pl,int i64 pc],int i64 l] c fun e w'=>∃g,e=returned (slice (some ⟨g,0,none⟩) (bN P l).need (bN P l).need)/\oJ w' g (fV P l)/\ae [] c w'):=fun c h1 h2=>KR P _ cP y pf pl pc l c dg b5 hi h1 h2;have ai:Xr _:=KT P l;have cH:Xr _:=NW P l
 have a:Xr (iC b w f P l M=if(bN P l).ref=-2 then(M.getD (bN P l).back [],0)
  else if aA (aq w (bN P l).ref.toNat).k=false then(if 32<(bb b w (bN P l).ref.toNat).length then([],10) else(bb b w (bN P l).ref.toNat,0))
  else if dP P l<0 then([],6)
  else
   let d:=a9 b w (bN P l).ref.toNat
   let on:=(fV P l).map (fun q=>M.getD q [])
   let av:=nL b w f (bN P l).ref.toNat d on (bL b w d d.length) (bu w d on d.length)
   if(av==0)=false then([],av)
   else if 32<(dZ (bL b w d d.length) (bu w d on d.length) (bb b w (bN P l).ref.toNat)).length then([],10)
   else(dZ (bL b w d d.length) (bu w d on d.length) (bb b w (bN P l).ref.toNat),0)):=rfl
 have ar:=dk.XO;have d2:Xr _:=BW;clear dk hD ok hB hP hA c8 b5 dl;obtain⟨iL,eE,dT,d0,d1⟩:=TY Fo;generalize bN P l=st at *;obtain⟨sr,sb,sn,sf,sl,sc⟩:=st;simp only at q0 q1 q2 q3 q4 q5 ar a cL ai;obtain⟨W1,a1⟩:=bn (W.alloc (.cells #[int i64 sr,int i64 (sb:Int),int i64 (sn:Int),string sf,int i64 sl,int i64 sc] 162));have B1:=f8 a1.o;have ch:=fH a1.o;have G:Xr _:=cz.o.trans ch;have F:Xr (∀c:World,ae [] W1 c->(c.cell? ⟨W.heap.size,0,none⟩=some (int i64 sr)/\c.cell? ⟨W.heap.size,1,none⟩=some (int i64 (sb:Int))/\W.heap.size<c.heap.size)/\(c.cell? ⟨t.heap.size,0,none⟩=some (slice (some ⟨gP,0,none⟩) P.length cP)/\c.cell? ⟨t.heap.size,1,none⟩=some (int i64 y)/\c.cell? ⟨t.heap.size,2,none⟩=some (string pf)/\c.cell? ⟨t.heap.size,3,none⟩=some (int i64 pl)/\c.cell? ⟨t.heap.size,4,none⟩=some (int i64 pc)/\t.heap.size<c.heap.size)):=fun c kx=>by
  have b1:=kx.get B1 (by simp);have b0:=(ch.trans kx).get d2.o (by simp);exact⟨⟨by rw[ah b1];rfl,by rw[ah b1];rfl,aj b1⟩,by rw[ah b0];rfl,by rw[ah b0];rfl,by rw[ah b0];rfl,by rw[ah b0];rfl,by rw[ah b0];rfl,aj b0⟩
 clear B1 ch BW;obtain⟨⟨K,s1,m⟩,p1,p2,p3,p4,p5,D⟩:=F.o W1 (ae.refl _ _);rcases ar with ⟨rfl,e2⟩ | ⟨r,hr,rfl,a3,a5⟩
 ·rw[Tq rfl]at a;have a4:sb<A.length:=by omega
  obtain⟨gA,rfl,ez,b2⟩:=dh.sl (dh.XD HA.o G.o) sb a4;have HO:Xr _:=(ck.o (gO A sb) (km A sb a4)).XD G.o;have eh:Xr (gO A sb∈A):=km A sb a4;rw[cE.o sb a4]at a;generalize gO A sb=s at *;obtain⟨N,p,sL⟩:=s;simp only at b2 a;go_enter func132,ntmps132;go_upto_region 1 with fail
  rw[HW.o];go_upto_region 2 with fail
  rw[a1.o];go_wp2;go_ret2;rw[a.o];exact⟨⟨N,p,sL⟩,rfl,rfl,fun _=>HO.o,TG eh.o,G.o⟩
 ·have J:r<w.length:=by omega
  rw[To (by omega),Uq]at a;have fb:(((r:Nat):Int) == -2)=false:=Xn (by omega);have fd:((r:Nat):Int)<w.length:=by omega
  have e9:(0:Int)<=((r:Nat):Int):=by omega
  have C:cd (aq w r).k=false:=by
   unfold aA aH at a3;simp only[Bool.or_eq_true]at a3;rcases a3 with (h | h) | (h | h) <;> exact fN h (by decide)
  have co:Xr (∀c,ae [] t c->Calls prog 73 #[pointer (some ⟨n,0,none⟩),int i64 ((r:Nat):Int)] c fun e w'=>∃h',e=returned (slice h'.ao (bb b w r).length h'.cap)/\zC c w' h' (bb b w r)):=fun c kx=>by
   have:=mo n r b S x w v H c (gx.XD HD.o kx) J (by omega) (by rw[bV w r J];exact ac.o.e r hr C);rw[bV w r J]at this;exact this
  obtain⟨b6,-⟩:=cr.o r hr a3;have ex:(bb b w r).length<=b.length:=lS b _;obtain⟨X,HX⟩:=bn (bb b w r);rw[HX.o]at co a b6 ex;have en:Xr (∀c:World,ae [] t c->∃gs,v=some ⟨gs,0,none⟩/\gs<c.heap.size/\c.cell? ⟨n,1,none⟩=some (slice v w.length H)/\n<c.heap.size/\c.cell? ⟨gs,r*4+3,none⟩=some (string (aq w r).k)):=fun c kx=>by
   have hd:=gx.XD HD.o kx;obtain⟨-,K,hb⟩:=hd.cells;obtain⟨gs,e3,ca,-,-,-,q3⟩:=hd.s.2 r w[r] (Tm J);rw[bV w r J]at q3;exact⟨gs,e3,ca,K,hb,q3⟩
  have cp:Xr _:=co.o W1 G.o;go_enter func132,ntmps132;go_upto_region 1 with fail
  rw[HW.o];go_upto_region 2 with fail
  rw[a1.o];clear q0 q1 q2 q3 q4 q5 p0 eA;go_upto_region 5 with (go_at_call 73;refine Tr cp.o ?_;rintro e w2 ⟨h2,rfl,x2⟩)
  have cy:Xr _:=G.o.trans x2.XQ;have cX:Xr _:=x2.XQ;have d9:Xr _:=x2.toL;clear x2 K s1 m p1 p2 p3 p4 p5 D;obtain⟨⟨K,s1,m⟩,p1,p2,p3,p4,p5,D⟩:=F.o w2 cX.o;obtain⟨gs,rfl,ca,t0,ey,t1⟩:=en.o w2 cy.o;obtain⟨sk,c3⟩:=bn ((aq w r).k);rw[c3.o]at t1 a a5;obtain⟨c7,bx⟩:=bn (aA sk);have cj:Xr (∀c,Calls prog 123 #[string sk] c fun e w'=>e=returned (bool c7)/\w'=c):=fun c=>by rw[<-bx.o];exact gW sk c
  rw[bx.o]at a a5;go_quiet ((go_at_call 123;exact TZ (cj.o _)));go_upto_region 6 with fail
  obtain⟨w3,bz⟩:=bn (w2.drewN nq);rw[bz.o];have k3:ae [] w2 w3:=by rw[<-bz.o];exact(ae.refl [] w2).drewN nq
  have V:Xr _:=cy.o.trans k3;have c0:Xr _:=cX.o.trans k3;have br:Xr _:=d9.o.XD k3;clear K s1 m p1 p2 p3 p4 p5 D ca t0 ey t1 k3 bz cj;obtain⟨⟨K,s1,m⟩,p1,p2,p3,p4,p5,D⟩:=F.o w3 c0.o;cases c7
  ·rw[Tq rfl]at a;by_cases al:32<X.length
   ·rw[Tq al]at a;have an:(32:Int)<X.length:=(by omega);go_wp2;go_ret2;rw[a.o];exact rK rfl rfl rfl V.o
   ·rw[To al]at a;have an:¬(32:Int)<X.length:=(by omega);go_wp2;go_ret2;rw[a.o];exact⟨⟨h2.ao,h2.cap,X⟩,rfl,rfl,fun _=>br.o.sh b6 (by omega),TA (fun q o e=>TE G.o.size (br.o.far q (Mt e))),V.o⟩
  ·rw[To (by simp)]at a;have bv:Xr (sn=(a9 b w r).length):=a5 rfl;clear a5;have bl:Xr _:=d4.o w3 (by omega) hi (dh.XD HP.o V.o);by_cases ds:dP P l<0
   ·rw[Tq ds]at a;generalize dP P l=bg at *;go_wp2_with (go_at_call 133;refine Tr bl.o ?_;rintro e w4 ⟨rfl,k4⟩;have ax:Xr _:=V.o.trans k4;clear k4);go_ret2;rw[a.o];exact rK rfl rfl rfl ax.o
   ·rw[To ds]at a;have cF:Xr (∀c,ae [] t c->Calls prog 103 #[agg #[slice (some ⟨gP,0,none⟩) P.length cP,int i64 y,string pf,int i64 pl,int i64 pc],int i64 l] c fun e w'=>∃g,e=returned (slice (some ⟨g,0,none⟩) sn sn)/\oJ w' g (fV P l)/\ae [] c w'):=fun c kx=>cL.o c (dh.XD HP.o kx) (by omega);have aT:Xr _:=(cH.o (by omega));obtain⟨R,HR⟩:=bn (fV P l);rw[HR.o]at cF aT a ai;generalize dP P l=bg at *;(go_upto_region 11 with (go_at_call 133;refine Tr bl.o ?_;rintro e w4 ⟨rfl,k4⟩));have ax:Xr _:=V.o.trans k4;have c1:Xr _:=c0.o.trans k4;have ea:Xr _:=br.o.XD k4;clear K s1 m p1 p2 p3 p4 p5 D k4;obtain⟨⟨K,s1,m⟩,p1,p2,p3,p4,p5,D⟩:=F.o w4 c1.o;have bd:Xr _:=cF.o w4 ax.o;(go_upto_region 14 with (go_at_call 103;refine Tr bd.o ?_;rintro e w5 ⟨g5,rfl,i5,k5⟩));have d8:Xr _:=ax.o.trans k5;have eq:Xr _:=c1.o.trans k5;have eb:Xr _:=ea.o.XD k5;have d7:Xr _:=i5;have ei:Xr (io w5 w5 ⟨none,0⟩ (l4 [])):=⟨Tw _ _ _ _,(by intro k hk;cases hk),ae.refl _ _⟩;clear K s1 m p1 p2 p3 p4 p5 D k5 i5 bd bl;have fi:sn<=10000:=(by rw[bv.o];have:=ny b w r;omega);go_wp2
    go_loopg [17,18] sn (fun g o kv wr=>∃(k:Nat) (h:Hd) (O:List Sl),k<=sn/\g=sn-k/\o=slice h.ao O.length h.cap/\kv=int i64 k/\O.length<=k/\Xr (O=(R.take k).map (gO A))/\Xr (io w5 wr h (l4 O)))
    ·exact⟨0,⟨none,0⟩,[],by omega,rfl,rfl,rfl,Tp _,by show _=_;simp,ei⟩
    obtain⟨k,h,O,hk,hg,rfl,rfl,eY,HO,z⟩:=hrel;have bp:Xr _:=d8.o.trans z.o.XQ;have c2:Xr _:=eq.o.trans z.o.XQ;rcases kn k sn with ⟨dv,eH⟩ | ⟨dv,-⟩
    ·have cb:k<R.length:=(by rw[ai.o];exact dv);have e8:=aT.o R[k] (TO cb);have eL:R[k]<A.length:=(by omega);obtain⟨g6,e6,e4,c6⟩:=(oJ.src (show oJ wr g5 R from z.o.XQ.get d7.o (by simp))) k R[k] (Tm cb);cases e6
     obtain⟨gA,rfl,ez,b2⟩:=dh.sl (dh.XD HA.o bp.o) R[k] eL;have em:Xr (O++[gO A R[k]]=(R.take (k+1)).map (gO A)):=cg (by rw[zn R _ k cb,HO.o]);have e7:(0:Int)<=((R[k]:Nat):Int):=(by omega);generalize gO A R[k]=s at *;generalize R[k]=q at *;obtain⟨N,p,sL⟩:=s;simp only at b2;have ev:=z.o.X6;have et:(l4 O).n<=900000000:=by show O.length<=_;omega
     go_wp2_with (at_builtin;refine cC _ rfl (.tmp 70) (.tmp 78) 218 rfl iL (slice none 0 0) 24 h (l4 O) [slice N sL.length p] underlying218 eE dT d0 d1 rfl TQ rfl ev et (by omega) rfl rfl (by simp[Value.oneCell']) ?_;intro h7 w7 cf dt;rw[show([slice N sL.length p]:List Value)=Gq ⟨N,p,sL⟩ from rfl,rI]at cf;have eg:Xr _:=z.o.XN dt cf;clear cf dt);go_roundg (sn-(k+1))
     ·exact⟨k+1,h7,O++[⟨N,p,sL⟩],by omega,rfl,by simp[l4,lF],by go_num,by simp;omega,em,eg⟩
     omega
    ·have ek:k=sn:=(by omega);subst ek;have bw:Xr (O=R.map (gO A)):=cg (by rw[HO.o,Ve (by rw[ai.o];exact Tp _)]);have af:Xr (O.length=k):=cg (by rw[bw.o,TR,ai.o]);have el:Xr (O.map (·.L)=R.map (fun q=>M.getD q [])):=by
      show _=_;rw[bw.o,List.map_map];refine VG (fun q hq=>?_);have:=aT.o q hq;exact(cE.o q (by omega)).symm
     have u:Xr (∀s∈O,∀c,ae [] t c->pv c s):=fun s d c kx=>by
      rw[bw.o]at d;obtain⟨q,hq,rfl⟩:=UF.1 d;have:=aT.o q hq;exact(ck.o _ (km A q (by omega))).XD kx
     have eH:¬(k:Int)<(k:Int):=(by omega);rw[<-el.o]at a;have bo:Xr _:=(ru n r b S x w _ H wr (gx.XD HD.o bp.o) (ac.o.mono (by omega)) J (ac.o.e r hr C));have T:Xr _:=zW b w r;have a0:Xr _:=(eo.o r hr (by rw[c3.o];exact bx.o));rw[HX.o]at a0;have b4:(a9 b w r).length<=10000:=by have:=ny b w r;omega
     obtain⟨i,d6⟩:=bn (a9 b w r);rw[d6.o]at bo T a bv a0 b4;obtain⟨⟨K,s1,m⟩,-⟩:=F.o wr c2.o;(go_upto_region 20 with (go_at_call 63;refine Tr bo.o ?_;rintro e w7 ⟨h7,rfl,x7⟩));have Z:Xr _:=bp.o.trans x7.XQ;have er:Xr _:=c2.o.trans x7.XQ;have ec:Xr _:=(eb.o.XD z.o.XQ).XD x7.XQ;have ej:Xr _:=z.o.XD x7.XQ;have be:Xr _:=x7.X6.srcN;have bf:Xr _:=ej.o.X6.srcG wT;have dc:∀l,l<i.length->si w i l=true->1<(bb b w (i.getD l 0)).length:=fun q hq cc=>by
      have e:i.getD q 0=i[q]:=(by rw[Tn,Tm hq];rfl);unfold si at cc;rw[e]at cc ⊢;obtain⟨j1,-,j3⟩:=T.o i[q] (TO hq);exact(cr.o i[q] (by omega) (by rw[j3];simp)).2 cc
     have cu:Xr _:=dc;have bk:i.length<=O.length:=(by rw[af.o,bv.o];exact Tp _);have df:O.length<=100000:=(by have:=af.o;omega);have ag:Xr _:=(KO n f b S x w _ H i h7.ao h7.cap O h.ao h.cap w7 (gx.XD HD.o Z.o) ac.o be.o (fun j hj=>by have:=(T.o j hj).1;omega) b4 bf.o (fun s d=>(u.o s d w7 Z.o).ok) bk cu.o (fun s d=>(u.o s d w7 Z.o).pos));clear dc K s1 m x7 bo;obtain⟨VV,cV⟩:=bn (bL b w i i.length);rw[cV.o]at ag a a0;have ep:Xr (VV.length=(sZ w i i.length).length):=cg (by rw[<-cV.o];unfold bL;simp);obtain⟨OM,ad⟩:=bn (O.map (·.L));rw[ad.o]at ag a;have ct:Xr ((bu w i OM i.length).length=(sZ w i i.length).length):=cg (by unfold bu;simp);have cx:Xr ((sZ w i i.length).length<=i.length):=by
      show _<=_;unfold sZ;have:=U0 (si w i) (List.range i.length);rw[U7]at this;exact this
     have bc:Xr (∀eV∈bu w i OM i.length,eV.length<=10000):=KE (fun eV hl=>by
      rw[<-ad.o]at hl;obtain⟨s,d,rfl⟩:=UF.1 hl;exact(u.o s d w7 Z.o).le)
     obtain⟨BV,d5⟩:=bn (bu w i OM i.length);rw[d5.o]at ag a ct bc;(go_upto_region 21 with (go_at_call 178;refine Tr ag.o ?_;rintro e w8 ⟨hv,hb,B,rfl,ap,db,nv,nb⟩));obtain⟨W8,a2⟩:=bn (w8.alloc (.cells #[slice hv.ao VV.length hv.cap,slice hb.ao B.length hb.cap] 271));rw[a2.o];have k8:=fH a2.o;have B8:=f8 a2.o;have E:=nv.XQ.trans k8;have I:Xr _:=Z.o.trans E;have es:Xr _:=er.o.trans E;have ba:Xr (B.length=(sZ w i i.length).length):=cg (by rw[<-ct.o,<-ap,TR]);have dp:VV.length<=B.length:=(by rw[ep.o,ba.o];exact Tp _);have c9:B.length<=100000:=(by have:=cx.o;rw[ba.o];omega);have a7:Xr (∀s∈B,s.L.length<=10000):=fun s d=>bc.o s.L (by rw[<-ap];exact UF.2 ⟨s,d,rfl⟩);have cR:Xr _:=nv.X6.srcX.XD k8;have cs:Xr _:=(nb.X6.srcG wT).XD k8;have cl:Xr _:=db.XD E;have bs:Xr _:=(Kc n f r b S x w _ H i h7.ao h7.cap O h.ao h.cap VV hv.ao hv.cap B hb.ao hb.cap W8 (gx.XD HD.o I.o) ac.o hr C (sC.XD be.o E) (fun j hj=>⟨by have:=(T.o j hj).1;omega,(T.o j hj).2.1⟩) b4 (dh.XD bf.o E) (fun s d=>(u.o s d W8 I.o).ok) (fun s d=>(u.o s d W8 I.o).x) bk df cu.o (fun s d=>⟨(u.o s d W8 I.o).pos,(u.o s d W8 I.o).le⟩) cR.o cs.o cl.o dp c9 a7.o);rw[ad.o,ap]at bs;obtain⟨av,c4⟩:=bn (nL b w f r i OM VV BV);rw[c4.o]at bs a;obtain⟨⟨K,s1,m⟩,-⟩:=F.o W8 es.o;obtain⟨v0,v1⟩:=A9 B8;have d3:Xr _:=B8;have ef:Xr _:=ec.o.XD E;have cq:Xr _:=ap;clear k8 E nv nb db B8 ag a2 ap;(go_upto_region 22 with (go_at_call 179;refine Tr bs.o ?_;rintro e w9 ⟨rfl,k9⟩));have az:Xr _:=I.o.trans k9;cases a6:(av==0)
     ·rw[Tq a6]at a;go_wp2;go_ret2;rw[a.o];exact rK rfl a6 rfl az.o
     ·rw[To (by rw[a6];simp)]at a;have eP:av=0:=(by simpa using a6);subst eP;have aS:Xr _:=(DQ VV hv.ao hv.cap B hb.ao hb.cap X h2.ao h2.cap w9 (ic.XD cR.o k9) (dh.XD cs.o k9) (pW.XD cl.o k9) dp c9 (ic.XD ef.o.X6.srcX k9) (by omega) a7.o);rw[cq.o]at aS;have dz:=P9 (B:=BV) b6 a0.o;have B9:=k9.get d3.o (by simp);obtain⟨Y,HY⟩:=bn (dZ VV BV X);rw[HY.o]at aS a dz;obtain⟨v3,v4⟩:=A9 B9;clear k9 v0 v1 K s1 m;by_cases al:32<Y.length
      ·rw[Tq al]at a;have an:(32:Int)<Y.length:=(by omega);go_wp2_with (go_at_call 180;refine Tr aS.o ?_;rintro e eT ⟨b3,rfl,Q⟩;have U:Xr _:=az.o.trans Q.XQ;clear Q);go_ret2;rw[a.o];exact rK rfl rfl rfl U.o
      ·rw[To al]at a;have an:¬(32:Int)<Y.length:=(by omega);go_wp2_with (go_at_call 180;refine Tr aS.o ?_;rintro e eT ⟨b3,rfl,Q⟩;have U:Xr _:=az.o.trans Q.XQ;have bj:Xr _:=Q;clear Q);go_ret2;rw[a.o];exact⟨⟨b3.ao,b3.cap,Y⟩,rfl,rfl,fun _=>bj.o.sh dz (by omega),TA (fun q o e=>TE az.o.size (bj.o.far q (Mt e))),U.o⟩
end Go.Proofs.YtnbhnocdhbcbcaaGreat
