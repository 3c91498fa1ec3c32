import Derived.Test.YtnbhnocdhbcbcaaGreatU18
namespace Go.Proofs.YtnbhnocdhbcbcaaGreat
open Go.RowKit Tryz
open Value IntKind Ending
set_option maxHeartbeats 0
variable{a k:World}{i:Hd}{D o:Nat}{T:Xt}(n f l:Nat)(b:List Tk)(S:Xu)(x:Nat)(w:List Sm)(d:Xt)(y:List Xt)(v:Xu)(H:Nat)
def At(T:List Tk)(S:List Sm)(hs:Xv)(M:List Xt)(V:Xt)(B:List Xt)(i:Nat):Int :=
 if sx S hs i=true then(if(((M.getD i []).getD 0 ⟨#[]⟩).toList==((bb T S (hs.getD i 0)).getD 0 ⟨#[]⟩).toList)=true then 0 else 7)
 else if lE (ed V B (bb T S (hs.getD i 0))) (M.getD i [])=true then 0 else 8
def Mg(T:List Tk)(S:List Sm)(a:Nat)(V:Xt)(B:List Xt)(p:Xs×Xs):Bool:=qG T S a (ed V B [p.1]) (ed V B [p.2])
def nX(T:List Tk)(S:List Sm)(a c:Nat)(hs:Xv)(M:List Xt)(V:Xt)(B:List Xt):Int :=
 if(dn (At T S hs M V B) hs.length==0)=false then dn (At T S hs M V B) hs.length else if(mb T S c).all (Mg T S a V B)=true then 0 else 9
theorem qS(x:Xs)(N:Nat)(a:∀l∈y,l.length<=N)(b:1<=N):(ed d y [x]).length<=N:=by
 unfold ed;rw[U4,Xi,UE];unfold vu;split
 ·rw[Uc];cases h:y[nr d x]? with
  | none=>simp
  | some l=>exact a l (Vq h)
 ·simpa using b
theorem Qx(b:∀l∈y,l.length<=H)(c:1<=H)(e:Xt):(ed d y e).length<=H*e.length:=by
 induction e with
 | nil=>exact UF _
 | cons x e g =>
  have f:=qS d y x H b c;have a:ed d y (x :: e)=ed d y [x]++ed d y e:=by unfold ed;simp
  rw[a,Uh,UK,Nat.mul_succ];omega
theorem K0(V:Xt)(a:V.length<=10000)(k:Nat):(lU b w H V k).length<=10000*k:=by
 induction k with
 | zero=>simp[lU]
 | succ k c =>
  have:=Gt b w H V k V.length;rw[yH,Uh];omega
theorem KU(d:H<=10000):(mb b w H).length<=100000000:=by
 have a:=nE b w H;have c:(fV b w (a9 b w H) (a9 b w H).length).length<=(a9 b w H).length:=by
  unfold fV;rw[Uy,Vk];exact VO _ _
 have:=K0 b w H (fV b w (a9 b w H) (a9 b w H).length) (by omega) (fV b w (a9 b w H) (a9 b w H).length).length;unfold mb;omega
set_option maxRecDepth 100000
theorem Kz(a:Xv)(bz:Xu)(cH:Nat)(A:List Sl)(bc:Xu)(cA:Nat)(V:Xt)(R:Xu)(cV:Nat)(B:List Sl)(Q:Xu)(cB:Nat)(J:World)(hD:ge J n b S x w v H)(ok:pM b w f)(c3:l<f)(c0:cd (aq w l).k=false)(hH:qA J bz a)(F:∀j∈a,j<f/\cd (aq w j).k=false)(dz:a.length<=10000)(hA:cN J bc 1 GM A)(_c:qk J A)(b0:∀s∈A,ig J s.ao s.L)(dv:a.length<=A.length)(dt:A.length<=100000)(hF:∀i,i<a.length->sx w a i=true->1<(bb b w (a.getD i 0)).length)(hN:∀s∈A,0<s.L.length/\s.L.length<=10000)(hV:ig J R V)(hB:cN J Q 1 GM B)(b1:qk J B)(cR:V.length<=B.length)(cF:B.length<=100000)(bd:∀s∈B,s.L.length<=10000) :
  Calls prog 179 #[pointer (some ⟨n,0,none⟩),int i64 f,int i64 l,slice bz a.length cH,slice bc A.length cA,agg #[slice R V.length cV,slice Q B.length cB]] J fun e t=>e=returned (int i64 (nX b w f l a (A.map (·.L)) V (B.map (·.L))))/\ae [] J t:=by
 obtain⟨W,HW⟩:=bm (J.alloc (.cells #[slice R V.length cV,slice Q B.length cB] 271));have BW:=fE HW.o;have u:Xr _:=fg HW.o;have hn:=ok.ok.m;have d1:=ok.sm;have d2:=ok.tm;have bj:Xr _:=BW;have HD:Xr _:=hD.Yh u.o;have a6:Xr _:=ok;have HH:Xr _:=hH.Yh u.o;have ch:Xr _:=F;have HA:Xr _:=hA.Yh u.o;have ce:Xr (∀s∈A,∀wx,ae [] J wx->ig wx s.ao s.L):=fun s a wx kx=>(b0 s a).Yh kx;have HF:Xr _:=hF;have HN:Xr _:=hN;obtain⟨M,bo⟩:=bm (A.map (·.L));obtain⟨d,aS⟩:=bm (B.map (·.L));have a7:Xr (∀(E:Xt) (af:Xu) (cE:Nat) (wx:World),ae [] J wx->ig wx af E->E.length<=10000->Calls prog 180 #[agg #[slice R V.length cV,slice Q B.length cB],slice af E.length cE] wx fun e t=>∃h',e=returned (slice h'.ao (ed V d E).length h'.cap)/\ip wx t h' (aD (ed V d E))):=fun E af cE wx kx hE hl=>by rw[<-aS.o];exact Em V R cV B Q cB E af cE wx (hV.Yh kx) (hB.Yh kx) (b1.Yh kx) cR cF hE hl bd
 have U:Xr (∀dl∈d,dl.length<=10000):=fun dl hl=>by
  rw[<-aS.o]at hl;obtain⟨s,a,rfl⟩:=Vf.1 hl;exact bd s a
 have cj:Xr (∀k,k<A.length->M.getD k []=(gM A k).L):=fun k hk=>by rw[<-bo.o];exact ym A k hk
 rw[bo.o,aS.o];have ck:Xr _:=Gq n l b S x w v H;have cf:Xr (dS b (aq w l).h):=ok.e l c3 c0;have HR:Xr (nX b w f l a M V d=if(dn (At b w a M V d) a.length==0)=false then dn (At b w a M V d) a.length else if(mb b w l).all (Mg b w f V d)=true then 0 else 9):=rfl;clear hD ok hH F hA _c b0 hF hN hV hB b1 bd;go_enter func179,ntmps179;go_upto_region 1 with fail
 rw[HW.o];go_wp2
 go_loopg [13] a.length (fun g i wr=>∃k:Nat,k<=a.length/\g=a.length-k/\i=int i64 k/\Xr (dn (At b w a M V d) k=0)/\Xr (ae [] W wr))
 ·exact⟨0,by omega,rfl,rfl,rfl,ae.refl _ _⟩
 obtain⟨k,hk,hg,rfl,HZ,HK⟩:=hrel;rcases kn k a.length with ⟨F,c8⟩ | ⟨F,-⟩
 ·obtain⟨c7,b6⟩:=ch.o a[k] (Uu F);have Z:a[k]<w.length:=by omega
  have bf:a.getD k 0=a[k]:=by rw[Uc,Ub F];rfl
  obtain⟨gH,rfl,c5,cu⟩:=(qA.Yh HH.o HK.o) k a[k] (Ub F);have az:Xr (Calls prog 73 #[pointer (some ⟨n,0,none⟩),int i64 ((a[k]:Nat):Int)] wr fun e t=>∃h',e=returned (slice h'.ao (bA b w[a[k]].h).length h'.cap)/\zX wr t h' (bA b w[a[k]].h)):=mA n a[k] b S x w _ H wr (ge.Yh HD.o HK.o) Z (by omega) (by rw[bX w a[k] Z];exact a6.o.e a[k] c7 b6);have bk:Xr (bA b w[a[k]].h=bb b w (a.getD k 0)):=cM (by unfold bb;rw[bf,bX w a[k] Z]);have b3:=l5 b w[a[k]].h;rw[bk.o]at az b3;have bs:Xr (sx w a k=(w[a[k]].k.toList == [36,102])):=cM (by unfold sx;rw[bf,bX w a[k] Z]);have a0:Xr _:=HF.o k F;have co:Xr (∀t:World,ae [] W t->t.cell? ⟨gH,k,none⟩=some (int i64 ((a[k]:Nat):Int))/\gH<t.heap.size/\∃gs,v=some ⟨gs,0,none⟩/\gs<t.heap.size/\t.cell? ⟨n,1,none⟩=some (slice v w.length H)/\n<t.heap.size/\t.cell? ⟨gs,a[k]*4+3,none⟩=some (string w[a[k]].k)):=fun t kw=>by
   obtain⟨g2,e2,h2,c2⟩:=(qA.Yh HH.o kw) k a[k] (Ub F);cases e2
   have hd:=ge.Yh HD.o kw;obtain⟨-,s0,hb⟩:=hd.cells;obtain⟨gs,e3,ag,-,-,-,q3⟩:=hd.s.2 a[k] w[a[k]] (Ub Z);exact⟨c2,h2,gs,e3,ag,s0,hb,q3⟩
  have ai:k<A.length:=by omega
  have c:Xr (At b w a M V d k=if sx w a k=true then(if(((gM A k).L.getD 0 ⟨#[]⟩).toList==((bb b w (a.getD k 0)).getD 0 ⟨#[]⟩).toList)=true then 0 else 7) else if lE (ed V d (bb b w (a.getD k 0))) (gM A k).L=true then 0 else 8):=cM (by unfold At;rw[cj.o k ai]);have G:Xr ((At b w a M V d k==0)=false->nX b w f l a M V d=At b w a M V d k):=fun h=>by
   have:=nj HZ.o h F;rw[HR.o,this,Uf h]
  have ad:Xr (At b w a M V d k=0->dn (At b w a M V d) (k+1)=0):=fun h=>by rw[dn,HZ.o];exact h
  rw[bs.o]at c a0;clear bk bs bf b6;have d7:((a[k]:Nat):Int)<w.length:=by omega
  have d6:(0:Int)<=((a[k]:Nat):Int):=by omega
  obtain⟨X,HX⟩:=bm (bb b w (a.getD k 0));rw[HX.o]at az b3 c a0;generalize w[a[k]].k=sk at *;generalize a[k]=j at *;go_upto_region 5 with (go_at_call 73;refine Ug az.o ?_;rintro e w1 ⟨h1,rfl,x1⟩)
  have a2:Xr _:=HK.o.trans x1.Yu;have bw:Xr _:=x1.YF.srcX;obtain⟨bT,an,gs,rfl,ag,s0,b5,q3⟩:=co.o w1 a2.o;obtain⟨a1,c1⟩:=h1;clear cu c5 x1;have b2:=HN.o (gM A k) (kD A k ai);have T:Xr _:=ce.o (gM A k) (kD A k ai);have ax:Xr (∀t:World,ae [] W t->∃gA,bc=some ⟨gA,0,none⟩/\gA<t.heap.size/\t.cell? ⟨gA,k,none⟩=some (slice (gM A k).ao (gM A k).L.length (gM A k).cap)):=fun t kw=>cN.sl (cN.Yh HA.o kw) k ai;have dk:(k:Int)<A.length:=by omega
  generalize gM A k=s at *;obtain⟨dg,cc,sL⟩:=s;simp only at T ax b2 c;obtain⟨cL,dT⟩:=b2;cases hf:(sk.toList == [36,102])
  ·rw[hf,Ud (by simp)]at c;go_quiet (fail);obtain⟨W2,N⟩:=bm (w1.drewN nq);(go_upto_region 8 with fail);rw[N.o];have k2:ae [] w1 W2:=by rw[<-N.o];exact(ae.refl [] w1).drewN nq
   have r:Xr _:=a2.o.trans k2;have BR:=r.o.get bj.o (by simp);obtain⟨r0,r1⟩:=xx BR;have P:Xr _:=(a7.o X a1 c1 W2 (u.o.trans r.o) (ig.Yh bw.o k2) (by omega));have db:=Qx V d 10000 U.o (by omega) X;obtain⟨Y,HY⟩:=bm (ed V d X);rw[HY.o]at P c db;clear bT an ag s0 b5 q3 N;(go_upto_region 9 with (go_at_call 180;refine Ug P.o ?_;rintro e w3 ⟨h3,rfl,x3⟩));have I:Xr _:=r.o.trans x3.Yu;obtain⟨gA,rfl,c4,ct⟩:=ax.o w3 I.o;have ba:Xr _:=(EE Y sL h3.ao dg h3.cap cc w3 x3.YF.srcX (T.o w3 (u.o.trans I.o)) (by omega));obtain⟨sm,cs⟩:=bm (lE Y sL);rw[cs.o]at ba c;clear x3 r0 r1;cases sm
   ·rw[Ud (by simp)]at c;have K:Xr _:=(G.o (by rw[c.o];rfl));rw[c.o]at K;go_wp2_with (go_at_call 134;refine Ug ba.o ?_;rintro e w4 ⟨rfl,k4⟩;have D:Xr _:=I.o.trans k4;clear k4);go_ret;exact⟨T0 K.o.symm,u.o.trans D.o⟩
   ·rw[Uf rfl]at c;have K:Xr _:=ad.o c.o;go_wp2_with (go_at_call 134;refine Ug ba.o ?_;rintro e w4 ⟨rfl,k4⟩;have D:Xr _:=I.o.trans k4;clear k4);go_roundg (a.length-(k+1))
    ·exact⟨k+1,by omega,rfl,by go_num,K,D⟩
    omega
  ·rw[hf,Uf rfl]at c;have d3:=a0.o hf;obtain⟨gX,eX,c6,cX⟩:=bw.o 0 _ (np X 0 (by omega));replace eX:a1=some ⟨gX,0,none⟩:=eX;subst eX;go_quiet (fail);obtain⟨W2,N⟩:=bm (w1.drewN nq);(go_upto_region 6 with fail);rw[N.o];have k2:ae [] w1 W2:=by rw[<-N.o];exact(ae.refl [] w1).drewN nq
   have r:Xr _:=a2.o.trans k2;obtain⟨gA,rfl,c4,ct⟩:=ax.o W2 r.o;obtain⟨g0,es,d4,dp⟩:=T.o W2 (u.o.trans r.o) 0 _ (np sL 0 cL);subst es;have ds:W2.cell? ⟨gX,0,none⟩=some (string (X.getD 0 ⟨#[]⟩)):=(by rw[Uw (k2.block gX c6 (by simp))];exact cX);generalize sL.getD 0 ⟨#[]⟩=al at *;generalize X.getD 0 ⟨#[]⟩=y at *;clear bT an ag s0 b5 q3 N cX k2 nq;cases cb:(al.toList==y.toList)
   ·rw[cb,Ud (by simp)]at c;have K:Xr _:=(G.o (by rw[c.o];rfl));rw[c.o]at K;go_quiet (fail);have D:Xr _:=r.o.trans ((ae.refl [] W2).drewN nq);go_wp2;go_ret;exact⟨T0 K.o.symm,u.o.trans D.o⟩
   ·rw[cb,Uf rfl]at c;have K:Xr _:=ad.o c.o;go_quiet (fail);have D:Xr _:=r.o.trans ((ae.refl [] W2).drewN nq);go_wp2;go_roundg (a.length-(k+1))
    ·exact⟨k+1,by omega,rfl,by go_num,K,D⟩
    omega
 ·have e:k=a.length:=by omega
  subst e;rw[HZ.o,Ud (by decide)]at HR;have c8:¬(a.length:Int)<a.length:=by omega
  have P:Xr _:=(ck.o wr (ge.Yh HD.o HK.o) (a6.o.mono (by omega)) (by omega) cf.o);obtain⟨C,br⟩:=bm (mb b w l);rw[br.o]at P HR;go_upto_region 13 with (go_at_call 65;refine Ug P.o ?_;rintro e w2 ⟨h2,rfl,x2⟩)
  have r:Xr _:=HK.o.trans x2.Yu;have cq:Xr _:=x2.YF.srcG NZ;have d0:C.length<=100000000:=by rw[<-br.o];exact KU b w l (by omega)
  obtain⟨ap,cp⟩:=h2;clear x2 P HZ;go_wp2
  go_loopg [18] C.length (fun g i wr=>∃m:Nat,m<=C.length/\g=C.length-m/\i=int i64 m/\Xr (∀q (O:q<C.length),q<m->Mg b w f V d C[q]=true)/\Xr (ae [] w2 wr))
  ·exact⟨0,by omega,rfl,rfl,(fun q _ h=>by omega),ae.refl _ _⟩
  obtain⟨m,hm,d5,rfl,bg,I⟩:=hrel;have D:Xr _:=r.o.trans I.o;rcases kn m C.length with ⟨ac,c9⟩ | ⟨ac,-⟩
  ·obtain⟨gP,eP,be,cP⟩:=cq.o m C[m] (Ub ac);subst eP;have bl:Xr (∀t:World,ae [] w2 t->t.cell? ⟨gP,m*2,none⟩=some (string C[m].1)/\t.cell? ⟨gP,m*2+1,none⟩=some (string C[m].2)/\gP<t.heap.size/\t.cell? ⟨J.heap.size,0,none⟩=some (slice R V.length cV)/\t.cell? ⟨J.heap.size,1,none⟩=some (slice Q B.length cB)/\J.heap.size<t.heap.size):=fun t kw=>by
    have BR:=(r.o.trans kw).get bj.o (by simp);exact⟨by rw[Uw (kw.block gP be (by simp))];exact cP 0 _ rfl,by rw[Uw (kw.block gP be (by simp))];exact cP 1 _ rfl,Ul be kw.size,by rw[ah BR];rfl,by rw[ah BR];rfl,aj BR⟩
   have bp:Xr (Mg b w f V d C[m]=qG b w f (ed V d [C[m].1]) (ed V d [C[m].2])):=rfl;have G:Xr (Mg b w f V d C[m]=false->nX b w f l a M V d=9):=fun h=>by
    rw[HR.o,Ud];rw[U5];intro b4;have:=b4 C[m] (Uu ac);rw[h]at this;cases this
   have ad:Xr (Mg b w f V d C[m]=true->∀q (O:q<C.length),q<m+1->Mg b w f V d C[q]=true):=fun h q O h2=>by
    by_cases e:q=m
    ·subst e;exact h
    ·exact bg.o q O (by omega)
   generalize Mg b w f V d C[m]=mp at *;generalize C[m].1=al at *;generalize C[m].2=y at *;clear cP;obtain⟨cx,cy,ar,v0,v1,ca⟩:=bl.o wr I.o;have df:=qS V d al 10000 U.o (by omega);have d8:=qS V d y 10000 U.o (by omega);have bv:Xr (ig (wr.alloc (.cells #[string al] 9)).drew (some ⟨wr.heap.size,0,none⟩) [al]):=by
    intro q z O;have hk:(wr.alloc (.cells #[string al] 9)).drew.heap[wr.heap.size]?=some (.cells #[string al] 9):=Ui _ _;refine⟨_,rfl,aj hk,?_⟩;rw[ah hk]
    match q,O with
    | 0,O=>simp at O;subst O;rfl
   (go_upto_region 16 with fail);go_region_with (go_at_call 180;refine(a7.o [al] (some ⟨wr.heap.size,0,none⟩) 1 _ (by exact((u.o.trans D.o).alloc _).drew) (by exact bv.o) (by simp)).mono ?_;rintro e w5 ⟨h5,rfl,x5⟩)
   all_goals
    have a3:Xr (ae [] w2 w5):=((I.o.alloc _).drew).trans x5.Yu;have bx:Xr _:=x5.YF.srcX;obtain⟨PX,cl⟩:=bm (ed V d [al]);rw[cl.o]at bx df bp ⊢;have cr:Xr (ig (w5.alloc (.cells #[string y] 9)).drew (some ⟨w5.heap.size,0,none⟩) [y]):=by
     intro q z O;have hk:(w5.alloc (.cells #[string y] 9)).drew.heap[w5.heap.size]?=some (.cells #[string y] 9):=Ui _ _;refine⟨_,rfl,aj hk,?_⟩;rw[ah hk]
     match q,O with
     | 0,O=>simp at O;subst O;rfl
    clear cx cy ar v0 v1 ca x5 bv;obtain⟨cx,cy,ar,v0,v1,ca⟩:=bl.o w5 a3.o;(go_upto_region 17 with fail);go_region_with (go_at_call 180;refine(a7.o [y] (some ⟨w5.heap.size,0,none⟩) 1 _ (by exact(((u.o.trans r.o).trans a3.o).alloc _).drew) (by exact cr.o) (by simp)).mono ?_;rintro e w6 ⟨h6,rfl,x6⟩)
    all_goals
     have a4:Xr (ae [] w2 w6):=((a3.o.alloc _).drew).trans x6.Yu;have aT:Xr _:=(JY n f PX (ed V d [y]) h5.ao h6.ao h5.cap h6.cap b S x w v H w6 (ge.Yh HD.o (r.o.trans a4.o)) a6.o (ig.Yh bx.o ((((ae.refl [] w5).alloc _).drew).trans x6.Yu)) x6.YF.srcX (by omega) (by omega));rw[<-bp.o]at aT;clear x6;cases mp
     ·have K:Xr _:=G.o rfl;go_wp2_with (go_at_call 215;refine Ug aT.o ?_;rintro e w7 ⟨rfl,k7⟩;have a5:Xr _:=(r.o.trans a4.o).trans k7;clear k7);go_ret;exact⟨T0 K.o.symm,u.o.trans a5.o⟩
     ·have K:Xr _:=ad.o rfl;go_wp2_with (go_at_call 215;refine Ug aT.o ?_;rintro e w7 ⟨rfl,k7⟩;have a5:Xr _:=a4.o.trans k7;clear k7);go_roundg (C.length-(m+1))
      ·exact⟨m+1,by omega,rfl,by go_num,K,a5⟩
      omega
  ·have em:m=C.length:=(by omega);have K:Xr (nX b w f l a M V d=0):=by
    show _=_;rw[HR.o,Uf];rw[U5];intro p hp;obtain⟨q,O,e⟩:=U7 hp;rw[<-e];exact bg.o q O (by omega)
   have c9:¬(m:Int)<C.length:=(by omega);go_wp2;go_ret;exact⟨T0 K.o.symm,u.o.trans D.o⟩
def iE(T:List Tk)(S:List Sm)(a:Nat)(P:List ci)(i:Nat)(M:List Xt):Xt×Int :=
 if(aQ P i).ref=-2 then(M.getD (aQ P i).back [],0)
 else if aA (aq S (aQ P i).ref.toNat).k=false then(if 32<(bb T S (aQ P i).ref.toNat).length then([],10) else(bb T S (aQ P i).ref.toNat,0))
 else if dJ P i<0 then([],6)
 else
  let hs:=a9 T S (aQ P i).ref.toNat
  let on:=(dy P i).map (fun q=>M.getD q [])
  let why:=nX T S a (aQ P i).ref.toNat hs on (bI T S hs hs.length) (bt S hs on hs.length)
  if(why==0)=false then([],why)
  else if 32<(ed (bI T S hs hs.length) (bt S hs on hs.length) (bb T S (aQ P i).ref.toNat)).length then([],10)
  else(ed (bI T S hs hs.length) (bt S hs on hs.length) (bb T S (aQ P i).ref.toNat),0)
structure pL(w:World)(s:Sl):Prop where
 ok:qu w s
 x:ig w s.ao s.L
 pos:0<s.L.length
 le:s.L.length<=10000
theorem pL.Yh{s:Sl}(h:pL a s)(b:ae [] a k):pL k s:=⟨h.ok.Yh b,h.x.Yh b,h.pos,h.le⟩
def Mi(T:List Tk)(S:List Sm)(n:Nat):Prop:=∀j,j<n->(aA (aq S j).k||aG (aq S j).k)=true->0<(bb T S j).length/\(((aq S j).k.toList == [36,102])=true->1<(bb T S j).length)
structure Ms(T:List Tk)(S:List Sm)(a:Nat)(P:List ci)(i:Nat):Prop where
 Ys:((aQ P i).ref=-2/\(aQ P i).back<i)∨∃r,r<a/\(aQ P i).ref=(r:Nat)/\(aA (aq S r).k||aG (aq S r).k)=true/\(aA (aq S r).k=true->(aQ P i).need=(a9 T S r).length)
theorem Ao:∀j∈a9 b w H,j<H/\cd (aq w j).k=false/\aG (aq w j).k=true:=fun j c=>by
 have d:=qK b w H j c;have a:=(UP.1 c).2;unfold ub at a;rw[Ux,UO,Ux]at a;rcases a.2 with h | ⟨h,-⟩
 all_goals
  exact⟨d,fO h (by decide),by unfold aG;rw[h];simp⟩
def Mr(w:World)(A:List Sl)(r:Xt×Int)(e:Ending)(w':World):Prop:=∃s:Sl,e=returned (tuple #[slice s.ao s.L.length s.cap,int i64 r.2])/\s.L=r.1/\((r.2==0)=true->pL w' s)/\(s∈A∨∀q o,s.ao=some ⟨q,o,none⟩->w.heap.size<=q)/\ae [] w w'
theorem MO(e:i.ao=some ⟨D,o,none⟩):i.Yv=some D:=by unfold Hd.Yv;rw[e];rfl
theorem rQ{A:List Sl}{r:Xt×Int}{e:Ending}(b:r.1=[])(c:(r.2==0)=false)(d:e=returned (tuple #[slice none 0 0,int i64 r.2]))(f:ae [] a k):Mr a A r e k :=
 ⟨⟨none,0,[]⟩,d,b.symm,fun h=>(by rw[c]at h;cases h),Uo (fun q o e=>by cases e),f⟩
theorem ip.sh(b:ip a k i (aD T))(c:0<T.length)(d:T.length<=10000):pL k ⟨i.ao,i.cap,T⟩:=⟨b.sl,b.YF.srcX,c,d⟩
theorem zI{α:Type}(R:Xv)(f:Nat->α)(k:Nat)(h:k<R.length):(R.take (k+1)).map f=(R.take k).map f++[f R[k]]:=by
 rw[UY h,UJ];rfl
theorem Nr{x:Xs}(h:aJ T x=false):nr T x=T.length:=by
 refine Nq rfl (fun j a _=>?_);unfold aJ at h;rw[WH]at h;have:=h T[j] (Uu a);simpa using this
theorem Qy{B:List Xt}{X:Xt}(a:0<X.length)(h:aJ T (X.getD 0 ⟨#[]⟩)=false):0<(ed T B X).length:=by
 cases X with
 | nil=>simp at a
 | cons x X =>
  have e:(x :: X).getD 0 ⟨#[]⟩=x:=rfl;rw[e]at h;unfold ed;rw[U4,Uh];unfold vu;rw[Nr h,Ud (by omega)];simp;omega
theorem Lf{S:List Sm}{b:Xv}{M:List Xt}(h:∀l∈M,l.length<=o):∀l∈bt S b M D,l.length<=o:=by
 intro l a;unfold bt at a;obtain⟨i,-,rfl⟩:=Vf.1 a;rw[UX,Uc];cases e:M[i]? with
 | none=>simp
 | some m=>have:=h m (Vq e);show m.length-1<=o;omega
def Rn(T:List Tk)(S:List Sm)(n:Nat):Prop:=∀r,r<n->aA (aq S r).k=true->aJ (bI T S (a9 T S r) (a9 T S r).length) ((bb T S r).getD 0 ⟨#[]⟩)=false
theorem Lz(P:List ci)(b2:Xu)(cP:Nat)(y:Int)(pf:Xs)(pl pc:Int)(A:List Sl)(c5:Xu)(cA:Nat)(t:World)(hD:ge t n b S x w v H)(ok:pM b w f)(hB:Mi b w f)(dp:Rn b w f)(hn:f<w.length)(hP:cN t b2 6 lp P)(dk:P.length<=100000000)(b6:Fj P)(hi:l<P.length)(dl:Ms b w f P l)(hA:cN t c5 1 GM A)(c8:∀s∈A,pL t s)(e0:A.length=l) :
  Calls prog 132 #[pointer (some ⟨n,0,none⟩),int i64 f,agg #[slice b2 P.length cP,int i64 y,string pf,int i64 pl,int i64 pc],int i64 l,slice c5 A.length cA] t fun e w'=>Mr t A (iE b w f P l (A.map (·.L))) e w':=by
 obtain⟨W,HW⟩:=bm (t.alloc (.cells #[slice b2 P.length cP,int i64 y,string pf,int i64 pl,int i64 pc] 122));have BW:=fE HW.o;have cz:Xr _:=fg HW.o;obtain⟨p0,-⟩:=lr BW;have e8:(l:Int)<P.length:=by omega
 obtain⟨gP,rfl,eH,q0,q1,q2,q3,q4,q5⟩:=cN.step (hP.Yh cz.o) l hi;have HP:Xr _:=hP;have HD:Xr _:=hD;have ac:Xr _:=ok;have cr:Xr _:=hB;have ep:Xr _:=dp;have HA:Xr _:=hA;have ck:Xr _:=c8;have e2:=ok.sm;have e4:=ok.tm;obtain⟨M,cB⟩:=bm (A.map (·.L));have cE:Xr (∀k,k<A.length->M.getD k []=(gM A k).L):=fun k hk=>by rw[<-cB.o];exact ym A k hk
 rw[cB.o];have d5:Xr _:=uV P (some ⟨gP,0,none⟩) cP y pf pl pc dk b6 (l+1) l;have cL:Xr (∀c,cN c (some ⟨gP,0,none⟩) 6 lp P->0<=dJ P l->Calls prog 103 #[agg #[slice (some ⟨gP,0,none⟩) P.length cP,int i64 y,string pf,int i64 pl,int i64 pc],int i64 l] c fun e w'=>∃g,e=returned (slice (some ⟨g,0,none⟩) (aQ P l).need (aQ P l).need)/\oR w' g (dy P l)/\ae [] c w'):=fun c h1 h2=>vy P _ cP y pf pl pc l c dk b6 hi h1 h2;have ai:Xr _:=vA P l;have cH:Xr _:=qV P l
 have a:Xr (iE b w f P l M=if(aQ P l).ref=-2 then(M.getD (aQ P l).back [],0)
  else if aA (aq w (aQ P l).ref.toNat).k=false then(if 32<(bb b w (aQ P l).ref.toNat).length then([],10) else(bb b w (aQ P l).ref.toNat,0))
  else if dJ P l<0 then([],6)
  else
   let d:=a9 b w (aQ P l).ref.toNat
   let on:=(dy P l).map (fun q=>M.getD q [])
   let ax:=nX b w f (aQ P l).ref.toNat d on (bI b w d d.length) (bt w d on d.length)
   if(ax==0)=false then([],ax)
   else if 32<(ed (bI b w d d.length) (bt w d on d.length) (bb b w (aQ P l).ref.toNat)).length then([],10)
   else(ed (bI b w d d.length) (bt w d on d.length) (bb b w (aQ P l).ref.toNat),0)):=rfl
 have ar:=dl.Ys;have d3:Xr _:=BW;clear dl hD ok hB hP hA c8 b6 dp;obtain⟨iL,eL,d0,d1,d2⟩:=UC FO;generalize aQ P l=st at *;obtain⟨sr,sb,sn,sf,sl,sc⟩:=st;simp only at q0 q1 q2 q3 q4 q5 ar a cL ai;obtain⟨W1,a2⟩:=bm (W.alloc (.cells #[int i64 sr,int i64 (sb:Int),int i64 (sn:Int),string sf,int i64 sl,int i64 sc] 162));have B1:=fE a2.o;have ch:=fg a2.o;have G:Xr _:=cz.o.trans ch;have F:Xr (∀c:World,ae [] W1 c->(c.cell? ⟨W.heap.size,0,none⟩=some (int i64 sr)/\c.cell? ⟨W.heap.size,1,none⟩=some (int i64 (sb:Int))/\W.heap.size<c.heap.size)/\(c.cell? ⟨t.heap.size,0,none⟩=some (slice (some ⟨gP,0,none⟩) P.length cP)/\c.cell? ⟨t.heap.size,1,none⟩=some (int i64 y)/\c.cell? ⟨t.heap.size,2,none⟩=some (string pf)/\c.cell? ⟨t.heap.size,3,none⟩=some (int i64 pl)/\c.cell? ⟨t.heap.size,4,none⟩=some (int i64 pc)/\t.heap.size<c.heap.size)):=fun c kx=>by
  have b1:=kx.get B1 (by simp);have b0:=(ch.trans kx).get d3.o (by simp);exact⟨⟨by rw[ah b1];rfl,by rw[ah b1];rfl,aj b1⟩,by rw[ah b0];rfl,by rw[ah b0];rfl,by rw[ah b0];rfl,by rw[ah b0];rfl,by rw[ah b0];rfl,aj b0⟩
 clear B1 ch BW;obtain⟨⟨K,s1,m⟩,p1,p2,p3,p4,p5,D⟩:=F.o W1 (ae.refl _ _);rcases ar with ⟨rfl,e5⟩ | ⟨r,hr,rfl,a4,a6⟩
 ·rw[Uf rfl]at a;have a5:sb<A.length:=by omega
  obtain⟨gA,rfl,eE,b3⟩:=cN.sl (cN.Yh HA.o G.o) sb a5;have HO:Xr _:=(ck.o (gM A sb) (kD A sb a5)).Yh G.o;have ei:Xr (gM A sb∈A):=kD A sb a5;rw[cE.o sb a5]at a;generalize gM A sb=s at *;obtain⟨N,p,sL⟩:=s;simp only at b3 a;go_enter func132,ntmps132;go_upto_region 1 with fail
  rw[HW.o];go_upto_region 2 with fail
  rw[a2.o];go_wp2;go_ret2;rw[a.o];exact⟨⟨N,p,sL⟩,rfl,rfl,fun _=>HO.o,Us ei.o,G.o⟩
 ·have J:r<w.length:=by omega
  rw[Ud (by omega),UR]at a;have fi:(((r:Nat):Int) == -2)=false:=X6 (by omega);have fl:((r:Nat):Int)<w.length:=by omega
  have fd:(0:Int)<=((r:Nat):Int):=by omega
  have C:cd (aq w r).k=false:=by
   unfold aA aG at a4;simp only[Bool.or_eq_true]at a4;rcases a4 with (h | h) | (h | h) <;> exact fO h (by decide)
  have co:Xr (∀c,ae [] t c->Calls prog 73 #[pointer (some ⟨n,0,none⟩),int i64 ((r:Nat):Int)] c fun e w'=>∃h',e=returned (slice h'.ao (bb b w r).length h'.cap)/\zX c w' h' (bb b w r)):=fun c kx=>by
   have:=mA n r b S x w v H c (ge.Yh HD.o kx) J (by omega) (by rw[bX w r J];exact ac.o.e r hr C);rw[bX w r J]at this;exact this
  obtain⟨ca,-⟩:=cr.o r hr a4;have ez:(bb b w r).length<=b.length:=l5 b _;obtain⟨X,HX⟩:=bm (bb b w r);rw[HX.o]at co a ca ez;have eo:Xr (∀c:World,ae [] t c->∃gs,v=some ⟨gs,0,none⟩/\gs<c.heap.size/\c.cell? ⟨n,1,none⟩=some (slice v w.length H)/\n<c.heap.size/\c.cell? ⟨gs,r*4+3,none⟩=some (string (aq w r).k)):=fun c kx=>by
   have hd:=ge.Yh HD.o kx;obtain⟨-,K,hb⟩:=hd.cells;obtain⟨gs,e3,cb,-,-,-,q3⟩:=hd.s.2 r w[r] (Ub J);rw[bX w r J]at q3;exact⟨gs,e3,cb,K,hb,q3⟩
  have cp:Xr _:=co.o W1 G.o;go_enter func132,ntmps132;go_upto_region 1 with fail
  rw[HW.o];go_upto_region 2 with fail
  rw[a2.o];clear q0 q1 q2 q3 q4 q5 p0 eH;go_upto_region 5 with (go_at_call 73;refine Ug cp.o ?_;rintro e w2 ⟨h2,rfl,x2⟩)
  have cy:Xr _:=G.o.trans x2.Yu;have cX:Xr _:=x2.Yu;have ea:Xr _:=x2.toL;clear x2 K s1 m p1 p2 p3 p4 p5 D;obtain⟨⟨K,s1,m⟩,p1,p2,p3,p4,p5,D⟩:=F.o w2 cX.o;obtain⟨gs,rfl,cb,t0,eA,t1⟩:=eo.o w2 cy.o;obtain⟨sk,c3⟩:=bm ((aq w r).k);rw[c3.o]at t1 a a6;obtain⟨c7,bz⟩:=bm (aA sk);have cj:Xr (∀c,Calls prog 123 #[string sk] c fun e w'=>e=returned (bool c7)/\w'=c):=fun c=>by rw[<-bz.o];exact gW sk c
  rw[bz.o]at a a6;go_quiet ((go_at_call 123;exact UD (cj.o _)));go_upto_region 6 with fail
  obtain⟨w3,bT⟩:=bm (w2.drewN nq);rw[bT.o];have k3:ae [] w2 w3:=by rw[<-bT.o];exact(ae.refl [] w2).drewN nq
  have V:Xr _:=cy.o.trans k3;have c0:Xr _:=cX.o.trans k3;have bs:Xr _:=ea.o.Yh k3;clear K s1 m p1 p2 p3 p4 p5 D cb t0 eA t1 k3 bT cj;obtain⟨⟨K,s1,m⟩,p1,p2,p3,p4,p5,D⟩:=F.o w3 c0.o;cases c7
  ·rw[Uf rfl]at a;by_cases al:32<X.length
   ·rw[Uf al]at a;have an:(32:Int)<X.length:=(by omega);go_wp2;go_ret2;rw[a.o];exact rQ rfl rfl rfl V.o
   ·rw[Ud al]at a;have an:¬(32:Int)<X.length:=(by omega);go_wp2;go_ret2;rw[a.o];exact⟨⟨h2.ao,h2.cap,X⟩,rfl,rfl,fun _=>bs.o.sh ca (by omega),Uo (fun q o e=>Un G.o.size (bs.o.far q (MO e))),V.o⟩
  ·rw[Ud (by simp)]at a;have bw:Xr (sn=(a9 b w r).length):=a6 rfl;clear a6;have bo:Xr _:=d5.o w3 (by omega) hi (cN.Yh HP.o V.o);by_cases dt:dJ P l<0
   ·rw[Uf dt]at a;generalize dJ P l=bg at *;go_wp2_with (go_at_call 133;refine Ug bo.o ?_;rintro e w4 ⟨rfl,k4⟩;have az:Xr _:=V.o.trans k4;clear k4);go_ret2;rw[a.o];exact rQ rfl rfl rfl az.o
   ·rw[Ud dt]at a;have cF:Xr (∀c,ae [] t c->Calls prog 103 #[agg #[slice (some ⟨gP,0,none⟩) P.length cP,int i64 y,string pf,int i64 pl,int i64 pc],int i64 l] c fun e w'=>∃g,e=returned (slice (some ⟨g,0,none⟩) sn sn)/\oR w' g (dy P l)/\ae [] c w'):=fun c kx=>cL.o c (cN.Yh HP.o kx) (by omega);have a0:Xr _:=(cH.o (by omega));obtain⟨R,HR⟩:=bm (dy P l);rw[HR.o]at cF a0 a ai;generalize dJ P l=bg at *;(go_upto_region 11 with (go_at_call 133;refine Ug bo.o ?_;rintro e w4 ⟨rfl,k4⟩));have az:Xr _:=V.o.trans k4;have c1:Xr _:=c0.o.trans k4;have eb:Xr _:=bs.o.Yh k4;clear K s1 m p1 p2 p3 p4 p5 D k4;obtain⟨⟨K,s1,m⟩,p1,p2,p3,p4,p5,D⟩:=F.o w4 c1.o;have be:Xr _:=cF.o w4 az.o;(go_upto_region 14 with (go_at_call 103;refine Ug be.o ?_;rintro e w5 ⟨g5,rfl,i5,k5⟩));have d9:Xr _:=az.o.trans k5;have er:Xr _:=c1.o.trans k5;have ec:Xr _:=eb.o.Yh k5;have d8:Xr _:=i5;have ej:Xr (ip w5 w5 ⟨none,0⟩ (mg [])):=⟨Uj _ _ _ _,(by intro k hk;cases hk),ae.refl _ _⟩;clear K s1 m p1 p2 p3 p4 p5 D k5 i5 be bo;have fo:sn<=10000:=(by rw[bw.o];have:=nE b w r;omega);go_wp2
    go_loopg [17,18] sn (fun g o kv wr=>∃(k:Nat) (h:Hd) (O:List Sl),k<=sn/\g=sn-k/\o=slice h.ao O.length h.cap/\kv=int i64 k/\O.length<=k/\Xr (O=(R.take k).map (gM A))/\Xr (ip w5 wr h (mg O)))
    ·exact⟨0,⟨none,0⟩,[],by omega,rfl,rfl,rfl,Ue _,by show _=_;simp,ej⟩
    obtain⟨k,h,O,hk,hg,rfl,rfl,e1,HO,z⟩:=hrel;have br:Xr _:=d9.o.trans z.o.Yu;have c2:Xr _:=er.o.trans z.o.Yu;rcases kn k sn with ⟨dz,eP⟩ | ⟨dz,-⟩
    ·have cc:k<R.length:=(by rw[ai.o];exact dz);have fb:=a0.o R[k] (Uu cc);have eT:R[k]<A.length:=(by omega);obtain⟨g6,e6,e7,c6⟩:=(oR.src (show oR wr g5 R from z.o.Yu.get d8.o (by simp))) k R[k] (Ub cc);cases e6
     obtain⟨gA,rfl,eE,b3⟩:=cN.sl (cN.Yh HA.o br.o) R[k] eT;have en:Xr (O++[gM A R[k]]=(R.take (k+1)).map (gM A)):=cM (by rw[zI R _ k cc,HO.o]);have e9:(0:Int)<=((R[k]:Nat):Int):=(by omega);generalize gM A R[k]=s at *;generalize R[k]=q at *;obtain⟨N,p,sL⟩:=s;simp only at b3;have ey:=z.o.YF;have ex:(mg O).n<=900000000:=by show O.length<=_;omega
     go_wp2_with (at_builtin;refine cI _ rfl (.tmp 70) (.tmp 78) 218 rfl iL (slice none 0 0) 24 h (mg O) [slice N sL.length p] underlying218 eL d0 d1 d2 rfl UA rfl ey ex (by omega) rfl rfl (by simp[Value.oneCell']) ?_;intro h7 w7 cf dv;rw[show([slice N sL.length p]:List Value)=GM ⟨N,p,sL⟩ from rfl,rO]at cf;have eh:Xr _:=z.o.Yr dv cf;clear cf dv);go_roundg (sn-(k+1))
     ·exact⟨k+1,h7,O++[⟨N,p,sL⟩],by omega,rfl,by simp[mg,lm],by go_num,by simp;omega,en,eh⟩
     omega
    ·have ek:k=sn:=(by omega);subst ek;have bx:Xr (O=R.map (gM A)):=cM (by rw[HO.o,VG (by rw[ai.o];exact Ue _)]);have af:Xr (O.length=k):=cM (by rw[bx.o,Uy,ai.o]);have em:Xr (O.map (·.L)=R.map (fun q=>M.getD q [])):=by
      show _=_;rw[bx.o,List.map_map];refine V6 (fun q hq=>?_);have:=a0.o q hq;exact(cE.o q (by omega)).symm
     have u:Xr (∀s∈O,∀c,ae [] t c->pL c s):=fun s d c kx=>by
      rw[bx.o]at d;obtain⟨q,hq,rfl⟩:=Vf.1 d;have:=a0.o q hq;exact(ck.o _ (kD A q (by omega))).Yh kx
     have eP:¬(k:Int)<(k:Int):=(by omega);rw[<-em.o]at a;have bp:Xr _:=(rG n r b S x w _ H wr (ge.Yh HD.o br.o) (ac.o.mono (by omega)) J (ac.o.e r hr C));have T:Xr _:=Ao b w r;have a1:Xr _:=(ep.o r hr (by rw[c3.o];exact bz.o));rw[HX.o]at a1;have b5:(a9 b w r).length<=10000:=by have:=nE b w r;omega
     obtain⟨i,d7⟩:=bm (a9 b w r);rw[d7.o]at bp T a bw a1 b5;obtain⟨⟨K,s1,m⟩,-⟩:=F.o wr c2.o;(go_upto_region 20 with (go_at_call 63;refine Ug bp.o ?_;rintro e w7 ⟨h7,rfl,x7⟩));have Z:Xr _:=br.o.trans x7.Yu;have es:Xr _:=c2.o.trans x7.Yu;have ef:Xr _:=(ec.o.Yh z.o.Yu).Yh x7.Yu;have el:Xr _:=z.o.Yh x7.Yu;have bf:Xr _:=x7.YF.srcN;have bj:Xr _:=el.o.YF.srcG xc;have df:∀l,l<i.length->sx w i l=true->1<(bb b w (i.getD l 0)).length:=fun q hq ce=>by
      have e:i.getD q 0=i[q]:=(by rw[Uc,Ub hq];rfl);unfold sx at ce;rw[e]at ce ⊢;obtain⟨j1,-,j3⟩:=T.o i[q] (Uu hq);exact(cr.o i[q] (by omega) (by rw[j3];simp)).2 ce
     have cu:Xr _:=df;have bl:i.length<=O.length:=(by rw[af.o,bw.o];exact Ue _);have dg:O.length<=100000:=(by have:=af.o;omega);have ag:Xr _:=(Ll n f b S x w _ H i h7.ao h7.cap O h.ao h.cap w7 (ge.Yh HD.o Z.o) ac.o bf.o (fun j hj=>by have:=(T.o j hj).1;omega) b5 bj.o (fun s d=>(u.o s d w7 Z.o).ok) bl cu.o (fun s d=>(u.o s d w7 Z.o).pos));clear df K s1 m x7 bp;obtain⟨VV,cV⟩:=bm (bI b w i i.length);rw[cV.o]at ag a a1;have eq:Xr (VV.length=(ta w i i.length).length):=cM (by rw[<-cV.o];unfold bI;simp);obtain⟨OM,ad⟩:=bm (O.map (·.L));rw[ad.o]at ag a;have ct:Xr ((bt w i OM i.length).length=(ta w i i.length).length):=cM (by unfold bt;simp);have cx:Xr ((ta w i i.length).length<=i.length):=by
      show _<=_;unfold ta;have:=VO (sx w i) (List.range i.length);rw[VN]at this;exact this
     have bd:Xr (∀eY∈bt w i OM i.length,eY.length<=10000):=Lf (fun eY hl=>by
      rw[<-ad.o]at hl;obtain⟨s,d,rfl⟩:=Vf.1 hl;exact(u.o s d w7 Z.o).le)
     obtain⟨BV,d6⟩:=bm (bt w i OM i.length);rw[d6.o]at ag a ct bd;(go_upto_region 21 with (go_at_call 178;refine Ug ag.o ?_;rintro e w8 ⟨hv,hb,B,rfl,ap,db,nv,nb⟩));obtain⟨W8,a3⟩:=bm (w8.alloc (.cells #[slice hv.ao VV.length hv.cap,slice hb.ao B.length hb.cap] 271));rw[a3.o];have k8:=fg a3.o;have B8:=fE a3.o;have E:=nv.Yu.trans k8;have I:Xr _:=Z.o.trans E;have et:Xr _:=es.o.trans E;have bc:Xr (B.length=(ta w i i.length).length):=cM (by rw[<-ct.o,<-ap,Uy]);have ds:VV.length<=B.length:=(by rw[eq.o,bc.o];exact Ue _);have c9:B.length<=100000:=(by have:=cx.o;rw[bc.o];omega);have ba:Xr (∀s∈B,s.L.length<=10000):=fun s d=>bd.o s.L (by rw[<-ap];exact Vf.2 ⟨s,d,rfl⟩);have cR:Xr _:=nv.YF.srcX.Yh k8;have cs:Xr _:=(nb.YF.srcG xc).Yh k8;have cl:Xr _:=db.Yh E;have bv:Xr _:=(Kz n f r b S x w _ H i h7.ao h7.cap O h.ao h.cap VV hv.ao hv.cap B hb.ao hb.cap W8 (ge.Yh HD.o I.o) ac.o hr C (qA.Yh bf.o E) (fun j hj=>⟨by have:=(T.o j hj).1;omega,(T.o j hj).2.1⟩) b5 (cN.Yh bj.o E) (fun s d=>(u.o s d W8 I.o).ok) (fun s d=>(u.o s d W8 I.o).x) bl dg cu.o (fun s d=>⟨(u.o s d W8 I.o).pos,(u.o s d W8 I.o).le⟩) cR.o cs.o cl.o ds c9 ba.o);rw[ad.o,ap]at bv;obtain⟨ax,c4⟩:=bm (nX b w f r i OM VV BV);rw[c4.o]at bv a;obtain⟨⟨K,s1,m⟩,-⟩:=F.o W8 et.o;obtain⟨v0,v1⟩:=xx B8;have d4:Xr _:=B8;have eg:Xr _:=ef.o.Yh E;have cq:Xr _:=ap;clear k8 E nv nb db B8 ag a3 ap;(go_upto_region 22 with (go_at_call 179;refine Ug bv.o ?_;rintro e w9 ⟨rfl,k9⟩));have aS:Xr _:=I.o.trans k9;cases a7:(ax==0)
     ·rw[Uf a7]at a;go_wp2;go_ret2;rw[a.o];exact rQ rfl a7 rfl aS.o
     ·rw[Ud (by rw[a7];simp)]at a;have eV:ax=0:=(by simpa using a7);subst eV;have aT:Xr _:=(Em VV hv.ao hv.cap B hb.ao hb.cap X h2.ao h2.cap w9 (ig.Yh cR.o k9) (cN.Yh cs.o k9) (qk.Yh cl.o k9) ds c9 (ig.Yh eg.o.YF.srcX k9) (by omega) ba.o);rw[cq.o]at aT;have dT:=Qy (B:=BV) ca a1.o;have B9:=k9.get d4.o (by simp);obtain⟨Y,HY⟩:=bm (ed VV BV X);rw[HY.o]at aT a dT;obtain⟨v3,v4⟩:=xx B9;clear k9 v0 v1 K s1 m;by_cases al:32<Y.length
      ·rw[Uf al]at a;have an:(32:Int)<Y.length:=(by omega);go_wp2_with (go_at_call 180;refine Ug aT.o ?_;rintro e eX ⟨b4,rfl,Q⟩;have U:Xr _:=aS.o.trans Q.Yu;clear Q);go_ret2;rw[a.o];exact rQ rfl rfl rfl U.o
      ·rw[Ud al]at a;have an:¬(32:Int)<Y.length:=(by omega);go_wp2_with (go_at_call 180;refine Ug aT.o ?_;rintro e eX ⟨b4,rfl,Q⟩;have U:Xr _:=aS.o.trans Q.Yu;have bk:Xr _:=Q;clear Q);go_ret2;rw[a.o];exact⟨⟨b4.ao,b4.cap,Y⟩,rfl,rfl,fun _=>bk.o.sh dT (by omega),Uo (fun q o e=>Un aS.o.size (bk.o.far q (MO e))),U.o⟩
end Go.Proofs.YtnbhnocdhbcbcaaGreat
