import Derived.Test.YtpdholcaobgofaaGreatP19
namespace Go.Proofs.YtpdholcaobgofaaGreat
open Go.RowKit Tryz
open Value IntKind Ending
set_option maxHeartbeats 0
variable{a k:World}{i:Hd}{D o:Nat}{T:Xs}(n f l:Nat)(b:List Tk)(S:Xt)(x:Nat)(w:List Sm)(d:Xs)(y:List Xs)(v:Xt)(H:Nat)
def Si(T:List Tk)(S:List Sm)(hs:Xu)(M:List Xs)(V:Xs)(B:List Xs)(i:Nat):Int :=
 if M1 S hs i=true then(if(((M.getD i []).getD 0 ⟨#[]⟩).toList==((aU T S (hs.getD i 0)).getD 0 ⟨#[]⟩).toList)=true then 0 else 7)
 else if qQ (ke V B (aU T S (hs.getD i 0))) (M.getD i [])=true then 0 else 8
def Xg(T:List Tk)(S:List Sm)(a:Nat)(V:Xs)(B:List Xs)(p:Xr×Xr):Bool:=xl T S a (ke V B [p.1]) (ke V B [p.2])
def te(T:List Tk)(S:List Sm)(a c:Nat)(hs:Xu)(M:List Xs)(V:Xs)(B:List Xs):Int :=
 if(eO (Si T S hs M V B) hs.length==0)=false then eO (Si T S hs M V B) hs.length else if(jX T S c).all (Xg T S a V B)=true then 0 else 9
theorem tB(x:Xr)(N:Nat)(a:∀l∈y,l.length<=N)(b:1<=N):(ke d y [x]).length<=N:=by
 unfold ke;rw[Yz,List.flatMap_nil,Ya];unfold SQ;split
 ·rw[Xw];cases h:y[Au d x]? with
  | none=>simp
  | some l=>exact a l (YH h)
 ·simpa using b
theorem Wa(b:∀l∈y,l.length<=H)(c:1<=H)(e:Xs):(ke d y e).length<=H*e.length:=by
 induction e with
 | nil=>exact XX _
 | cons x e g =>
  have f:=tB d y x H b c;have a:ke d y (x :: e)=ke d y [x]++ke d y e:=by unfold ke;simp
  rw[a,XC,Ye,Nat.mul_succ];omega
theorem OT(V:Xs)(a:V.length<=10000)(k:Nat):(nQ b w H V k).length<=10000*k:=by
 induction k with
 | zero=>simp[nQ]
 | succ k c =>
  have:=KE b w H V k V.length;rw[AU,XC];omega
theorem OO(d:H<=10000):(jX b w H).length<=100000000:=by
 have a:=oL b w H;have c:(jV b w (bW b w H) (bW b w H).length).length<=(bW b w H).length:=by
  unfold jV;rw[XZ,Yl];exact YE _ _
 have:=OT b w H (jV b w (bW b w H) (bW b w H).length) (by omega) (jV b w (bW b w H) (bW b w H).length).length;unfold jX;omega
set_option maxRecDepth 100000
theorem Oy(a:Xu)(br:Xt)(cH:Nat)(A:List Sl)(a6:Xt)(cA:Nat)(V:Xs)(R:Xt)(cV:Nat)(B:List Sl)(Q:Xt)(cB:Nat)(J:World)(hD:gM J n b S x w v H)(ok:pE b w f)(ct:l<f)(cs:cD (ay w l).k=false)(hH:n8 J br a)(F:∀j∈a,j<f/\cD (ay w j).k=false)(df:a.length<=10000)(hA:cW J a6 1 Le A)(ck:rS J A)(bv:∀s∈A,iB J s.ao s.L)(db:a.length<=A.length)(c9:A.length<=100000)(hF:∀i,i<a.length->M1 w a i=true->1<(aU b w (a.getD i 0)).length)(hN:∀s∈A,0<s.L.length/\s.L.length<=10000)(hV:iB J R V)(hB:cW J Q 1 Le B)(bw:rS J B)(cq:V.length<=B.length)(cl:B.length<=100000)(a7:∀s∈B,s.L.length<=10000) :
  Calls prog 177 #[pointer (some ⟨n,0,none⟩),int i64 f,int i64 l,slice br a.length cH,slice a6 A.length cA,agg #[slice R V.length cV,slice Q B.length cB]] J fun e t=>e=returned (int i64 (te b w f l a (A.map (·.L)) V (B.map (·.L))))/\aa [] J t:=by
 obtain⟨W,HW⟩:=aP (J.alloc (.cells #[slice R V.length cV,slice Q B.length cB] 271));have BW:=dC HW.o;have u:Xq _:=dx HW.o;have hn:=ok.ok.m;have dp:=ok.sm;have ds:=ok.tm;have be:Xq _:=BW;have HD:Xq _:=hD.Zbj u.o;have a3:Xq _:=ok;have HH:Xq _:=hH.Zbj u.o;have b7:Xq _:=F;have HA:Xq _:=hA.Zbj u.o;have b5:Xq (∀s∈A,∀wx,aa [] J wx->iB wx s.ao s.L):=fun s a wx kx=>(bv s a).Zbj kx;have HF:Xq _:=hF;have HN:Xq _:=hN;obtain⟨M,bj⟩:=aP (A.map (·.L));obtain⟨d,av⟩:=aP (B.map (·.L));have a4:Xq (∀(E:Xs) (af:Xt) (cE:Nat) (wx:World),aa [] J wx->iB wx af E->E.length<=10000->Calls prog 178 #[agg #[slice R V.length cV,slice Q B.length cB],slice af E.length cE] wx fun e t=>∃h',e=returned (slice h'.ao (ke V d E).length h'.cap)/\iG wx t h' (aE (ke V d E))):=fun E af cE wx kx hE hl=>by rw[<-av.o];exact Iq V R cV B Q cB E af cE wx (hV.Zbj kx) (hB.Zbj kx) (bw.Zbj kx) cq cl hE hl a7
 have U:Xq (∀c6∈d,c6.length<=10000):=fun c6 hl=>by
  rw[<-av.o]at hl;obtain⟨s,a,rfl⟩:=YN.1 hl;exact a7 s a
 have b8:Xq (∀k,k<A.length->M.getD k []=(ik A k).L):=fun k hk=>by rw[<-bj.o];exact AC A k hk
 rw[bj.o,av.o];have ca:Xq _:=AI n l b S x w v H;have b6:Xq (dA b (ay w l).h):=ok.e l ct cs;have HR:Xq (te b w f l a M V d=if(eO (Si b w a M V d) a.length==0)=false then eO (Si b w a M V d) a.length else if(jX b w l).all (Xg b w f V d)=true then 0 else 9):=rfl;clear hD ok hH F hA ck bv hF hN hV hB bw a7;go_enter func177,ntmps177;go_upto_region 1 with fail
 rw[HW.o];go_wp2
 go_loopg [13] a.length (fun g i wr=>∃k:Nat,k<=a.length/\g=a.length-k/\i=int i64 k/\Xq (eO (Si b w a M V d) k=0)/\Xq (aa [] W wr))
 ·exact⟨0,by omega,rfl,rfl,rfl,aa.refl _ _⟩
 obtain⟨k,hk,hg,rfl,HZ,HK⟩:=hrel;rcases kn k a.length with ⟨F,cL⟩ | ⟨F,-⟩
 ·obtain⟨cF,b1⟩:=b7.o a[k] (XM F);have Z:a[k]<w.length:=by omega
  have bc:a.getD k 0=a[k]:=by rw[Xw,Xv F];rfl
  obtain⟨gH,rfl,cv,cj⟩:=(n8.Zbj HH.o HK.o) k a[k] (Xv F);have ar:Xq (Calls prog 71 #[pointer (some ⟨n,0,none⟩),int i64 ((a[k]:Nat):Int)] wr fun e t=>∃h',e=returned (slice h'.ao (bC b w[a[k]].h).length h'.cap)/\xf wr t h' (bC b w[a[k]].h)):=jI n a[k] b S x w _ H wr (gM.Zbj HD.o HK.o) Z (by omega) (by rw[bA w a[k] Z];exact a3.o.e a[k] cF b1);have bf:Xq (bC b w[a[k]].h=aU b w (a.getD k 0)):=cm (by unfold aU;rw[bc,bA w a[k] Z]);have bz:=jO b w[a[k]].h;rw[bf.o]at ar bz;have bm:Xq (M1 w a k=(w[a[k]].k.toList == [36,102])):=cm (by unfold M1;rw[bc,bA w a[k] Z]);have az:Xq _:=HF.o k F;have cc:Xq (∀t:World,aa [] W t->t.cell? ⟨gH,k,none⟩=some (int i64 ((a[k]:Nat):Int))/\gH<t.heap.size/\∃gs,v=some ⟨gs,0,none⟩/\gs<t.heap.size/\t.cell? ⟨n,1,none⟩=some (slice v w.length H)/\n<t.heap.size/\t.cell? ⟨gs,a[k]*4+3,none⟩=some (string w[a[k]].k)):=fun t kw=>by
   obtain⟨g2,e2,h2,c2⟩:=(n8.Zbj HH.o kw) k a[k] (Xv F);cases e2
   have hd:=gM.Zbj HD.o kw;obtain⟨-,s0,hb⟩:=hd.cells;obtain⟨gs,e3,ag,-,-,-,q3⟩:=hd.s.2 a[k] w[a[k]] (Xv Z);exact⟨c2,h2,gs,e3,ag,s0,hb,q3⟩
  have ai:k<A.length:=by omega
  have c:Xq (Si b w a M V d k=if M1 w a k=true then(if(((ik A k).L.getD 0 ⟨#[]⟩).toList==((aU b w (a.getD k 0)).getD 0 ⟨#[]⟩).toList)=true then 0 else 7) else if qQ (ke V d (aU b w (a.getD k 0))) (ik A k).L=true then 0 else 8):=cm (by unfold Si;rw[b8.o k ai]);have G:Xq ((Si b w a M V d k==0)=false->te b w f l a M V d=Si b w a M V d k):=fun h=>by
   have:=rk HZ.o h F;rw[HR.o,this,XA h]
  have ad:Xq (Si b w a M V d k=0->eO (Si b w a M V d) (k+1)=0):=fun h=>by rw[eO,HZ.o];exact h
  rw[bm.o]at c az;clear bf bm bc b1;have d0:((a[k]:Nat):Int)<w.length:=by omega
  have dT:(0:Int)<=((a[k]:Nat):Int):=by omega
  obtain⟨X,HX⟩:=aP (aU b w (a.getD k 0));rw[HX.o]at ar bz c az;generalize w[a[k]].k=sk at *;generalize a[k]=j at *;go_upto_region 5 with (go_at_call 71;refine Xx ar.o ?_;rintro e w1 ⟨h1,rfl,x1⟩)
  have aS:Xq _:=HK.o.trans x1.Zbw;have bp:Xq _:=x1.ZbH.srcX;obtain⟨bs,am,gs,rfl,ag,s0,b0,q3⟩:=cc.o w1 aS.o;obtain⟨a1,c1⟩:=h1;clear cj cv x1;have bx:=HN.o (ik A k) (lx A k ai);have T:Xq _:=b5.o (ik A k) (lx A k ai);have aq:Xq (∀t:World,aa [] W t->∃gA,a6=some ⟨gA,0,none⟩/\gA<t.heap.size/\t.cell? ⟨gA,k,none⟩=some (slice (ik A k).ao (ik A k).L.length (ik A k).cap)):=fun t kw=>cW.sl (cW.Zbj HA.o kw) k ai;have c5:(k:Int)<A.length:=by omega
  generalize ik A k=s at *;obtain⟨c4,b4,sL⟩:=s;simp only at T aq bx c;obtain⟨co,dk⟩:=bx;cases hf:(sk.toList == [36,102])
  ·rw[hf,Xz (by simp)]at c;go_quiet (fail);obtain⟨W2,N⟩:=aP (w1.drewN nq);(go_upto_region 8 with fail);rw[N.o];have k2:aa [] w1 W2:=by rw[<-N.o];exact(aa.refl [] w1).drewN nq
   have r:Xq _:=aS.o.trans k2;have BR:=r.o.get be.o (by simp);obtain⟨r0,r1⟩:=uY BR;have P:Xq _:=(a4.o X a1 c1 W2 (u.o.trans r.o) (iB.Zbj bp.o k2) (by omega));have c0:=Wa V d 10000 U.o (by omega) X;obtain⟨Y,HY⟩:=aP (ke V d X);rw[HY.o]at P c c0;clear bs am ag s0 b0 q3 N;(go_upto_region 9 with (go_at_call 178;refine Xx P.o ?_;rintro e w3 ⟨h3,rfl,x3⟩));have I:Xq _:=r.o.trans x3.Zbw;obtain⟨gA,rfl,cu,ch⟩:=aq.o w3 I.o;have a5:Xq _:=(II Y sL h3.ao c4 h3.cap b4 w3 x3.ZbH.srcX (T.o w3 (u.o.trans I.o)) (by omega));obtain⟨sm,cg⟩:=aP (qQ Y sL);rw[cg.o]at a5 c;clear x3 r0 r1;cases sm
   ·rw[Xz (by simp)]at c;have K:Xq _:=(G.o (by rw[c.o];rfl));rw[c.o]at K;go_wp2_with (go_at_call 132;refine Xx a5.o ?_;rintro e w4 ⟨rfl,k4⟩;have D:Xq _:=I.o.trans k4;clear k4);go_ret;exact⟨au K.o.symm,u.o.trans D.o⟩
   ·rw[XA rfl]at c;have K:Xq _:=ad.o c.o;go_wp2_with (go_at_call 132;refine Xx a5.o ?_;rintro e w4 ⟨rfl,k4⟩;have D:Xq _:=I.o.trans k4;clear k4);go_roundg (a.length-(k+1))
    ·exact⟨k+1,by omega,rfl,by go_num,K,D⟩
    omega
  ·rw[hf,XA rfl]at c;have dt:=az.o hf;obtain⟨gX,eX,cz,cX⟩:=bp.o 0 _ (oD X 0 (by omega));replace eX:a1=some ⟨gX,0,none⟩:=eX;subst eX;go_quiet (fail);obtain⟨W2,N⟩:=aP (w1.drewN nq);(go_upto_region 6 with fail);rw[N.o];have k2:aa [] w1 W2:=by rw[<-N.o];exact(aa.refl [] w1).drewN nq
   have r:Xq _:=aS.o.trans k2;obtain⟨gA,rfl,cu,ch⟩:=aq.o W2 r.o;obtain⟨g0,es,dv,c7⟩:=T.o W2 (u.o.trans r.o) 0 _ (oD sL 0 co);subst es;have c8:W2.cell? ⟨gX,0,none⟩=some (string (X.getD 0 ⟨#[]⟩)):=(by rw[XJ (k2.block gX cz (by simp))];exact cX);generalize sL.getD 0 ⟨#[]⟩=al at *;generalize X.getD 0 ⟨#[]⟩=y at *;clear bs am ag s0 b0 q3 N cX k2 nq;cases b3:(al.toList==y.toList)
   ·rw[b3,Xz (by simp)]at c;have K:Xq _:=(G.o (by rw[c.o];rfl));rw[c.o]at K;go_quiet (fail);have D:Xq _:=r.o.trans ((aa.refl [] W2).drewN nq);go_wp2;go_ret;exact⟨au K.o.symm,u.o.trans D.o⟩
   ·rw[b3,XA rfl]at c;have K:Xq _:=ad.o c.o;go_quiet (fail);have D:Xq _:=r.o.trans ((aa.refl [] W2).drewN nq);go_wp2;go_roundg (a.length-(k+1))
    ·exact⟨k+1,by omega,rfl,by go_num,K,D⟩
    omega
 ·have e:k=a.length:=by omega
  subst e;rw[HZ.o,Xz (by decide)]at HR;have cL:¬(a.length:Int)<a.length:=by omega
  have P:Xq _:=(ca.o wr (gM.Zbj HD.o HK.o) (a3.o.mono (by omega)) (by omega) b6.o);obtain⟨C,bl⟩:=aP (jX b w l);rw[bl.o]at P HR;go_upto_region 13 with (go_at_call 63;refine Xx P.o ?_;rintro e w2 ⟨h2,rfl,x2⟩)
  have r:Xq _:=HK.o.trans x2.Zbw;have cd:Xq _:=x2.ZbH.srcG SM;have dl:C.length<=100000000:=by rw[<-bl.o];exact OO b w l (by omega)
  obtain⟨ap,cp⟩:=h2;clear x2 P HZ;go_wp2
  go_loopg [18] C.length (fun g i wr=>∃m:Nat,m<=C.length/\g=C.length-m/\i=int i64 m/\Xq (∀q (O:q<C.length),q<m->Xg b w f V d C[q]=true)/\Xq (aa [] w2 wr))
  ·exact⟨0,by omega,rfl,rfl,(fun q _ h=>by omega),aa.refl _ _⟩
  obtain⟨m,hm,dz,rfl,bd,I⟩:=hrel;have D:Xq _:=r.o.trans I.o;rcases kn m C.length with ⟨ac,cR⟩ | ⟨ac,-⟩
  ·obtain⟨gP,eP,ba,cP⟩:=cd.o m C[m] (Xv ac);subst eP;have bg:Xq (∀t:World,aa [] w2 t->t.cell? ⟨gP,m*2,none⟩=some (string C[m].1)/\t.cell? ⟨gP,m*2+1,none⟩=some (string C[m].2)/\gP<t.heap.size/\t.cell? ⟨J.heap.size,0,none⟩=some (slice R V.length cV)/\t.cell? ⟨J.heap.size,1,none⟩=some (slice Q B.length cB)/\J.heap.size<t.heap.size):=fun t kw=>by
    have BR:=(r.o.trans kw).get be.o (by simp);exact⟨by rw[XJ (kw.block gP ba (by simp))];exact cP 0 _ rfl,by rw[XJ (kw.block gP ba (by simp))];exact cP 1 _ rfl,XB ba kw.size,by rw[ab BR];rfl,by rw[ab BR];rfl,ah BR⟩
   have bk:Xq (Xg b w f V d C[m]=xl b w f (ke V d [C[m].1]) (ke V d [C[m].2])):=rfl;have G:Xq (Xg b w f V d C[m]=false->te b w f l a M V d=9):=fun h=>by
    rw[HR.o,Xz];rw[YP];intro bT;have:=bT C[m] (XM ac);rw[h]at this;cases this
   have ad:Xq (Xg b w f V d C[m]=true->∀q (O:q<C.length),q<m+1->Xg b w f V d C[q]=true):=fun h q O h2=>by
    by_cases e:q=m
    ·subst e;exact h
    ·exact bd.o q O (by omega)
   generalize Xg b w f V d C[m]=mp at *;generalize C[m].1=al at *;generalize C[m].2=y at *;clear cP;obtain⟨cx,cy,an,v0,v1,b2⟩:=bg.o wr I.o;have c3:=tB V d al 10000 U.o (by omega);have d1:=tB V d y 10000 U.o (by omega);have bo:Xq (iB (wr.alloc (.cells #[string al] 9)).drew (some ⟨wr.heap.size,0,none⟩) [al]):=by
    intro q z O;have hk:(wr.alloc (.cells #[string al] 9)).drew.heap[wr.heap.size]?=some (.cells #[string al] 9):=XD _ _;refine⟨_,rfl,ah hk,?_⟩;rw[ab hk]
    match q,O with
    | 0,O=>simp at O;subst O;rfl
   (go_upto_region 16 with fail);go_region_with (go_at_call 178;refine(a4.o [al] (some ⟨wr.heap.size,0,none⟩) 1 _ (by exact((u.o.trans D.o).alloc _).drew) (by exact bo.o) (by simp)).mono ?_;rintro e w5 ⟨h5,rfl,x5⟩)
   all_goals
    have aT:Xq (aa [] w2 w5):=((I.o.alloc _).drew).trans x5.Zbw;have bq:Xq _:=x5.ZbH.srcX;obtain⟨PX,cb⟩:=aP (ke V d [al]);rw[cb.o]at bq c3 bk ⊢;have cf:Xq (iB (w5.alloc (.cells #[string y] 9)).drew (some ⟨w5.heap.size,0,none⟩) [y]):=by
     intro q z O;have hk:(w5.alloc (.cells #[string y] 9)).drew.heap[w5.heap.size]?=some (.cells #[string y] 9):=XD _ _;refine⟨_,rfl,ah hk,?_⟩;rw[ab hk]
     match q,O with
     | 0,O=>simp at O;subst O;rfl
    clear cx cy an v0 v1 b2 x5 bo;obtain⟨cx,cy,an,v0,v1,b2⟩:=bg.o w5 aT.o;(go_upto_region 17 with fail);go_region_with (go_at_call 178;refine(a4.o [y] (some ⟨w5.heap.size,0,none⟩) 1 _ (by exact(((u.o.trans r.o).trans aT.o).alloc _).drew) (by exact cf.o) (by simp)).mono ?_;rintro e w6 ⟨h6,rfl,x6⟩)
    all_goals
     have a0:Xq (aa [] w2 w6):=((aT.o.alloc _).drew).trans x6.Zbw;have ax:Xq _:=(NQ n f PX (ke V d [y]) h5.ao h6.ao h5.cap h6.cap b S x w v H w6 (gM.Zbj HD.o (r.o.trans a0.o)) a3.o (iB.Zbj bq.o ((((aa.refl [] w5).alloc _).drew).trans x6.Zbw)) x6.ZbH.srcX (by omega) (by omega));rw[<-bk.o]at ax;clear x6;cases mp
     ·have K:Xq _:=G.o rfl;go_wp2_with (go_at_call 213;refine Xx ax.o ?_;rintro e w7 ⟨rfl,k7⟩;have a2:Xq _:=(r.o.trans a0.o).trans k7;clear k7);go_ret;exact⟨au K.o.symm,u.o.trans a2.o⟩
     ·have K:Xq _:=ad.o rfl;go_wp2_with (go_at_call 213;refine Xx ax.o ?_;rintro e w7 ⟨rfl,k7⟩;have a2:Xq _:=a0.o.trans k7;clear k7);go_roundg (C.length-(m+1))
      ·exact⟨m+1,by omega,rfl,by go_num,K,a2⟩
      omega
  ·have em:m=C.length:=(by omega);have K:Xq (te b w f l a M V d=0):=by
    show _=_;rw[HR.o,XA];rw[YP];intro p hp;obtain⟨q,O,e⟩:=Yr hp;rw[<-e];exact bd.o q O (by omega)
   have cR:¬(m:Int)<C.length:=(by omega);go_wp2;go_ret;exact⟨au K.o.symm,u.o.trans D.o⟩
def xT(T:List Tk)(S:List Sm)(a:Nat)(P:List dV)(i:Nat)(M:List Xs):Xs×Int :=
 if(cn P i).ref=-2 then(M.getD (cn P i).back [],0)
 else if aG (ay S (cn P i).ref.toNat).k=false then(if 32<(aU T S (cn P i).ref.toNat).length then([],10) else(aU T S (cn P i).ref.toNat,0))
 else if fj P i<0 then([],6)
 else
  let hs:=bW T S (cn P i).ref.toNat
  let on:=(pi P i).map (fun q=>M.getD q [])
  let why:=te T S a (cn P i).ref.toNat hs on (jc T S hs hs.length) (iE S hs on hs.length)
  if(why==0)=false then([],why)
  else if 32<(ke (jc T S hs hs.length) (iE S hs on hs.length) (aU T S (cn P i).ref.toNat)).length then([],10)
  else(ke (jc T S hs hs.length) (iE S hs on hs.length) (aU T S (cn P i).ref.toNat),0)
structure ri(w:World)(s:Sl):Prop where
 ok:su w s
 x:iB w s.ao s.L
 pos:0<s.L.length
 le:s.L.length<=10000
theorem ri.Zbj{s:Sl}(h:ri a s)(b:aa [] a k):ri k s:=⟨h.ok.Zbj b,h.x.Zbj b,h.pos,h.le⟩
def CB(T:List Tk)(S:List Sm)(n:Nat):Prop:=∀j,j<n->(aG (ay S j).k||aK (ay S j).k)=true->0<(aU T S j).length/\(((ay S j).k.toList == [36,102])=true->1<(aU T S j).length)
structure QF(T:List Tk)(S:List Sm)(a:Nat)(P:List dV)(i:Nat):Prop where
 Zbu:((cn P i).ref=-2/\(cn P i).back<i)∨∃r,r<a/\(cn P i).ref=(r:Nat)/\(aG (ay S r).k||aK (ay S r).k)=true/\(aG (ay S r).k=true->(cn P i).need=(bW T S r).length)
theorem tY:∀j∈bW b w H,j<H/\cD (ay w j).k=false/\aK (ay w j).k=true:=fun j c=>by
 have d:=wt b w H j c;have a:=(Yt.1 c).2;unfold vi at a;rw[XU,Yo,XU]at a;rcases a.2 with h | ⟨h,-⟩
 all_goals
  exact⟨d,iq h (by decide),by unfold aK;rw[h];simp⟩
def QE(w:World)(A:List Sl)(r:Xs×Int)(e:Ending)(w':World):Prop:=∃s:Sl,e=returned (tuple #[slice s.ao s.L.length s.cap,int i64 r.2])/\s.L=r.1/\((r.2==0)=true->ri w' s)/\(s∈A∨∀q o,s.ao=some ⟨q,o,none⟩->w.heap.size<=q)/\aa [] w w'
theorem QW(e:i.ao=some ⟨D,o,none⟩):i.Zbx=some D:=by unfold Hd.Zbx;rw[e];rfl
theorem uk{A:List Sl}{r:Xs×Int}{e:Ending}(b:r.1=[])(c:(r.2==0)=false)(d:e=returned (tuple #[slice none 0 0,int i64 r.2]))(f:aa [] a k):QE a A r e k :=
 ⟨⟨none,0,[]⟩,d,b.symm,fun h=>(by rw[c]at h;cases h),XK (fun q o e=>by cases e),f⟩
theorem iG.sh(b:iG a k i (aE T))(c:0<T.length)(d:T.length<=10000):ri k ⟨i.ao,i.cap,T⟩:=⟨b.sl,b.ZbH.srcX,c,d⟩
theorem qh{α:Type}(R:Xu)(f:Nat->α)(k:Nat)(h:k<R.length):(R.take (k+1)).map f=(R.take k).map f++[f R[k]]:=by
 rw[Yc h,Yj];rfl
theorem RK{x:Xr}(h:aN T x=false):Au T x=T.length:=by
 refine RI rfl (fun j a _=>?_);unfold aN at h;rw[ZL]at h;have:=h T[j] (XM a);simpa using this
theorem Wb{B:List Xs}{X:Xs}(a:0<X.length)(h:aN T (X.getD 0 ⟨#[]⟩)=false):0<(ke T B X).length:=by
 cases X with
 | nil=>simp at a
 | cons x X =>
  have e:(x :: X).getD 0 ⟨#[]⟩=x:=rfl;rw[e]at h;unfold ke;rw[Yz,XC];unfold SQ;rw[RK h,Xz (by omega)];simp;omega
theorem O0{S:List Sm}{b:Xu}{M:List Xs}(h:∀l∈M,l.length<=o):∀l∈iE S b M D,l.length<=o:=by
 intro l a;unfold iE at a;obtain⟨i,-,rfl⟩:=YN.1 a;rw[Ym,Xw];cases e:M[i]? with
 | none=>simp
 | some m=>have:=h m (YH e);show m.length-1<=o;omega
def zag(T:List Tk)(S:List Sm)(n:Nat):Prop:=∀r,r<n->aG (ay S r).k=true->aN (jc T S (bW T S r) (bW T S r).length) ((aU T S r).getD 0 ⟨#[]⟩)=false
theorem Px(P:List dV)(bv:Xt)(cP:Nat)(y:Int)(pf:Xr)(pl pc:Int)(A:List Sl)(cV:Xt)(cA:Nat)(t:World)(hD:gM t n b S x w v H)(ok:pE b w f)(hB:CB b w f)(c8:zag b w f)(hn:f<w.length)(hP:cW t bv 6 mG P)(c5:P.length<=100000000)(bT:UH P)(hi:l<P.length)(c7:QF b w f P l)(hA:cW t cV 1 Le A)(c0:∀s∈A,ri t s)(eE:A.length=l) :
  Calls prog 130 #[pointer (some ⟨n,0,none⟩),int i64 f,agg #[slice bv P.length cP,int i64 y,string pf,int i64 pl,int i64 pc],int i64 l,slice cV A.length cA] t fun e w'=>QE t A (xT b w f P l (A.map (·.L))) e w':=by
 obtain⟨W,HW⟩:=aP (t.alloc (.cells #[slice bv P.length cP,int i64 y,string pf,int i64 pl,int i64 pc] 122));have BW:=dC HW.o;have cq:Xq _:=dx HW.o;obtain⟨p0,-⟩:=nJ BW;have eV:(l:Int)<P.length:=by omega
 obtain⟨gP,rfl,es,q0,q1,q2,q3,q4,q5⟩:=cW.step (hP.Zbj cq.o) l hi;have HP:Xq _:=hP;have HD:Xq _:=hD;have ac:Xq _:=ok;have cg:Xq _:=hB;have eh:Xq _:=c8;have HA:Xq _:=hA;have ca:Xq _:=c0;have eL:=ok.sm;have eP:=ok.tm;obtain⟨M,cs⟩:=aP (A.map (·.L));have ct:Xq (∀k,k<A.length->M.getD k []=(ik A k).L):=fun k hk=>by rw[<-cs.o];exact AC A k hk
 rw[cs.o];have dT:Xq _:=xj P (some ⟨gP,0,none⟩) cP y pf pl pc c5 bT (l+1) l;have cx:Xq (∀c,cW c (some ⟨gP,0,none⟩) 6 mG P->0<=fj P l->Calls prog 101 #[agg #[slice (some ⟨gP,0,none⟩) P.length cP,int i64 y,string pf,int i64 pl,int i64 pc],int i64 l] c fun e w'=>∃g,e=returned (slice (some ⟨g,0,none⟩) (cn P l).need (cn P l).need)/\ce w' g (pi P l)/\aa [] c w'):=fun c h1 h2=>Pd P _ cP y pf pl pc l c c5 bT hi h1 h2;have ai:Xq _:=Pe P l;have cv:Xq _:=Th P l
 have a:Xq (xT b w f P l M=if(cn P l).ref=-2 then(M.getD (cn P l).back [],0)
  else if aG (ay w (cn P l).ref.toNat).k=false then(if 32<(aU b w (cn P l).ref.toNat).length then([],10) else(aU b w (cn P l).ref.toNat,0))
  else if fj P l<0 then([],6)
  else
   let d:=bW b w (cn P l).ref.toNat
   let on:=(pi P l).map (fun q=>M.getD q [])
   let aq:=te b w f (cn P l).ref.toNat d on (jc b w d d.length) (iE w d on d.length)
   if(aq==0)=false then([],aq)
   else if 32<(ke (jc b w d d.length) (iE w d on d.length) (aU b w (cn P l).ref.toNat)).length then([],10)
   else(ke (jc b w d d.length) (iE w d on d.length) (aU b w (cn P l).ref.toNat),0)):=rfl
 have ap:=c7.Zbu;have dv:Xq _:=BW;clear c7 hD ok hB hP hA c0 bT c8;obtain⟨iL,et,dp,ds,dt⟩:=XV J7;generalize cn P l=st at *;obtain⟨sr,sb,sn,sf,sl,sc⟩:=st;simp only at q0 q1 q2 q3 q4 q5 ap a cx ai;obtain⟨W1,aT⟩:=aP (W.alloc (.cells #[int i64 sr,int i64 (sb:Int),int i64 (sn:Int),string sf,int i64 sl,int i64 sc] 162));have B1:=dC aT.o;have b7:=dx aT.o;have G:Xq _:=cq.o.trans b7;have F:Xq (∀c:World,aa [] W1 c->(c.cell? ⟨W.heap.size,0,none⟩=some (int i64 sr)/\c.cell? ⟨W.heap.size,1,none⟩=some (int i64 (sb:Int))/\W.heap.size<c.heap.size)/\(c.cell? ⟨t.heap.size,0,none⟩=some (slice (some ⟨gP,0,none⟩) P.length cP)/\c.cell? ⟨t.heap.size,1,none⟩=some (int i64 y)/\c.cell? ⟨t.heap.size,2,none⟩=some (string pf)/\c.cell? ⟨t.heap.size,3,none⟩=some (int i64 pl)/\c.cell? ⟨t.heap.size,4,none⟩=some (int i64 pc)/\t.heap.size<c.heap.size)):=fun c kx=>by
  have b1:=kx.get B1 (by simp);have b0:=(b7.trans kx).get dv.o (by simp);exact⟨⟨by rw[ab b1];rfl,by rw[ab b1];rfl,ah b1⟩,by rw[ab b0];rfl,by rw[ab b0];rfl,by rw[ab b0];rfl,by rw[ab b0];rfl,by rw[ab b0];rfl,ah b0⟩
 clear B1 b7 BW;obtain⟨⟨K,s1,m⟩,p1,p2,p3,p4,p5,D⟩:=F.o W1 (aa.refl _ _);rcases ap with ⟨rfl,eS⟩ | ⟨r,hr,rfl,a1,a3⟩
 ·rw[XA rfl]at a;have a2:sb<A.length:=by omega
  obtain⟨gA,rfl,er,bw⟩:=cW.sl (cW.Zbj HA.o G.o) sb a2;have HO:Xq _:=(ca.o (ik A sb) (lx A sb a2)).Zbj G.o;have ea:Xq (ik A sb∈A):=lx A sb a2;rw[ct.o sb a2]at a;generalize ik A sb=s at *;obtain⟨N,p,sL⟩:=s;simp only at bw a;go_enter func130,ntmps130;go_upto_region 1 with fail
  rw[HW.o];go_upto_region 2 with fail
  rw[aT.o];go_wp2;go_ret2;rw[a.o];exact⟨⟨N,p,sL⟩,rfl,rfl,fun _=>HO.o,XQ ea.o,G.o⟩
 ·have J:r<w.length:=by omega
  rw[Xz (by omega),YO]at a;have e1:(((r:Nat):Int) == -2)=false:=Za4 (by omega);have e2:((r:Nat):Int)<w.length:=by omega
  have e0:(0:Int)<=((r:Nat):Int):=by omega
  have C:cD (ay w r).k=false:=by
   unfold aG aK at a1;simp only[Bool.or_eq_true]at a1;rcases a1 with (h | h) | (h | h) <;> exact iq h (by decide)
  have cc:Xq (∀c,aa [] t c->Calls prog 71 #[pointer (some ⟨n,0,none⟩),int i64 ((r:Nat):Int)] c fun e w'=>∃h',e=returned (slice h'.ao (aU b w r).length h'.cap)/\xf c w' h' (aU b w r)):=fun c kx=>by
   have:=jI n r b S x w v H c (gM.Zbj HD.o kx) J (by omega) (by rw[bA w r J];exact ac.o.e r hr C);rw[bA w r J]at this;exact this
  obtain⟨b2,-⟩:=cg.o r hr a1;have ep:(aU b w r).length<=b.length:=jO b _;obtain⟨X,HX⟩:=aP (aU b w r);rw[HX.o]at cc a b2 ep;have eg:Xq (∀c:World,aa [] t c->∃gs,v=some ⟨gs,0,none⟩/\gs<c.heap.size/\c.cell? ⟨n,1,none⟩=some (slice v w.length H)/\n<c.heap.size/\c.cell? ⟨gs,r*4+3,none⟩=some (string (ay w r).k)):=fun c kx=>by
   have hd:=gM.Zbj HD.o kx;obtain⟨-,K,hb⟩:=hd.cells;obtain⟨gs,e3,b3,-,-,-,q3⟩:=hd.s.2 r w[r] (Xv J);rw[bA w r J]at q3;exact⟨gs,e3,b3,K,hb,q3⟩
  have cd:Xq _:=cc.o W1 G.o;go_enter func130,ntmps130;go_upto_region 1 with fail
  rw[HW.o];go_upto_region 2 with fail
  rw[aT.o];clear q0 q1 q2 q3 q4 q5 p0 es;go_upto_region 5 with (go_at_call 71;refine Xx cd.o ?_;rintro e w2 ⟨h2,rfl,x2⟩)
  have co:Xq _:=G.o.trans x2.Zbw;have cB:Xq _:=x2.Zbw;have d4:Xq _:=x2.toL;clear x2 K s1 m p1 p2 p3 p4 p5 D;obtain⟨⟨K,s1,m⟩,p1,p2,p3,p4,p5,D⟩:=F.o w2 cB.o;obtain⟨gs,rfl,b3,t0,eq,t1⟩:=eg.o w2 co.o;obtain⟨sk,cL⟩:=aP ((ay w r).k);rw[cL.o]at t1 a a3;obtain⟨cX,br⟩:=aP (aG sk);have b8:Xq (∀c,Calls prog 121 #[string sk] c fun e w'=>e=returned (bool cX)/\w'=c):=fun c=>by rw[<-br.o];exact im sk c
  rw[br.o]at a a3;go_quiet ((go_at_call 121;exact XW (b8.o _)));go_upto_region 6 with fail
  obtain⟨w3,bs⟩:=aP (w2.drewN nq);rw[bs.o];have k3:aa [] w2 w3:=by rw[<-bs.o];exact(aa.refl [] w2).drewN nq
  have V:Xq _:=co.o.trans k3;have cE:Xq _:=cB.o.trans k3;have bm:Xq _:=d4.o.Zbj k3;clear K s1 m p1 p2 p3 p4 p5 D b3 t0 eq t1 k3 bs b8;obtain⟨⟨K,s1,m⟩,p1,p2,p3,p4,p5,D⟩:=F.o w3 cE.o;cases cX
  ·rw[XA rfl]at a;by_cases al:32<X.length
   ·rw[XA al]at a;have am:(32:Int)<X.length:=(by omega);go_wp2;go_ret2;rw[a.o];exact uk rfl rfl rfl V.o
   ·rw[Xz al]at a;have am:¬(32:Int)<X.length:=(by omega);go_wp2;go_ret2;rw[a.o];exact⟨⟨h2.ao,h2.cap,X⟩,rfl,rfl,fun _=>bm.o.sh b2 (by omega),XK (fun q o e=>XF G.o.size (bm.o.far q (QW e))),V.o⟩
  ·rw[Xz (by simp)]at a;have bp:Xq (sn=(bW b w r).length):=a3 rfl;clear a3;have bj:Xq _:=dT.o w3 (by omega) hi (cW.Zbj HP.o V.o);by_cases db:fj P l<0
   ·rw[XA db]at a;generalize fj P l=bg at *;go_wp2_with (go_at_call 131;refine Xx bj.o ?_;rintro e w4 ⟨rfl,k4⟩;have ar:Xq _:=V.o.trans k4;clear k4);go_ret2;rw[a.o];exact uk rfl rfl rfl ar.o
   ·rw[Xz db]at a;have cu:Xq (∀c,aa [] t c->Calls prog 101 #[agg #[slice (some ⟨gP,0,none⟩) P.length cP,int i64 y,string pf,int i64 pl,int i64 pc],int i64 l] c fun e w'=>∃g,e=returned (slice (some ⟨g,0,none⟩) sn sn)/\ce w' g (pi P l)/\aa [] c w'):=fun c kx=>cx.o c (cW.Zbj HP.o kx) (by omega);have az:Xq _:=(cv.o (by omega));obtain⟨R,HR⟩:=aP (pi P l);rw[HR.o]at cu az a ai;generalize fj P l=bg at *;(go_upto_region 11 with (go_at_call 131;refine Xx bj.o ?_;rintro e w4 ⟨rfl,k4⟩));have ar:Xq _:=V.o.trans k4;have cF:Xq _:=cE.o.trans k4;have d5:Xq _:=bm.o.Zbj k4;clear K s1 m p1 p2 p3 p4 p5 D k4;obtain⟨⟨K,s1,m⟩,p1,p2,p3,p4,p5,D⟩:=F.o w4 cF.o;have ba:Xq _:=cu.o w4 ar.o;(go_upto_region 14 with (go_at_call 101;refine Xx ba.o ?_;rintro e w5 ⟨g5,rfl,i5,k5⟩));have d3:Xq _:=ar.o.trans k5;have ej:Xq _:=cF.o.trans k5;have d6:Xq _:=d5.o.Zbj k5;have d2:Xq _:=i5;have eb:Xq (iG w5 w5 ⟨none,0⟩ (nj [])):=⟨XE _ _ _ _,(by intro k hk;cases hk),aa.refl _ _⟩;clear K s1 m p1 p2 p3 p4 p5 D k5 i5 ba bj;have e4:sn<=10000:=(by rw[bp.o];have:=oL b w r;omega);go_wp2
    go_loopg [17,18] sn (fun g o kv wr=>∃(k:Nat) (h:Hd) (O:List Sl),k<=sn/\g=sn-k/\o=slice h.ao O.length h.cap/\kv=int i64 k/\O.length<=k/\Xq (O=(R.take k).map (ik A))/\Xq (iG w5 wr h (nj O)))
    ·exact⟨0,⟨none,0⟩,[],by omega,rfl,rfl,rfl,Xy _,by show _=_;simp,eb⟩
    obtain⟨k,h,O,hk,hg,rfl,rfl,eH,HO,z⟩:=hrel;have bl:Xq _:=d3.o.trans z.o.Zbw;have cH:Xq _:=ej.o.trans z.o.Zbw;rcases kn k sn with ⟨dk,ev⟩ | ⟨dk,-⟩
    ·have b4:k<R.length:=(by rw[ai.o];exact dk);have eY:=az.o R[k] (XM b4);have ex:R[k]<A.length:=(by omega);obtain⟨g6,e6,eT,c6⟩:=(ce.src (show ce wr g5 R from z.o.Zbw.get d2.o (by simp))) k R[k] (Xv b4);cases e6
     obtain⟨gA,rfl,er,bw⟩:=cW.sl (cW.Zbj HA.o bl.o) R[k] ex;have ef:Xq (O++[ik A R[k]]=(R.take (k+1)).map (ik A)):=cm (by rw[qh R _ k b4,HO.o]);have eX:(0:Int)<=((R[k]:Nat):Int):=(by omega);generalize ik A R[k]=s at *;generalize R[k]=q at *;obtain⟨N,p,sL⟩:=s;simp only at bw;have eo:=z.o.ZbH;have en:(nj O).n<=900000000:=by show O.length<=_;omega
     go_wp2_with (at_builtin;refine cQ _ rfl (.tmp 70) (.tmp 78) 218 rfl iL (slice none 0 0) 24 h (nj O) [slice N sL.length p] underlying218 et dp ds dt rfl XR rfl eo en (by omega) rfl rfl (by simp[Value.oneCell']) ?_;intro h7 w7 b6 df;rw[show([slice N sL.length p]:List Value)=Le ⟨N,p,sL⟩ from rfl,ui]at b6;have d9:Xq _:=z.o.Zbt df b6;clear b6 df);go_roundg (sn-(k+1))
     ·exact⟨k+1,h7,O++[⟨N,p,sL⟩],by omega,rfl,by simp[nj,lu],by go_num,by simp;omega,ef,d9⟩
     omega
    ·have ek:k=sn:=(by omega);subst ek;have bq:Xq (O=R.map (ik A)):=cm (by rw[HO.o,YV (by rw[ai.o];exact Xy _)]);have af:Xq (O.length=k):=cm (by rw[bq.o,XZ,ai.o]);have ed:Xq (O.map (·.L)=R.map (fun q=>M.getD q [])):=by
      show _=_;rw[bq.o,Zat];refine YU (fun q hq=>?_);have:=az.o q hq;exact(ct.o q (by omega)).symm
     have u:Xq (∀s∈O,∀c,aa [] t c->ri c s):=fun s d c kx=>by
      rw[bq.o]at d;obtain⟨q,hq,rfl⟩:=YN.1 d;have:=az.o q hq;exact(ca.o _ (lx A q (by omega))).Zbj kx
     have ev:¬(k:Int)<(k:Int):=(by omega);rw[<-ed.o]at a;have bk:Xq _:=(oM n r b S x w _ H wr (gM.Zbj HD.o bl.o) (ac.o.mono (by omega)) J (ac.o.e r hr C));have T:Xq _:=tY b w r;have aS:Xq _:=(eh.o r hr (by rw[cL.o];exact br.o));rw[HX.o]at aS;have bz:(bW b w r).length<=10000:=by have:=oL b w r;omega
     obtain⟨i,d1⟩:=aP (bW b w r);rw[d1.o]at bk T a bp aS bz;obtain⟨⟨K,s1,m⟩,-⟩:=F.o wr cH.o;(go_upto_region 20 with (go_at_call 61;refine Xx bk.o ?_;rintro e w7 ⟨h7,rfl,x7⟩));have Z:Xq _:=bl.o.trans x7.Zbw;have el:Xq _:=cH.o.trans x7.Zbw;have d7:Xq _:=(d6.o.Zbj z.o.Zbw).Zbj x7.Zbw;have ec:Xq _:=z.o.Zbj x7.Zbw;have bc:Xq _:=x7.ZbH.srcN;have bd:Xq _:=ec.o.ZbH.srcG zw;have c3:∀l,l<i.length->M1 w i l=true->1<(aU b w (i.getD l 0)).length:=fun q hq b5=>by
      have e:i.getD q 0=i[q]:=(by rw[Xw,Xv hq];rfl);unfold M1 at b5;rw[e]at b5 ⊢;obtain⟨j1,-,j3⟩:=T.o i[q] (XM hq);exact(cg.o i[q] (by omega) (by rw[j3];simp)).2 b5
     have ck:Xq _:=c3;have bf:i.length<=O.length:=(by rw[af.o,bp.o];exact Xy _);have c4:O.length<=100000:=(by have:=af.o;omega);have ag:Xq _:=(Pa n f b S x w _ H i h7.ao h7.cap O h.ao h.cap w7 (gM.Zbj HD.o Z.o) ac.o bc.o (fun j hj=>by have:=(T.o j hj).1;omega) bz bd.o (fun s d=>(u.o s d w7 Z.o).ok) bf ck.o (fun s d=>(u.o s d w7 Z.o).pos));clear c3 K s1 m x7 bk;obtain⟨VV,cz⟩:=aP (jc b w i i.length);rw[cz.o]at ag a aS;have ei:Xq (VV.length=(Cn w i i.length).length):=cm (by rw[<-cz.o];unfold jc;simp);obtain⟨OM,ad⟩:=aP (O.map (·.L));rw[ad.o]at ag a;have cj:Xq ((iE w i OM i.length).length=(Cn w i i.length).length):=cm (by unfold iE;simp);have cl:Xq ((Cn w i i.length).length<=i.length):=by
      show _<=_;unfold Cn;have:=YE (M1 w i) (List.range i.length);rw[YW]at this;exact this
     have a7:Xq (∀eA∈iE w i OM i.length,eA.length<=10000):=O0 (fun eA hl=>by
      rw[<-ad.o]at hl;obtain⟨s,d,rfl⟩:=YN.1 hl;exact(u.o s d w7 Z.o).le)
     obtain⟨BV,d0⟩:=aP (iE w i OM i.length);rw[d0.o]at ag a cj a7;(go_upto_region 21 with (go_at_call 176;refine Xx ag.o ?_;rintro e w8 ⟨hv,hb,B,rfl,an,c2,nv,nb⟩));obtain⟨W8,a0⟩:=aP (w8.alloc (.cells #[slice hv.ao VV.length hv.cap,slice hb.ao B.length hb.cap] 271));rw[a0.o];have k8:=dx a0.o;have B8:=dC a0.o;have E:=nv.Zbw.trans k8;have I:Xq _:=Z.o.trans E;have em:Xq _:=el.o.trans E;have a6:Xq (B.length=(Cn w i i.length).length):=cm (by rw[<-cj.o,<-an,XZ]);have c9:VV.length<=B.length:=(by rw[ei.o,a6.o];exact Xy _);have c1:B.length<=100000:=(by have:=cl.o;rw[a6.o];omega);have a5:Xq (∀s∈B,s.L.length<=10000):=fun s d=>a7.o s.L (by rw[<-an];exact YN.2 ⟨s,d,rfl⟩);have cy:Xq _:=nv.ZbH.srcX.Zbj k8;have ch:Xq _:=(nb.ZbH.srcG zw).Zbj k8;have cb:Xq _:=c2.Zbj E;have bo:Xq _:=(Oy n f r b S x w _ H i h7.ao h7.cap O h.ao h.cap VV hv.ao hv.cap B hb.ao hb.cap W8 (gM.Zbj HD.o I.o) ac.o hr C (n8.Zbj bc.o E) (fun j hj=>⟨by have:=(T.o j hj).1;omega,(T.o j hj).2.1⟩) bz (cW.Zbj bd.o E) (fun s d=>(u.o s d W8 I.o).ok) (fun s d=>(u.o s d W8 I.o).x) bf c4 ck.o (fun s d=>⟨(u.o s d W8 I.o).pos,(u.o s d W8 I.o).le⟩) cy.o ch.o cb.o c9 c1 a5.o);rw[ad.o,an]at bo;obtain⟨aq,cR⟩:=aP (te b w f r i OM VV BV);rw[cR.o]at bo a;obtain⟨⟨K,s1,m⟩,-⟩:=F.o W8 em.o;obtain⟨v0,v1⟩:=uY B8;have dz:Xq _:=B8;have d8:Xq _:=d7.o.Zbj E;have cf:Xq _:=an;clear k8 E nv nb c2 B8 ag a0 an;(go_upto_region 22 with (go_at_call 177;refine Xx bo.o ?_;rintro e w9 ⟨rfl,k9⟩));have av:Xq _:=I.o.trans k9;cases a4:(aq==0)
     ·rw[XA a4]at a;go_wp2;go_ret2;rw[a.o];exact uk rfl a4 rfl av.o
     ·rw[Xz (by rw[a4];simp)]at a;have ey:aq=0:=(by simpa using a4);subst ey;have ax:Xq _:=(Iq VV hv.ao hv.cap B hb.ao hb.cap X h2.ao h2.cap w9 (iB.Zbj cy.o k9) (cW.Zbj ch.o k9) (rS.Zbj cb.o k9) c9 c1 (iB.Zbj d8.o.ZbH.srcX k9) (by omega) a5.o);rw[cf.o]at ax;have dl:=Wb (B:=BV) b2 aS.o;have B9:=k9.get dz.o (by simp);obtain⟨Y,HY⟩:=aP (ke VV BV X);rw[HY.o]at ax a dl;obtain⟨v3,v4⟩:=uY B9;clear k9 v0 v1 K s1 m;by_cases al:32<Y.length
      ·rw[XA al]at a;have am:(32:Int)<Y.length:=(by omega);go_wp2_with (go_at_call 178;refine Xx ax.o ?_;rintro e ez ⟨bx,rfl,Q⟩;have U:Xq _:=av.o.trans Q.Zbw;clear Q);go_ret2;rw[a.o];exact uk rfl rfl rfl U.o
      ·rw[Xz al]at a;have am:¬(32:Int)<Y.length:=(by omega);go_wp2_with (go_at_call 178;refine Xx ax.o ?_;rintro e ez ⟨bx,rfl,Q⟩;have U:Xq _:=av.o.trans Q.Zbw;have be:Xq _:=Q;clear Q);go_ret2;rw[a.o];exact⟨⟨bx.ao,bx.cap,Y⟩,rfl,rfl,fun _=>be.o.sh dl (by omega),XK (fun q o e=>XF av.o.size (be.o.far q (QW e))),U.o⟩
end Go.Proofs.YtpdholcaobgofaaGreat
