import Derived.Test.YtnbhnocdhbcbcaaGreatU16
namespace Go.Proofs.YtnbhnocdhbcbcaaGreat
open Go.RowKit Tryz
open Value IntKind Ending
set_option maxHeartbeats 0
variable{T M s:World}{L:Hd}{z0:ew}{v:Nat}{y7:Xu}{t:Xv}{d:List ci}{z6:Nat->Int}(o H S:Nat)(k:Xt)(l:Nat)(w:List Tk)(z4:Xu)(I:Nat)(b:List Sm)(f:List ci)(D:Xu)(i:Nat)(z7:Int)(N:Xs)(y5 y6:Int)(x:World)(n:Xv)(y:Nat)
theorem cI{P:Program}{k:Array Oper}{d:List Oper}{o:Oper}{a:Act}{Q:Exit->Act->World->Prop}(I:o.guard=none)(s q:Operand)(t:TypeId)(p:o.op=Op.call { callee:=Callee.builtin Builtin.append,args:=#[s,q],argTypes:=#[t,t] })(i:TypeInfo)(z:Value)(c:Nat)(h:Hd)(r:ew)(b:List Value)(y:P.underlying t=some (.slice r.e))(A:P.info? r.e=some i)(B:i.zero=some z)(C:i.size=r.size)(D:i.bytes=c)(E:z.cells.size=r.size)(F:0<r.size)(L:a.eval s=slice h.ao r.n h.cap)(g:aB x h r)(R:r.n<=900000000)(H:c<=1000)(M:a.eval q=slice (some ⟨x.heap.size,0,none⟩) 1 1)(S:b.length=r.size)(m:∀u∈b,u.oneCell'=true)(G:∀f l,aB l f ⟨r.e,r.size,r.n+1,r.xs++b⟩->bJ x l h f->wpList P k Q d (a.put o.dst (slice f.ao (r.n+1) f.cap)) l) :
  wpList P k Q (o :: d) a (x.alloc (.cells b.toArray r.e)):=by
 have v:ae [] x (x.alloc (.cells b.toArray r.e)):=bM.alloc _;have K:(x.alloc (.cells b.toArray r.e)).heap[x.heap.size]?=some (.cells b.toArray r.e):=Ui _ _;refine dW _ I s q t p i z c h r y A B C D E F L (g.Yh v) (some ⟨x.heap.size,0,none⟩) 1 1 b M (by omega) (fun e=>by cases e) ?_ m (by omega) H ?_
 ·intro O e j u J;cases e
  rw[bS,ah K];simpa using J
 ·intro f l N w;exact G f l N ((bJ.Yh v).trans w)
def pK(w:World)(p:jW)(e:Ending)(w':World):Prop:=∃h',e=returned (Tb p h')/\ip w w' h' (fB p.st)
theorem iD{p:jW}{e:Ending}(a:p.st=[])(b:e=returned (agg #[slice none 0 0,int i64 p.why,string p.YB,int i64 p.YC,int i64 p.YD]))(k:ae [] T M):pK T p e M :=
 ⟨⟨none,0⟩,by rw[b,Tb,a];rfl,by rw[a];exact⟨Uj _ _ _ _,(by intro k c;cases c),k⟩⟩
theorem aB.Yq(o:aB T L z0)(c:∀k,L.Yv=some k->k≠v)(i:Nat)(b:Value):aB (T.setCell ⟨v,i,none⟩ b) L z0:=by
 have k:ae [v] T (T.setCell ⟨v,i,none⟩ b):=(ae.refl _ _).sl1 _;exact o.Ym (fun q a=>k.block q (o.lt a) (by simp;exact c q a))
theorem J3{α:Type}(L:List α)(k:Nat)(h:k<L.length):L.drop k=L[k] :: L.drop (k+1):=UB h
set_option maxRecDepth 100000
theorem LJ(b6:Xu)(cR:Nat)(L:List Lt)(b5:Xu)(cL:Nat)(B:Lt)(F:World)(hD:ge F S w z4 I b D i)(ok:pM w b l)(hR:qA F b6 n)(hr:∀r∈n,r<l)(dt:n.length<=30000)(hL:cN F b5 4 Ta L)(c6:L.length<=20000000)(a3:∀cl∈L,0<=cl.c/\cl.c<256) :
  Calls prog 177 #[pointer (some ⟨S,0,none⟩),slice b6 n.length cR,slice b5 L.length cL,agg #[string B.YB,int i64 B.YC,int i64 B.YD]] F fun e w'=>pK F (km w b n B L) e w':=by
 have HD:Xr _:=hD;have cr:Xr _:=ok;have HR:Xr _:=hR;have HL:Xr _:=hL;have cp:Xr _:=a3;have ct:Xr _:=hr;obtain⟨iN,cF,ch,cj,ck⟩:=UC BJ;obtain⟨iP,bw,bf,bg,bj⟩:=UC Nx;have S0:Xr (Iq F (((F.alloc (.cells #[string B.YB,int i64 B.YC,int i64 B.YD] 36)).alloc (.cells #[slice none 0 0,int i64 0,string ⟨#[]⟩,int i64 0,int i64 0] 122)).alloc (.cells #[slice none 0 0,int i64 0,string ⟨#[]⟩,int i64 0,int i64 0] 122)) B [] ⟨none,0⟩ [] ⟨none,0⟩):=by
  obtain⟨W1,bo⟩:∃W1,W1=F.alloc (.cells #[string B.YB,int i64 B.YC,int i64 B.YD] 36):=⟨_,rfl⟩
  obtain⟨W2,bp⟩:∃W2,W2=W1.alloc (.cells #[slice none 0 0,int i64 0,string ⟨#[]⟩,int i64 0,int i64 0] 122):=⟨_,rfl⟩
  have z1:W1.heap.size=F.heap.size+1:=by rw[bo];simp
  have z2:W2.heap.size=F.heap.size+2:=by rw[bp];simp[z1]
  have k1:=fg bp.symm;have k0:=fg bo.symm;have k2:ae [] W2 (W2.alloc (.cells #[slice none 0 0,int i64 0,string ⟨#[]⟩,int i64 0,int i64 0] 122)):=bM.alloc _;have e0:=fE bo.symm;have e1:W2.heap[F.heap.size+1]?=some (.cells #[slice none 0 0,int i64 0,string ⟨#[]⟩,int i64 0,int i64 0] 122):=by rw[bp,<-z1];exact Ui _ _
  show Iq _ _ _ _ _ _ _;rw[<-bo,<-bp];exact⟨k2.get (k1.get e0 (by simp)) (by simp),k2.get e1 (by simp),by rw[<-z2];exact Ui _ _,Uj _ _ _ _,Uj _ _ _ _,(by intro k hk;cases hk),(by intro k hk;cases hk),(by intro k hk;cases hk),(k0.trans k1).trans k2⟩
 clear hD ok hR hL a3 hr;go_enter func177,ntmps177;go_wp2
 go_loopg [10,11,12,13] L.length (fun g tg nm fr d0 wr=>∃(k:Nat) (h:Hd) (P:List ci) (ht:Hd) (d:Xv) (u:Xs) (f:Bool),k<=L.length/\g=L.length-k/\tg=slice ht.ao d.length ht.cap/\nm=string u/\fr=bool f/\d0=int i64 k/\(P.length<=k/\d.length<=k/\u.size<=k)/\Xr (f=true->0<P.length)/\Xr (mP w b n B (L.drop k) P d u f=km w b n B L)/\Xr (Iq F wr B P h d ht))
 ·exact⟨0,⟨none,0⟩,[],⟨none,0⟩,[],⟨#[]⟩,false,by omega,rfl,rfl,rfl,rfl,rfl,⟨Ue _,Ue _,Ue _⟩,(fun h=>by cases h),rfl,S0⟩
 obtain⟨k,h,P,ht,d,u,f,hk,hg,rfl,rfl,rfl,rfl,⟨c8,dz,dp⟩,HF,x,E⟩:=hrel;obtain⟨⟨V,W,X⟩,⟨ag,ai,al,an,ap⟩,⟨Y,Z,ac,ad,af⟩,⟨ax,az,aS,aT,a0⟩,ar,a4⟩:=E.o.cells;have G:Xr _:=E.o.Yu;rcases kn k L.length with ⟨bd,dl⟩ | ⟨bd,-⟩
 ·obtain⟨gL,rfl,cc,ba⟩:=(cN.Yh HL.o G.o) k L[k] (Ub bd);have l0:wr.cell? ⟨gL,k*4,none⟩=some (int u8 L[k].c):=ba 0 _ rfl;have l1:=ba 1 _ rfl;have l2:=ba 2 _ rfl;have l3:=ba 3 _ rfl;have b3:Xr (∀w',ae [] F w'->gL<w'.heap.size/\w'.cell? ⟨gL,k*4+1,none⟩=some (string L[k].YB)/\w'.cell? ⟨gL,k*4+2,none⟩=some (int i64 L[k].YC)/\w'.cell? ⟨gL,k*4+3,none⟩=some (int i64 L[k].YD)):=fun w' kw=>by
   obtain⟨g2,e2,h2,c2⟩:=(cN.Yh HL.o kw) k L[k] (Ub bd);cases e2
   exact⟨h2,c2 1 _ rfl,c2 2 _ rfl,c2 3 _ rfl⟩
  have a3:=cp.o L[k] (Uu bd);have bT:Xr _:=J3 L k bd;rw[bT.o,mP]at x;clear ba bT;generalize L[k]=cl at *;obtain⟨c,s,t,j⟩:=cl;simp only at l0 l1 l2 l3 a3 x b3;have df:=fun wx=>Pu c a3 wx;obtain⟨c9,db⟩:=a3;have cE:(wO c).size=1:=rfl
  -- a fault at this letter
  have c0:Xr (∀(w2:World) (e:Ending),ae [] F w2->e=returned (agg #[slice none 0 0,int i64 4,string s,int i64 t,int i64 j])->km w b n B L=oI 4 ⟨c,s,t,j⟩->pK F (km w b n B L) e w2):=fun w2 e k2 he hx=>by rw[hx];exact iD rfl he k2
  by_cases a1:85<=c/\c<=89
  ·rw[Uf a1]at x;obtain⟨a1,a2⟩:=a1;have co:Xr _:=(ae.refl [] wr).alloc (.cells #[int u8 c] 5);have cu:Xr _:=E.o.Yh co.o;have cy:Xr ((u++wO c).size=u.size+1):=cM (by rw[ByteArray.size_append,cE]);go_wp2;go_roundg (L.length-(k+1))
   ·exact⟨k+1,h,P,ht,d,u++wO c,false,by omega,rfl,rfl,rfl,rfl,by go_num,⟨by omega,by omega,by rw[cy.o];omega⟩,(fun h=>by cases h),x,cu⟩
   omega
  ·rw[Ud a1]at x;by_cases b1:65<=c/\c<=84
   ·rw[Uf b1]at x;obtain⟨b1,b2⟩:=b1;have a2:¬85<=c:=(by omega);have bv:Xr (∀wx,Calls prog 214 #[string (u++wO c),int i64 ((n.length:Int)+(d.length:Int))] wx fun e w'=>e=returned (int i64 (gu (u++wO c) (n.length+d.length):Nat))/\ae [] wx w'):=fun wx=>by
     have:=Gl (u++wO c) (n.length+d.length) wx (by omega);rw[Int.natCast_add]at this;exact this
    have ce:=Aw (u++wO c) (n.length+d.length);obtain⟨T,cx⟩:=bm (gu (u++wO c) (n.length+d.length));rw[cx.o]at bv x ce;have dv:u.size+1<=9223372036854775807:=(by omega);(go_upto_region 15 with (go_at_call 214;refine(bv.o _).mono ?_;rintro e w1 ⟨rfl,k1⟩));have b0:Xr _:=((ae.refl [] wr).alloc _).trans k1;have a7:Xr _:=E.o.Yh b0.o;have Q:Xr _:=G.o.trans b0.o;clear k1 V W X ag ai al an ap Y Z ac ad af ax az aS aT a0 ar a4 l0 l1 l2 l3 cc bv;obtain⟨⟨V,W,X⟩,⟨ag,ai,al,an,ap⟩,⟨Y,Z,ac,ad,af⟩,⟨ax,az,aS,aT,a0⟩,ar,a4⟩:=a7.o.cells;obtain⟨cc,l1,l2,l3⟩:=b3.o w1 Q.o;by_cases n0:T=0
    ·rw[Uf n0]at x;subst n0;have R:Xr (km w b n B L=oI 5 ⟨c,s,t,j⟩):=x.o.symm;go_wp2;obtain⟨J,K,M,N,O⟩:=fR a7.o.r (slice none 0 0) (int i64 5) (string s) (int i64 t) (int i64 j);exact Um (v:=agg #[slice none 0 0,int i64 5,string s,int i64 t,int i64 j]) (by simp[results,results177,go_sem,J,K,M,N,O]) rfl (by rw[R.o];exact iD rfl rfl (((((Q.o.sr1 (by simp) _).sr1 (by simp) _).sr1 (by simp) _).sr1 (by simp) _).sr1 (by simp) _))
    ·rw[Ud n0]at x;have d2:((T:Int)==0)=false:=(by simpa using n0);by_cases n1:T<=n.length
     ·have cX:(T:Int)<=n.length:=(by omega);obtain⟨q,rfl⟩:∃q,T=q+1:=⟨T-1,by omega⟩
      have bx:q<n.length:=(by omega);have ds:(q:Int)<n.length:=(by omega);have a6:Xr (p9 w b n d (q+1) ⟨c,s,t,j⟩=⟨(n[q]:Nat),0,fL w b (n[q]:Nat),s,t,j⟩):=by
       show _=_;unfold p9;rw[Uf n1,Vj,Uc,Ub bx];rfl
      have cV:=ct.o n[q] (Uu bx);obtain⟨gR,rfl,dg,cq⟩:=(qA.Yh HR.o Q.o) q n[q] (Ub bx);rw[a6.o]at x;have b4:Xr (∀wx,ae [] F wx->Calls prog 130 #[pointer (some ⟨S,0,none⟩),int i64 (n[q]:Nat)] wx fun e w'=>e=returned (int i64 (fL w b (n[q]:Nat):Nat))/\ae [] wx w'):=fun wx kx=>Av S l n[q] w z4 I b D i wx (ge.Yh HD.o kx) cr.o cV;clear a6;generalize n[q]=rf at *;generalize fL w b (rf:Nat)=nd at *;obtain⟨W2,bl⟩:=bm (w1.alloc (.cells #[int i64 (rf:Int),int i64 0,int i64 0,string s,int i64 t,int i64 j] 162));have bz:=fg bl.o;have B2:=fE bl.o;have bs:Xr _:=b4.o W2 (Q.o.trans bz);obtain⟨s0,-⟩:=JX B2;have z2:=aj B2;(go_upto_region 20 with fail);rw[bl.o];(go_upto_region 22 with (go_at_call 130;refine Ug bs.o ?_;rintro e w2 ⟨rfl,k2⟩;have B3:=k2.get B2 (by simp);have f3:=am B3 2;have c3:w2.cell? ⟨w1.heap.size,2,none⟩=some (int i64 0):=(by rw[ah B3];rfl);have z3:=aj B3));obtain⟨W3,z⟩:=bm (w2.setCell ⟨w1.heap.size,2,none⟩ (int i64 (nd:Int)));have bk:ae [] w1 W3:=(by rw[<-z.o];exact(bz.trans k2).sr1 (by simp) _);have B4:W3.heap[w1.heap.size]?=some (.cells #[int i64 (rf:Int),int i64 0,int i64 (nd:Int),string s,int i64 t,int i64 j] 162):=(by rw[<-z.o,ab B3];rfl);have C:Xr _:=a7.o.Yh bk;rw[z.o];clear V W X ag ai al an ap Y Z ac ad af ax az aS aT a0 ar a4;clear B2 B3 bz k2 bk s0 z2 f3 c3 z3 z bl bs b4 cq;obtain⟨⟨V,W,X⟩,⟨ag,ai,al,an,ap⟩,⟨Y,Z,ac,ad,af⟩,⟨ax,az,aS,aT,a0⟩,ar,a4⟩:=C.o.cells;obtain⟨t0,t1,t2,t3,t4,t5⟩:=JX B4;have H:=C.o.op;have bc:(fB P).n<=900000000:=(by show P.length<=_;omega);go_wp2_with (at_builtin;refine cI _ rfl (.tmp 103) (.tmp 105) 120 rfl iP (agg #[int i64 0,int i64 0,int i64 0,string ⟨#[]⟩,int i64 0,int i64 0]) 56 h (fB P) [int i64 (rf:Int),int i64 0,int i64 (nd:Int),string s,int i64 t,int i64 j] underlying120 bw bf bg bj rfl (show 0<6 by omega) rfl H bc (by omega) rfl rfl (uI (⟨(rf:Int),0,nd,s,t,j⟩:ci)) ?_;intro h5 w5 y A;rw[show([int i64 (rf:Int),int i64 0,int i64 (nd:Int),string s,int i64 t,int i64 j]:List Value)=lp (⟨(rf:Int),0,nd,s,t,j⟩:ci) from rfl,n8]at y;have HA:Xr _:=(C.o.addP (m:=(fB P).n+1) A y (by simp[fB,lm]));have U:=A.Yu.get C.o.p (fun hq=>by have:=C.o.fp _ (aR hq);omega);have f5:=am U 0;have c5:w5.cell? ⟨F.heap.size+2,0,none⟩=some (slice h.ao P.length h.cap):=(by rw[ah U];rfl);have z5:=aj U;clear y A U);go_roundg (L.length-(k+1))
      ·exact⟨k+1,h5,P++[⟨(rf:Int),0,nd,s,t,j⟩],ht,d,⟨#[]⟩,true,by omega,rfl,rfl,rfl,rfl,by go_num,⟨by simp;omega,by omega,UF _⟩,(fun _=>by simp),x,HA⟩
      omega
     ·have cX:¬(T:Int)<=n.length:=(by omega);obtain⟨q,Hq⟩:=bm (T-n.length-1);have cf:q<d.length:=(by have:=Hq.o;omega);have i1:IntKind.i64.wrap ((T:Int)-(n.length:Int))=(T:Int)-(n.length:Int):=(by rw[Vv];omega);have i2:IntKind.i64.wrap ((T:Int)-(n.length:Int)-1)=(T:Int)-(n.length:Int)-1:=(by rw[Vv];omega);have i3:((T:Int)-(n.length:Int)-1).toNat=q:=(by have:=Hq.o;omega);have a6:Xr (p9 w b n d T ⟨c,s,t,j⟩=⟨-2,d[q],0,s,t,j⟩):=by
       show _=_;unfold p9;rw[Ud n1,Hq.o,Uc,Ub cf];rfl
      obtain⟨gt,cb,dk,cq⟩:=a7.o.ot.srcN q d[q] (Ub cf);rw[a6.o]at x;clear a6;generalize d[q]=tg at *;obtain⟨W3,z⟩:=bm (w1.alloc (.cells #[int i64 (-2),int i64 (tg:Int),int i64 0,string s,int i64 t,int i64 j] 162));have bk:=fg z.o;have B4:=fE z.o;have C:Xr _:=a7.o.Yh bk;rw[cb];(go_upto_region 22 with fail);rw[z.o];clear V W X ag ai al an ap Y Z ac ad af ax az aS aT a0 ar a4;clear bk z cq i1 i2 i3;obtain⟨⟨V,W,X⟩,⟨ag,ai,al,an,ap⟩,⟨Y,Z,ac,ad,af⟩,⟨ax,az,aS,aT,a0⟩,ar,a4⟩:=C.o.cells;obtain⟨t0,t1,t2,t3,t4,t5⟩:=JX B4;have H:=C.o.op;have bc:(fB P).n<=900000000:=by show P.length<=_;omega
      go_wp2_with (at_builtin;refine cI _ rfl (.tmp 103) (.tmp 105) 120 rfl iP (agg #[int i64 0,int i64 0,int i64 0,string ⟨#[]⟩,int i64 0,int i64 0]) 56 h (fB P) [int i64 (-2),int i64 (tg:Int),int i64 0,string s,int i64 t,int i64 j] underlying120 bw bf bg bj rfl (show 0<6 by omega) rfl H bc (by omega) rfl rfl (uI (⟨-2,tg,0,s,t,j⟩:ci)) ?_;intro h5 w5 y A;rw[show([int i64 (-2),int i64 (tg:Int),int i64 0,string s,int i64 t,int i64 j]:List Value)=lp (⟨-2,tg,0,s,t,j⟩:ci) from rfl,n8]at y;have HA:Xr _:=(C.o.addP (m:=(fB P).n+1) A y (by simp[fB,lm]));have U:=A.Yu.get C.o.p (fun hq=>by have:=C.o.fp _ (aR hq);omega);have f5:=am U 0;have c5:w5.cell? ⟨F.heap.size+2,0,none⟩=some (slice h.ao P.length h.cap):=(by rw[ah U];rfl);have z5:=aj U;clear y A U);go_roundg (L.length-(k+1))
      ·exact⟨k+1,h5,P++[⟨-2,tg,0,s,t,j⟩],ht,d,⟨#[]⟩,true,by omega,rfl,by rw[cb],rfl,rfl,by go_num,⟨by simp;omega,by omega,UF _⟩,(fun _=>by simp),x,HA⟩
      omega
   ·rw[Ud b1]at x;by_cases d1:c=90
    ·subst d1;cases f
     ·rw[Ud (by simp),Ud (by omega)]at x;have R:Xr (km w b n B L=oI 4 ⟨90,s,t,j⟩):=x.o.symm;go_wp2;obtain⟨J,K,M,N,O⟩:=fR E.o.r (slice none 0 0) (int i64 4) (string s) (int i64 t) (int i64 j);exact Um (v:=agg #[slice none 0 0,int i64 4,string s,int i64 t,int i64 j]) (by simp[results,results177,go_sem,J,K,M,N,O]) rfl (by rw[R.o];exact iD rfl rfl (((((G.o.sr1 (by simp) _).sr1 (by simp) _).sr1 (by simp) _).sr1 (by simp) _).sr1 (by simp) _))
     ·rw[Uf ⟨rfl,rfl⟩]at x;have c7:=HF.o rfl;have cH:((P.length-1:Nat):Int)=(P.length:Int)-1:=(by omega);have dT:IntKind.i64.wrap ((P.length:Int)-1)=(P.length:Int)-1:=(by rw[Vv];omega);have cA:=E.o.ot;have cB:(bu d).n<=900000000:=(by show d.length<=_;omega);go_wp2_with (at_builtin;refine cI _ rfl (.tmp 114) (.tmp 119) 24 rfl iN (int i64 0) 8 ht (bu d) [int i64 ((P.length:Int)-1)] underlying24 cF ch cj ck rfl UA rfl cA cB (by omega) rfl rfl (by simp[Value.oneCell']) ?_;intro h5 w5 y A;rw[<-cH,uy]at y;have HA:Xr _:=E.o.addT A y;clear y A);go_roundg (L.length-(k+1))
      ·exact⟨k+1,h,P,h5,d++[P.length-1],u,false,by omega,rfl,by simp[bu],rfl,rfl,by go_num,⟨by omega,by simp;omega,by omega⟩,(fun h=>by cases h),x,HA⟩
      omega
    ·have c1:(c==90)=false:=(by simpa using d1);rw[Ud (fun h=>d1 h.1)]at x;by_cases e1:c=63
     ·subst e1;cases be:(u.toList == [])
      ·rw[Ud (by rw[be];simp)]at x;have R:Xr (km w b n B L=oI 4 ⟨63,s,t,j⟩):=x.o.symm;go_wp2;obtain⟨J,K,M,N,O⟩:=fR E.o.r (slice none 0 0) (int i64 4) (string s) (int i64 t) (int i64 j);exact Um (v:=agg #[slice none 0 0,int i64 4,string s,int i64 t,int i64 j]) (by simp[results,results177,go_sem,J,K,M,N,O]) rfl (by rw[R.o];exact iD rfl rfl (((((G.o.sr1 (by simp) _).sr1 (by simp) _).sr1 (by simp) _).sr1 (by simp) _).sr1 (by simp) _))
      ·rw[Uf ⟨rfl,be⟩]at x;have H:=E.o.op;have bc:Xr ((fB P).n<=900000000):=(by show P.length<=_;omega);have cs:Xr ((fB P).n=P.length):=rfl;(go_upto_region 29 with fail);go_region_law (refine bY wr rfl (.tmp 129) (.tmp 136) 120 rfl iP (agg #[int i64 0,int i64 0,int i64 0,string ⟨#[]⟩,int i64 0,int i64 0]) 56 h (fB P) [int i64 (-1),int i64 0,int i64 0,string s,int i64 t,int i64 j] underlying120 bw bf bg bj rfl (show 0<6 by omega) (by rw[cs.o];simp[Act.eval]) H bc.o (by omega) (by simp[Act.eval]) rfl (uI (⟨-1,0,0,s,t,j⟩:ci)) ?_;intro cz ca w5 y A;have U:=A.Yu.get E.o.p (fun hq=>by have:=E.o.fp _ (aR hq);omega);have f5:=am U 0;have c5:w5.cell? ⟨F.heap.size+2,0,none⟩=some (slice h.ao P.length h.cap):=(by rw[ah U];rfl);have z5:=aj U)
       all_goals
        rw[show([int i64 (-1),int i64 0,int i64 0,string s,int i64 t,int i64 j]:List Value)=lp (⟨-1,0,0,s,t,j⟩:ci) from rfl,n8]at y;have HA:Xr _:=(E.o.addP (m:=(fB P).n+1) A y (by simp[fB,lm]));clear y A U f5 c5 z5;go_wp2;go_roundg (L.length-(k+1))
        ·exact⟨k+1,⟨cz,ca⟩,P++[⟨-1,0,0,s,t,j⟩],ht,d,u,false,by omega,rfl,rfl,rfl,rfl,by go_num,⟨by simp;omega,by omega,by omega⟩,(fun h=>by cases h),x,HA⟩
        omega
     ·have c4:(c==63)=false:=(by simpa using e1);rw[Ud (fun h=>e1 h.1)]at x;have R:Xr (km w b n B L=oI 4 ⟨c,s,t,j⟩):=x.o.symm;by_cases f1:85<=c
      ·have f2:¬c<=89:=fun h=>a1 ⟨f1,h⟩;have f3:65<=c:=(by omega);have f4:¬c<=84:=(by omega);go_wp2;obtain⟨J,K,M,N,O⟩:=fR E.o.r (slice none 0 0) (int i64 4) (string s) (int i64 t) (int i64 j);exact Um (v:=agg #[slice none 0 0,int i64 4,string s,int i64 t,int i64 j]) (by simp[results,results177,go_sem,J,K,M,N,O]) rfl (by rw[R.o];exact iD rfl rfl (((((G.o.sr1 (by simp) _).sr1 (by simp) _).sr1 (by simp) _).sr1 (by simp) _).sr1 (by simp) _))
      ·by_cases f3:65<=c
       ·exact absurd ⟨f3,by omega⟩ b1
       ·skip
        go_wp2;obtain⟨J,K,M,N,O⟩:=fR E.o.r (slice none 0 0) (int i64 4) (string s) (int i64 t) (int i64 j);exact Um (v:=agg #[slice none 0 0,int i64 4,string s,int i64 t,int i64 j]) (by simp[results,results177,go_sem,J,K,M,N,O]) rfl (by rw[R.o];exact iD rfl rfl (((((G.o.sr1 (by simp) _).sr1 (by simp) _).sr1 (by simp) _).sr1 (by simp) _).sr1 (by simp) _))
 ·have e:k=L.length:=by omega
  subst e;rw[Wr,mP]at x;cases be:(u.toList == [])
  ·rw[Uf be]at x;have R:Xr (km w b n B L=oI 4 B):=x.o.symm;obtain⟨ec,ef,el,eo⟩:=B;go_wp2;obtain⟨J,K,M,N,O⟩:=fR E.o.r (slice none 0 0) (int i64 4) (string ef) (int i64 el) (int i64 eo);exact Um (v:=agg #[slice none 0 0,int i64 4,string ef,int i64 el,int i64 eo]) (by simp[results,results177,go_sem,J,K,M,N,O]) rfl (by rw[R.o];exact iD rfl rfl (((((G.o.sr1 (by simp) _).sr1 (by simp) _).sr1 (by simp) _).sr1 (by simp) _).sr1 (by simp) _))
  ·rw[Ud (by rw[be];simp)]at x;by_cases br:P.length=0
   ·rw[Uf br]at x;have R:Xr (km w b n B L=oI 1 B):=x.o.symm;have cP:((P.length:Int)==0)=true:=(by simpa using br);obtain⟨ec,ef,el,eo⟩:=B;go_wp2;obtain⟨J,K,M,N,O⟩:=fR E.o.r (slice none 0 0) (int i64 1) (string ef) (int i64 el) (int i64 eo);exact Um (v:=agg #[slice none 0 0,int i64 1,string ef,int i64 el,int i64 eo]) (by simp[results,results177,go_sem,J,K,M,N,O]) rfl (by rw[R.o];exact iD rfl rfl (((((G.o.sr1 (by simp) _).sr1 (by simp) _).sr1 (by simp) _).sr1 (by simp) _).sr1 (by simp) _))
   ·rw[Ud br]at x;have R:Xr (km w b n B L=⟨P,0,⟨#[]⟩,0,0⟩):=x.o.symm;have cP:((P.length:Int)==0)=false:=(by simpa using br);have a5:Xr (∀q,h.Yv=some q->q≠F.heap.size+1):=fun q hq=>by have:=E.o.fp q hq;omega
    go_wp2;obtain⟨J,K,M,N,O⟩:=fR E.o.r (slice h.ao P.length h.cap) (int i64 0) (string ⟨#[]⟩) (int i64 0) (int i64 0);exact Um (v:=agg #[slice h.ao P.length h.cap,int i64 0,string ⟨#[]⟩,int i64 0,int i64 0]) (by simp[results,results177,go_sem,J,K,M,N,O]) rfl (by rw[R.o];exact⟨h,rfl,⟨((((E.o.op.Yq a5.o _ _).Yq a5.o _ _).Yq a5.o _ _).Yq a5.o _ _).Yq a5.o _ _,fun q hq=>(by have:=E.o.fp q hq;omega),((((G.o.sr1 (by simp) _).sr1 (by simp) _).sr1 (by simp) _).sr1 (by simp) _).sr1 (by simp) _⟩⟩)
def Ff(t:Tk):Lt:=⟨0,t.YB,t.YC,t.YD⟩
def se(T:List Tk)(S:List Sm)(a z:Nat):Nat->Nat->Xv->jW
 | 0,_,_=>oI 3 (Ff (T.getD z gO))
 | n+1,i,refs =>
  if((tS T i).toList == [41])=true then km T S refs (Ff (T.getD z gO)) (eR T (i+1) z)
  else if dY T S a (tS T i)<0 then oI 2 (Ff (T.getD i gO))
  else if refs.contains (dY T S a (tS T i)).toNat=true then oI 3 (Ff (T.getD i gO))
  else se T S a z n (i+1) (refs++[(dY T S a (tS T i)).toNat])
def jZ(T:List Tk)(S:List Sm)(a i z:Nat):jW:=se T S a z (z-i) i (a9 T S a)
theorem qA.cells(h:qA T y7 t):∀b,y7=some b->∀j u,(jF t)[j]?=some u->T.cell? (b.add j)=some u:=by
 intro b e j u a;rw[jF,UL]at a;cases d:t[j]? with
 | none=>rw[d]at a;cases a
 | some x =>
  rw[d]at a;cases a
  obtain⟨g,f,-,c⟩:=h j x d;rw[e]at f;cases f
  rw[bS];simpa using c
theorem NN:∀u∈jF n,u.oneCell'=true:=by
 intro u a;obtain⟨x,-,rfl⟩:=Vf.1 a;rfl
theorem Oe(M:Xv):(⟨(bu n).e,(bu n).size,(bu n).n+M.length,(bu n).xs++jF M⟩:ew)=bu (n++M):=by
 simp[bu,jF]
theorem ip.none(a:ip T M L z0):L.ao=none->z0.n=0/\L.cap=0:=fun e=>by
 rcases a.YF.Ys with ⟨b,d,f⟩ | ⟨g,c,b,-⟩
 ·exact⟨d,by rw[b]⟩
 ·rw[e]at b;cases b
theorem ip.le(a:ip T M L z0):z0.n<=L.cap:=by
 rcases a.YF.Ys with ⟨d,e,b⟩ | ⟨g,c,d,-,b,-⟩
 ·omega
 ·exact b
theorem qK:∀j∈a9 w b y,j<y:=fun _ a=>Up.1 (UP.1 a).1
theorem nE:(a9 w b y).length<=y:=by
 unfold a9;have:=VO (ub w b y (uK w b y)) (List.range y);rw[VN]at this;exact this
theorem yZ(e:fz w)(a z:Nat):(eR w a z).length<=1024*w.length:=by
 have:∀L:List Tk,(∀t∈L,t.s.size<=1024)->(L.flatMap tn).length<=1024*L.length:=by
  intro L
  induction L with
  | nil=>intro _;simp
  | cons t L f =>
   intro h;have c:=h t (by simp);have d:=f (fun t b=>h t (by simp[b]));rw[U4,Uh,UK];have:(tn t).length=t.s.size:=by unfold tn;simp
   omega
 have c:=this ((w.drop a).take (z-a)) (fun t b=>(e t (WN (Wf b))).1);have d:((w.drop a).take (z-a)).length<=w.length:=by rw[U6,UX];omega
 unfold eR;omega
theorem JT:0<=aH N y/\aH N y<256:=by
 unfold aH;split
 ·next h=>have:=(N[y]'h).toNat_lt;omega
 ·omega
theorem Ot:∀l∈eR w i y,0<=l.c/\l.c<256:=by
 intro l a;unfold eR at a;obtain⟨t,-,b⟩:=Wi.1 a;unfold tn at b;obtain⟨k,-,rfl⟩:=Vf.1 b;exact JT _ _
theorem rK(h:T.heap[v]?=some (.cells #[slice none 0 0,int i64 0,string ⟨#[]⟩,int i64 0,int i64 0] 122)) :
  (T.cell? ⟨v,0,none⟩=some (slice none 0 0)/\T.cell? ⟨v,1,none⟩=some (int i64 0)/\T.cell? ⟨v,2,none⟩=some (string ⟨#[]⟩)/\T.cell? ⟨v,3,none⟩=some (int i64 0)/\T.cell? ⟨v,4,none⟩=some (int i64 0)) /\
  (T.frozen? ⟨v,0,none⟩=false/\T.frozen? ⟨v,1,none⟩=false/\T.frozen? ⟨v,2,none⟩=false/\T.frozen? ⟨v,3,none⟩=false/\T.frozen? ⟨v,4,none⟩=false)/\v<T.heap.size:=by
 refine⟨⟨?_,?_,?_,?_,?_⟩,⟨am h 0,am h 1,am h 2,am h 3,am h 4⟩,aj h⟩
 all_goals (rw[ah h];rfl)
theorem Dh{m:Nat}(c:m=t.length)(h:∀q (a:q<t.length),q<m->t[q]≠v):t.contains v=false:=by
 cases e:t.contains v
 ·rfl
 ·rw[Wm]at e;obtain⟨q,a,b⟩:=U7 e;exact absurd b (h q a (by omega))
theorem Gp(hD:ge x o w z4 I b D i)(ok:pM w b H)(hn:H<b.length)(hE:dS w (aq b H).h)(hO:fz w)(hi:S<=l)(hz:l<w.length) :
  Calls prog 128 #[pointer (some ⟨o,0,none⟩),int i64 H,int i64 S,int i64 l] x fun e w'=>pK x (jZ w b H S l) e w':=by
 obtain⟨W,HW⟩:=bm (x.alloc (.cells #[slice none 0 0,int i64 0,string ⟨#[]⟩,int i64 0,int i64 0] 122));have BW:=fE HW.o;have M:Xr _:=fg HW.o;have K:Xr _:=hD.Yh M.o;have a2:Xr _:=ok;have a6:Xr _:=hO;have b2:=ok.tm;have ce:=ok.sm;have aS:Xr _:=rG o H w z4 I b D i W K.o ok hn hE;have cs:=nE w b H;have bz:Xr _:=qK w b H;have bv:Xr (se w b H l (l-S) S (a9 w b H)=jZ w b H S l):=rfl;obtain⟨iN,bj,V,X,Y⟩:=UC BJ;have bo:Xr _:=BW
 -- a fault
 have L:Xr (∀(wr:World),ae [] W wr->(wr.heap[x.heap.size]?=some (.cells #[slice none 0 0,int i64 0,string ⟨#[]⟩,int i64 0,int i64 0] 122))):=fun wr k=>k.get bo.o (by simp);clear hD ok hO;generalize a9 w b H=HY at *;go_enter func128,ntmps128;go_upto_region 1 with fail
 rw[HW.o];go_upto_region 2 with (go_at_call 63;refine Ug aS.o ?_;rintro e T ⟨h1,rfl,A⟩)
 have N:Xr _:=A.YF.srcN.cells;have bk:Xr _:=A.none;have ad:Xr (ip W T ⟨none,0⟩ (bu [])):=⟨Uj _ _ _ _,(by intro k hk;cases hk),A.Yu⟩;have ba:=ad.o.YF;clear A aS;go_upto_region 3 with (at_builtin;refine dW _ rfl (.const (slice none 0 0)) (.tmp 18) 24 rfl iN (int i64 0) 8 ⟨none,0⟩ (bu []) underlying24 bj V X Y rfl UA rfl ba h1.ao HY.length h1.cap (jF HY) rfl (by simp[bu,jF]) bk.o N.o (NN HY) (by simp only[bu,List.length_nil];omega) (by omega) ?_;intro h5 w5 ar bf;rw[Oe]at ar;have aT:Xr _:=ad.o.Yr bf ar;clear ar bf)
 rw[Wz]at aT;have bl:(bu ([]:Xv)).n+HY.length=HY.length:=by simp[bu]
 rw[bl];clear bl N bk ad ba;go_wp2
 go_loopg [10,11] (l-S) (fun g r iv wr=>∃(m:Nat) (z:Hd) (R:Xv),(S<=m/\m<=l)/\g=l-m/\r=slice z.ao R.length z.cap/\iv=int i64 m/\R.length<=10000+m/\Xr (∀q∈R,q<H)/\Xr (se w b H l (l-m) m R=jZ w b H S l)/\Xr (ip W wr z (bu R)))
 ·exact⟨S,h5,HY,⟨by omega,by omega⟩,rfl,rfl,rfl,by omega,bz,bv,aT⟩
 obtain⟨m,z,R,⟨cl,co⟩,hg,rfl,rfl,cc,a3,c,ai⟩:=hrel;have ac:Xr _:=ai.o.Yu;have B:Xr _:=ge.Yh K.o ac.o;obtain⟨c0,-,hb⟩:=B.o.cells;have BR:=L.o wr ac.o;have br:Xr _:=M.o.trans ac.o;obtain⟨⟨r0,r1,r2,r3,r4⟩,⟨f0,f1,f2,f3,f4⟩,P⟩:=rK BR;obtain⟨gT,rfl,O,t0,-,t2,t3,t4⟩:=B.o.t.2 l _ (jf w l hz);have ct:(l:Int)<w.length:=by omega
 rcases kn m l with ⟨b4,cp⟩ | ⟨b4,-⟩
 ·have ca:(m:Int)<w.length:=by omega
  obtain⟨cb,e2,-,u0,-,u2,u3,u4⟩:=B.o.t.2 m _ (jf w m (by omega));cases e2
  replace u0:wr.cell? ⟨gT,m*5,none⟩=some (string (tS w m)):=u0;obtain⟨f,hf⟩:∃f,l-m=f+1:=⟨l-m-1,by omega⟩
  rw[hf,se]at c;have a7:Xr (Calls prog 129 #[pointer (some ⟨o,0,none⟩),int i64 H,string (tS w m)] wr fun e w'=>e=returned (int i64 (dY w b H (tS w m)))/\ae [] wr w'):=zm o H (tS w m) w _ I b D i wr B.o a2.o;have y:=rt w b H (tS w m);obtain⟨cu,Hx⟩:=bm (tS w m);rw[Hx.o]at u0 c a7 y;clear Hx;cases h1:(cu.toList == [41])
  ·rw[Ud (by rw[h1];simp)]at c;(go_upto_region 6 with (go_at_call 129;refine Ug a7.o ?_;rintro e T ⟨rfl,k1⟩));have n:Xr _:=ai.o.Yh k1;have d:Xr _:=n.o.Yu;have u:Xr _:=M.o.trans d.o;have s:Xr _:=ge.Yh K.o d.o;have Z:=L.o T d.o;clear r0 r1 r2 r3 r4 f0 f1 f2 f3 f4 P;clear k1 c0 hb t0 t2 t3 t4 u0 u2 u3 u4 O;obtain⟨⟨r0,r1,r2,r3,r4⟩,⟨f0,f1,f2,f3,f4⟩,P⟩:=rK Z;obtain⟨c0,-,hb⟩:=s.o.cells;obtain⟨bT,e3,O,-,-,u2,u3,u4⟩:=s.o.t.2 m _ (jf w m (by omega));cases e3
   rcases y with y | ⟨j,hj,y⟩
   ·rw[y,Uf (by omega)]at c;rw[y];have U:Xr (jZ w b H S l=oI 2 (Ff (w.getD m gO))):=c.o.symm;generalize w.getD m gO=tm at *;obtain⟨ms,mr,F,G,E⟩:=tm;simp only at u2 u3 u4;go_wp2;obtain⟨x0,A,J,x3,x4⟩:=fR Z (slice none 0 0) (int i64 2) (string F) (int i64 G) (int i64 E);exact Um (v:=agg #[slice none 0 0,int i64 2,string F,int i64 G,int i64 E]) (by simp[results,results128,go_sem,x0,A,J,x3,x4]) rfl (by rw[U.o];exact iD rfl rfl (((((u.o.sr1 (by simp) _).sr1 (by simp) _).sr1 (by simp) _).sr1 (by simp) _).sr1 (by simp) _))
   ·rw[y,Ud (by omega),UR]at c;rw[y];have ck:¬(j:Int)<0:=by omega
    have bx:Xr _:=n.o.YF.srcN;have bc:=n.o.le;have b6:R.length<=z.cap:=bc;clear bc;obtain⟨bd,be⟩:=z;go_wp2
    go_loopg [13] R.length (fun g kv wr=>∃q:Nat,q<=R.length/\g=R.length-q/\kv=int i64 q/\Xr (∀p (hp:p<R.length),p<q->R[p]≠j)/\wr=T)
    ·exact⟨0,by omega,rfl,rfl,(fun p _ h=>by omega),rfl⟩
    obtain⟨q,hq,cf,rfl,a1,rfl⟩:=hrel;rcases kn q R.length with ⟨ap,b5⟩ | ⟨ap,-⟩
    ·obtain⟨gR,al,ch,cq⟩:=bx.o q R[q] (Ub ap);have a0:Xr (R[q]=j->R.contains j=true):=fun e=>by rw[Wm,<-e];exact Uu ap
     have bs:Xr (R[q]≠j->∀p (hp:p<R.length),p<q+1->R[p]≠j):=fun e p hp h2=>by
      by_cases e2:p=q
      ·subst e2;exact e
      ·exact a1.o p hp (by omega)
     generalize R[q]=rq at *;replace al:bd=some ⟨gR,0,none⟩:=al;subst al;by_cases an:rq=j
     ·subst an;rw[Uf (a0.o rfl)]at c;have U:Xr (jZ w b H S l=oI 3 (Ff (w.getD m gO))):=c.o.symm;generalize w.getD m gO=tm at *;obtain⟨ms,mr,F,G,E⟩:=tm;simp only at u2 u3 u4;go_wp2;obtain⟨x0,A,J,x3,x4⟩:=fR Z (slice none 0 0) (int i64 3) (string F) (int i64 G) (int i64 E);exact Um (v:=agg #[slice none 0 0,int i64 3,string F,int i64 G,int i64 E]) (by simp[results,results128,go_sem,x0,A,J,x3,x4]) rfl (by rw[U.o];exact iD rfl rfl (((((u.o.sr1 (by simp) _).sr1 (by simp) _).sr1 (by simp) _).sr1 (by simp) _).sr1 (by simp) _))
     ·have cj:((rq:Int)==(j:Int))=false:=(by simpa using (fun e=>an (by omega)));have HM:Xr _:=bs.o an;go_wp2;go_roundg (R.length-(q+1))
      ·exact⟨q+1,by omega,rfl,by go_num,HM,rfl⟩
      omega
    ·have eq:q=R.length:=(by omega);rw[Ud (by rw[Dh eq a1.o];simp)]at c;have b5:¬(q:Int)<R.length:=by omega
     have b0:=n.o.YF;have b1:(bu R).n<=900000000:=(by show R.length<=_;omega);have a4:Xr (∀q∈R++[j],q<H):=fun q hq=>by
      rcases UG.1 hq with h | h
      ·exact a3.o q h
      ·rw[Uq.1 h];exact hj
     have b3:l-(m+1)=f:=(by omega);go_wp2_with (at_builtin;refine cI _ rfl (.tmp 78) (.tmp 80) 24 rfl iN (int i64 0) 8 ⟨bd,be⟩ (bu R) [int i64 (j:Int)] underlying24 bj V X Y rfl UA rfl b0 b1 (by omega) rfl rfl (by simp[Value.oneCell']) ?_;intro h6 w6 ax bg;rw[uy]at ax;have HA:Xr _:=n.o.Yr bg ax;clear ax bg);go_roundg (l-(m+1))
     ·exact⟨m+1,h6,R++[j],⟨by omega,by omega⟩,rfl,by simp[bu],by go_num,by simp;omega,a4,by rw[b3];exact c,HA⟩
     omega
  ·rw[Uf h1]at c;have cr:((m:Int)==(l:Int))=false:=(by simpa using (fun e:(m:Int)=(l:Int)=>by omega));have N:((m+1:Nat):Int)=(m:Int)+1:=(by omega);have af:Xr _:=(GR w (some ⟨gT,0,none⟩) I (m+1) l wr B.o.t b2 (by omega) (by omega) a6.o);rw[N]at af;(go_upto_region 18 with (go_at_call 176;refine Ug af.o ?_;rintro e T ⟨h2,rfl,A⟩));have k1:=A.Yu;have bw:Xr _:=A.YF.srcG Qi;have n:Xr _:=ai.o.Yh k1;have d:Xr _:=n.o.Yu;have u:Xr _:=M.o.trans d.o;have s:Xr _:=ge.Yh K.o d.o;have ag:Xr _:=(LJ o H w (some ⟨gT,0,none⟩) I b D i R z.ao z.cap (eR w (m+1) l) h2.ao h2.cap (Ff (w.getD l gO)) T s.o a2.o n.o.YF.srcN a3.o (by omega) bw.o (by have:=yZ w a6.o (m+1) l;omega) (Ot w (m+1) l));have U:Xr (jZ w b H S l=km w b R (Ff (w.getD l gO)) (eR w (m+1) l)):=c.o.symm;generalize eR w (m+1) l=SP at *;clear r0 r1 r2 r3 r4 f0 f1 f2 f3 f4 P;clear c0 hb t0 t2 t3 t4 u0 u2 u3 u4 O A af;obtain⟨c0,-,hb⟩:=s.o.cells;obtain⟨bT,e3,O,-,-,t2,t3,t4⟩:=s.o.t.2 l _ (jf w l hz);cases e3
   generalize w.getD l gO=tm at *;obtain⟨ms,mr,F,G,E⟩:=tm;simp only at t2 t3 t4;unfold Ff at ag U;simp only at ag;generalize km w b R ⟨0,F,G,E⟩ SP=PF at *;obtain⟨Q,pw,pf,pl,pc⟩:=PF;have a5:Xr (Calls prog 177 #[pointer (some ⟨o,0,none⟩),slice z.ao R.length z.cap,slice h2.ao SP.length h2.cap,agg #[string F,int i64 G,int i64 E]] T fun e w'=>∃z,e=returned (agg #[slice z.ao Q.length z.cap,int i64 pw,string pf,int i64 pl,int i64 pc])/\ip T w' z (fB Q)):=ag.o;go_wp2_with (go_at_call 177;refine Ug a5.o ?_;rintro e w2 ⟨h3,rfl,J⟩;have az:=L.o w2 (d.o.trans J.Yu);obtain⟨⟨r0,r1,r2,r3,r4⟩,⟨f0,f1,f2,f3,f4⟩,P⟩:=rK az);obtain⟨y0,y1,y2,y3,y4⟩:=fR az (slice h3.ao Q.length h3.cap) (int i64 pw) (string pf) (int i64 pl) (int i64 pc);have C:Xr (∀q,h3.Yv=some q->q≠x.heap.size):=fun q hq=>by have:=J.far q hq;have:=u.o.size;have:=aj (L.o T d.o);omega
   have bp:Xr _:=u.o.trans J.Yu;exact Um (v:=agg #[slice h3.ao Q.length h3.cap,int i64 pw,string pf,int i64 pl,int i64 pc]) (by simp[results,results128,go_sem,y0,y1,y2,y3,y4]) rfl (by rw[U.o];exact⟨h3,rfl,⟨((((J.YF.Yq C.o _ _).Yq C.o _ _).Yq C.o _ _).Yq C.o _ _).Yq C.o _ _,fun q hq=>(by have:=J.far q hq;have:=u.o.size;omega),((((bp.o.sr1 (by simp) _).sr1 (by simp) _).sr1 (by simp) _).sr1 (by simp) _).sr1 (by simp) _⟩⟩)
 ·have e:m=l:=by omega
  subst e;rw[U3,se]at c;have U:Xr (jZ w b H S m=oI 3 (Ff (w.getD m gO))):=c.o.symm;generalize w.getD m gO=tm at *;obtain⟨ms,mr,F,G,E⟩:=tm;simp only at t2 t3 t4;go_wp2;obtain⟨x0,A,J,x3,x4⟩:=fR BR (slice none 0 0) (int i64 3) (string F) (int i64 G) (int i64 E);exact Um (v:=agg #[slice none 0 0,int i64 3,string F,int i64 G,int i64 E]) (by simp[results,results128,go_sem,x0,A,J,x3,x4]) rfl (by rw[U.o];exact iD rfl rfl (((((br.o.sr1 (by simp) _).sr1 (by simp) _).sr1 (by simp) _).sr1 (by simp) _).sr1 (by simp) _))
def mB(T:List Tk)(S:List Sm)(a zt:Nat):Nat->Nat->List ci->jW
 | 0,_,P=>if P.length=0 then oI 1 (Ff (T.getD zt gO)) else⟨P,0,⟨#[]⟩,0,0⟩
 | n+1,i,P =>
  if((tS T i).toList == [63])=true then mB T S a zt n (i+1) (P++[⟨-1,0,0,(T.getD i gO).YB,(T.getD i gO).YC,(T.getD i gO).YD⟩])
  else if dY T S a (tS T i)<0 then oI 2 (Ff (T.getD i gO))
  else mB T S a zt n (i+1) (P++[⟨dY T S a (tS T i),0,fL T S (dY T S a (tS T i)),(T.getD i gO).YB,(T.getD i gO).YC,(T.getD i gO).YD⟩])
def dU(T:List Tk)(S:List Sm)(a e zt:Nat):jW:=if((tS T (e+1)).toList == [40])=true then jZ T S a (e+2) zt else mB T S a zt (zt-(e+1)) (e+1) []
structure Q4(w wr:World)(P:List ci)(h:Hd):Prop where
 r:wr.heap[w.heap.size]?=some (.cells #[slice none 0 0,int i64 0,string ⟨#[]⟩,int i64 0,int i64 0] 122)
 p:wr.heap[w.heap.size+1]?=some (.cells #[slice h.ao P.length h.cap,int i64 0,string ⟨#[]⟩,int i64 0,int i64 0] 122)
 op:aB wr h (fB P)
 fp:∀k,h.Yv=some k->w.heap.size+1<k
 Yu:ae [] w wr
theorem Q4.Yh(a:Q4 T M d L)(k:ae [] M s):Q4 T s d L:=⟨k.get a.r (by simp),k.get a.p (by simp),a.op.Yh k,a.fp,a.Yu.trans k⟩
theorem Q4.addP{i:List ci}{b:Hd}(a:Q4 T M d L)(g:bJ M s L b)(o:aB s b (fB i)){m:Nat}(l:m=i.length):Q4 T (s.setCell ⟨T.heap.size+1,0,none⟩ (slice b.ao m b.cap)) i b:=by
 subst l;have t:∀q,q<=T.heap.size+1->q∉L.Yv.toList:=fun q c l=>by have:=a.fp q (aR l);omega
 have x:=aj a.p;have w:=g.Yu.get a.r (t _ (by omega));have v:=g.Yu.get a.p (t _ (by omega));have f:∀k,b.Yv=some k->T.heap.size+1<k:=fun k j=>by
  rcases g.Yv with e | ⟨q,e,c⟩
  ·exact a.fp k (by rw[<-e];exact j)
  ·rw[e]at j;cases j;omega
 have n:ae [T.heap.size+1] s (s.setCell ⟨T.heap.size+1,0,none⟩ (slice b.ao i.length b.cap)):=(ae.refl _ _).sl1 _;have u:ae [] T s:=qM g.Yu (fun q c=>by have:=a.fp q (aR c);omega) a.Yu;exact⟨n.get w (by simp),by rw[ab v];rfl,o.Ym (fun q c=>n.block q (o.lt c) (by simp;have:=f q c;omega)),f,u.sr1 (by simp) _⟩
theorem FB(hD:ge x o w z4 I b D i)(ok:pM w b H)(hn:H<b.length)(hE:dS w (aq b H).h)(hO:fz w)(bw:(aq b H).h<=S)(cj:((tS w S).toList == [36,61])=true)(a6:∀q,(aq b H).h<=q->q<S->((tS w q).toList == [36,61])=false)(b4:(aq b H).z=l+1)(ck:S<l)(b3:l<w.length)(V:((tS w l).toList == [36,46])=true) :
  Calls prog 89 #[pointer (some ⟨o,0,none⟩),int i64 H] x fun en w'=>pK x (dU w b H S l) en w':=by
 obtain⟨W,HW⟩:=bm (x.alloc (.cells #[slice none 0 0,int i64 0,string ⟨#[]⟩,int i64 0,int i64 0] 122));have BW:=fE HW.o;have ap:Xr _:=fg HW.o;have bs:W.heap.size=x.heap.size+1:=by rw[<-HW.o];simp
 have N:Xr _:=hD.Yh ap.o;have Z:Xr _:=hD;have ax:Xr _:=ok;have bo:Xr _:=hO;have ch:=ok.tm;have cu:(H:Int)<b.length:=by omega
 have HB:Xr _:=BW;have a3:Xr _:=a6;have bl:Xr _:=hE;obtain⟨iP,ba,ai,al,an⟩:=UC Nx;obtain⟨c0,c1,hb⟩:=N.o.cells;obtain⟨gS,rfl,bx,-,q1,q2,-⟩:=N.o.s.2 H b[H] (Ub hn);rw[bX b H hn]at q1 q2;rw[b4]at q1;obtain⟨gT,rfl,n,-⟩:=N.o.t.2 S _ (jf w S (by omega));obtain⟨hd,a5⟩:=bm ((aq b H).h);rw[a5.o]at q2 bw a3;clear hD ok hO a6 hE a5;have bv:((l+1:Nat):Int)=(l:Int)+1:=by omega
 rw[bv]at q1;go_enter func89,ntmps89;go_upto_region 1 with fail
 rw[HW.o];go_wp2
 go_loopg [5] (S-hd) (fun g b5 wr=>∃k:Nat,(hd<=k/\k<=S)/\g=S-k/\b5=int i64 k/\wr=W)
 ·exact⟨hd,⟨by omega,by omega⟩,rfl,rfl,rfl⟩
 obtain⟨k,⟨bz,cp⟩,hg,rfl,rfl⟩:=hrel;have cq:(k:Int)<w.length:=by omega
 obtain⟨cb,e2,-,t0,-⟩:=N.o.t.2 k _ (jf w k (by omega));cases e2
 replace t0:wr.cell? ⟨gT,k*5,none⟩=some (string (tS w k)):=t0;by_cases bT:k<S
 ·have hx:=a3.o k bz bT;generalize tS w k=ca at *;go_wp2;go_roundg (S-(k+1))
  ·exact⟨k+1,⟨by omega,by omega⟩,rfl,by go_num,rfl⟩
  omega
 ·have ek:k=S:=by omega
  subst ek;obtain⟨cc,e3,-,J,-⟩:=N.o.t.2 (k+1) _ (jf w (k+1) (by omega));cases e3
  replace J:wr.cell? ⟨gT,(k+1)*5,none⟩=some (string (tS w (k+1))):=J;have b6:(k:Int)+1<w.length:=by omega
  have a4:Xr (((tS w (k+1)).toList == [40])=true->Calls prog 128 #[pointer (some ⟨o,0,none⟩),int i64 H,int i64 ((k:Int)+1+1),int i64 l] wr fun en w'=>pK wr (jZ w b H (k+2) l) en w'):=fun h=>by
   have ct:k+1≠l:=fun S=>by
    rw[<-S]at V;have a1:(tS w (k+1)).toList=[40]:=by simpa using h
    rw[a1]at V;exact absurd V (by decide)
   have:=Gp o H (k+2) l w _ I b _ i wr N.o ax.o hn bl.o bo.o (by omega) b3;rw[show((k+2:Nat):Int)=(k:Int)+1+1 by omega]at this;exact this
  have Q:Xr (dU w b H k l=if((tS w (k+1)).toList == [40])=true then jZ w b H (k+2) l else mB w b H l (l-(k+1)) (k+1) []):=rfl;obtain⟨ca,Hx⟩:=bm (tS w (k+1));rw[Hx.o]at J a4 Q;generalize tS w k=y at *;cases hx:(ca.toList == [40])
  ·rw[Ud (by rw[hx];simp)]at Q;have S0:Xr (Q4 x (wr.alloc (.cells #[slice none 0 0,int i64 0,string ⟨#[]⟩,int i64 0,int i64 0] 122)) [] ⟨none,0⟩):=⟨(bM.alloc _).get HB.o (by simp),by rw[<-bs];exact Ui _ _,Uj _ _ _ _,(by intro k hk;cases hk),ap.o.alloc _⟩;have bg:Xr (mB w b H l (l-(k+1)) (k+1) []=dU w b H k l):=Q.o.symm;go_wp2
   go_loopg [8] (l-(k+1)) (fun g b5 w1=>∃(m:Nat) (h:Hd) (P:List ci),(k+1<=m/\m<=l)/\g=l-m/\b5=int i64 m/\P.length<=m/\Xr (mB w b H l (l-m) m P=dU w b H k l)/\Xr (Q4 x w1 P h))
   ·exact⟨k+1,⟨none,0⟩,[],⟨by omega,by omega⟩,rfl,by go_num,UF _,bg,S0⟩
   obtain⟨m,h,P,⟨cr,cs⟩,cl,rfl,cf,c,d⟩:=hrel;have ar:Xr _:=d.o.Yu;have ac:Xr _:=ge.Yh Z.o ar.o;clear c0 c1 hb q1 q2 bx n t0 J;obtain⟨c0,-,hb⟩:=ac.o.cells;rcases kn m l with ⟨b0,b1⟩ | ⟨b0,-⟩
   ·have bc:(m:Int)<w.length:=(by omega);obtain⟨ce,e4,n,J,-⟩:=ac.o.t.2 m _ (jf w m (by omega));cases e4
    replace J:wr.cell? ⟨gT,m*5,none⟩=some (string (tS w m)):=J;obtain⟨f,hf⟩:∃f,l-m=f+1:=⟨l-m-1,by omega⟩
    have a7:l-(m+1)=f:=(by omega);rw[hf,mB]at c;have aS:Xr (Calls prog 129 #[pointer (some ⟨o,0,none⟩),int i64 H,string (tS w m)] wr fun S w'=>S=returned (int i64 (dY w b H (tS w m)))/\ae [] wr w'):=zm o H (tS w m) w _ I b _ i wr ac.o ax.o;have A:=rt w b H (tS w m);obtain⟨v,Hv⟩:=bm (tS w m);rw[Hv.o]at J c aS A;(go_upto_region 13 with (go_at_call 129;refine Ug aS.o ?_;rintro S w1 ⟨rfl,k1⟩));have K:Xr _:=d.o.Yh k1;have ag:Xr _:=K.o.Yu;have R:Xr _:=ge.Yh Z.o ag.o;have M:=K.o.r;clear k1 c0 hb J n aS;obtain⟨c0,-,hb⟩:=R.o.cells;obtain⟨bp,e5,n,J,-,u2,u3,u4⟩:=R.o.t.2 m _ (jf w m (by omega));cases e5
    replace J:w1.cell? ⟨gT,m*5,none⟩=some (string (tS w m)):=J;rw[Hv.o]at J;cases L:(v.toList == [63])
    ·rw[Ud (by rw[L];simp)]at c;rcases A with A | ⟨j,hj,A⟩
     ·rw[A,Uf (by omega)]at c;rw[A];have HX:Xr (dU w b H k l=oI 2 (Ff (w.getD m gO))):=c.o.symm;generalize w.getD m gO=tm at *;obtain⟨ms,mr,C,E,B⟩:=tm;simp only at u2 u3 u4;obtain⟨⟨r0,r1,r2,r3,r4⟩,⟨f0,f1,f2,f3,f4⟩,bd⟩:=rK M;go_wp2;obtain⟨x0,x1,X,x3,x4⟩:=fR M (slice none 0 0) (int i64 2) (string C) (int i64 E) (int i64 B);exact Um (v:=agg #[slice none 0 0,int i64 2,string C,int i64 E,int i64 B]) (by simp[results,results89,go_sem,x0,x1,X,x3,x4]) rfl (by rw[HX.o];exact iD rfl rfl (((((ag.o.sr1 (by simp) _).sr1 (by simp) _).sr1 (by simp) _).sr1 (by simp) _).sr1 (by simp) _))
     ·rw[A,Ud (by omega)]at c;rw[A];have co:¬(j:Int)<0:=by omega
      have O:Xr _:=Av o H j w _ I b _ i w1 R.o ax.o hj;generalize fL w b (j:Int)=nd at *;(go_upto_region 18 with (go_at_call 130;refine Ug O.o ?_;rintro S w2 ⟨rfl,k2⟩));have a:Xr _:=K.o.Yh k2;have u:Xr _:=ge.Yh Z.o a.o.Yu;clear c0 hb J u2 u3 u4 n k2 O;obtain⟨c0,-,hb⟩:=u.o.cells;obtain⟨br,e6,n,-,-,u2,u3,u4⟩:=u.o.t.2 m _ (jf w m (by omega));cases e6
      generalize w.getD m gO=tm at *;obtain⟨ms,mr,C,E,B⟩:=tm;simp only at u2 u3 u4;have p0:w2.cell? ⟨x.heap.size+1,0,none⟩=some (slice h.ao P.length h.cap):=by rw[ah a.o.p];rfl
      have p1:=am a.o.p 0;have p2:=aj a.o.p;have U:=a.o.op;have a0:Xr ((fB P).n<=900000000):=(by show P.length<=_;omega);have az:Xr ((fB P).n=P.length):=rfl;go_region_law (refine bY w2 rfl (.tmp 97) (.tmp 109) 120 rfl iP (agg #[int i64 0,int i64 0,int i64 0,string ⟨#[]⟩,int i64 0,int i64 0]) 56 h (fB P) [int i64 (j:Int),int i64 0,int i64 (nd:Int),string C,int i64 E,int i64 B] underlying120 ba ai al an rfl (show 0<6 by omega) (by rw[az.o];simp[Act.eval]) U a0.o (by omega) (by simp[Act.eval]) rfl (uI (⟨(j:Int),0,nd,C,E,B⟩:ci)) ?_;intro aT T w5 G F;have Y:=F.Yu.get a.o.p (fun L=>by have:=a.o.fp _ (aR L);omega);have f5:=am Y 0;have c5:w5.cell? ⟨x.heap.size+1,0,none⟩=some (slice h.ao P.length h.cap):=(by rw[ah Y];rfl);have z5:=aj Y)
      all_goals
       rw[show([int i64 (j:Int),int i64 0,int i64 (nd:Int),string C,int i64 E,int i64 B]:List Value)=lp (⟨(j:Int),0,nd,C,E,B⟩:ci) from rfl,n8]at G;have HA:Xr _:=(a.o.addP (m:=(fB P).n+1) F G (by simp[fB,lm]));clear G F Y f5 c5 z5;go_wp2;go_roundg (l-(m+1))
       ·exact⟨m+1,⟨aT,T⟩,P++[(⟨(j:Int),0,nd,C,E,B⟩:ci)],⟨by omega,by omega⟩,rfl,by go_num,by simp;omega,by rw[a7];exact c,HA⟩
       omega
    ·rw[Uf L]at c;have O:Xr _:=KI (pointer (some ⟨o,0,none⟩)) w b w1;have bf:Xr (fL w b (-1)=0):=rfl;rw[bf.o]at O;(go_upto_region 18 with (go_at_call 130;refine Ug O.o ?_;rintro S w2 ⟨rfl,k2⟩));have a:Xr _:=K.o.Yh k2;have u:Xr _:=ge.Yh Z.o a.o.Yu;clear c0 hb J u2 u3 u4 n k2 O;obtain⟨c0,-,hb⟩:=u.o.cells;obtain⟨br,e6,n,-,-,u2,u3,u4⟩:=u.o.t.2 m _ (jf w m (by omega));cases e6
     generalize w.getD m gO=tm at *;obtain⟨ms,mr,C,E,B⟩:=tm;simp only at u2 u3 u4;have p0:w2.cell? ⟨x.heap.size+1,0,none⟩=some (slice h.ao P.length h.cap):=by rw[ah a.o.p];rfl
     have p1:=am a.o.p 0;have p2:=aj a.o.p;have U:=a.o.op;have a0:Xr ((fB P).n<=900000000):=(by show P.length<=_;omega);have az:Xr ((fB P).n=P.length):=rfl;go_region_law (refine bY w2 rfl (.tmp 97) (.tmp 109) 120 rfl iP (agg #[int i64 0,int i64 0,int i64 0,string ⟨#[]⟩,int i64 0,int i64 0]) 56 h (fB P) [int i64 (-1),int i64 0,int i64 0,string C,int i64 E,int i64 B] underlying120 ba ai al an rfl (show 0<6 by omega) (by rw[az.o];simp[Act.eval]) U a0.o (by omega) (by simp[Act.eval]) rfl (uI (⟨(-1),0,0,C,E,B⟩:ci)) ?_;intro aT T w5 G F;have Y:=F.Yu.get a.o.p (fun L=>by have:=a.o.fp _ (aR L);omega);have f5:=am Y 0;have c5:w5.cell? ⟨x.heap.size+1,0,none⟩=some (slice h.ao P.length h.cap):=(by rw[ah Y];rfl);have z5:=aj Y)
     all_goals
      rw[show([int i64 (-1),int i64 0,int i64 0,string C,int i64 E,int i64 B]:List Value)=lp (⟨(-1),0,0,C,E,B⟩:ci) from rfl,n8]at G;have HA:Xr _:=(a.o.addP (m:=(fB P).n+1) F G (by simp[fB,lm]));clear G F Y f5 c5 z5;go_wp2;go_roundg (l-(m+1))
      ·exact⟨m+1,⟨aT,T⟩,P++[(⟨(-1),0,0,C,E,B⟩:ci)],⟨by omega,by omega⟩,rfl,by go_num,by simp;omega,by rw[a7];exact c,HA⟩
      omega
   ·have em:m=l:=(by omega);subst em;rw[U3,mB]at c;have b1:¬(m:Int)<(m:Int):=by omega
    have bc:(m:Int)<w.length:=(by omega);obtain⟨bp,e5,n,-,-,u2,u3,u4⟩:=ac.o.t.2 m _ (jf w m (by omega));cases e5
    have M:=d.o.r;obtain⟨⟨r0,r1,r2,r3,r4⟩,⟨f0,f1,f2,f3,f4⟩,bd⟩:=rK M;have p0:wr.cell? ⟨x.heap.size+1,0,none⟩=some (slice h.ao P.length h.cap):=(by rw[ah d.o.p];rfl);have p1:wr.cell? ⟨x.heap.size+1,1,none⟩=some (int i64 0):=(by rw[ah d.o.p];rfl);have p2:wr.cell? ⟨x.heap.size+1,2,none⟩=some (string ⟨#[]⟩):=(by rw[ah d.o.p];rfl);have p3:wr.cell? ⟨x.heap.size+1,3,none⟩=some (int i64 0):=(by rw[ah d.o.p];rfl);have p4:wr.cell? ⟨x.heap.size+1,4,none⟩=some (int i64 0):=(by rw[ah d.o.p];rfl);have Y:=aj d.o.p;by_cases ad:P.length=0
    ·rw[Uf ad]at c;have HX:Xr (dU w b H k m=oI 1 (Ff (w.getD m gO))):=c.o.symm;have b2:((P.length:Int)==0)=true:=(by simpa using ad);generalize w.getD m gO=tm at *;obtain⟨ms,mr,C,E,B⟩:=tm;simp only at u2 u3 u4;go_wp2;obtain⟨x0,x1,X,x3,x4⟩:=fR M (slice none 0 0) (int i64 1) (string C) (int i64 E) (int i64 B);exact Um (v:=agg #[slice none 0 0,int i64 1,string C,int i64 E,int i64 B]) (by simp[results,results89,go_sem,x0,x1,X,x3,x4]) rfl (by rw[HX.o];exact iD rfl rfl (((((ar.o.sr1 (by simp) _).sr1 (by simp) _).sr1 (by simp) _).sr1 (by simp) _).sr1 (by simp) _))
    ·rw[Ud ad]at c;have HX:Xr (dU w b H k m=⟨P,0,⟨#[]⟩,0,0⟩):=c.o.symm;have b2:((P.length:Int)==0)=false:=(by simpa using ad);have e:Xr (∀q,h.Yv=some q->q≠x.heap.size):=fun q L=>by have:=d.o.fp q L;omega
     go_wp2;obtain⟨x0,x1,X,x3,x4⟩:=fR M (slice h.ao P.length h.cap) (int i64 0) (string ⟨#[]⟩) (int i64 0) (int i64 0);exact Um (v:=agg #[slice h.ao P.length h.cap,int i64 0,string ⟨#[]⟩,int i64 0,int i64 0]) (by simp[results,results89,go_sem,x0,x1,X,x3,x4]) rfl (by rw[HX.o];exact⟨h,rfl,⟨((((d.o.op.Yq e.o _ _).Yq e.o _ _).Yq e.o _ _).Yq e.o _ _).Yq e.o _ _,fun q L=>(by have:=d.o.fp q L;omega),((((ar.o.sr1 (by simp) _).sr1 (by simp) _).sr1 (by simp) _).sr1 (by simp) _).sr1 (by simp) _⟩⟩)
  ·rw[Uf hx]at Q;have bj:Xr _:=a4.o hx;generalize jZ w b H (k+2) l=PF at *;obtain⟨af,pw,pf,pl,pc⟩:=PF;have bk:Xr (Calls prog 128 #[pointer (some ⟨o,0,none⟩),int i64 H,int i64 ((k:Int)+1+1),int i64 l] wr fun en w'=>∃h',en=returned (agg #[slice h'.ao af.length h'.cap,int i64 pw,string pf,int i64 pl,int i64 pc])/\ip wr w' h' (fB af)):=bj.o;go_wp2_with (go_at_call 128;refine Ug bk.o ?_;rintro en w2 ⟨h3,rfl,X⟩;have a2:=X.Yu.get HB.o (by simp);obtain⟨⟨r0,r1,r2,r3,r4⟩,⟨f0,f1,f2,f3,f4⟩,bd⟩:=rK a2);obtain⟨y0,y1,y2,y3,y4⟩:=fR a2 (slice h3.ao af.length h3.cap) (int i64 pw) (string pf) (int i64 pl) (int i64 pc);have e:Xr (∀q,h3.Yv=some q->q≠x.heap.size):=fun q L=>by have:=X.far q L;omega
   have be:Xr _:=ap.o.trans X.Yu;exact Um (v:=agg #[slice h3.ao af.length h3.cap,int i64 pw,string pf,int i64 pl,int i64 pc]) (by simp[results,results89,go_sem,y0,y1,y2,y3,y4]) rfl (by rw[Q.o];exact⟨h3,rfl,⟨((((X.YF.Yq e.o _ _).Yq e.o _ _).Yq e.o _ _).Yq e.o _ _).Yq e.o _ _,fun q L=>(by have:=X.far q L;omega),((((be.o.sr1 (by simp) _).sr1 (by simp) _).sr1 (by simp) _).sr1 (by simp) _).sr1 (by simp) _⟩⟩)
def Tg:ci:=⟨0,0,0,⟨#[]⟩,0,0⟩
def aQ(P:List ci)(i:Nat):ci:=P.getD i Tg
theorem Jo(h:y<f.length):f[y]?=some (aQ f y):=by
 unfold aQ;rw[Uc,Ub h];rfl
def wG(P:List ci)(i:Nat):Bool:=((aQ P i).ref == -1)
def ik(P:List ci):Int:=match (List.range P.length).find? (wG P) with
 | some i=>i
 | none=>-1
theorem Ki(c:v<d.length)(h:wG d v=true)(a:∀j,j<v->wG d j=false):ik d=v:=by
 have e:(List.range d.length).find? (wG d)=some v:=by
  rw[Vp];exact⟨h,Up.2 c,fun j b=>by rw[a j b];rfl⟩
 unfold ik;rw[e]
theorem Nl(a:∀j,j<d.length->wG d j=false):ik d=-1:=by
 have e:(List.range d.length).find? (wG d)=none:=by
  rw[U8];intro j b;rw[a j (Up.1 b)];simp
 unfold ik;rw[e]
theorem FN:(ik f=-1/\∀j,j<f.length->(aQ f j).ref≠-1)∨∃k,k<f.length/\ik f=(k:Int):=by
 unfold ik;cases h:(List.range f.length).find? (wG f) with
 | none =>
  refine Us ⟨rfl,fun j a e=>?_⟩;rw[U8]at h;exact h j (Up.2 a) (by unfold wG;rw[e];rfl)
 | some i=>exact Uo ⟨i,Up.1 (UV h),rfl⟩
theorem cN.step(h:cN T y7 6 lp d)(k:Nat)(b:k<d.length):∃g,y7=some ⟨g,0,none⟩/\g<T.heap.size/\T.cell? ⟨g,k*6,none⟩=some (int i64 (aQ d k).ref)/\T.cell? ⟨g,k*6+1,none⟩=some (int i64 ((aQ d k).back:Nat))/\T.cell? ⟨g,k*6+2,none⟩=some (int i64 ((aQ d k).need:Nat)) /\
  T.cell? ⟨g,k*6+3,none⟩=some (string (aQ d k).YB)/\T.cell? ⟨g,k*6+4,none⟩=some (int i64 (aQ d k).YC)/\T.cell? ⟨g,k*6+5,none⟩=some (int i64 (aQ d k).YD):=by
 obtain⟨g,e,a,c⟩:=h k _ (Jo d k b);exact⟨g,e,a,c 0 _ rfl,c 1 _ rfl,c 2 _ rfl,c 3 _ rfl,c 4 _ rfl,c 5 _ rfl⟩
theorem Kh(q:cN x D 6 lp f)(B:f.length<=100000000) :
  Calls prog 131 #[agg #[slice D f.length i,int i64 z7,string N,int i64 y5,int i64 y6]] x fun e y=>e=returned (int i64 (ik f))/\ae [] x y:=by
 obtain⟨W,l⟩:=bm (x.alloc (.cells #[slice D f.length i,int i64 z7,string N,int i64 y5,int i64 y6] 122));have n:=fE l.o;have a:Xr _:=fg l.o;have t:Xr _:=q.Yh a.o;obtain⟨E,-⟩:=lr n;have C:=aj n;clear q;go_enter func131,ntmps131;go_upto_region 1 with fail
 rw[l.o];go_wp2
 go_loopg [3] f.length (fun g w wr=>∃k:Nat,k<=f.length/\g=f.length-k/\w=int i64 k/\Xr (∀j,j<k->wG f j=false)/\wr=W)
 ·exact⟨0,by omega,rfl,rfl,(fun j v=>by omega),rfl⟩
 obtain⟨k,A,z,rfl,d,rfl⟩:=hrel;rcases kn k f.length with ⟨b,m⟩ | ⟨b,-⟩
 ·obtain⟨g,rfl,u,F,-⟩:=cN.step t.o k b;have p:Xr (wG f k=((aQ f k).ref == -1)):=rfl;generalize (aQ f k).ref=r at *;cases s:(r == -1)
  ·have c:Xr _:=fc d.o (by rw[p.o,s]);go_wp2;go_roundg (f.length-(k+1))
   ·exact⟨k+1,by omega,rfl,by go_num,c,rfl⟩
   omega
  ·have c:Xr (ik f=k):=Ki b (by rw[p.o,s]) d.o;go_wp2;go_ret;exact⟨T0 c.o.symm,a.o⟩
 ·have c:Xr (ik f=-1):=Nl (fun j v=>d.o j (by omega));have m:¬(k:Int)<f.length:=by omega
  go_wp2;go_ret;exact⟨T0 c.o.symm,a.o⟩
def oJ(rec:Nat->Int):Nat->Nat->Int
 | 0,b=>b
 | k+1,b=>if b=0 then -1 else if rec (b-1)<0 then -1 else oJ rec k (rec (b-1)).toNat
def Bp(P:List ci):Nat->Nat->Int
 | 0,_=>0
 | f+1,i=>oJ (Bp P f) (aQ P i).need i
theorem Pt(a:∀i,z6 i<=(i:Int))(k:Nat):∀b,oJ z6 k b<=(b:Int):=by
 induction k with
 | zero=>intro b;exact WK _
 | succ k c =>
  intro b;rw[oJ];split
  ·omega
  ·split
   ·omega
   ·have d:=c (z6 (b-1)).toNat;have e:=a (b-1);omega
theorem Bq(a:Nat):∀i,Bp f a i<=(i:Int):=by
 induction a with
 | zero=>intro i;show(0:Int)<=i;omega
 | succ a b=>intro i;rw[Bp];exact Pt b _ _
theorem xr{c:Nat->Int}(d:∀i,z6 i<=(i:Int))(k:Nat):∀b,(∀i,i<b->z6 i=c i)->oJ z6 k b=oJ c k b:=by
 induction k with
 | zero=>intro b _;rfl
 | succ k e =>
  intro b h;rw[oJ,oJ];by_cases a:b=0
  ·rw[Uf a,Uf a]
  ·rw[Ud a,Ud a,<-h (b-1) (by omega)];split
   ·rfl
   ·next f =>
    have:=d (b-1);exact e _ (fun i g=>h i (by omega))
theorem JN:∀a g i,i<a->i<g->Bp f a i=Bp f g i:=by
 intro a
 induction a with
 | zero=>intro g i h;omega
 | succ a b =>
  intro g i c d;cases g with
  | zero=>omega
  | succ g =>
   rw[Bp,Bp];exact xr (Bq f a) _ _ (fun j e=>b g j (by omega) (by omega))
def dJ(P:List ci)(i:Nat):Int:=Bp P (i+1) i
theorem nO:dJ f y=oJ (dJ f) (aQ f y).need y:=by
 unfold dJ;rw[Bp];exact xr (Bq f y) _ _ (fun j a=>JN f y (j+1) j a (by omega))
theorem xv:dJ f y<=(y:Int):=Bq f _ y
def Fj(P:List ci):Prop:=∀i,(aQ P i).need<=100000
theorem uV(hl:f.length<=100000000)(O:Fj f)(z:Nat):∀(a:Nat) (w:World),a<z->a<f.length->cN w D 6 lp f ->
  Calls prog 133 #[agg #[slice D f.length i,int i64 z7,string N,int i64 y5,int i64 y6],int i64 a] w fun e w'=>e=returned (int i64 (dJ f a))/\ae [] w w':=by
 induction z with
 | zero=>intro a w h;omega
 | succ z J =>
  intro a w S Q H;have x:Xr _:=J;clear J;obtain⟨W,y⟩:=bm (w.alloc (.cells #[slice D f.length i,int i64 z7,string N,int i64 y5,int i64 y6] 122));have u:=fE y.o;have p:Xr _:=fg y.o;have G:Xr _:=H.Yh p.o;obtain⟨p0,-⟩:=lr u;have T:(a:Int)<f.length:=by omega
  obtain⟨g,rfl,B,-,-,q2,-⟩:=cN.step G.o a Q;have L:Xr _:=u;have v:Xr _:=nO f a;have X:=O a;generalize (aQ f a).need=n at *;generalize dJ f a=R at *;clear H u;go_enter func133,ntmps133;go_upto_region 1 with fail
  rw[y.o];go_wp2;clear q2 B
  go_loopg [6,7] n (fun m M Z wr=>∃(k b:Nat),k<=n/\m=n-k/\M=int i64 b/\Z=int i64 k/\b<=a/\Xr (R=oJ (dJ f) (n-k) b)/\Xr (ae [] W wr))
  ·exact⟨0,a,by omega,rfl,rfl,rfl,by omega,v,ae.refl _ _⟩
  obtain⟨k,b,hk,hm,rfl,rfl,hb,c,s⟩:=hrel;rcases kn k n with ⟨C,U⟩ | ⟨C,-⟩
  ·obtain⟨d,P⟩:∃d,n-k=d+1:=⟨n-k-1,by omega⟩
   have A:n-(k+1)=d:=(by omega);rw[P,oJ]at c;have j:Xr _:=p.o.trans s.o;cases b with
   | zero =>
    rw[Uf rfl]at c;go_wp2;go_ret;exact⟨T0 c.o.symm,j.o⟩
   | succ q =>
    rw[Ud (by omega),Vj]at c;have K:=s.o.get L.o (by simp);obtain⟨r0,r1,r2,r3,r4⟩:=lr K;have F:Xr _:=(x.o q wr (by omega) (by omega) (cN.Yh G.o s.o));have V:=xv f q;have Y:((q:Int)+1==0)=false:=by simp;omega
    generalize dJ f q=r at *;by_cases I:r<0
    ·rw[Uf I]at c;go_wp2_with (go_at_call 133;refine Ug F.o ?_;rintro e w1 ⟨rfl,t⟩;have l:Xr _:=j.o.trans t;clear t);go_ret;exact⟨T0 c.o.symm,l.o⟩
    ·rw[Ud I]at c;obtain⟨E,rfl⟩:∃E:Nat,r=E:=⟨r.toNat,by omega⟩
     rw[UR,<-A]at c;go_wp2_with (go_at_call 133;refine Ug F.o ?_;rintro e w1 ⟨rfl,t⟩;have l:Xr _:=s.o.trans t;clear t);go_roundg (n-(k+1))
     ·exact⟨k+1,E,by omega,rfl,rfl,by go_num,by omega,c,l⟩
     omega
  ·have e:k=n:=(by omega);subst e;rw[U3,oJ]at c;have j:Xr _:=p.o.trans s.o;go_wp2;go_ret;exact⟨T0 c.o.symm,j.o⟩
def GI(A B:Xt)(i:Nat):Bool:=((A.getD i ⟨#[]⟩).toList==(B.getD i ⟨#[]⟩).toList)
def lE(A B:Xt):Bool:=(A.length==B.length)&&(List.range A.length).all (GI A B)
theorem np(h:y<k.length):k[y]?=some (k.getD y ⟨#[]⟩):=by
 rw[Uc,Ub h];rfl
theorem EE(B:Xt)(v y:Xu)(G H:Nat)(w:World)(A:ig w v k)(C:ig w y B)(K:k.length<=1000000000) :
  Calls prog 134 #[slice v k.length G,slice y B.length H] w fun e M=>e=returned (bool (lE k B))/\ae [] w M:=by
 have E:Xr _:=A;have F:Xr _:=C;clear A C;by_cases c:k.length=B.length
 ·have q:Xr (lE k B=(List.range k.length).all (GI k B)):=by show _=_;unfold lE;rw[c];simp
  obtain⟨l,b⟩:=bm (k.length);have n:Xr (B.length=l):=cM (by rw[<-c];exact b.o);rw[b.o,n.o];rw[b.o]at K q;clear c;go_enter func134,ntmps134;go_wp2
  go_loopg [5] l (fun g i wr=>∃a:Nat,a<=l/\g=l-a/\i=int i64 a/\Xr (∀j,j<a->GI k B j=true)/\Xr (ae [] w wr))
  ·exact⟨0,by omega,rfl,rfl,(fun j r=>by omega),ae.refl _ _⟩
  obtain⟨a,Q,P,rfl,t,p⟩:=hrel;rcases kn a l with ⟨d,s⟩ | ⟨d,-⟩
  ·obtain⟨N,rfl,I,R⟩:=(ig.Yh E.o p.o) a _ (np k a (by rw[b.o];exact d));obtain⟨O,rfl,J,S⟩:=(ig.Yh F.o p.o) a _ (np B a (by rw[n.o];exact d));have u:Xr (GI k B a=((k.getD a ⟨#[]⟩).toList==(B.getD a ⟨#[]⟩).toList)):=rfl;generalize k.getD a ⟨#[]⟩=x at *;generalize B.getD a ⟨#[]⟩=z at *;have m:Xr _:=p.o.drew;cases D:(x.toList==z.toList)
   ·have f:Xr (lE k B=false):=by
     show _=_;rw[q.o,WZ];exact⟨a,Up.2 d,by rw[u.o,D];simp⟩
    (go_upto_region 6 with fail);go_region
    all_goals
     go_wp2;go_ret;exact⟨aE f.o.symm,m.o⟩
   ·have f:Xr (∀j,j<a+1->GI k B j=true):=fun j r=>by
     by_cases e:j=a
     ·rw[e,u.o,D]
     ·exact t.o j (by omega)
    (go_upto_region 6 with fail);go_region
    all_goals
     go_wp2;go_roundg (l-(a+1))
     ·exact⟨a+1,by omega,rfl,by go_num,f,m⟩
     omega
  ·have f:Xr (lE k B=true):=by
    show _=_;rw[q.o,U5];exact fun j r=>t.o j (by have:=Up.1 r;omega)
   have s:¬(a:Int)<(l:Int):=(by omega);go_wp2;go_ret;exact⟨aE f.o.symm,p.o⟩
 ·have f:Xr (lE k B=false):=by show _=_;unfold lE;simp[c]
  have L:((k.length:Int)==B.length)=false:=X6 (by omega);go_enter func134,ntmps134;go_wp2;go_ret;exact⟨aE f.o.symm,ae.refl _ _⟩
end Go.Proofs.YtnbhnocdhbcbcaaGreat
