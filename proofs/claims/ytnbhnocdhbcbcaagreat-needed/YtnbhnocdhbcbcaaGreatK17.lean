import Derived.Test.YtnbhnocdhbcbcaaGreatK16
namespace Go.Proofs.YtnbhnocdhbcbcaaGreat
open Go.RowKit Tryz
open Value IntKind Ending
set_option maxHeartbeats 0
variable{T M s:World}{L:Hd}{z0:eR}{v:Nat}{y7:Xu}{t:Xv}{d:List dj}{z6:Nat->Int}(o H S:Nat)(k:Xt)(l:Nat)(w:List Tk)(z4:Xu)(I:Nat)(b:List Sm)(f:List dj)(D:Xu)(i:Nat)(z7:Int)(N:Xs)(y5 y6:Int)(x:World)(n:Xv)(y:Nat)
theorem cD{P:Program}{k:Array Oper}{d:List Oper}{o:Oper}{a:Act}{Q:Exit->Act->World->Prop}(I:o.guard=none)(s q:Operand)(t:TypeId)(p:o.op=Op.call { callee:=Callee.builtin Builtin.append,args:=#[s,q],argTypes:=#[t,t] })(i:TypeInfo)(z:Value)(c:Nat)(h:Hd)(r:eR)(b:List Value)(y:P.underlying t=some (.slice r.e))(A:P.info? r.e=some i)(B:i.zero=some z)(C:i.size=r.size)(D:i.bytes=c)(E:z.cells.size=r.size)(F:0<r.size)(L:a.eval s=slice h.ao r.n h.cap)(g:aB x h r)(R:r.n<=900000000)(H:c<=1000)(M:a.eval q=slice (some ⟨x.heap.size,0,none⟩) 1 1)(S:b.length=r.size)(m:∀u∈b,u.oneCell'=true)(G:∀f l,aB l f ⟨r.e,r.size,r.n+1,r.xs++b⟩->bq x l h f->wpList P k Q d (a.put o.dst (slice f.ao (r.n+1) f.cap)) l) :
  wpList P k Q (o :: d) a (x.alloc (.cells b.toArray r.e)):=by
 have v:ae [] x (x.alloc (.cells b.toArray r.e)):=bR.alloc _;have K:(x.alloc (.cells b.toArray r.e)).heap[x.heap.size]?=some (.cells b.toArray r.e):=Tu _ _;refine fh _ I s q t p i z c h r y A B C D E F L (g.XE v) (some ⟨x.heap.size,0,none⟩) 1 1 b M (by omega) (fun e=>by cases e) ?_ m (by omega) H ?_
 ·intro O e j u J;cases e
  rw[bY,ah K];simpa using J
 ·intro f l N w;exact G f l N ((bq.XE v).trans w)
def pv(w:World)(p:jP)(e:Ending)(w':World):Prop:=∃h',e=returned (Sh p h')/\ip w w' h' (fz p.st)
theorem iC{p:jP}{e:Ending}(a:p.st=[])(b:e=returned (agg #[slice none 0 0,int i64 p.why,string p.XZ,int i64 p.X0,int i64 p.X3]))(k:ae [] T M):pv T p e M :=
 ⟨⟨none,0⟩,by rw[b,Sh,a];rfl,by rw[a];exact⟨Ty _ _ _ _,(by intro k c;cases c),k⟩⟩
theorem aB.XN(o:aB T L z0)(c:∀k,L.XS=some k->k≠v)(i:Nat)(b:Value):aB (T.setCell ⟨v,i,none⟩ b) L z0:=by
 have k:ae [v] T (T.setCell ⟨v,i,none⟩ b):=(ae.refl _ _).sl1 _;exact o.XJ (fun q a=>k.block q (o.lt a) (by simp;exact c q a))
theorem JH{α:Type}(L:List α)(k:Nat)(h:k<L.length):L.drop k=L[k] :: L.drop (k+1):=TV h
set_option maxRecDepth 100000
theorem Lq(b5:Xu)(cR:Nat)(L:List Lt)(b4:Xu)(cL:Nat)(B:Lt)(F:World)(hD:gy F S w z4 I b D i)(ok:pA w b l)(hR:sD F b5 n)(hr:∀r∈n,r<l)(ds:n.length<=30000)(hL:di F b4 4 Sg L)(c6:L.length<=20000000)(a0:∀cl∈L,0<=cl.c/\cl.c<256) :
  Calls prog 177 #[pointer (some ⟨S,0,none⟩),slice b5 n.length cR,slice b4 L.length cL,agg #[string B.XZ,int i64 B.X0,int i64 B.X3]] F fun e w'=>pv F (j8 w b n B L) e w':=by
 have HD:Xr _:=hD;have cr:Xr _:=ok;have HR:Xr _:=hR;have HL:Xr _:=hL;have cp:Xr _:=a0;have ct:Xr _:=hr;obtain⟨iN,cF,ch,cj,ck⟩:=TZ Bp;obtain⟨iP,bv,be,bf,bg⟩:=TZ Nc;have S0:Xr (Ha F (((F.alloc (.cells #[string B.XZ,int i64 B.X0,int i64 B.X3] 36)).alloc (.cells #[slice none 0 0,int i64 0,string ⟨#[]⟩,int i64 0,int i64 0] 122)).alloc (.cells #[slice none 0 0,int i64 0,string ⟨#[]⟩,int i64 0,int i64 0] 122)) B [] ⟨none,0⟩ [] ⟨none,0⟩):=by
  obtain⟨W1,bl⟩:∃W1,W1=F.alloc (.cells #[string B.XZ,int i64 B.X0,int i64 B.X3] 36):=⟨_,rfl⟩
  obtain⟨W2,bo⟩:∃W2,W2=W1.alloc (.cells #[slice none 0 0,int i64 0,string ⟨#[]⟩,int i64 0,int i64 0] 122):=⟨_,rfl⟩
  have z1:W1.heap.size=F.heap.size+1:=by rw[bl];simp
  have z2:W2.heap.size=F.heap.size+2:=by rw[bo];simp[z1]
  have k1:=fI bo.symm;have k0:=fI bl.symm;have k2:ae [] W2 (W2.alloc (.cells #[slice none 0 0,int i64 0,string ⟨#[]⟩,int i64 0,int i64 0] 122)):=bR.alloc _;have e0:=f9 bl.symm;have e1:W2.heap[F.heap.size+1]?=some (.cells #[slice none 0 0,int i64 0,string ⟨#[]⟩,int i64 0,int i64 0] 122):=by rw[bo,<-z1];exact Tu _ _
  show Ha _ _ _ _ _ _ _;rw[<-bl,<-bo];exact⟨k2.get (k1.get e0 (by simp)) (by simp),k2.get e1 (by simp),by rw[<-z2];exact Tu _ _,Ty _ _ _ _,Ty _ _ _ _,(by intro k hk;cases hk),(by intro k hk;cases hk),(by intro k hk;cases hk),(k0.trans k1).trans k2⟩
 clear hD ok hR hL a0 hr;go_enter func177,ntmps177;go_wp2
 go_loopg [10,11,12,13] L.length (fun g tg nm fr dT wr=>∃(k:Nat) (h:Hd) (P:List dj) (ht:Hd) (d:Xv) (u:Xs) (f:Bool),k<=L.length/\g=L.length-k/\tg=slice ht.ao d.length ht.cap/\nm=string u/\fr=bool f/\dT=int i64 k/\(P.length<=k/\d.length<=k/\u.size<=k)/\Xr (f=true->0<P.length)/\Xr (mL w b n B (L.drop k) P d u f=j8 w b n B L)/\Xr (Ha F wr B P h d ht))
 ·exact⟨0,⟨none,0⟩,[],⟨none,0⟩,[],⟨#[]⟩,false,by omega,rfl,rfl,rfl,rfl,rfl,⟨Tq _,Tq _,Tq _⟩,(fun h=>by cases h),rfl,S0⟩
 obtain⟨k,h,P,ht,d,u,f,hk,hg,rfl,rfl,rfl,rfl,⟨c8,dv,dl⟩,HF,x,E⟩:=hrel;obtain⟨⟨V,W,X⟩,⟨ag,ai,al,an,ap⟩,⟨Y,Z,ac,ad,af⟩,⟨av,ax,az,aS,aT⟩,ar,a3⟩:=E.o.cells;have G:Xr _:=E.o.XR;rcases kn k L.length with ⟨bc,dk⟩ | ⟨bc,-⟩
 ·obtain⟨gL,rfl,cb,a7⟩:=(di.XE HL.o G.o) k L[k] (Tn bc);have l0:wr.cell? ⟨gL,k*4,none⟩=some (int u8 L[k].c):=a7 0 _ rfl;have l1:=a7 1 _ rfl;have l2:=a7 2 _ rfl;have l3:=a7 3 _ rfl;have b0:Xr (∀w',ae [] F w'->gL<w'.heap.size/\w'.cell? ⟨gL,k*4+1,none⟩=some (string L[k].XZ)/\w'.cell? ⟨gL,k*4+2,none⟩=some (int i64 L[k].X0)/\w'.cell? ⟨gL,k*4+3,none⟩=some (int i64 L[k].X3)):=fun w' kw=>by
   obtain⟨g2,e2,h2,c2⟩:=(di.XE HL.o kw) k L[k] (Tn bc);cases e2
   exact⟨h2,c2 1 _ rfl,c2 2 _ rfl,c2 3 _ rfl⟩
  have a0:=cp.o L[k] (TP bc);have bz:Xr _:=JH L k bc;rw[bz.o,mL]at x;clear a7 bz;generalize L[k]=cl at *;obtain⟨c,s,t,j⟩:=cl;simp only at l0 l1 l2 l3 a0 x b0;have dc:=fun wx=>OZ c a0 wx;obtain⟨c9,db⟩:=a0;have cE:(wH c).size=1:=rfl
  -- a fault at this letter
  have c0:Xr (∀(w2:World) (e:Ending),ae [] F w2->e=returned (agg #[slice none 0 0,int i64 4,string s,int i64 t,int i64 j])->j8 w b n B L=ox 4 ⟨c,s,t,j⟩->pv F (j8 w b n B L) e w2):=fun w2 e k2 he hx=>by rw[hx];exact iC rfl he k2
  by_cases a1:85<=c/\c<=89
  ·rw[Tr a1]at x;obtain⟨a1,a2⟩:=a1;have co:Xr _:=(ae.refl [] wr).alloc (.cells #[int u8 c] 5);have cu:Xr _:=E.o.XE co.o;have cy:Xr ((u++wH c).size=u.size+1):=ci (by rw[ByteArray.size_append,cE]);go_wp2;go_roundg (L.length-(k+1))
   ·exact⟨k+1,h,P,ht,d,u++wH c,false,by omega,rfl,rfl,rfl,rfl,by go_num,⟨by omega,by omega,by rw[cy.o];omega⟩,(fun h=>by cases h),x,cu⟩
   omega
  ·rw[Tp a1]at x;by_cases b1:65<=c/\c<=84
   ·rw[Tr b1]at x;obtain⟨b1,b2⟩:=b1;have a2:¬85<=c:=(by omega);have bs:Xr (∀wx,Calls prog 214 #[string (u++wH c),int i64 ((n.length:Int)+(d.length:Int))] wx fun e w'=>e=returned (int i64 (gx (u++wH c) (n.length+d.length):Nat))/\ae [] wx w'):=fun wx=>by
     have:=FQ (u++wH c) (n.length+d.length) wx (by omega);rw[Int.natCast_add]at this;exact this
    have cc:=Ae (u++wH c) (n.length+d.length);obtain⟨T,cx⟩:=bn (gx (u++wH c) (n.length+d.length));rw[cx.o]at bs x cc;have dt:u.size+1<=9223372036854775807:=(by omega);(go_upto_region 15 with (go_at_call 214;refine(bs.o _).mono ?_;rintro e w1 ⟨rfl,k1⟩));have bT:Xr _:=((ae.refl [] wr).alloc _).trans k1;have a6:Xr _:=E.o.XE bT.o;have Q:Xr _:=G.o.trans bT.o;clear k1 V W X ag ai al an ap Y Z ac ad af av ax az aS aT ar a3 l0 l1 l2 l3 cb bs;obtain⟨⟨V,W,X⟩,⟨ag,ai,al,an,ap⟩,⟨Y,Z,ac,ad,af⟩,⟨av,ax,az,aS,aT⟩,ar,a3⟩:=a6.o.cells;obtain⟨cb,l1,l2,l3⟩:=b0.o w1 Q.o;by_cases n0:T=0
    ·rw[Tr n0]at x;subst n0;have R:Xr (j8 w b n B L=ox 5 ⟨c,s,t,j⟩):=x.o.symm;go_wp2;obtain⟨J,K,M,N,O⟩:=fQ a6.o.r (slice none 0 0) (int i64 5) (string s) (int i64 t) (int i64 j);exact Tz (v:=agg #[slice none 0 0,int i64 5,string s,int i64 t,int i64 j]) (by simp[results,results177,go_sem,J,K,M,N,O]) rfl (by rw[R.o];exact iC rfl rfl (((((Q.o.sr1 (by simp) _).sr1 (by simp) _).sr1 (by simp) _).sr1 (by simp) _).sr1 (by simp) _))
    ·rw[Tp n0]at x;have d0:((T:Int)==0)=false:=(by simpa using n0);by_cases n1:T<=n.length
     ·have cX:(T:Int)<=n.length:=(by omega);obtain⟨q,rfl⟩:∃q,T=q+1:=⟨T-1,by omega⟩
      have bw:q<n.length:=(by omega);have dp:(q:Int)<n.length:=(by omega);have a5:Xr (pQ w b n d (q+1) ⟨c,s,t,j⟩=⟨(n[q]:Nat),0,gN w b (n[q]:Nat),s,t,j⟩):=by
       show _=_;unfold pQ;rw[Tr n1,UM,To,Tn bw];rfl
      have cV:=ct.o n[q] (TP bw);obtain⟨gR,rfl,df,cq⟩:=(sD.XE HR.o Q.o) q n[q] (Tn bw);rw[a5.o]at x;have b3:Xr (∀wx,ae [] F wx->Calls prog 130 #[pointer (some ⟨S,0,none⟩),int i64 (n[q]:Nat)] wx fun e w'=>e=returned (int i64 (gN w b (n[q]:Nat):Nat))/\ae [] wx w'):=fun wx kx=>Ad S l n[q] w z4 I b D i wx (gy.XE HD.o kx) cr.o cV;clear a5;generalize n[q]=rf at *;generalize gN w b (rf:Nat)=nd at *;obtain⟨W2,bk⟩:=bn (w1.alloc (.cells #[int i64 (rf:Int),int i64 0,int i64 0,string s,int i64 t,int i64 j] 162));have bx:=fI bk.o;have B2:=f9 bk.o;have br:Xr _:=b3.o W2 (Q.o.trans bx);obtain⟨s0,-⟩:=JC B2;have z2:=aj B2;(go_upto_region 20 with fail);rw[bk.o];(go_upto_region 22 with (go_at_call 130;refine Ts br.o ?_;rintro e w2 ⟨rfl,k2⟩;have B3:=k2.get B2 (by simp);have f3:=am B3 2;have c3:w2.cell? ⟨w1.heap.size,2,none⟩=some (int i64 0):=(by rw[ah B3];rfl);have z3:=aj B3));obtain⟨W3,z⟩:=bn (w2.setCell ⟨w1.heap.size,2,none⟩ (int i64 (nd:Int)));have bj:ae [] w1 W3:=(by rw[<-z.o];exact(bx.trans k2).sr1 (by simp) _);have B4:W3.heap[w1.heap.size]?=some (.cells #[int i64 (rf:Int),int i64 0,int i64 (nd:Int),string s,int i64 t,int i64 j] 162):=(by rw[<-z.o,ab B3];rfl);have C:Xr _:=a6.o.XE bj;rw[z.o];clear V W X ag ai al an ap Y Z ac ad af av ax az aS aT ar a3;clear B2 B3 bx k2 bj s0 z2 f3 c3 z3 z bk br b3 cq;obtain⟨⟨V,W,X⟩,⟨ag,ai,al,an,ap⟩,⟨Y,Z,ac,ad,af⟩,⟨av,ax,az,aS,aT⟩,ar,a3⟩:=C.o.cells;obtain⟨t0,t1,t2,t3,t4,t5⟩:=JC B4;have H:=C.o.op;have ba:(fz P).n<=900000000:=(by show P.length<=_;omega);go_wp2_with (at_builtin;refine cD _ rfl (.tmp 103) (.tmp 105) 120 rfl iP (agg #[int i64 0,int i64 0,int i64 0,string ⟨#[]⟩,int i64 0,int i64 0]) 56 h (fz P) [int i64 (rf:Int),int i64 0,int i64 (nd:Int),string s,int i64 t,int i64 j] underlying120 bv be bf bg rfl (show 0<6 by omega) rfl H ba (by omega) rfl rfl (uF (⟨(rf:Int),0,nd,s,t,j⟩:dj)) ?_;intro h5 w5 y A;rw[show([int i64 (rf:Int),int i64 0,int i64 (nd:Int),string s,int i64 t,int i64 j]:List Value)=lI (⟨(rf:Int),0,nd,s,t,j⟩:dj) from rfl,nR]at y;have HA:Xr _:=(C.o.addP (m:=(fz P).n+1) A y (by simp[fz,lG]));have U:=A.XR.get C.o.p (fun hq=>by have:=C.o.fp _ (aQ hq);omega);have f5:=am U 0;have c5:w5.cell? ⟨F.heap.size+2,0,none⟩=some (slice h.ao P.length h.cap):=(by rw[ah U];rfl);have z5:=aj U;clear y A U);go_roundg (L.length-(k+1))
      ·exact⟨k+1,h5,P++[⟨(rf:Int),0,nd,s,t,j⟩],ht,d,⟨#[]⟩,true,by omega,rfl,rfl,rfl,rfl,by go_num,⟨by simp;omega,by omega,Uc _⟩,(fun _=>by simp),x,HA⟩
      omega
     ·have cX:¬(T:Int)<=n.length:=(by omega);obtain⟨q,Hq⟩:=bn (T-n.length-1);have cf:q<d.length:=(by have:=Hq.o;omega);have i1:IntKind.i64.wrap ((T:Int)-(n.length:Int))=(T:Int)-(n.length:Int):=(by rw[UX];omega);have i2:IntKind.i64.wrap ((T:Int)-(n.length:Int)-1)=(T:Int)-(n.length:Int)-1:=(by rw[UX];omega);have i3:((T:Int)-(n.length:Int)-1).toNat=q:=(by have:=Hq.o;omega);have a5:Xr (pQ w b n d T ⟨c,s,t,j⟩=⟨-2,d[q],0,s,t,j⟩):=by
       show _=_;unfold pQ;rw[Tp n1,Hq.o,To,Tn cf];rfl
      obtain⟨gt,ca,dg,cq⟩:=a6.o.ot.srcN q d[q] (Tn cf);rw[a5.o]at x;clear a5;generalize d[q]=tg at *;obtain⟨W3,z⟩:=bn (w1.alloc (.cells #[int i64 (-2),int i64 (tg:Int),int i64 0,string s,int i64 t,int i64 j] 162));have bj:=fI z.o;have B4:=f9 z.o;have C:Xr _:=a6.o.XE bj;rw[ca];(go_upto_region 22 with fail);rw[z.o];clear V W X ag ai al an ap Y Z ac ad af av ax az aS aT ar a3;clear bj z cq i1 i2 i3;obtain⟨⟨V,W,X⟩,⟨ag,ai,al,an,ap⟩,⟨Y,Z,ac,ad,af⟩,⟨av,ax,az,aS,aT⟩,ar,a3⟩:=C.o.cells;obtain⟨t0,t1,t2,t3,t4,t5⟩:=JC B4;have H:=C.o.op;have ba:(fz P).n<=900000000:=by show P.length<=_;omega
      go_wp2_with (at_builtin;refine cD _ rfl (.tmp 103) (.tmp 105) 120 rfl iP (agg #[int i64 0,int i64 0,int i64 0,string ⟨#[]⟩,int i64 0,int i64 0]) 56 h (fz P) [int i64 (-2),int i64 (tg:Int),int i64 0,string s,int i64 t,int i64 j] underlying120 bv be bf bg rfl (show 0<6 by omega) rfl H ba (by omega) rfl rfl (uF (⟨-2,tg,0,s,t,j⟩:dj)) ?_;intro h5 w5 y A;rw[show([int i64 (-2),int i64 (tg:Int),int i64 0,string s,int i64 t,int i64 j]:List Value)=lI (⟨-2,tg,0,s,t,j⟩:dj) from rfl,nR]at y;have HA:Xr _:=(C.o.addP (m:=(fz P).n+1) A y (by simp[fz,lG]));have U:=A.XR.get C.o.p (fun hq=>by have:=C.o.fp _ (aQ hq);omega);have f5:=am U 0;have c5:w5.cell? ⟨F.heap.size+2,0,none⟩=some (slice h.ao P.length h.cap):=(by rw[ah U];rfl);have z5:=aj U;clear y A U);go_roundg (L.length-(k+1))
      ·exact⟨k+1,h5,P++[⟨-2,tg,0,s,t,j⟩],ht,d,⟨#[]⟩,true,by omega,rfl,by rw[ca],rfl,rfl,by go_num,⟨by simp;omega,by omega,Uc _⟩,(fun _=>by simp),x,HA⟩
      omega
   ·rw[Tp b1]at x;by_cases d1:c=90
    ·subst d1;cases f
     ·rw[Tp (by simp),Tp (by omega)]at x;have R:Xr (j8 w b n B L=ox 4 ⟨90,s,t,j⟩):=x.o.symm;go_wp2;obtain⟨J,K,M,N,O⟩:=fQ E.o.r (slice none 0 0) (int i64 4) (string s) (int i64 t) (int i64 j);exact Tz (v:=agg #[slice none 0 0,int i64 4,string s,int i64 t,int i64 j]) (by simp[results,results177,go_sem,J,K,M,N,O]) rfl (by rw[R.o];exact iC rfl rfl (((((G.o.sr1 (by simp) _).sr1 (by simp) _).sr1 (by simp) _).sr1 (by simp) _).sr1 (by simp) _))
     ·rw[Tr ⟨rfl,rfl⟩]at x;have c7:=HF.o rfl;have cH:((P.length-1:Nat):Int)=(P.length:Int)-1:=(by omega);have dz:IntKind.i64.wrap ((P.length:Int)-1)=(P.length:Int)-1:=(by rw[UX];omega);have cA:=E.o.ot;have cB:(bD d).n<=900000000:=(by show d.length<=_;omega);go_wp2_with (at_builtin;refine cD _ rfl (.tmp 114) (.tmp 119) 24 rfl iN (int i64 0) 8 ht (bD d) [int i64 ((P.length:Int)-1)] underlying24 cF ch cj ck rfl TR rfl cA cB (by omega) rfl rfl (by simp[Value.oneCell']) ?_;intro h5 w5 y A;rw[<-cH,uv]at y;have HA:Xr _:=E.o.addT A y;clear y A);go_roundg (L.length-(k+1))
      ·exact⟨k+1,h,P,h5,d++[P.length-1],u,false,by omega,rfl,by simp[bD],rfl,rfl,by go_num,⟨by omega,by simp;omega,by omega⟩,(fun h=>by cases h),x,HA⟩
      omega
    ·have c1:(c==90)=false:=(by simpa using d1);rw[Tp (fun h=>d1 h.1)]at x;by_cases e1:c=63
     ·subst e1;cases bd:(u.toList == [])
      ·rw[Tp (by rw[bd];simp)]at x;have R:Xr (j8 w b n B L=ox 4 ⟨63,s,t,j⟩):=x.o.symm;go_wp2;obtain⟨J,K,M,N,O⟩:=fQ E.o.r (slice none 0 0) (int i64 4) (string s) (int i64 t) (int i64 j);exact Tz (v:=agg #[slice none 0 0,int i64 4,string s,int i64 t,int i64 j]) (by simp[results,results177,go_sem,J,K,M,N,O]) rfl (by rw[R.o];exact iC rfl rfl (((((G.o.sr1 (by simp) _).sr1 (by simp) _).sr1 (by simp) _).sr1 (by simp) _).sr1 (by simp) _))
      ·rw[Tr ⟨rfl,bd⟩]at x;have H:=E.o.op;have ba:Xr ((fz P).n<=900000000):=(by show P.length<=_;omega);have cs:Xr ((fz P).n=P.length):=rfl;(go_upto_region 29 with fail);go_region_law (refine bX wr rfl (.tmp 129) (.tmp 136) 120 rfl iP (agg #[int i64 0,int i64 0,int i64 0,string ⟨#[]⟩,int i64 0,int i64 0]) 56 h (fz P) [int i64 (-1),int i64 0,int i64 0,string s,int i64 t,int i64 j] underlying120 bv be bf bg rfl (show 0<6 by omega) (by rw[cs.o];simp[Act.eval]) H ba.o (by omega) (by simp[Act.eval]) rfl (uF (⟨-1,0,0,s,t,j⟩:dj)) ?_;intro cz b6 w5 y A;have U:=A.XR.get E.o.p (fun hq=>by have:=E.o.fp _ (aQ hq);omega);have f5:=am U 0;have c5:w5.cell? ⟨F.heap.size+2,0,none⟩=some (slice h.ao P.length h.cap):=(by rw[ah U];rfl);have z5:=aj U)
       all_goals
        rw[show([int i64 (-1),int i64 0,int i64 0,string s,int i64 t,int i64 j]:List Value)=lI (⟨-1,0,0,s,t,j⟩:dj) from rfl,nR]at y;have HA:Xr _:=(E.o.addP (m:=(fz P).n+1) A y (by simp[fz,lG]));clear y A U f5 c5 z5;go_wp2;go_roundg (L.length-(k+1))
        ·exact⟨k+1,⟨cz,b6⟩,P++[⟨-1,0,0,s,t,j⟩],ht,d,u,false,by omega,rfl,rfl,rfl,rfl,by go_num,⟨by simp;omega,by omega,by omega⟩,(fun h=>by cases h),x,HA⟩
        omega
     ·have c4:(c==63)=false:=(by simpa using e1);rw[Tp (fun h=>e1 h.1)]at x;have R:Xr (j8 w b n B L=ox 4 ⟨c,s,t,j⟩):=x.o.symm;by_cases f1:85<=c
      ·have f2:¬c<=89:=fun h=>a1 ⟨f1,h⟩;have f3:65<=c:=(by omega);have f4:¬c<=84:=(by omega);go_wp2;obtain⟨J,K,M,N,O⟩:=fQ E.o.r (slice none 0 0) (int i64 4) (string s) (int i64 t) (int i64 j);exact Tz (v:=agg #[slice none 0 0,int i64 4,string s,int i64 t,int i64 j]) (by simp[results,results177,go_sem,J,K,M,N,O]) rfl (by rw[R.o];exact iC rfl rfl (((((G.o.sr1 (by simp) _).sr1 (by simp) _).sr1 (by simp) _).sr1 (by simp) _).sr1 (by simp) _))
      ·by_cases f3:65<=c
       ·exact absurd ⟨f3,by omega⟩ b1
       ·skip
        go_wp2;obtain⟨J,K,M,N,O⟩:=fQ E.o.r (slice none 0 0) (int i64 4) (string s) (int i64 t) (int i64 j);exact Tz (v:=agg #[slice none 0 0,int i64 4,string s,int i64 t,int i64 j]) (by simp[results,results177,go_sem,J,K,M,N,O]) rfl (by rw[R.o];exact iC rfl rfl (((((G.o.sr1 (by simp) _).sr1 (by simp) _).sr1 (by simp) _).sr1 (by simp) _).sr1 (by simp) _))
 ·have e:k=L.length:=by omega
  subst e;rw[WD,mL]at x;cases bd:(u.toList == [])
  ·rw[Tr bd]at x;have R:Xr (j8 w b n B L=ox 4 B):=x.o.symm;obtain⟨ec,ef,el,eo⟩:=B;go_wp2;obtain⟨J,K,M,N,O⟩:=fQ E.o.r (slice none 0 0) (int i64 4) (string ef) (int i64 el) (int i64 eo);exact Tz (v:=agg #[slice none 0 0,int i64 4,string ef,int i64 el,int i64 eo]) (by simp[results,results177,go_sem,J,K,M,N,O]) rfl (by rw[R.o];exact iC rfl rfl (((((G.o.sr1 (by simp) _).sr1 (by simp) _).sr1 (by simp) _).sr1 (by simp) _).sr1 (by simp) _))
  ·rw[Tp (by rw[bd];simp)]at x;by_cases bp:P.length=0
   ·rw[Tr bp]at x;have R:Xr (j8 w b n B L=ox 1 B):=x.o.symm;have cP:((P.length:Int)==0)=true:=(by simpa using bp);obtain⟨ec,ef,el,eo⟩:=B;go_wp2;obtain⟨J,K,M,N,O⟩:=fQ E.o.r (slice none 0 0) (int i64 1) (string ef) (int i64 el) (int i64 eo);exact Tz (v:=agg #[slice none 0 0,int i64 1,string ef,int i64 el,int i64 eo]) (by simp[results,results177,go_sem,J,K,M,N,O]) rfl (by rw[R.o];exact iC rfl rfl (((((G.o.sr1 (by simp) _).sr1 (by simp) _).sr1 (by simp) _).sr1 (by simp) _).sr1 (by simp) _))
   ·rw[Tp bp]at x;have R:Xr (j8 w b n B L=⟨P,0,⟨#[]⟩,0,0⟩):=x.o.symm;have cP:((P.length:Int)==0)=false:=(by simpa using bp);have a4:Xr (∀q,h.XS=some q->q≠F.heap.size+1):=fun q hq=>by have:=E.o.fp q hq;omega
    go_wp2;obtain⟨J,K,M,N,O⟩:=fQ E.o.r (slice h.ao P.length h.cap) (int i64 0) (string ⟨#[]⟩) (int i64 0) (int i64 0);exact Tz (v:=agg #[slice h.ao P.length h.cap,int i64 0,string ⟨#[]⟩,int i64 0,int i64 0]) (by simp[results,results177,go_sem,J,K,M,N,O]) rfl (by rw[R.o];exact⟨h,rfl,⟨((((E.o.op.XN a4.o _ _).XN a4.o _ _).XN a4.o _ _).XN a4.o _ _).XN a4.o _ _,fun q hq=>(by have:=E.o.fp q hq;omega),((((G.o.sr1 (by simp) _).sr1 (by simp) _).sr1 (by simp) _).sr1 (by simp) _).sr1 (by simp) _⟩⟩)
def EO(t:Tk):Lt:=⟨0,t.XZ,t.X0,t.X3⟩
def rV(T:List Tk)(S:List Sm)(a z:Nat):Nat->Nat->Xv->jP
 | 0,_,_=>ox 3 (EO (T.getD z gU))
 | n+1,i,refs =>
  if((tS T i).toList == [41])=true then j8 T S refs (EO (T.getD z gU)) (eQ T (i+1) z)
  else if dY T S a (tS T i)<0 then ox 2 (EO (T.getD i gU))
  else if refs.contains (dY T S a (tS T i)).toNat=true then ox 3 (EO (T.getD i gU))
  else rV T S a z n (i+1) (refs++[(dY T S a (tS T i)).toNat])
def jS(T:List Tk)(S:List Sm)(a i z:Nat):jP:=rV T S a z (z-i) i (a9 T S a)
theorem sD.cells(h:sD T y7 t):∀b,y7=some b->∀j u,(kj t)[j]?=some u->T.cell? (b.add j)=some u:=by
 intro b e j u a;rw[kj,Ua]at a;cases d:t[j]? with
 | none=>rw[d]at a;cases a
 | some x =>
  rw[d]at a;cases a
  obtain⟨g,f,-,c⟩:=h j x d;rw[e]at f;cases f
  rw[bY];simpa using c
theorem Nv:∀u∈kj n,u.oneCell'=true:=by
 intro u a;obtain⟨x,-,rfl⟩:=UG.1 a;rfl
theorem NY(M:Xv):(⟨(bD n).e,(bD n).size,(bD n).n+M.length,(bD n).xs++kj M⟩:eR)=bD (n++M):=by
 simp[bD,kj]
theorem ip.none(a:ip T M L z0):L.ao=none->z0.n=0/\L.cap=0:=fun e=>by
 rcases a.X9.XP with ⟨b,d,f⟩ | ⟨g,c,b,-⟩
 ·exact⟨d,by rw[b]⟩
 ·rw[e]at b;cases b
theorem ip.le(a:ip T M L z0):z0.n<=L.cap:=by
 rcases a.X9.XP with ⟨d,e,b⟩ | ⟨g,c,d,-,b,-⟩
 ·omega
 ·exact b
theorem qF:∀j∈a9 w b y,j<y:=fun _ a=>TG.1 (Uk.1 a).1
theorem nz:(a9 w b y).length<=y:=by
 unfold a9;have:=U3 (t7 w b y (uI w b y)) (List.range y);rw[U8]at this;exact this
theorem yI(e:fw w)(a z:Nat):(eQ w a z).length<=1024*w.length:=by
 have:∀L:List Tk,(∀t∈L,t.s.size<=1024)->(L.flatMap tn).length<=1024*L.length:=by
  intro L
  induction L with
  | nil=>intro _;simp
  | cons t L f =>
   intro h;have c:=h t (by simp);have d:=f (fun t b=>h t (by simp[b]));rw[Uv,Tv,Uj];have:(tn t).length=t.s.size:=by unfold tn;simp
   omega
 have c:=this ((w.drop a).take (z-a)) (fun t b=>(e t (Wf (Vl b))).1);have d:((w.drop a).take (z-a)).length<=w.length:=by rw[UJ,Ux];omega
 unfold eQ;omega
theorem Jx:0<=aI N y/\aI N y<256:=by
 unfold aI;split
 ·next h=>have:=(N[y]'h).toNat_lt;omega
 ·omega
theorem N8:∀l∈eQ w i y,0<=l.c/\l.c<256:=by
 intro l a;unfold eQ at a;obtain⟨t,-,b⟩:=VK.1 a;unfold tn at b;obtain⟨k,-,rfl⟩:=UG.1 b;exact Jx _ _
theorem rE(h:T.heap[v]?=some (.cells #[slice none 0 0,int i64 0,string ⟨#[]⟩,int i64 0,int i64 0] 122)) :
  (T.cell? ⟨v,0,none⟩=some (slice none 0 0)/\T.cell? ⟨v,1,none⟩=some (int i64 0)/\T.cell? ⟨v,2,none⟩=some (string ⟨#[]⟩)/\T.cell? ⟨v,3,none⟩=some (int i64 0)/\T.cell? ⟨v,4,none⟩=some (int i64 0)) /\
  (T.frozen? ⟨v,0,none⟩=false/\T.frozen? ⟨v,1,none⟩=false/\T.frozen? ⟨v,2,none⟩=false/\T.frozen? ⟨v,3,none⟩=false/\T.frozen? ⟨v,4,none⟩=false)/\v<T.heap.size:=by
 refine⟨⟨?_,?_,?_,?_,?_⟩,⟨am h 0,am h 1,am h 2,am h 3,am h 4⟩,aj h⟩
 all_goals (rw[ah h];rfl)
theorem CR{m:Nat}(c:m=t.length)(h:∀q (a:q<t.length),q<m->t[q]≠v):t.contains v=false:=by
 cases e:t.contains v
 ·rfl
 ·rw[VN]at e;obtain⟨q,a,b⟩:=Uy e;exact absurd b (h q a (by omega))
theorem FV(hD:gy x o w z4 I b D i)(ok:pA w b H)(hn:H<b.length)(hE:dV w (aq b H).h)(hO:fw w)(hi:S<=l)(hz:l<w.length) :
  Calls prog 128 #[pointer (some ⟨o,0,none⟩),int i64 H,int i64 S,int i64 l] x fun e w'=>pv x (jS w b H S l) e w':=by
 obtain⟨W,HW⟩:=bn (x.alloc (.cells #[slice none 0 0,int i64 0,string ⟨#[]⟩,int i64 0,int i64 0] 122));have BW:=f9 HW.o;have M:Xr _:=fI HW.o;have K:Xr _:=hD.XE M.o;have a1:Xr _:=ok;have a5:Xr _:=hO;have b1:=ok.tm;have cc:=ok.sm;have az:Xr _:=rx o H w z4 I b D i W K.o ok hn hE;have cs:=nz w b H;have bx:Xr _:=qF w b H;have bs:Xr (rV w b H l (l-S) S (a9 w b H)=jS w b H S l):=rfl;obtain⟨iN,bg,V,X,Y⟩:=TZ Bp;have bl:Xr _:=BW
 -- a fault
 have L:Xr (∀(wr:World),ae [] W wr->(wr.heap[x.heap.size]?=some (.cells #[slice none 0 0,int i64 0,string ⟨#[]⟩,int i64 0,int i64 0] 122))):=fun wr k=>k.get bl.o (by simp);clear hD ok hO;generalize a9 w b H=HY at *;go_enter func128,ntmps128;go_upto_region 1 with fail
 rw[HW.o];go_upto_region 2 with (go_at_call 63;refine Ts az.o ?_;rintro e T ⟨h1,rfl,A⟩)
 have N:Xr _:=A.X9.srcN.cells;have bj:Xr _:=A.none;have ad:Xr (ip W T ⟨none,0⟩ (bD [])):=⟨Ty _ _ _ _,(by intro k hk;cases hk),A.XR⟩;have a7:=ad.o.X9;clear A az;go_upto_region 3 with (at_builtin;refine fh _ rfl (.const (slice none 0 0)) (.tmp 18) 24 rfl iN (int i64 0) 8 ⟨none,0⟩ (bD []) underlying24 bg V X Y rfl TR rfl a7 h1.ao HY.length h1.cap (kj HY) rfl (by simp[bD,kj]) bj.o N.o (Nv HY) (by simp only[bD,List.length_nil];omega) (by omega) ?_;intro h5 w5 ar be;rw[NY]at ar;have aS:Xr _:=ad.o.XO be ar;clear ar be)
 rw[V4]at aS;have bk:(bD ([]:Xv)).n+HY.length=HY.length:=by simp[bD]
 rw[bk];clear bk N bj ad a7;go_wp2
 go_loopg [10,11] (l-S) (fun g r iv wr=>∃(m:Nat) (z:Hd) (R:Xv),(S<=m/\m<=l)/\g=l-m/\r=slice z.ao R.length z.cap/\iv=int i64 m/\R.length<=10000+m/\Xr (∀q∈R,q<H)/\Xr (rV w b H l (l-m) m R=jS w b H S l)/\Xr (ip W wr z (bD R)))
 ·exact⟨S,h5,HY,⟨by omega,by omega⟩,rfl,rfl,rfl,by omega,bx,bs,aS⟩
 obtain⟨m,z,R,⟨cl,co⟩,hg,rfl,rfl,cb,a2,c,ai⟩:=hrel;have ac:Xr _:=ai.o.XR;have B:Xr _:=gy.XE K.o ac.o;obtain⟨c0,-,hb⟩:=B.o.cells;have BR:=L.o wr ac.o;have bp:Xr _:=M.o.trans ac.o;obtain⟨⟨r0,r1,r2,r3,r4⟩,⟨f0,f1,f2,f3,f4⟩,P⟩:=rE BR;obtain⟨gT,rfl,O,t0,-,t2,t3,t4⟩:=B.o.t.2 l _ (jd w l hz);have ct:(l:Int)<w.length:=by omega
 rcases kn m l with ⟨b3,cp⟩ | ⟨b3,-⟩
 ·have b6:(m:Int)<w.length:=by omega
  obtain⟨ca,e2,-,u0,-,u2,u3,u4⟩:=B.o.t.2 m _ (jd w m (by omega));cases e2
  replace u0:wr.cell? ⟨gT,m*5,none⟩=some (string (tS w m)):=u0;obtain⟨f,hf⟩:∃f,l-m=f+1:=⟨l-m-1,by omega⟩
  rw[hf,rV]at c;have a6:Xr (Calls prog 129 #[pointer (some ⟨o,0,none⟩),int i64 H,string (tS w m)] wr fun e w'=>e=returned (int i64 (dY w b H (tS w m)))/\ae [] wr w'):=yU o H (tS w m) w _ I b D i wr B.o a1.o;have y:=rh w b H (tS w m);obtain⟨cu,Hx⟩:=bn (tS w m);rw[Hx.o]at u0 c a6 y;clear Hx;cases h1:(cu.toList == [41])
  ·rw[Tp (by rw[h1];simp)]at c;(go_upto_region 6 with (go_at_call 129;refine Ts a6.o ?_;rintro e T ⟨rfl,k1⟩));have n:Xr _:=ai.o.XE k1;have d:Xr _:=n.o.XR;have u:Xr _:=M.o.trans d.o;have s:Xr _:=gy.XE K.o d.o;have Z:=L.o T d.o;clear r0 r1 r2 r3 r4 f0 f1 f2 f3 f4 P;clear k1 c0 hb t0 t2 t3 t4 u0 u2 u3 u4 O;obtain⟨⟨r0,r1,r2,r3,r4⟩,⟨f0,f1,f2,f3,f4⟩,P⟩:=rE Z;obtain⟨c0,-,hb⟩:=s.o.cells;obtain⟨bz,e3,O,-,-,u2,u3,u4⟩:=s.o.t.2 m _ (jd w m (by omega));cases e3
   rcases y with y | ⟨j,hj,y⟩
   ·rw[y,Tr (by omega)]at c;rw[y];have U:Xr (jS w b H S l=ox 2 (EO (w.getD m gU))):=c.o.symm;generalize w.getD m gU=tm at *;obtain⟨ms,mr,F,G,E⟩:=tm;simp only at u2 u3 u4;go_wp2;obtain⟨x0,A,J,x3,x4⟩:=fQ Z (slice none 0 0) (int i64 2) (string F) (int i64 G) (int i64 E);exact Tz (v:=agg #[slice none 0 0,int i64 2,string F,int i64 G,int i64 E]) (by simp[results,results128,go_sem,x0,A,J,x3,x4]) rfl (by rw[U.o];exact iC rfl rfl (((((u.o.sr1 (by simp) _).sr1 (by simp) _).sr1 (by simp) _).sr1 (by simp) _).sr1 (by simp) _))
   ·rw[y,Tp (by omega),Ur]at c;rw[y];have ck:¬(j:Int)<0:=by omega
    have bw:Xr _:=n.o.X9.srcN;have ba:=n.o.le;have b5:R.length<=z.cap:=ba;clear ba;obtain⟨bc,bd⟩:=z;go_wp2
    go_loopg [13] R.length (fun g kv wr=>∃q:Nat,q<=R.length/\g=R.length-q/\kv=int i64 q/\Xr (∀p (hp:p<R.length),p<q->R[p]≠j)/\wr=T)
    ·exact⟨0,by omega,rfl,rfl,(fun p _ h=>by omega),rfl⟩
    obtain⟨q,hq,cf,rfl,a0,rfl⟩:=hrel;rcases kn q R.length with ⟨ap,b4⟩ | ⟨ap,-⟩
    ·obtain⟨gR,al,ch,cq⟩:=bw.o q R[q] (Tn ap);have aT:Xr (R[q]=j->R.contains j=true):=fun e=>by rw[VN,<-e];exact TP ap
     have br:Xr (R[q]≠j->∀p (hp:p<R.length),p<q+1->R[p]≠j):=fun e p hp h2=>by
      by_cases e2:p=q
      ·subst e2;exact e
      ·exact a0.o p hp (by omega)
     generalize R[q]=rq at *;replace al:bc=some ⟨gR,0,none⟩:=al;subst al;by_cases an:rq=j
     ·subst an;rw[Tr (aT.o rfl)]at c;have U:Xr (jS w b H S l=ox 3 (EO (w.getD m gU))):=c.o.symm;generalize w.getD m gU=tm at *;obtain⟨ms,mr,F,G,E⟩:=tm;simp only at u2 u3 u4;go_wp2;obtain⟨x0,A,J,x3,x4⟩:=fQ Z (slice none 0 0) (int i64 3) (string F) (int i64 G) (int i64 E);exact Tz (v:=agg #[slice none 0 0,int i64 3,string F,int i64 G,int i64 E]) (by simp[results,results128,go_sem,x0,A,J,x3,x4]) rfl (by rw[U.o];exact iC rfl rfl (((((u.o.sr1 (by simp) _).sr1 (by simp) _).sr1 (by simp) _).sr1 (by simp) _).sr1 (by simp) _))
     ·have cj:((rq:Int)==(j:Int))=false:=(by simpa using (fun e=>an (by omega)));have HM:Xr _:=br.o an;go_wp2;go_roundg (R.length-(q+1))
      ·exact⟨q+1,by omega,rfl,by go_num,HM,rfl⟩
      omega
    ·have eq:q=R.length:=(by omega);rw[Tp (by rw[CR eq a0.o];simp)]at c;have b4:¬(q:Int)<R.length:=by omega
     have bT:=n.o.X9;have b0:(bD R).n<=900000000:=(by show R.length<=_;omega);have a3:Xr (∀q∈R++[j],q<H):=fun q hq=>by
      rcases Ug.1 hq with h | h
      ·exact a2.o q h
      ·rw[TI.1 h];exact hj
     have b2:l-(m+1)=f:=(by omega);go_wp2_with (at_builtin;refine cD _ rfl (.tmp 78) (.tmp 80) 24 rfl iN (int i64 0) 8 ⟨bc,bd⟩ (bD R) [int i64 (j:Int)] underlying24 bg V X Y rfl TR rfl bT b0 (by omega) rfl rfl (by simp[Value.oneCell']) ?_;intro h6 w6 av bf;rw[uv]at av;have HA:Xr _:=n.o.XO bf av;clear av bf);go_roundg (l-(m+1))
     ·exact⟨m+1,h6,R++[j],⟨by omega,by omega⟩,rfl,by simp[bD],by go_num,by simp;omega,a3,by rw[b2];exact c,HA⟩
     omega
  ·rw[Tr h1]at c;have cr:((m:Int)==(l:Int))=false:=(by simpa using (fun e:(m:Int)=(l:Int)=>by omega));have N:((m+1:Nat):Int)=(m:Int)+1:=(by omega);have af:Xr _:=(Gv w (some ⟨gT,0,none⟩) I (m+1) l wr B.o.t b1 (by omega) (by omega) a5.o);rw[N]at af;(go_upto_region 18 with (go_at_call 176;refine Ts af.o ?_;rintro e T ⟨h2,rfl,A⟩));have k1:=A.XR;have bv:Xr _:=A.X9.srcG PD;have n:Xr _:=ai.o.XE k1;have d:Xr _:=n.o.XR;have u:Xr _:=M.o.trans d.o;have s:Xr _:=gy.XE K.o d.o;have ag:Xr _:=(Lq o H w (some ⟨gT,0,none⟩) I b D i R z.ao z.cap (eQ w (m+1) l) h2.ao h2.cap (EO (w.getD l gU)) T s.o a1.o n.o.X9.srcN a2.o (by omega) bv.o (by have:=yI w a5.o (m+1) l;omega) (N8 w (m+1) l));have U:Xr (jS w b H S l=j8 w b R (EO (w.getD l gU)) (eQ w (m+1) l)):=c.o.symm;generalize eQ w (m+1) l=SP at *;clear r0 r1 r2 r3 r4 f0 f1 f2 f3 f4 P;clear c0 hb t0 t2 t3 t4 u0 u2 u3 u4 O A af;obtain⟨c0,-,hb⟩:=s.o.cells;obtain⟨bz,e3,O,-,-,t2,t3,t4⟩:=s.o.t.2 l _ (jd w l hz);cases e3
   generalize w.getD l gU=tm at *;obtain⟨ms,mr,F,G,E⟩:=tm;simp only at t2 t3 t4;unfold EO at ag U;simp only at ag;generalize j8 w b R ⟨0,F,G,E⟩ SP=PF at *;obtain⟨Q,pw,pf,pl,pc⟩:=PF;have a4:Xr (Calls prog 177 #[pointer (some ⟨o,0,none⟩),slice z.ao R.length z.cap,slice h2.ao SP.length h2.cap,agg #[string F,int i64 G,int i64 E]] T fun e w'=>∃z,e=returned (agg #[slice z.ao Q.length z.cap,int i64 pw,string pf,int i64 pl,int i64 pc])/\ip T w' z (fz Q)):=ag.o;go_wp2_with (go_at_call 177;refine Ts a4.o ?_;rintro e w2 ⟨h3,rfl,J⟩;have ax:=L.o w2 (d.o.trans J.XR);obtain⟨⟨r0,r1,r2,r3,r4⟩,⟨f0,f1,f2,f3,f4⟩,P⟩:=rE ax);obtain⟨y0,y1,y2,y3,y4⟩:=fQ ax (slice h3.ao Q.length h3.cap) (int i64 pw) (string pf) (int i64 pl) (int i64 pc);have C:Xr (∀q,h3.XS=some q->q≠x.heap.size):=fun q hq=>by have:=J.far q hq;have:=u.o.size;have:=aj (L.o T d.o);omega
   have bo:Xr _:=u.o.trans J.XR;exact Tz (v:=agg #[slice h3.ao Q.length h3.cap,int i64 pw,string pf,int i64 pl,int i64 pc]) (by simp[results,results128,go_sem,y0,y1,y2,y3,y4]) rfl (by rw[U.o];exact⟨h3,rfl,⟨((((J.X9.XN C.o _ _).XN C.o _ _).XN C.o _ _).XN C.o _ _).XN C.o _ _,fun q hq=>(by have:=J.far q hq;have:=u.o.size;omega),((((bo.o.sr1 (by simp) _).sr1 (by simp) _).sr1 (by simp) _).sr1 (by simp) _).sr1 (by simp) _⟩⟩)
 ·have e:m=l:=by omega
  subst e;rw[Uz,rV]at c;have U:Xr (jS w b H S m=ox 3 (EO (w.getD m gU))):=c.o.symm;generalize w.getD m gU=tm at *;obtain⟨ms,mr,F,G,E⟩:=tm;simp only at t2 t3 t4;go_wp2;obtain⟨x0,A,J,x3,x4⟩:=fQ BR (slice none 0 0) (int i64 3) (string F) (int i64 G) (int i64 E);exact Tz (v:=agg #[slice none 0 0,int i64 3,string F,int i64 G,int i64 E]) (by simp[results,results128,go_sem,x0,A,J,x3,x4]) rfl (by rw[U.o];exact iC rfl rfl (((((bp.o.sr1 (by simp) _).sr1 (by simp) _).sr1 (by simp) _).sr1 (by simp) _).sr1 (by simp) _))
def mt(T:List Tk)(S:List Sm)(a zt:Nat):Nat->Nat->List dj->jP
 | 0,_,P=>if P.length=0 then ox 1 (EO (T.getD zt gU)) else⟨P,0,⟨#[]⟩,0,0⟩
 | n+1,i,P =>
  if((tS T i).toList == [63])=true then mt T S a zt n (i+1) (P++[⟨-1,0,0,(T.getD i gU).XZ,(T.getD i gU).X0,(T.getD i gU).X3⟩])
  else if dY T S a (tS T i)<0 then ox 2 (EO (T.getD i gU))
  else mt T S a zt n (i+1) (P++[⟨dY T S a (tS T i),0,gN T S (dY T S a (tS T i)),(T.getD i gU).XZ,(T.getD i gU).X0,(T.getD i gU).X3⟩])
def fC(T:List Tk)(S:List Sm)(a e zt:Nat):jP:=if((tS T (e+1)).toList == [40])=true then jS T S a (e+2) zt else mt T S a zt (zt-(e+1)) (e+1) []
structure QA(w wr:World)(P:List dj)(h:Hd):Prop where
 r:wr.heap[w.heap.size]?=some (.cells #[slice none 0 0,int i64 0,string ⟨#[]⟩,int i64 0,int i64 0] 122)
 p:wr.heap[w.heap.size+1]?=some (.cells #[slice h.ao P.length h.cap,int i64 0,string ⟨#[]⟩,int i64 0,int i64 0] 122)
 op:aB wr h (fz P)
 fp:∀k,h.XS=some k->w.heap.size+1<k
 XR:ae [] w wr
theorem QA.XE(a:QA T M d L)(k:ae [] M s):QA T s d L:=⟨k.get a.r (by simp),k.get a.p (by simp),a.op.XE k,a.fp,a.XR.trans k⟩
theorem QA.addP{i:List dj}{b:Hd}(a:QA T M d L)(g:bq M s L b)(o:aB s b (fz i)){m:Nat}(l:m=i.length):QA T (s.setCell ⟨T.heap.size+1,0,none⟩ (slice b.ao m b.cap)) i b:=by
 subst l;have t:∀q,q<=T.heap.size+1->q∉L.XS.toList:=fun q c l=>by have:=a.fp q (aQ l);omega
 have x:=aj a.p;have w:=g.XR.get a.r (t _ (by omega));have v:=g.XR.get a.p (t _ (by omega));have f:∀k,b.XS=some k->T.heap.size+1<k:=fun k j=>by
  rcases g.XS with e | ⟨q,e,c⟩
  ·exact a.fp k (by rw[<-e];exact j)
  ·rw[e]at j;cases j;omega
 have n:ae [T.heap.size+1] s (s.setCell ⟨T.heap.size+1,0,none⟩ (slice b.ao i.length b.cap)):=(ae.refl _ _).sl1 _;have u:ae [] T s:=qH g.XR (fun q c=>by have:=a.fp q (aQ c);omega) a.XR;exact⟨n.get w (by simp),by rw[ab v];rfl,o.XJ (fun q c=>n.block q (o.lt c) (by simp;have:=f q c;omega)),f,u.sr1 (by simp) _⟩
theorem Fb(hD:gy x o w z4 I b D i)(ok:pA w b H)(hn:H<b.length)(hE:dV w (aq b H).h)(hO:fw w)(bv:(aq b H).h<=S)(cj:((tS w S).toList == [36,61])=true)(a5:∀q,(aq b H).h<=q->q<S->((tS w q).toList == [36,61])=false)(b3:(aq b H).z=l+1)(ck:S<l)(b2:l<w.length)(V:((tS w l).toList == [36,46])=true) :
  Calls prog 89 #[pointer (some ⟨o,0,none⟩),int i64 H] x fun en w'=>pv x (fC w b H S l) en w':=by
 obtain⟨W,HW⟩:=bn (x.alloc (.cells #[slice none 0 0,int i64 0,string ⟨#[]⟩,int i64 0,int i64 0] 122));have BW:=f9 HW.o;have ap:Xr _:=fI HW.o;have br:W.heap.size=x.heap.size+1:=by rw[<-HW.o];simp
 have N:Xr _:=hD.XE ap.o;have Z:Xr _:=hD;have av:Xr _:=ok;have bl:Xr _:=hO;have ch:=ok.tm;have cu:(H:Int)<b.length:=by omega
 have HB:Xr _:=BW;have a2:Xr _:=a5;have bk:Xr _:=hE;obtain⟨iP,a7,ai,al,an⟩:=TZ Nc;obtain⟨c0,c1,hb⟩:=N.o.cells;obtain⟨gS,rfl,bw,-,q1,q2,-⟩:=N.o.s.2 H b[H] (Tn hn);rw[bW b H hn]at q1 q2;rw[b3]at q1;obtain⟨gT,rfl,n,-⟩:=N.o.t.2 S _ (jd w S (by omega));obtain⟨hd,a4⟩:=bn ((aq b H).h);rw[a4.o]at q2 bv a2;clear hD ok hO a5 hE a4;have bs:((l+1:Nat):Int)=(l:Int)+1:=by omega
 rw[bs]at q1;go_enter func89,ntmps89;go_upto_region 1 with fail
 rw[HW.o];go_wp2
 go_loopg [5] (S-hd) (fun g b4 wr=>∃k:Nat,(hd<=k/\k<=S)/\g=S-k/\b4=int i64 k/\wr=W)
 ·exact⟨hd,⟨by omega,by omega⟩,rfl,rfl,rfl⟩
 obtain⟨k,⟨bx,cp⟩,hg,rfl,rfl⟩:=hrel;have cq:(k:Int)<w.length:=by omega
 obtain⟨ca,e2,-,t0,-⟩:=N.o.t.2 k _ (jd w k (by omega));cases e2
 replace t0:wr.cell? ⟨gT,k*5,none⟩=some (string (tS w k)):=t0;by_cases bz:k<S
 ·have hx:=a2.o k bx bz;generalize tS w k=b6 at *;go_wp2;go_roundg (S-(k+1))
  ·exact⟨k+1,⟨by omega,by omega⟩,rfl,by go_num,rfl⟩
  omega
 ·have ek:k=S:=by omega
  subst ek;obtain⟨cb,e3,-,J,-⟩:=N.o.t.2 (k+1) _ (jd w (k+1) (by omega));cases e3
  replace J:wr.cell? ⟨gT,(k+1)*5,none⟩=some (string (tS w (k+1))):=J;have b5:(k:Int)+1<w.length:=by omega
  have a3:Xr (((tS w (k+1)).toList == [40])=true->Calls prog 128 #[pointer (some ⟨o,0,none⟩),int i64 H,int i64 ((k:Int)+1+1),int i64 l] wr fun en w'=>pv wr (jS w b H (k+2) l) en w'):=fun h=>by
   have ct:k+1≠l:=fun S=>by
    rw[<-S]at V;have a1:(tS w (k+1)).toList=[40]:=by simpa using h
    rw[a1]at V;exact absurd V (by decide)
   have:=FV o H (k+2) l w _ I b _ i wr N.o av.o hn bk.o bl.o (by omega) b2;rw[show((k+2:Nat):Int)=(k:Int)+1+1 by omega]at this;exact this
  have Q:Xr (fC w b H k l=if((tS w (k+1)).toList == [40])=true then jS w b H (k+2) l else mt w b H l (l-(k+1)) (k+1) []):=rfl;obtain⟨b6,Hx⟩:=bn (tS w (k+1));rw[Hx.o]at J a3 Q;generalize tS w k=y at *;cases hx:(b6.toList == [40])
  ·rw[Tp (by rw[hx];simp)]at Q;have S0:Xr (QA x (wr.alloc (.cells #[slice none 0 0,int i64 0,string ⟨#[]⟩,int i64 0,int i64 0] 122)) [] ⟨none,0⟩):=⟨(bR.alloc _).get HB.o (by simp),by rw[<-br];exact Tu _ _,Ty _ _ _ _,(by intro k hk;cases hk),ap.o.alloc _⟩;have bf:Xr (mt w b H l (l-(k+1)) (k+1) []=fC w b H k l):=Q.o.symm;go_wp2
   go_loopg [8] (l-(k+1)) (fun g b4 w1=>∃(m:Nat) (h:Hd) (P:List dj),(k+1<=m/\m<=l)/\g=l-m/\b4=int i64 m/\P.length<=m/\Xr (mt w b H l (l-m) m P=fC w b H k l)/\Xr (QA x w1 P h))
   ·exact⟨k+1,⟨none,0⟩,[],⟨by omega,by omega⟩,rfl,by go_num,Uc _,bf,S0⟩
   obtain⟨m,h,P,⟨cr,cs⟩,cl,rfl,cf,c,d⟩:=hrel;have ar:Xr _:=d.o.XR;have ac:Xr _:=gy.XE Z.o ar.o;clear c0 c1 hb q1 q2 bw n t0 J;obtain⟨c0,-,hb⟩:=ac.o.cells;rcases kn m l with ⟨bT,b0⟩ | ⟨bT,-⟩
   ·have ba:(m:Int)<w.length:=(by omega);obtain⟨cc,e4,n,J,-⟩:=ac.o.t.2 m _ (jd w m (by omega));cases e4
    replace J:wr.cell? ⟨gT,m*5,none⟩=some (string (tS w m)):=J;obtain⟨f,hf⟩:∃f,l-m=f+1:=⟨l-m-1,by omega⟩
    have a6:l-(m+1)=f:=(by omega);rw[hf,mt]at c;have az:Xr (Calls prog 129 #[pointer (some ⟨o,0,none⟩),int i64 H,string (tS w m)] wr fun S w'=>S=returned (int i64 (dY w b H (tS w m)))/\ae [] wr w'):=yU o H (tS w m) w _ I b _ i wr ac.o av.o;have A:=rh w b H (tS w m);obtain⟨v,Hv⟩:=bn (tS w m);rw[Hv.o]at J c az A;(go_upto_region 13 with (go_at_call 129;refine Ts az.o ?_;rintro S w1 ⟨rfl,k1⟩));have K:Xr _:=d.o.XE k1;have ag:Xr _:=K.o.XR;have R:Xr _:=gy.XE Z.o ag.o;have M:=K.o.r;clear k1 c0 hb J n az;obtain⟨c0,-,hb⟩:=R.o.cells;obtain⟨bo,e5,n,J,-,u2,u3,u4⟩:=R.o.t.2 m _ (jd w m (by omega));cases e5
    replace J:w1.cell? ⟨gT,m*5,none⟩=some (string (tS w m)):=J;rw[Hv.o]at J;cases L:(v.toList == [63])
    ·rw[Tp (by rw[L];simp)]at c;rcases A with A | ⟨j,hj,A⟩
     ·rw[A,Tr (by omega)]at c;rw[A];have HX:Xr (fC w b H k l=ox 2 (EO (w.getD m gU))):=c.o.symm;generalize w.getD m gU=tm at *;obtain⟨ms,mr,C,E,B⟩:=tm;simp only at u2 u3 u4;obtain⟨⟨r0,r1,r2,r3,r4⟩,⟨f0,f1,f2,f3,f4⟩,bc⟩:=rE M;go_wp2;obtain⟨x0,x1,X,x3,x4⟩:=fQ M (slice none 0 0) (int i64 2) (string C) (int i64 E) (int i64 B);exact Tz (v:=agg #[slice none 0 0,int i64 2,string C,int i64 E,int i64 B]) (by simp[results,results89,go_sem,x0,x1,X,x3,x4]) rfl (by rw[HX.o];exact iC rfl rfl (((((ag.o.sr1 (by simp) _).sr1 (by simp) _).sr1 (by simp) _).sr1 (by simp) _).sr1 (by simp) _))
     ·rw[A,Tp (by omega)]at c;rw[A];have co:¬(j:Int)<0:=by omega
      have O:Xr _:=Ad o H j w _ I b _ i w1 R.o av.o hj;generalize gN w b (j:Int)=nd at *;(go_upto_region 18 with (go_at_call 130;refine Ts O.o ?_;rintro S w2 ⟨rfl,k2⟩));have a:Xr _:=K.o.XE k2;have u:Xr _:=gy.XE Z.o a.o.XR;clear c0 hb J u2 u3 u4 n k2 O;obtain⟨c0,-,hb⟩:=u.o.cells;obtain⟨bp,e6,n,-,-,u2,u3,u4⟩:=u.o.t.2 m _ (jd w m (by omega));cases e6
      generalize w.getD m gU=tm at *;obtain⟨ms,mr,C,E,B⟩:=tm;simp only at u2 u3 u4;have p0:w2.cell? ⟨x.heap.size+1,0,none⟩=some (slice h.ao P.length h.cap):=by rw[ah a.o.p];rfl
      have p1:=am a.o.p 0;have p2:=aj a.o.p;have U:=a.o.op;have aT:Xr ((fz P).n<=900000000):=(by show P.length<=_;omega);have ax:Xr ((fz P).n=P.length):=rfl;go_region_law (refine bX w2 rfl (.tmp 97) (.tmp 109) 120 rfl iP (agg #[int i64 0,int i64 0,int i64 0,string ⟨#[]⟩,int i64 0,int i64 0]) 56 h (fz P) [int i64 (j:Int),int i64 0,int i64 (nd:Int),string C,int i64 E,int i64 B] underlying120 a7 ai al an rfl (show 0<6 by omega) (by rw[ax.o];simp[Act.eval]) U aT.o (by omega) (by simp[Act.eval]) rfl (uF (⟨(j:Int),0,nd,C,E,B⟩:dj)) ?_;intro aS T w5 G F;have Y:=F.XR.get a.o.p (fun L=>by have:=a.o.fp _ (aQ L);omega);have f5:=am Y 0;have c5:w5.cell? ⟨x.heap.size+1,0,none⟩=some (slice h.ao P.length h.cap):=(by rw[ah Y];rfl);have z5:=aj Y)
      all_goals
       rw[show([int i64 (j:Int),int i64 0,int i64 (nd:Int),string C,int i64 E,int i64 B]:List Value)=lI (⟨(j:Int),0,nd,C,E,B⟩:dj) from rfl,nR]at G;have HA:Xr _:=(a.o.addP (m:=(fz P).n+1) F G (by simp[fz,lG]));clear G F Y f5 c5 z5;go_wp2;go_roundg (l-(m+1))
       ·exact⟨m+1,⟨aS,T⟩,P++[(⟨(j:Int),0,nd,C,E,B⟩:dj)],⟨by omega,by omega⟩,rfl,by go_num,by simp;omega,by rw[a6];exact c,HA⟩
       omega
    ·rw[Tr L]at c;have O:Xr _:=Kk (pointer (some ⟨o,0,none⟩)) w b w1;have be:Xr (gN w b (-1)=0):=rfl;rw[be.o]at O;(go_upto_region 18 with (go_at_call 130;refine Ts O.o ?_;rintro S w2 ⟨rfl,k2⟩));have a:Xr _:=K.o.XE k2;have u:Xr _:=gy.XE Z.o a.o.XR;clear c0 hb J u2 u3 u4 n k2 O;obtain⟨c0,-,hb⟩:=u.o.cells;obtain⟨bp,e6,n,-,-,u2,u3,u4⟩:=u.o.t.2 m _ (jd w m (by omega));cases e6
     generalize w.getD m gU=tm at *;obtain⟨ms,mr,C,E,B⟩:=tm;simp only at u2 u3 u4;have p0:w2.cell? ⟨x.heap.size+1,0,none⟩=some (slice h.ao P.length h.cap):=by rw[ah a.o.p];rfl
     have p1:=am a.o.p 0;have p2:=aj a.o.p;have U:=a.o.op;have aT:Xr ((fz P).n<=900000000):=(by show P.length<=_;omega);have ax:Xr ((fz P).n=P.length):=rfl;go_region_law (refine bX w2 rfl (.tmp 97) (.tmp 109) 120 rfl iP (agg #[int i64 0,int i64 0,int i64 0,string ⟨#[]⟩,int i64 0,int i64 0]) 56 h (fz P) [int i64 (-1),int i64 0,int i64 0,string C,int i64 E,int i64 B] underlying120 a7 ai al an rfl (show 0<6 by omega) (by rw[ax.o];simp[Act.eval]) U aT.o (by omega) (by simp[Act.eval]) rfl (uF (⟨(-1),0,0,C,E,B⟩:dj)) ?_;intro aS T w5 G F;have Y:=F.XR.get a.o.p (fun L=>by have:=a.o.fp _ (aQ L);omega);have f5:=am Y 0;have c5:w5.cell? ⟨x.heap.size+1,0,none⟩=some (slice h.ao P.length h.cap):=(by rw[ah Y];rfl);have z5:=aj Y)
     all_goals
      rw[show([int i64 (-1),int i64 0,int i64 0,string C,int i64 E,int i64 B]:List Value)=lI (⟨(-1),0,0,C,E,B⟩:dj) from rfl,nR]at G;have HA:Xr _:=(a.o.addP (m:=(fz P).n+1) F G (by simp[fz,lG]));clear G F Y f5 c5 z5;go_wp2;go_roundg (l-(m+1))
      ·exact⟨m+1,⟨aS,T⟩,P++[(⟨(-1),0,0,C,E,B⟩:dj)],⟨by omega,by omega⟩,rfl,by go_num,by simp;omega,by rw[a6];exact c,HA⟩
      omega
   ·have em:m=l:=(by omega);subst em;rw[Uz,mt]at c;have b0:¬(m:Int)<(m:Int):=by omega
    have ba:(m:Int)<w.length:=(by omega);obtain⟨bo,e5,n,-,-,u2,u3,u4⟩:=ac.o.t.2 m _ (jd w m (by omega));cases e5
    have M:=d.o.r;obtain⟨⟨r0,r1,r2,r3,r4⟩,⟨f0,f1,f2,f3,f4⟩,bc⟩:=rE M;have p0:wr.cell? ⟨x.heap.size+1,0,none⟩=some (slice h.ao P.length h.cap):=(by rw[ah d.o.p];rfl);have p1:wr.cell? ⟨x.heap.size+1,1,none⟩=some (int i64 0):=(by rw[ah d.o.p];rfl);have p2:wr.cell? ⟨x.heap.size+1,2,none⟩=some (string ⟨#[]⟩):=(by rw[ah d.o.p];rfl);have p3:wr.cell? ⟨x.heap.size+1,3,none⟩=some (int i64 0):=(by rw[ah d.o.p];rfl);have p4:wr.cell? ⟨x.heap.size+1,4,none⟩=some (int i64 0):=(by rw[ah d.o.p];rfl);have Y:=aj d.o.p;by_cases ad:P.length=0
    ·rw[Tr ad]at c;have HX:Xr (fC w b H k m=ox 1 (EO (w.getD m gU))):=c.o.symm;have b1:((P.length:Int)==0)=true:=(by simpa using ad);generalize w.getD m gU=tm at *;obtain⟨ms,mr,C,E,B⟩:=tm;simp only at u2 u3 u4;go_wp2;obtain⟨x0,x1,X,x3,x4⟩:=fQ M (slice none 0 0) (int i64 1) (string C) (int i64 E) (int i64 B);exact Tz (v:=agg #[slice none 0 0,int i64 1,string C,int i64 E,int i64 B]) (by simp[results,results89,go_sem,x0,x1,X,x3,x4]) rfl (by rw[HX.o];exact iC rfl rfl (((((ar.o.sr1 (by simp) _).sr1 (by simp) _).sr1 (by simp) _).sr1 (by simp) _).sr1 (by simp) _))
    ·rw[Tp ad]at c;have HX:Xr (fC w b H k m=⟨P,0,⟨#[]⟩,0,0⟩):=c.o.symm;have b1:((P.length:Int)==0)=false:=(by simpa using ad);have e:Xr (∀q,h.XS=some q->q≠x.heap.size):=fun q L=>by have:=d.o.fp q L;omega
     go_wp2;obtain⟨x0,x1,X,x3,x4⟩:=fQ M (slice h.ao P.length h.cap) (int i64 0) (string ⟨#[]⟩) (int i64 0) (int i64 0);exact Tz (v:=agg #[slice h.ao P.length h.cap,int i64 0,string ⟨#[]⟩,int i64 0,int i64 0]) (by simp[results,results89,go_sem,x0,x1,X,x3,x4]) rfl (by rw[HX.o];exact⟨h,rfl,⟨((((d.o.op.XN e.o _ _).XN e.o _ _).XN e.o _ _).XN e.o _ _).XN e.o _ _,fun q L=>(by have:=d.o.fp q L;omega),((((ar.o.sr1 (by simp) _).sr1 (by simp) _).sr1 (by simp) _).sr1 (by simp) _).sr1 (by simp) _⟩⟩)
  ·rw[Tr hx]at Q;have bg:Xr _:=a3.o hx;generalize jS w b H (k+2) l=PF at *;obtain⟨af,pw,pf,pl,pc⟩:=PF;have bj:Xr (Calls prog 128 #[pointer (some ⟨o,0,none⟩),int i64 H,int i64 ((k:Int)+1+1),int i64 l] wr fun en w'=>∃h',en=returned (agg #[slice h'.ao af.length h'.cap,int i64 pw,string pf,int i64 pl,int i64 pc])/\ip wr w' h' (fz af)):=bg.o;go_wp2_with (go_at_call 128;refine Ts bj.o ?_;rintro en w2 ⟨h3,rfl,X⟩;have a0:=X.XR.get HB.o (by simp);obtain⟨⟨r0,r1,r2,r3,r4⟩,⟨f0,f1,f2,f3,f4⟩,bc⟩:=rE a0);obtain⟨y0,y1,y2,y3,y4⟩:=fQ a0 (slice h3.ao af.length h3.cap) (int i64 pw) (string pf) (int i64 pl) (int i64 pc);have e:Xr (∀q,h3.XS=some q->q≠x.heap.size):=fun q L=>by have:=X.far q L;omega
   have bd:Xr _:=ap.o.trans X.XR;exact Tz (v:=agg #[slice h3.ao af.length h3.cap,int i64 pw,string pf,int i64 pl,int i64 pc]) (by simp[results,results89,go_sem,y0,y1,y2,y3,y4]) rfl (by rw[Q.o];exact⟨h3,rfl,⟨((((X.X9.XN e.o _ _).XN e.o _ _).XN e.o _ _).XN e.o _ _).XN e.o _ _,fun q L=>(by have:=X.far q L;omega),((((bd.o.sr1 (by simp) _).sr1 (by simp) _).sr1 (by simp) _).sr1 (by simp) _).sr1 (by simp) _⟩⟩)
def So:dj:=⟨0,0,0,⟨#[]⟩,0,0⟩
def bN(P:List dj)(i:Nat):dj:=P.getD i So
theorem IW(h:y<f.length):f[y]?=some (bN f y):=by
 unfold bN;rw[To,Tn h];rfl
def wy(P:List dj)(i:Nat):Bool:=((bN P i).ref == -1)
def ig(P:List dj):Int:=match (List.range P.length).find? (wy P) with
 | some i=>i
 | none=>-1
theorem JV(c:v<d.length)(h:wy d v=true)(a:∀j,j<v->wy d j=false):ig d=v:=by
 have e:(List.range d.length).find? (wy d)=some v:=by
  rw[UT];exact⟨h,TG.2 c,fun j b=>by rw[a j b];rfl⟩
 unfold ig;rw[e]
theorem MZ(a:∀j,j<d.length->wy d j=false):ig d=-1:=by
 have e:(List.range d.length).find? (wy d)=none:=by
  rw[UE];intro j b;rw[a j (TG.1 b)];simp
 unfold ig;rw[e]
theorem Fn:(ig f=-1/\∀j,j<f.length->(bN f j).ref≠-1)∨∃k,k<f.length/\ig f=(k:Int):=by
 unfold ig;cases h:(List.range f.length).find? (wy f) with
 | none =>
  refine TH ⟨rfl,fun j a e=>?_⟩;rw[UE]at h;exact h j (TG.2 a) (by unfold wy;rw[e];rfl)
 | some i=>exact TE ⟨i,TG.1 (Us h),rfl⟩
theorem di.step(h:di T y7 6 lI d)(k:Nat)(b:k<d.length):∃g,y7=some ⟨g,0,none⟩/\g<T.heap.size/\T.cell? ⟨g,k*6,none⟩=some (int i64 (bN d k).ref)/\T.cell? ⟨g,k*6+1,none⟩=some (int i64 ((bN d k).back:Nat))/\T.cell? ⟨g,k*6+2,none⟩=some (int i64 ((bN d k).need:Nat)) /\
  T.cell? ⟨g,k*6+3,none⟩=some (string (bN d k).XZ)/\T.cell? ⟨g,k*6+4,none⟩=some (int i64 (bN d k).X0)/\T.cell? ⟨g,k*6+5,none⟩=some (int i64 (bN d k).X3):=by
 obtain⟨g,e,a,c⟩:=h k _ (IW d k b);exact⟨g,e,a,c 0 _ rfl,c 1 _ rfl,c 2 _ rfl,c 3 _ rfl,c 4 _ rfl,c 5 _ rfl⟩
theorem JU(q:di x D 6 lI f)(B:f.length<=100000000) :
  Calls prog 131 #[agg #[slice D f.length i,int i64 z7,string N,int i64 y5,int i64 y6]] x fun e y=>e=returned (int i64 (ig f))/\ae [] x y:=by
 obtain⟨W,l⟩:=bn (x.alloc (.cells #[slice D f.length i,int i64 z7,string N,int i64 y5,int i64 y6] 122));have n:=f9 l.o;have a:Xr _:=fI l.o;have t:Xr _:=q.XE a.o;obtain⟨E,-⟩:=od n;have C:=aj n;clear q;go_enter func131,ntmps131;go_upto_region 1 with fail
 rw[l.o];go_wp2
 go_loopg [3] f.length (fun g w wr=>∃k:Nat,k<=f.length/\g=f.length-k/\w=int i64 k/\Xr (∀j,j<k->wy f j=false)/\wr=W)
 ·exact⟨0,by omega,rfl,rfl,(fun j v=>by omega),rfl⟩
 obtain⟨k,A,z,rfl,d,rfl⟩:=hrel;rcases kn k f.length with ⟨b,m⟩ | ⟨b,-⟩
 ·obtain⟨g,rfl,u,F,-⟩:=di.step t.o k b;have p:Xr (wy f k=((bN f k).ref == -1)):=rfl;generalize (bN f k).ref=r at *;cases s:(r == -1)
  ·have c:Xr _:=eZ d.o (by rw[p.o,s]);go_wp2;go_roundg (f.length-(k+1))
   ·exact⟨k+1,by omega,rfl,by go_num,c,rfl⟩
   omega
  ·have c:Xr (ig f=k):=JV b (by rw[p.o,s]) d.o;go_wp2;go_ret;exact⟨au c.o.symm,a.o⟩
 ·have c:Xr (ig f=-1):=MZ (fun j v=>d.o j (by omega));have m:¬(k:Int)<f.length:=by omega
  go_wp2;go_ret;exact⟨au c.o.symm,a.o⟩
def oy(rec:Nat->Int):Nat->Nat->Int
 | 0,b=>b
 | k+1,b=>if b=0 then -1 else if rec (b-1)<0 then -1 else oy rec k (rec (b-1)).toNat
def A6(P:List dj):Nat->Nat->Int
 | 0,_=>0
 | f+1,i=>oy (A6 P f) (bN P i).need i
theorem OY(a:∀i,z6 i<=(i:Int))(k:Nat):∀b,oy z6 k b<=(b:Int):=by
 induction k with
 | zero=>intro b;exact Wb _
 | succ k c =>
  intro b;rw[oy];split
  ·omega
  ·split
   ·omega
   ·have d:=c (z6 (b-1)).toNat;have e:=a (b-1);omega
theorem A7(a:Nat):∀i,A6 f a i<=(i:Int):=by
 induction a with
 | zero=>intro i;show(0:Int)<=i;omega
 | succ a b=>intro i;rw[A6];exact OY b _ _
theorem xh{c:Nat->Int}(d:∀i,z6 i<=(i:Int))(k:Nat):∀b,(∀i,i<b->z6 i=c i)->oy z6 k b=oy c k b:=by
 induction k with
 | zero=>intro b _;rfl
 | succ k e =>
  intro b h;rw[oy,oy];by_cases a:b=0
  ·rw[Tr a,Tr a]
  ·rw[Tp a,Tp a,<-h (b-1) (by omega)];split
   ·rfl
   ·next f =>
    have:=d (b-1);exact e _ (fun i g=>h i (by omega))
theorem Jr:∀a g i,i<a->i<g->A6 f a i=A6 f g i:=by
 intro a
 induction a with
 | zero=>intro g i h;omega
 | succ a b =>
  intro g i c d;cases g with
  | zero=>omega
  | succ g =>
   rw[A6,A6];exact xh (A7 f a) _ _ (fun j e=>b g j (by omega) (by omega))
def dQ(P:List dj)(i:Nat):Int:=A6 P (i+1) i
theorem qx:dQ f y=oy (dQ f) (bN f y).need y:=by
 unfold dQ;rw[A6];exact xh (A7 f y) _ _ (fun j a=>Jr f y (j+1) j a (by omega))
theorem xk:dQ f y<=(y:Int):=A7 f _ y
def ON(P:List dj):Prop:=∀i,(bN P i).need<=100000
theorem uS(hl:f.length<=100000000)(O:ON f)(z:Nat):∀(a:Nat) (w:World),a<z->a<f.length->di w D 6 lI f ->
  Calls prog 133 #[agg #[slice D f.length i,int i64 z7,string N,int i64 y5,int i64 y6],int i64 a] w fun e w'=>e=returned (int i64 (dQ f a))/\ae [] w w':=by
 induction z with
 | zero=>intro a w h;omega
 | succ z J =>
  intro a w S Q H;have x:Xr _:=J;clear J;obtain⟨W,y⟩:=bn (w.alloc (.cells #[slice D f.length i,int i64 z7,string N,int i64 y5,int i64 y6] 122));have u:=f9 y.o;have p:Xr _:=fI y.o;have G:Xr _:=H.XE p.o;obtain⟨p0,-⟩:=od u;have T:(a:Int)<f.length:=by omega
  obtain⟨g,rfl,B,-,-,q2,-⟩:=di.step G.o a Q;have L:Xr _:=u;have v:Xr _:=qx f a;have X:=O a;generalize (bN f a).need=n at *;generalize dQ f a=R at *;clear H u;go_enter func133,ntmps133;go_upto_region 1 with fail
  rw[y.o];go_wp2;clear q2 B
  go_loopg [6,7] n (fun m M Z wr=>∃(k b:Nat),k<=n/\m=n-k/\M=int i64 b/\Z=int i64 k/\b<=a/\Xr (R=oy (dQ f) (n-k) b)/\Xr (ae [] W wr))
  ·exact⟨0,a,by omega,rfl,rfl,rfl,by omega,v,ae.refl _ _⟩
  obtain⟨k,b,hk,hm,rfl,rfl,hb,c,s⟩:=hrel;rcases kn k n with ⟨C,U⟩ | ⟨C,-⟩
  ·obtain⟨d,P⟩:∃d,n-k=d+1:=⟨n-k-1,by omega⟩
   have A:n-(k+1)=d:=(by omega);rw[P,oy]at c;have j:Xr _:=p.o.trans s.o;cases b with
   | zero =>
    rw[Tr rfl]at c;go_wp2;go_ret;exact⟨au c.o.symm,j.o⟩
   | succ q =>
    rw[Tp (by omega),UM]at c;have K:=s.o.get L.o (by simp);obtain⟨r0,r1,r2,r3,r4⟩:=od K;have F:Xr _:=(x.o q wr (by omega) (by omega) (di.XE G.o s.o));have V:=xk f q;have Y:((q:Int)+1==0)=false:=by simp;omega
    generalize dQ f q=r at *;by_cases I:r<0
    ·rw[Tr I]at c;go_wp2_with (go_at_call 133;refine Ts F.o ?_;rintro e w1 ⟨rfl,t⟩;have l:Xr _:=j.o.trans t;clear t);go_ret;exact⟨au c.o.symm,l.o⟩
    ·rw[Tp I]at c;obtain⟨E,rfl⟩:∃E:Nat,r=E:=⟨r.toNat,by omega⟩
     rw[Ur,<-A]at c;go_wp2_with (go_at_call 133;refine Ts F.o ?_;rintro e w1 ⟨rfl,t⟩;have l:Xr _:=s.o.trans t;clear t);go_roundg (n-(k+1))
     ·exact⟨k+1,E,by omega,rfl,rfl,by go_num,by omega,c,l⟩
     omega
  ·have e:k=n:=(by omega);subst e;rw[Uz,oy]at c;have j:Xr _:=p.o.trans s.o;go_wp2;go_ret;exact⟨au c.o.symm,j.o⟩
def Gm(A B:Xt)(i:Nat):Bool:=((A.getD i ⟨#[]⟩).toList==(B.getD i ⟨#[]⟩).toList)
def lu(A B:Xt):Bool:=(A.length==B.length)&&(List.range A.length).all (Gm A B)
theorem ni(h:y<k.length):k[y]?=some (k.getD y ⟨#[]⟩):=by
 rw[To,Tn h];rfl
theorem Eg(B:Xt)(v y:Xu)(G H:Nat)(w:World)(A:ie w v k)(C:ie w y B)(K:k.length<=1000000000) :
  Calls prog 134 #[slice v k.length G,slice y B.length H] w fun e M=>e=returned (bool (lu k B))/\ae [] w M:=by
 have E:Xr _:=A;have F:Xr _:=C;clear A C;by_cases c:k.length=B.length
 ·have q:Xr (lu k B=(List.range k.length).all (Gm k B)):=by show _=_;unfold lu;rw[c];simp
  obtain⟨l,b⟩:=bn (k.length);have n:Xr (B.length=l):=ci (by rw[<-c];exact b.o);rw[b.o,n.o];rw[b.o]at K q;clear c;go_enter func134,ntmps134;go_wp2
  go_loopg [5] l (fun g i wr=>∃a:Nat,a<=l/\g=l-a/\i=int i64 a/\Xr (∀j,j<a->Gm k B j=true)/\Xr (ae [] w wr))
  ·exact⟨0,by omega,rfl,rfl,(fun j r=>by omega),ae.refl _ _⟩
  obtain⟨a,Q,P,rfl,t,p⟩:=hrel;rcases kn a l with ⟨d,s⟩ | ⟨d,-⟩
  ·obtain⟨N,rfl,I,R⟩:=(ie.XE E.o p.o) a _ (ni k a (by rw[b.o];exact d));obtain⟨O,rfl,J,S⟩:=(ie.XE F.o p.o) a _ (ni B a (by rw[n.o];exact d));have u:Xr (Gm k B a=((k.getD a ⟨#[]⟩).toList==(B.getD a ⟨#[]⟩).toList)):=rfl;generalize k.getD a ⟨#[]⟩=x at *;generalize B.getD a ⟨#[]⟩=z at *;have m:Xr _:=p.o.drew;cases D:(x.toList==z.toList)
   ·have f:Xr (lu k B=false):=by
     show _=_;rw[q.o,Wr];exact⟨a,TG.2 d,by rw[u.o,D];simp⟩
    (go_upto_region 6 with fail);go_region
    all_goals
     go_wp2;go_ret;exact⟨aF f.o.symm,m.o⟩
   ·have f:Xr (∀j,j<a+1->Gm k B j=true):=fun j r=>by
     by_cases e:j=a
     ·rw[e,u.o,D]
     ·exact t.o j (by omega)
    (go_upto_region 6 with fail);go_region
    all_goals
     go_wp2;go_roundg (l-(a+1))
     ·exact⟨a+1,by omega,rfl,by go_num,f,m⟩
     omega
  ·have f:Xr (lu k B=true):=by
    show _=_;rw[q.o,Uw];exact fun j r=>t.o j (by have:=TG.1 r;omega)
   have s:¬(a:Int)<(l:Int):=(by omega);go_wp2;go_ret;exact⟨aF f.o.symm,p.o⟩
 ·have f:Xr (lu k B=false):=by show _=_;unfold lu;simp[c]
  have L:((k.length:Int)==B.length)=false:=Xo (by omega);go_enter func134,ntmps134;go_wp2;go_ret;exact⟨aF f.o.symm,ae.refl _ _⟩
end Go.Proofs.YtnbhnocdhbcbcaaGreat
