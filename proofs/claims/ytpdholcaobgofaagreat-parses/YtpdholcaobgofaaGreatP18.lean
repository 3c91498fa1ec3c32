import Derived.Test.YtpdholcaobgofaaGreatP17
namespace Go.Proofs.YtpdholcaobgofaaGreat
open Go.RowKit Tryz
open Value IntKind Ending
set_option maxHeartbeats 0
variable{T M s:World}{L:Hd}{z0:eD}{v:Nat}{y5:Xt}{t:Xu}{d:List dV}{z6:Nat->Int}(o H S:Nat)(k:Xs)(l:Nat)(w:List Tk)(z4:Xt)(I:Nat)(b:List Sm)(f:List dV)(D:Xt)(i:Nat)(z7:Int)(N:Xr)(z8 zf:Int)(x:World)(n:Xu)(y:Nat)
theorem cQ{P:Program}{k:Array Oper}{d:List Oper}{o:Oper}{a:Act}{Q:Exit->Act->World->Prop}(I:o.guard=none)(s q:Operand)(t:TypeId)(p:o.op=Op.call { callee:=Callee.builtin Builtin.append,args:=#[s,q],argTypes:=#[t,t] })(i:TypeInfo)(z:Value)(c:Nat)(h:Hd)(r:eD)(b:List Value)(y:P.underlying t=some (.slice r.e))(A:P.info? r.e=some i)(B:i.zero=some z)(C:i.size=r.size)(D:i.bytes=c)(E:z.cells.size=r.size)(F:0<r.size)(L:a.eval s=slice h.ao r.n h.cap)(g:aD x h r)(R:r.n<=900000000)(H:c<=1000)(M:a.eval q=slice (some ⟨x.heap.size,0,none⟩) 1 1)(S:b.length=r.size)(m:∀u∈b,u.oneCell'=true)(G:∀f l,aD l f ⟨r.e,r.size,r.n+1,r.xs++b⟩->bL x l h f->wpList P k Q d (a.put o.dst (slice f.ao (r.n+1) f.cap)) l) :
  wpList P k Q (o :: d) a (x.alloc (.cells b.toArray r.e)):=by
 have v:aa [] x (x.alloc (.cells b.toArray r.e)):=bH.alloc _;have K:(x.alloc (.cells b.toArray r.e)).heap[x.heap.size]?=some (.cells b.toArray r.e):=XD _ _;refine dK _ I s q t p i z c h r y A B C D E F L (g.Zbj v) (some ⟨x.heap.size,0,none⟩) 1 1 b M (by omega) (fun e=>by cases e) ?_ m (by omega) H ?_
 ·intro O e j u J;cases e
  rw[bE,ab K];simpa using J
 ·intro f l N w;exact G f l N ((bL.Zbj v).trans w)
def rh(w:World)(p:lF)(e:Ending)(w':World):Prop:=∃h',e=returned (zb8 p h')/\iG w w' h' (fI p.st)
theorem je{p:lF}{e:Ending}(a:p.st=[])(b:e=returned (agg #[slice none 0 0,int i64 p.why,string p.ZbD,int i64 p.ZbE,int i64 p.ZbF]))(k:aa [] T M):rh T p e M :=
 ⟨⟨none,0⟩,by rw[b,zb8,a];rfl,by rw[a];exact⟨XE _ _ _ _,(by intro k c;cases c),k⟩⟩
theorem aD.Zbs(o:aD T L z0)(c:∀k,L.Zbx=some k->k≠v)(i:Nat)(b:Value):aD (T.setCell ⟨v,i,none⟩ b) L z0:=by
 have k:aa [v] T (T.setCell ⟨v,i,none⟩ b):=(aa.refl _ _).sl1 _;exact o.Zbo (fun q a=>k.block q (o.lt a) (by simp;exact c q a))
theorem NV{α:Type}(L:List α)(k:Nat)(h:k<L.length):L.drop k=L[k] :: L.drop (k+1):=X0 h
set_option maxRecDepth 100000
theorem PK(bT:Xt)(cR:Nat)(L:List Lt)(bz:Xt)(cL:Nat)(B:Lt)(F:World)(hD:gM F S w z4 I b D i)(ok:pE w b l)(hR:n8 F bT n)(hr:∀r∈n,r<l)(db:n.length<=30000)(hL:cW F bz 4 ltV L)(cH:L.length<=20000000)(aS:∀cb∈L,0<=cb.c/\cb.c<256) :
  Calls prog 175 #[pointer (some ⟨S,0,none⟩),slice bT n.length cR,slice bz L.length cL,agg #[string B.ZbD,int i64 B.ZbE,int i64 B.ZbF]] F fun e w'=>rh F (lK w b n B L) e w':=by
 have HD:Xq _:=hD;have cf:Xq _:=ok;have HR:Xq _:=hR;have HL:Xq _:=hL;have cd:Xq _:=aS;have ch:Xq _:=hr;obtain⟨iN,cv,b7,b8,ca⟩:=XV ru;obtain⟨iP,bp,bc,bd,be⟩:=XV RY;have S0:Xq (LZ F (((F.alloc (.cells #[string B.ZbD,int i64 B.ZbE,int i64 B.ZbF] 36)).alloc (.cells #[slice none 0 0,int i64 0,string ⟨#[]⟩,int i64 0,int i64 0] 122)).alloc (.cells #[slice none 0 0,int i64 0,string ⟨#[]⟩,int i64 0,int i64 0] 122)) B [] ⟨none,0⟩ [] ⟨none,0⟩):=by
  obtain⟨W1,bj⟩:∃W1,W1=F.alloc (.cells #[string B.ZbD,int i64 B.ZbE,int i64 B.ZbF] 36):=⟨_,rfl⟩
  obtain⟨W2,bk⟩:∃W2,W2=W1.alloc (.cells #[slice none 0 0,int i64 0,string ⟨#[]⟩,int i64 0,int i64 0] 122):=⟨_,rfl⟩
  have z1:W1.heap.size=F.heap.size+1:=by rw[bj];simp
  have z2:W2.heap.size=F.heap.size+2:=by rw[bk];simp[z1]
  have k1:=dx bk.symm;have k0:=dx bj.symm;have k2:aa [] W2 (W2.alloc (.cells #[slice none 0 0,int i64 0,string ⟨#[]⟩,int i64 0,int i64 0] 122)):=bH.alloc _;have e0:=dC bj.symm;have e1:W2.heap[F.heap.size+1]?=some (.cells #[slice none 0 0,int i64 0,string ⟨#[]⟩,int i64 0,int i64 0] 122):=by rw[bk,<-z1];exact XD _ _
  show LZ _ _ _ _ _ _ _;rw[<-bj,<-bk];exact⟨k2.get (k1.get e0 (by simp)) (by simp),k2.get e1 (by simp),by rw[<-z2];exact XD _ _,XE _ _ _ _,XE _ _ _ _,(by intro k hk;cases hk),(by intro k hk;cases hk),(by intro k hk;cases hk),(k0.trans k1).trans k2⟩
 clear hD ok hR hL aS hr;go_enter func175,ntmps175;go_wp2
 go_loopg [10,11,12,13] L.length (fun g tg nm fr dp wr=>∃(k:Nat) (h:Hd) (P:List dV) (ht:Hd) (d:Xu) (u:Xr) (f:Bool),k<=L.length/\g=L.length-k/\tg=slice ht.ao d.length ht.cap/\nm=string u/\fr=bool f/\dp=int i64 k/\(P.length<=k/\d.length<=k/\u.size<=k)/\Xq (f=true->0<P.length)/\Xq (pU w b n B (L.drop k) P d u f=lK w b n B L)/\Xq (LZ F wr B P h d ht))
 ·exact⟨0,⟨none,0⟩,[],⟨none,0⟩,[],⟨#[]⟩,false,by omega,rfl,rfl,rfl,rfl,rfl,⟨Xy _,Xy _,Xy _⟩,(fun h=>by cases h),rfl,S0⟩
 obtain⟨k,h,P,ht,d,u,f,hk,hg,rfl,rfl,rfl,rfl,⟨cV,dk,c8⟩,HF,x,E⟩:=hrel;obtain⟨⟨V,W,X⟩,⟨ag,ai,al,am,an⟩,⟨Y,Z,ac,ad,af⟩,⟨aq,ar,av,ax,az⟩,ap,aT⟩:=E.o.cells;have G:Xq _:=E.o.Zbw;rcases kn k L.length with ⟨a7,c7⟩ | ⟨a7,-⟩
 ·obtain⟨gL,rfl,b4,a5⟩:=(cW.Zbj HL.o G.o) k L[k] (Xv a7);have l0:wr.cell? ⟨gL,k*4,none⟩=some (int u8 L[k].c):=a5 0 _ rfl;have l1:=a5 1 _ rfl;have l2:=a5 2 _ rfl;have l3:=a5 3 _ rfl;have bw:Xq (∀w',aa [] F w'->gL<w'.heap.size/\w'.cell? ⟨gL,k*4+1,none⟩=some (string L[k].ZbD)/\w'.cell? ⟨gL,k*4+2,none⟩=some (int i64 L[k].ZbE)/\w'.cell? ⟨gL,k*4+3,none⟩=some (int i64 L[k].ZbF)):=fun w' kw=>by
   obtain⟨g2,e2,h2,c2⟩:=(cW.Zbj HL.o kw) k L[k] (Xv a7);cases e2
   exact⟨h2,c2 1 _ rfl,c2 2 _ rfl,c2 3 _ rfl⟩
  have aS:=cd.o L[k] (XM a7);have bs:Xq _:=NV L k a7;rw[bs.o,pU]at x;clear a5 bs;generalize L[k]=cb at *;obtain⟨c,s,t,j⟩:=cb;simp only at l0 l1 l2 l3 aS x bw;have c1:=fun wx=>UU c aS wx;obtain⟨cX,c0⟩:=aS;have cu:(Jn c).size=1:=rfl
  -- a fault at this letter
  have cB:Xq (∀(w2:World) (e:Ending),aa [] F w2->e=returned (agg #[slice none 0 0,int i64 4,string s,int i64 t,int i64 j])->lK w b n B L=qc 4 ⟨c,s,t,j⟩->rh F (lK w b n B L) e w2):=fun w2 e k2 he hx=>by rw[hx];exact je rfl he k2
  by_cases a1:85<=c/\c<=89
  ·rw[XA a1]at x;obtain⟨a1,a2⟩:=a1;have cc:Xq _:=(aa.refl [] wr).alloc (.cells #[int u8 c] 5);have cj:Xq _:=E.o.Zbj cc.o;have cl:Xq ((u++Jn c).size=u.size+1):=cm (by rw[ByteArray.size_append,cu]);go_wp2;go_roundg (L.length-(k+1))
   ·exact⟨k+1,h,P,ht,d,u++Jn c,false,by omega,rfl,rfl,rfl,rfl,by go_num,⟨by omega,by omega,by rw[cl.o];omega⟩,(fun h=>by cases h),x,cj⟩
   omega
  ·rw[Xz a1]at x;by_cases b1:65<=c/\c<=84
   ·rw[XA b1]at x;obtain⟨b1,b2⟩:=b1;have a2:¬85<=c:=(by omega);have bo:Xq (∀wx,Calls prog 212 #[string (u++Jn c),int i64 ((n.length:Int)+(d.length:Int))] wx fun e w'=>e=returned (int i64 (j9 (u++Jn c) (n.length+d.length):Nat))/\aa [] wx w'):=fun wx=>by
     have:=Kt (u++Jn c) (n.length+d.length) wx (by omega);rw[Za3]at this;exact this
    have b5:=De (u++Jn c) (n.length+d.length);obtain⟨T,ck⟩:=aP (j9 (u++Jn c) (n.length+d.length));rw[ck.o]at bo x b5;have df:u.size+1<=9223372036854775807:=(by omega);(go_upto_region 15 with (go_at_call 212;refine(bo.o _).mono ?_;rintro e w1 ⟨rfl,k1⟩));have bv:Xq _:=((aa.refl [] wr).alloc _).trans k1;have a4:Xq _:=E.o.Zbj bv.o;have Q:Xq _:=G.o.trans bv.o;clear k1 V W X ag ai al am an Y Z ac ad af aq ar av ax az ap aT l0 l1 l2 l3 b4 bo;obtain⟨⟨V,W,X⟩,⟨ag,ai,al,am,an⟩,⟨Y,Z,ac,ad,af⟩,⟨aq,ar,av,ax,az⟩,ap,aT⟩:=a4.o.cells;obtain⟨b4,l1,l2,l3⟩:=bw.o w1 Q.o;by_cases n0:T=0
    ·rw[XA n0]at x;subst n0;have R:Xq (lK w b n B L=qc 5 ⟨c,s,t,j⟩):=x.o.symm;go_wp2;obtain⟨J,K,M,N,O⟩:=gB a4.o.r (slice none 0 0) (int i64 5) (string s) (int i64 t) (int i64 j);exact XG (v:=agg #[slice none 0 0,int i64 5,string s,int i64 t,int i64 j]) (by simp[results,results175,go_sem,J,K,M,N,O]) rfl (by rw[R.o];exact je rfl rfl (((((Q.o.sr1 (by simp) _).sr1 (by simp) _).sr1 (by simp) _).sr1 (by simp) _).sr1 (by simp) _))
    ·rw[Xz n0]at x;have ds:((T:Int)==0)=false:=(by simpa using n0);by_cases n1:T<=n.length
     ·have cA:(T:Int)<=n.length:=(by omega);obtain⟨q,rfl⟩:∃q,T=q+1:=⟨T-1,by omega⟩
      have bq:q<n.length:=(by omega);have c9:(q:Int)<n.length:=(by omega);have a3:Xq (vG w b n d (q+1) ⟨c,s,t,j⟩=⟨(n[q]:Nat),0,jW w b (n[q]:Nat),s,t,j⟩):=by
       show _=_;unfold vG;rw[XA n1,Za,Xw,Xv bq];rfl
      have cz:=ch.o n[q] (XM bq);obtain⟨gR,rfl,c4,cq⟩:=(n8.Zbj HR.o Q.o) q n[q] (Xv bq);rw[a3.o]at x;have bx:Xq (∀wx,aa [] F wx->Calls prog 128 #[pointer (some ⟨S,0,none⟩),int i64 (n[q]:Nat)] wx fun e w'=>e=returned (int i64 (jW w b (n[q]:Nat):Nat))/\aa [] wx w'):=fun wx kx=>Dd S l n[q] w z4 I b D i wx (gM.Zbj HD.o kx) cf.o cz;clear a3;generalize n[q]=rf at *;generalize jW w b (rf:Nat)=nd at *;obtain⟨W2,bg⟩:=aP (w1.alloc (.cells #[int i64 (rf:Int),int i64 0,int i64 0,string s,int i64 t,int i64 j] 162));have br:=dx bg.o;have B2:=dC bg.o;have bm:Xq _:=bx.o W2 (Q.o.trans br);obtain⟨s0,-⟩:=NP B2;have z2:=ah B2;(go_upto_region 20 with fail);rw[bg.o];(go_upto_region 22 with (go_at_call 128;refine Xx bm.o ?_;rintro e w2 ⟨rfl,k2⟩;have B3:=k2.get B2 (by simp);have f3:=zcW B3 2;have c3:w2.cell? ⟨w1.heap.size,2,none⟩=some (int i64 0):=(by rw[ab B3];rfl);have z3:=ah B3));obtain⟨W3,z⟩:=aP (w2.setCell ⟨w1.heap.size,2,none⟩ (int i64 (nd:Int)));have bf:aa [] w1 W3:=(by rw[<-z.o];exact(br.trans k2).sr1 (by simp) _);have B4:W3.heap[w1.heap.size]?=some (.cells #[int i64 (rf:Int),int i64 0,int i64 (nd:Int),string s,int i64 t,int i64 j] 162):=(by rw[<-z.o,ae B3];rfl);have C:Xq _:=a4.o.Zbj bf;rw[z.o];clear V W X ag ai al am an Y Z ac ad af aq ar av ax az ap aT;clear B2 B3 br k2 bf s0 z2 f3 c3 z3 z bg bm bx cq;obtain⟨⟨V,W,X⟩,⟨ag,ai,al,am,an⟩,⟨Y,Z,ac,ad,af⟩,⟨aq,ar,av,ax,az⟩,ap,aT⟩:=C.o.cells;obtain⟨t0,t1,t2,t3,t4,t5⟩:=NP B4;have H:=C.o.op;have a6:(fI P).n<=900000000:=(by show P.length<=_;omega);go_wp2_with (at_builtin;refine cQ _ rfl (.tmp 103) (.tmp 105) 120 rfl iP (agg #[int i64 0,int i64 0,int i64 0,string ⟨#[]⟩,int i64 0,int i64 0]) 56 h (fI P) [int i64 (rf:Int),int i64 0,int i64 (nd:Int),string s,int i64 t,int i64 j] underlying120 bp bc bd be rfl (show 0<6 by omega) rfl H a6 (by omega) rfl rfl (wX (⟨(rf:Int),0,nd,s,t,j⟩:dV)) ?_;intro h5 w5 y A;rw[show([int i64 (rf:Int),int i64 0,int i64 (nd:Int),string s,int i64 t,int i64 j]:List Value)=mG (⟨(rf:Int),0,nd,s,t,j⟩:dV) from rfl,pj]at y;have HA:Xq _:=(C.o.addP (m:=(fI P).n+1) A y (by simp[fI,lu]));have U:=A.Zbw.get C.o.p (fun hq=>by have:=C.o.fp _ (aX hq);omega);have f5:=zcW U 0;have c5:w5.cell? ⟨F.heap.size+2,0,none⟩=some (slice h.ao P.length h.cap):=(by rw[ab U];rfl);have z5:=ah U;clear y A U);go_roundg (L.length-(k+1))
      ·exact⟨k+1,h5,P++[⟨(rf:Int),0,nd,s,t,j⟩],ht,d,⟨#[]⟩,true,by omega,rfl,rfl,rfl,rfl,by go_num,⟨by simp;omega,by omega,XX _⟩,(fun _=>by simp),x,HA⟩
      omega
     ·have cA:¬(T:Int)<=n.length:=(by omega);obtain⟨q,Hq⟩:=aP (T-n.length-1);have b6:q<d.length:=(by have:=Hq.o;omega);have i1:IntKind.i64.wrap ((T:Int)-(n.length:Int))=(T:Int)-(n.length:Int):=(by rw[YS];omega);have i2:IntKind.i64.wrap ((T:Int)-(n.length:Int)-1)=(T:Int)-(n.length:Int)-1:=(by rw[YS];omega);have i3:((T:Int)-(n.length:Int)-1).toNat=q:=(by have:=Hq.o;omega);have a3:Xq (vG w b n d T ⟨c,s,t,j⟩=⟨-2,d[q],0,s,t,j⟩):=by
       show _=_;unfold vG;rw[Xz n1,Hq.o,Xw,Xv b6];rfl
      obtain⟨gt,b3,c6,cq⟩:=a4.o.ot.srcN q d[q] (Xv b6);rw[a3.o]at x;clear a3;generalize d[q]=tg at *;obtain⟨W3,z⟩:=aP (w1.alloc (.cells #[int i64 (-2),int i64 (tg:Int),int i64 0,string s,int i64 t,int i64 j] 162));have bf:=dx z.o;have B4:=dC z.o;have C:Xq _:=a4.o.Zbj bf;rw[b3];(go_upto_region 22 with fail);rw[z.o];clear V W X ag ai al am an Y Z ac ad af aq ar av ax az ap aT;clear bf z cq i1 i2 i3;obtain⟨⟨V,W,X⟩,⟨ag,ai,al,am,an⟩,⟨Y,Z,ac,ad,af⟩,⟨aq,ar,av,ax,az⟩,ap,aT⟩:=C.o.cells;obtain⟨t0,t1,t2,t3,t4,t5⟩:=NP B4;have H:=C.o.op;have a6:(fI P).n<=900000000:=by show P.length<=_;omega
      go_wp2_with (at_builtin;refine cQ _ rfl (.tmp 103) (.tmp 105) 120 rfl iP (agg #[int i64 0,int i64 0,int i64 0,string ⟨#[]⟩,int i64 0,int i64 0]) 56 h (fI P) [int i64 (-2),int i64 (tg:Int),int i64 0,string s,int i64 t,int i64 j] underlying120 bp bc bd be rfl (show 0<6 by omega) rfl H a6 (by omega) rfl rfl (wX (⟨-2,tg,0,s,t,j⟩:dV)) ?_;intro h5 w5 y A;rw[show([int i64 (-2),int i64 (tg:Int),int i64 0,string s,int i64 t,int i64 j]:List Value)=mG (⟨-2,tg,0,s,t,j⟩:dV) from rfl,pj]at y;have HA:Xq _:=(C.o.addP (m:=(fI P).n+1) A y (by simp[fI,lu]));have U:=A.Zbw.get C.o.p (fun hq=>by have:=C.o.fp _ (aX hq);omega);have f5:=zcW U 0;have c5:w5.cell? ⟨F.heap.size+2,0,none⟩=some (slice h.ao P.length h.cap):=(by rw[ab U];rfl);have z5:=ah U;clear y A U);go_roundg (L.length-(k+1))
      ·exact⟨k+1,h5,P++[⟨-2,tg,0,s,t,j⟩],ht,d,⟨#[]⟩,true,by omega,rfl,by rw[b3],rfl,rfl,by go_num,⟨by simp;omega,by omega,XX _⟩,(fun _=>by simp),x,HA⟩
      omega
   ·rw[Xz b1]at x;by_cases d1:c=90
    ·subst d1;cases f
     ·rw[Xz (by simp),Xz (by omega)]at x;have R:Xq (lK w b n B L=qc 4 ⟨90,s,t,j⟩):=x.o.symm;go_wp2;obtain⟨J,K,M,N,O⟩:=gB E.o.r (slice none 0 0) (int i64 4) (string s) (int i64 t) (int i64 j);exact XG (v:=agg #[slice none 0 0,int i64 4,string s,int i64 t,int i64 j]) (by simp[results,results175,go_sem,J,K,M,N,O]) rfl (by rw[R.o];exact je rfl rfl (((((G.o.sr1 (by simp) _).sr1 (by simp) _).sr1 (by simp) _).sr1 (by simp) _).sr1 (by simp) _))
     ·rw[XA ⟨rfl,rfl⟩]at x;have cP:=HF.o rfl;have cx:((P.length-1:Nat):Int)=(P.length:Int)-1:=(by omega);have dl:IntKind.i64.wrap ((P.length:Int)-1)=(P.length:Int)-1:=(by rw[YS];omega);have cs:=E.o.ot;have ct:(bK d).n<=900000000:=(by show d.length<=_;omega);go_wp2_with (at_builtin;refine cQ _ rfl (.tmp 114) (.tmp 119) 25 rfl iN (int i64 0) 8 ht (bK d) [int i64 ((P.length:Int)-1)] underlying25 cv b7 b8 ca rfl XR rfl cs ct (by omega) rfl rfl (by simp[Value.oneCell']) ?_;intro h5 w5 y A;rw[<-cx,wP]at y;have HA:Xq _:=E.o.addT A y;clear y A);go_roundg (L.length-(k+1))
      ·exact⟨k+1,h,P,h5,d++[P.length-1],u,false,by omega,rfl,by simp[bK],rfl,rfl,by go_num,⟨by omega,by simp;omega,by omega⟩,(fun h=>by cases h),x,HA⟩
      omega
    ·have cE:(c==90)=false:=(by simpa using d1);rw[Xz (fun h=>d1 h.1)]at x;by_cases e1:c=63
     ·subst e1;cases ba:(u.toList == [])
      ·rw[Xz (by rw[ba];simp)]at x;have R:Xq (lK w b n B L=qc 4 ⟨63,s,t,j⟩):=x.o.symm;go_wp2;obtain⟨J,K,M,N,O⟩:=gB E.o.r (slice none 0 0) (int i64 4) (string s) (int i64 t) (int i64 j);exact XG (v:=agg #[slice none 0 0,int i64 4,string s,int i64 t,int i64 j]) (by simp[results,results175,go_sem,J,K,M,N,O]) rfl (by rw[R.o];exact je rfl rfl (((((G.o.sr1 (by simp) _).sr1 (by simp) _).sr1 (by simp) _).sr1 (by simp) _).sr1 (by simp) _))
      ·rw[XA ⟨rfl,ba⟩]at x;have H:=E.o.op;have a6:Xq ((fI P).n<=900000000):=(by show P.length<=_;omega);have cg:Xq ((fI P).n=P.length):=rfl;(go_upto_region 29 with fail);go_region_law (refine ci wr rfl (.tmp 129) (.tmp 136) 120 rfl iP (agg #[int i64 0,int i64 0,int i64 0,string ⟨#[]⟩,int i64 0,int i64 0]) 56 h (fI P) [int i64 (-1),int i64 0,int i64 0,string s,int i64 t,int i64 j] underlying120 bp bc bd be rfl (show 0<6 by omega) (by rw[cg.o];simp[Act.eval]) H a6.o (by omega) (by simp[Act.eval]) rfl (wX (⟨-1,0,0,s,t,j⟩:dV)) ?_;intro co b0 w5 y A;have U:=A.Zbw.get E.o.p (fun hq=>by have:=E.o.fp _ (aX hq);omega);have f5:=zcW U 0;have c5:w5.cell? ⟨F.heap.size+2,0,none⟩=some (slice h.ao P.length h.cap):=(by rw[ab U];rfl);have z5:=ah U)
       all_goals
        rw[show([int i64 (-1),int i64 0,int i64 0,string s,int i64 t,int i64 j]:List Value)=mG (⟨-1,0,0,s,t,j⟩:dV) from rfl,pj]at y;have HA:Xq _:=(E.o.addP (m:=(fI P).n+1) A y (by simp[fI,lu]));clear y A U f5 c5 z5;go_wp2;go_roundg (L.length-(k+1))
        ·exact⟨k+1,⟨co,b0⟩,P++[⟨-1,0,0,s,t,j⟩],ht,d,u,false,by omega,rfl,rfl,rfl,rfl,by go_num,⟨by simp;omega,by omega,by omega⟩,(fun h=>by cases h),x,HA⟩
        omega
     ·have cF:(c==63)=false:=(by simpa using e1);rw[Xz (fun h=>e1 h.1)]at x;have R:Xq (lK w b n B L=qc 4 ⟨c,s,t,j⟩):=x.o.symm;by_cases f1:85<=c
      ·have f2:¬c<=89:=fun h=>a1 ⟨f1,h⟩;have f3:65<=c:=(by omega);have f4:¬c<=84:=(by omega);go_wp2;obtain⟨J,K,M,N,O⟩:=gB E.o.r (slice none 0 0) (int i64 4) (string s) (int i64 t) (int i64 j);exact XG (v:=agg #[slice none 0 0,int i64 4,string s,int i64 t,int i64 j]) (by simp[results,results175,go_sem,J,K,M,N,O]) rfl (by rw[R.o];exact je rfl rfl (((((G.o.sr1 (by simp) _).sr1 (by simp) _).sr1 (by simp) _).sr1 (by simp) _).sr1 (by simp) _))
      ·by_cases f3:65<=c
       ·exact absurd ⟨f3,by omega⟩ b1
       ·skip
        go_wp2;obtain⟨J,K,M,N,O⟩:=gB E.o.r (slice none 0 0) (int i64 4) (string s) (int i64 t) (int i64 j);exact XG (v:=agg #[slice none 0 0,int i64 4,string s,int i64 t,int i64 j]) (by simp[results,results175,go_sem,J,K,M,N,O]) rfl (by rw[R.o];exact je rfl rfl (((((G.o.sr1 (by simp) _).sr1 (by simp) _).sr1 (by simp) _).sr1 (by simp) _).sr1 (by simp) _))
 ·have e:k=L.length:=by omega
  subst e;rw[ZaW,pU]at x;cases ba:(u.toList == [])
  ·rw[XA ba]at x;have R:Xq (lK w b n B L=qc 4 B):=x.o.symm;obtain⟨ec,ef,el,eo⟩:=B;go_wp2;obtain⟨J,K,M,N,O⟩:=gB E.o.r (slice none 0 0) (int i64 4) (string ef) (int i64 el) (int i64 eo);exact XG (v:=agg #[slice none 0 0,int i64 4,string ef,int i64 el,int i64 eo]) (by simp[results,results175,go_sem,J,K,M,N,O]) rfl (by rw[R.o];exact je rfl rfl (((((G.o.sr1 (by simp) _).sr1 (by simp) _).sr1 (by simp) _).sr1 (by simp) _).sr1 (by simp) _))
  ·rw[Xz (by rw[ba];simp)]at x;by_cases bl:P.length=0
   ·rw[XA bl]at x;have R:Xq (lK w b n B L=qc 1 B):=x.o.symm;have cy:((P.length:Int)==0)=true:=(by simpa using bl);obtain⟨ec,ef,el,eo⟩:=B;go_wp2;obtain⟨J,K,M,N,O⟩:=gB E.o.r (slice none 0 0) (int i64 1) (string ef) (int i64 el) (int i64 eo);exact XG (v:=agg #[slice none 0 0,int i64 1,string ef,int i64 el,int i64 eo]) (by simp[results,results175,go_sem,J,K,M,N,O]) rfl (by rw[R.o];exact je rfl rfl (((((G.o.sr1 (by simp) _).sr1 (by simp) _).sr1 (by simp) _).sr1 (by simp) _).sr1 (by simp) _))
   ·rw[Xz bl]at x;have R:Xq (lK w b n B L=⟨P,0,⟨#[]⟩,0,0⟩):=x.o.symm;have cy:((P.length:Int)==0)=false:=(by simpa using bl);have a0:Xq (∀q,h.Zbx=some q->q≠F.heap.size+1):=fun q hq=>by have:=E.o.fp q hq;omega
    go_wp2;obtain⟨J,K,M,N,O⟩:=gB E.o.r (slice h.ao P.length h.cap) (int i64 0) (string ⟨#[]⟩) (int i64 0) (int i64 0);exact XG (v:=agg #[slice h.ao P.length h.cap,int i64 0,string ⟨#[]⟩,int i64 0,int i64 0]) (by simp[results,results175,go_sem,J,K,M,N,O]) rfl (by rw[R.o];exact⟨h,rfl,⟨((((E.o.op.Zbs a0.o _ _).Zbs a0.o _ _).Zbs a0.o _ _).Zbs a0.o _ _).Zbs a0.o _ _,fun q hq=>(by have:=E.o.fp q hq;omega),((((G.o.sr1 (by simp) _).sr1 (by simp) _).sr1 (by simp) _).sr1 (by simp) _).sr1 (by simp) _⟩⟩)
def Kj(t:Tk):Lt:=⟨0,t.ZbD,t.ZbE,t.ZbF⟩
def zc(T:List Tk)(S:List Sm)(a z:Nat):Nat->Nat->Xu->lF
 | 0,_,_=>qc 3 (Kj (T.getD z kg))
 | n+1,i,refs =>
  if((tS T i).toList == [41])=true then lK T S refs (Kj (T.getD z kg)) (fU T (i+1) z)
  else if fV T S a (tS T i)<0 then qc 2 (Kj (T.getD i kg))
  else if refs.contains (fV T S a (tS T i)).toNat=true then qc 3 (Kj (T.getD i kg))
  else zc T S a z n (i+1) (refs++[(fV T S a (tS T i)).toNat])
def lC(T:List Tk)(S:List Sm)(a i z:Nat):lF:=zc T S a z (z-i) i (bW T S a)
theorem n8.cells(h:n8 T y5 t):∀b,y5=some b->∀j u,(eR t)[j]?=some u->T.cell? (b.add j)=some u:=by
 intro b e j u a;rw[eR,Yi]at a;cases d:t[j]? with
 | none=>rw[d]at a;cases a
 | some x =>
  rw[d]at a;cases a
  obtain⟨g,f,-,c⟩:=h j x d;rw[e]at f;cases f
  rw[bE];simpa using c
theorem Sr:∀u∈eR n,u.oneCell'=true:=by
 intro u a;obtain⟨x,-,rfl⟩:=YN.1 a;rfl
theorem Tn(M:Xu):(⟨(bK n).e,(bK n).size,(bK n).n+M.length,(bK n).xs++eR M⟩:eD)=bK (n++M):=by
 simp[bK,eR]
theorem iG.none(a:iG T M L z0):L.ao=none->z0.n=0/\L.cap=0:=fun e=>by
 rcases a.ZbH.Zbu with ⟨b,d,f⟩ | ⟨g,c,b,-⟩
 ·exact⟨d,by rw[b]⟩
 ·rw[e]at b;cases b
theorem iG.le(a:iG T M L z0):z0.n<=L.cap:=by
 rcases a.ZbH.Zbu with ⟨d,e,b⟩ | ⟨g,c,d,-,b,-⟩
 ·omega
 ·exact b
theorem wt:∀j∈bW w b y,j<y:=fun _ a=>XI.1 (Yt.1 a).1
theorem oL:(bW w b y).length<=y:=by
 unfold bW;have:=YE (vi w b y (Bz w b y)) (List.range y);rw[YW]at this;exact this
theorem Bn(e:fN w)(a z:Nat):(fU w a z).length<=1024*w.length:=by
 have:∀L:List Tk,(∀t∈L,t.s.size<=1024)->(L.flatMap xW).length<=1024*L.length:=by
  intro L
  induction L with
  | nil=>intro _;simp
  | cons t L f =>
   intro h;have c:=h t (by simp);have d:=f (fun t b=>h t (by simp[b]));rw[Yz,XC,Ye];have:(xW t).length=t.s.size:=by unfold xW;simp
   omega
 have c:=this ((w.drop a).take (z-a)) (fun t b=>(e t (List.mem_of_mem_drop (Zx b))).1);have d:((w.drop a).take (z-a)).length<=w.length:=by rw[YL,Ym];omega
 unfold fU;omega
theorem NN:0<=aL N y/\aL N y<256:=by
 unfold aL;split
 ·next h=>have:=(N[y]'h).toNat_lt;omega
 ·omega
theorem TH:∀l∈fU w i y,0<=l.c/\l.c<256:=by
 intro l a;unfold fU at a;obtain⟨t,-,b⟩:=ZaS.1 a;unfold xW at b;obtain⟨k,-,rfl⟩:=YN.1 b;exact NN _ _
theorem ua(h:T.heap[v]?=some (.cells #[slice none 0 0,int i64 0,string ⟨#[]⟩,int i64 0,int i64 0] 122)) :
  (T.cell? ⟨v,0,none⟩=some (slice none 0 0)/\T.cell? ⟨v,1,none⟩=some (int i64 0)/\T.cell? ⟨v,2,none⟩=some (string ⟨#[]⟩)/\T.cell? ⟨v,3,none⟩=some (int i64 0)/\T.cell? ⟨v,4,none⟩=some (int i64 0)) /\
  (T.frozen? ⟨v,0,none⟩=false/\T.frozen? ⟨v,1,none⟩=false/\T.frozen? ⟨v,2,none⟩=false/\T.frozen? ⟨v,3,none⟩=false/\T.frozen? ⟨v,4,none⟩=false)/\v<T.heap.size:=by
 refine⟨⟨?_,?_,?_,?_,?_⟩,⟨zcW h 0,zcW h 1,zcW h 2,zcW h 3,zcW h 4⟩,ah h⟩
 all_goals (rw[ab h];rfl)
theorem Gc{m:Nat}(c:m=t.length)(h:∀q (a:q<t.length),q<m->t[q]≠v):t.contains v=false:=by
 cases e:t.contains v
 ·rfl
 ·rw[Z6]at e;obtain⟨q,a,b⟩:=Yr e;exact absurd b (h q a (by omega))
theorem Kx(hD:gM x o w z4 I b D i)(ok:pE w b H)(hn:H<b.length)(hE:dA w (ay b H).h)(hO:fN w)(hi:S<=l)(hz:l<w.length) :
  Calls prog 126 #[pointer (some ⟨o,0,none⟩),int i64 H,int i64 S,int i64 l] x fun e w'=>rh x (lC w b H S l) e w':=by
 obtain⟨W,HW⟩:=aP (x.alloc (.cells #[slice none 0 0,int i64 0,string ⟨#[]⟩,int i64 0,int i64 0] 122));have BW:=dC HW.o;have M:Xq _:=dx HW.o;have K:Xq _:=hD.Zbj M.o;have aT:Xq _:=ok;have a3:Xq _:=hO;have bx:=ok.tm;have b5:=ok.sm;have av:Xq _:=oM o H w z4 I b D i W K.o ok hn hE;have cg:=oL w b H;have br:Xq _:=wt w b H;have bo:Xq (zc w b H l (l-S) S (bW w b H)=lC w b H S l):=rfl;obtain⟨iN,be,V,X,Y⟩:=XV ru;have bj:Xq _:=BW
 -- a fault
 have L:Xq (∀(wr:World),aa [] W wr->(wr.heap[x.heap.size]?=some (.cells #[slice none 0 0,int i64 0,string ⟨#[]⟩,int i64 0,int i64 0] 122))):=fun wr k=>k.get bj.o (by simp);clear hD ok hO;generalize bW w b H=HY at *;go_enter func126,ntmps126;go_upto_region 1 with fail
 rw[HW.o];go_upto_region 2 with (go_at_call 61;refine Xx av.o ?_;rintro e T ⟨h1,rfl,A⟩)
 have N:Xq _:=A.ZbH.srcN.cells;have bf:Xq _:=A.none;have ad:Xq (iG W T ⟨none,0⟩ (bK [])):=⟨XE _ _ _ _,(by intro k hk;cases hk),A.Zbw⟩;have a5:=ad.o.ZbH;clear A av;go_upto_region 3 with (at_builtin;refine dK _ rfl (.const (slice none 0 0)) (.tmp 18) 25 rfl iN (int i64 0) 8 ⟨none,0⟩ (bK []) underlying25 be V X Y rfl XR rfl a5 h1.ao HY.length h1.cap (eR HY) rfl (by simp[bK,eR]) bf.o N.o (Sr HY) (by simp only[bK,List.length_nil];omega) (by omega) ?_;intro h5 w5 ap bc;rw[Tn]at ap;have ax:Xq _:=ad.o.Zbt bc ap;clear ap bc)
 rw[ZJ]at ax;have bg:(bK ([]:Xu)).n+HY.length=HY.length:=by simp[bK]
 rw[bg];clear bg N bf ad a5;go_wp2
 go_loopg [10,11] (l-S) (fun g r iv wr=>∃(m:Nat) (z:Hd) (R:Xu),(S<=m/\m<=l)/\g=l-m/\r=slice z.ao R.length z.cap/\iv=int i64 m/\R.length<=10000+m/\Xq (∀q∈R,q<H)/\Xq (zc w b H l (l-m) m R=lC w b H S l)/\Xq (iG W wr z (bK R)))
 ·exact⟨S,h5,HY,⟨by omega,by omega⟩,rfl,rfl,rfl,by omega,br,bo,ax⟩
 obtain⟨m,z,R,⟨cb,cc⟩,hg,rfl,rfl,b4,a0,c,ai⟩:=hrel;have ac:Xq _:=ai.o.Zbw;have B:Xq _:=gM.Zbj K.o ac.o;obtain⟨c0,-,hb⟩:=B.o.cells;have BR:=L.o wr ac.o;have bl:Xq _:=M.o.trans ac.o;obtain⟨⟨r0,r1,r2,r3,r4⟩,⟨f0,f1,f2,f3,f4⟩,P⟩:=ua BR;obtain⟨gT,rfl,O,t0,-,t2,t3,t4⟩:=B.o.t.2 l _ (jN w l hz);have ch:(l:Int)<w.length:=by omega
 rcases kn m l with ⟨bT,cd⟩ | ⟨bT,-⟩
 ·have b2:(m:Int)<w.length:=by omega
  obtain⟨b3,e2,-,u0,-,u2,u3,u4⟩:=B.o.t.2 m _ (jN w m (by omega));cases e2
  replace u0:wr.cell? ⟨gT,m*5,none⟩=some (string (tS w m)):=u0;obtain⟨f,hf⟩:∃f,l-m=f+1:=⟨l-m-1,by omega⟩
  rw[hf,zc]at c;have a4:Xq (Calls prog 127 #[pointer (some ⟨o,0,none⟩),int i64 H,string (tS w m)] wr fun e w'=>e=returned (int i64 (fV w b H (tS w m)))/\aa [] wr w'):=By o H (tS w m) w _ I b D i wr B.o aT.o;have y:=tM w b H (tS w m);obtain⟨cj,Hx⟩:=aP (tS w m);rw[Hx.o]at u0 c a4 y;clear Hx;cases h1:(cj.toList == [41])
  ·rw[Xz (by rw[h1];simp)]at c;(go_upto_region 6 with (go_at_call 127;refine Xx a4.o ?_;rintro e T ⟨rfl,k1⟩));have n:Xq _:=ai.o.Zbj k1;have d:Xq _:=n.o.Zbw;have u:Xq _:=M.o.trans d.o;have s:Xq _:=gM.Zbj K.o d.o;have Z:=L.o T d.o;clear r0 r1 r2 r3 r4 f0 f1 f2 f3 f4 P;clear k1 c0 hb t0 t2 t3 t4 u0 u2 u3 u4 O;obtain⟨⟨r0,r1,r2,r3,r4⟩,⟨f0,f1,f2,f3,f4⟩,P⟩:=ua Z;obtain⟨c0,-,hb⟩:=s.o.cells;obtain⟨bs,e3,O,-,-,u2,u3,u4⟩:=s.o.t.2 m _ (jN w m (by omega));cases e3
   rcases y with y | ⟨j,hj,y⟩
   ·rw[y,XA (by omega)]at c;rw[y];have U:Xq (lC w b H S l=qc 2 (Kj (w.getD m kg))):=c.o.symm;generalize w.getD m kg=tm at *;obtain⟨ms,mr,F,G,E⟩:=tm;simp only at u2 u3 u4;go_wp2;obtain⟨x0,A,J,x3,x4⟩:=gB Z (slice none 0 0) (int i64 2) (string F) (int i64 G) (int i64 E);exact XG (v:=agg #[slice none 0 0,int i64 2,string F,int i64 G,int i64 E]) (by simp[results,results126,go_sem,x0,A,J,x3,x4]) rfl (by rw[U.o];exact je rfl rfl (((((u.o.sr1 (by simp) _).sr1 (by simp) _).sr1 (by simp) _).sr1 (by simp) _).sr1 (by simp) _))
   ·rw[y,Xz (by omega),YO]at c;rw[y];have ca:¬(j:Int)<0:=by omega
    have bq:Xq _:=n.o.ZbH.srcN;have a6:=n.o.le;have b1:R.length<=z.cap:=a6;clear a6;obtain⟨a7,ba⟩:=z;go_wp2
    go_loopg [13] R.length (fun g kv wr=>∃q:Nat,q<=R.length/\g=R.length-q/\kv=int i64 q/\Xq (∀p (hp:p<R.length),p<q->R[p]≠j)/\wr=T)
    ·exact⟨0,by omega,rfl,rfl,(fun p _ h=>by omega),rfl⟩
    obtain⟨q,hq,b6,rfl,aS,rfl⟩:=hrel;rcases kn q R.length with ⟨an,b0⟩ | ⟨an,-⟩
    ·obtain⟨gR,al,b7,cq⟩:=bq.o q R[q] (Xv an);have az:Xq (R[q]=j->R.contains j=true):=fun e=>by rw[Z6,<-e];exact XM an
     have bm:Xq (R[q]≠j->∀p (hp:p<R.length),p<q+1->R[p]≠j):=fun e p hp h2=>by
      by_cases e2:p=q
      ·subst e2;exact e
      ·exact aS.o p hp (by omega)
     generalize R[q]=rq at *;replace al:a7=some ⟨gR,0,none⟩:=al;subst al;by_cases am:rq=j
     ·subst am;rw[XA (az.o rfl)]at c;have U:Xq (lC w b H S l=qc 3 (Kj (w.getD m kg))):=c.o.symm;generalize w.getD m kg=tm at *;obtain⟨ms,mr,F,G,E⟩:=tm;simp only at u2 u3 u4;go_wp2;obtain⟨x0,A,J,x3,x4⟩:=gB Z (slice none 0 0) (int i64 3) (string F) (int i64 G) (int i64 E);exact XG (v:=agg #[slice none 0 0,int i64 3,string F,int i64 G,int i64 E]) (by simp[results,results126,go_sem,x0,A,J,x3,x4]) rfl (by rw[U.o];exact je rfl rfl (((((u.o.sr1 (by simp) _).sr1 (by simp) _).sr1 (by simp) _).sr1 (by simp) _).sr1 (by simp) _))
     ·have b8:((rq:Int)==(j:Int))=false:=(by simpa using (fun e=>am (by omega)));have HM:Xq _:=bm.o am;go_wp2;go_roundg (R.length-(q+1))
      ·exact⟨q+1,by omega,rfl,by go_num,HM,rfl⟩
      omega
    ·have eq:q=R.length:=(by omega);rw[Xz (by rw[Gc eq aS.o];simp)]at c;have b0:¬(q:Int)<R.length:=by omega
     have bv:=n.o.ZbH;have bw:(bK R).n<=900000000:=(by show R.length<=_;omega);have a1:Xq (∀q∈R++[j],q<H):=fun q hq=>by
      rcases X9.1 hq with h | h
      ·exact a0.o q h
      ·rw[XH.1 h];exact hj
     have bz:l-(m+1)=f:=(by omega);go_wp2_with (at_builtin;refine cQ _ rfl (.tmp 78) (.tmp 80) 25 rfl iN (int i64 0) 8 ⟨a7,ba⟩ (bK R) [int i64 (j:Int)] underlying25 be V X Y rfl XR rfl bv bw (by omega) rfl rfl (by simp[Value.oneCell']) ?_;intro h6 w6 aq bd;rw[wP]at aq;have HA:Xq _:=n.o.Zbt bd aq;clear aq bd);go_roundg (l-(m+1))
     ·exact⟨m+1,h6,R++[j],⟨by omega,by omega⟩,rfl,by simp[bK],by go_num,by simp;omega,a1,by rw[bz];exact c,HA⟩
     omega
  ·rw[XA h1]at c;have cf:((m:Int)==(l:Int))=false:=(by simpa using (fun e:(m:Int)=(l:Int)=>by omega));have N:((m+1:Nat):Int)=(m:Int)+1:=(by omega);have af:Xq _:=(Lm w (some ⟨gT,0,none⟩) I (m+1) l wr B.o.t bx (by omega) (by omega) a3.o);rw[N]at af;(go_upto_region 18 with (go_at_call 174;refine Xx af.o ?_;rintro e T ⟨h2,rfl,A⟩));have k1:=A.Zbw;have bp:Xq _:=A.ZbH.srcG VM;have n:Xq _:=ai.o.Zbj k1;have d:Xq _:=n.o.Zbw;have u:Xq _:=M.o.trans d.o;have s:Xq _:=gM.Zbj K.o d.o;have ag:Xq _:=(PK o H w (some ⟨gT,0,none⟩) I b D i R z.ao z.cap (fU w (m+1) l) h2.ao h2.cap (Kj (w.getD l kg)) T s.o aT.o n.o.ZbH.srcN a0.o (by omega) bp.o (by have:=Bn w a3.o (m+1) l;omega) (TH w (m+1) l));have U:Xq (lC w b H S l=lK w b R (Kj (w.getD l kg)) (fU w (m+1) l)):=c.o.symm;generalize fU w (m+1) l=SP at *;clear r0 r1 r2 r3 r4 f0 f1 f2 f3 f4 P;clear c0 hb t0 t2 t3 t4 u0 u2 u3 u4 O A af;obtain⟨c0,-,hb⟩:=s.o.cells;obtain⟨bs,e3,O,-,-,t2,t3,t4⟩:=s.o.t.2 l _ (jN w l hz);cases e3
   generalize w.getD l kg=tm at *;obtain⟨ms,mr,F,G,E⟩:=tm;simp only at t2 t3 t4;unfold Kj at ag U;simp only at ag;generalize lK w b R ⟨0,F,G,E⟩ SP=PF at *;obtain⟨Q,pw,pf,pl,pc⟩:=PF;have a2:Xq (Calls prog 175 #[pointer (some ⟨o,0,none⟩),slice z.ao R.length z.cap,slice h2.ao SP.length h2.cap,agg #[string F,int i64 G,int i64 E]] T fun e w'=>∃z,e=returned (agg #[slice z.ao Q.length z.cap,int i64 pw,string pf,int i64 pl,int i64 pc])/\iG T w' z (fI Q)):=ag.o;go_wp2_with (go_at_call 175;refine Xx a2.o ?_;rintro e w2 ⟨h3,rfl,J⟩;have ar:=L.o w2 (d.o.trans J.Zbw);obtain⟨⟨r0,r1,r2,r3,r4⟩,⟨f0,f1,f2,f3,f4⟩,P⟩:=ua ar);obtain⟨y0,y1,y2,y3,y4⟩:=gB ar (slice h3.ao Q.length h3.cap) (int i64 pw) (string pf) (int i64 pl) (int i64 pc);have C:Xq (∀q,h3.Zbx=some q->q≠x.heap.size):=fun q hq=>by have:=J.far q hq;have:=u.o.size;have:=ah (L.o T d.o);omega
   have bk:Xq _:=u.o.trans J.Zbw;exact XG (v:=agg #[slice h3.ao Q.length h3.cap,int i64 pw,string pf,int i64 pl,int i64 pc]) (by simp[results,results126,go_sem,y0,y1,y2,y3,y4]) rfl (by rw[U.o];exact⟨h3,rfl,⟨((((J.ZbH.Zbs C.o _ _).Zbs C.o _ _).Zbs C.o _ _).Zbs C.o _ _).Zbs C.o _ _,fun q hq=>(by have:=J.far q hq;have:=u.o.size;omega),((((bk.o.sr1 (by simp) _).sr1 (by simp) _).sr1 (by simp) _).sr1 (by simp) _).sr1 (by simp) _⟩⟩)
 ·have e:m=l:=by omega
  subst e;rw[YA,zc]at c;have U:Xq (lC w b H S m=qc 3 (Kj (w.getD m kg))):=c.o.symm;generalize w.getD m kg=tm at *;obtain⟨ms,mr,F,G,E⟩:=tm;simp only at t2 t3 t4;go_wp2;obtain⟨x0,A,J,x3,x4⟩:=gB BR (slice none 0 0) (int i64 3) (string F) (int i64 G) (int i64 E);exact XG (v:=agg #[slice none 0 0,int i64 3,string F,int i64 G,int i64 E]) (by simp[results,results126,go_sem,x0,A,J,x3,x4]) rfl (by rw[U.o];exact je rfl rfl (((((bl.o.sr1 (by simp) _).sr1 (by simp) _).sr1 (by simp) _).sr1 (by simp) _).sr1 (by simp) _))
def pM(T:List Tk)(S:List Sm)(a zt:Nat):Nat->Nat->List dV->lF
 | 0,_,P=>if P.length=0 then qc 1 (Kj (T.getD zt kg)) else⟨P,0,⟨#[]⟩,0,0⟩
 | n+1,i,P =>
  if((tS T i).toList == [63])=true then pM T S a zt n (i+1) (P++[⟨-1,0,0,(T.getD i kg).ZbD,(T.getD i kg).ZbE,(T.getD i kg).ZbF⟩])
  else if fV T S a (tS T i)<0 then qc 2 (Kj (T.getD i kg))
  else pM T S a zt n (i+1) (P++[⟨fV T S a (tS T i),0,jW T S (fV T S a (tS T i)),(T.getD i kg).ZbD,(T.getD i kg).ZbE,(T.getD i kg).ZbF⟩])
def io(T:List Tk)(S:List Sm)(a e zt:Nat):lF:=if((tS T (e+1)).toList == [40])=true then lC T S a (e+2) zt else pM T S a zt (zt-(e+1)) (e+1) []
structure WP(w wr:World)(P:List dV)(h:Hd):Prop where
 r:wr.heap[w.heap.size]?=some (.cells #[slice none 0 0,int i64 0,string ⟨#[]⟩,int i64 0,int i64 0] 122)
 p:wr.heap[w.heap.size+1]?=some (.cells #[slice h.ao P.length h.cap,int i64 0,string ⟨#[]⟩,int i64 0,int i64 0] 122)
 op:aD wr h (fI P)
 fp:∀k,h.Zbx=some k->w.heap.size+1<k
 Zbw:aa [] w wr
theorem WP.Zbj(a:WP T M d L)(k:aa [] M s):WP T s d L:=⟨k.get a.r (by simp),k.get a.p (by simp),a.op.Zbj k,a.fp,a.Zbw.trans k⟩
theorem WP.addP{i:List dV}{b:Hd}(a:WP T M d L)(g:bL M s L b)(o:aD s b (fI i)){m:Nat}(l:m=i.length):WP T (s.setCell ⟨T.heap.size+1,0,none⟩ (slice b.ao m b.cap)) i b:=by
 subst l;have t:∀q,q<=T.heap.size+1->q∉L.Zbx.toList:=fun q c l=>by have:=a.fp q (aX l);omega
 have x:=ah a.p;have w:=g.Zbw.get a.r (t _ (by omega));have v:=g.Zbw.get a.p (t _ (by omega));have f:∀k,b.Zbx=some k->T.heap.size+1<k:=fun k j=>by
  rcases g.Zbx with e | ⟨q,e,c⟩
  ·exact a.fp k (by rw[<-e];exact j)
  ·rw[e]at j;cases j;omega
 have n:aa [T.heap.size+1] s (s.setCell ⟨T.heap.size+1,0,none⟩ (slice b.ao i.length b.cap)):=(aa.refl _ _).sl1 _;have u:aa [] T s:=sX g.Zbw (fun q c=>by have:=a.fp q (aX c);omega) a.Zbw;exact⟨n.get w (by simp),by rw[ae v];rfl,o.Zbo (fun q c=>n.block q (o.lt c) (by simp;have:=f q c;omega)),f,u.sr1 (by simp) _⟩
theorem JP(hD:gM x o w z4 I b D i)(ok:pE w b H)(hn:H<b.length)(hE:dA w (ay b H).h)(hO:fN w)(bp:(ay b H).h<=S)(b8:((tS w S).toList == [36,61])=true)(a3:∀q,(ay b H).h<=q->q<S->((tS w q).toList == [36,61])=false)(bT:(ay b H).z=l+1)(ca:S<l)(bz:l<w.length)(V:((tS w l).toList == [36,46])=true) :
  Calls prog 87 #[pointer (some ⟨o,0,none⟩),int i64 H] x fun en w'=>rh x (io w b H S l) en w':=by
 obtain⟨W,HW⟩:=aP (x.alloc (.cells #[slice none 0 0,int i64 0,string ⟨#[]⟩,int i64 0,int i64 0] 122));have BW:=dC HW.o;have an:Xq _:=dx HW.o;have bm:W.heap.size=x.heap.size+1:=by rw[<-HW.o];simp
 have N:Xq _:=hD.Zbj an.o;have Z:Xq _:=hD;have aq:Xq _:=ok;have bj:Xq _:=hO;have b7:=ok.tm;have ck:(H:Int)<b.length:=by omega
 have HB:Xq _:=BW;have aT:Xq _:=a3;have bg:Xq _:=hE;obtain⟨iP,a5,ai,al,am⟩:=XV RY;obtain⟨c0,c1,hb⟩:=N.o.cells;obtain⟨gS,rfl,bq,-,q1,q2,-⟩:=N.o.s.2 H b[H] (Xv hn);rw[bA b H hn]at q1 q2;rw[bT]at q1;obtain⟨gT,rfl,n,-⟩:=N.o.t.2 S _ (jN w S (by omega));obtain⟨hd,a2⟩:=aP ((ay b H).h);rw[a2.o]at q2 bp aT;clear hD ok hO a3 hE a2;have bo:((l+1:Nat):Int)=(l:Int)+1:=by omega
 rw[bo]at q1;go_enter func87,ntmps87;go_upto_region 1 with fail
 rw[HW.o];go_wp2
 go_loopg [5] (S-hd) (fun g b0 wr=>∃k:Nat,(hd<=k/\k<=S)/\g=S-k/\b0=int i64 k/\wr=W)
 ·exact⟨hd,⟨by omega,by omega⟩,rfl,rfl,rfl⟩
 obtain⟨k,⟨br,cd⟩,hg,rfl,rfl⟩:=hrel;have cf:(k:Int)<w.length:=by omega
 obtain⟨b3,e2,-,t0,-⟩:=N.o.t.2 k _ (jN w k (by omega));cases e2
 replace t0:wr.cell? ⟨gT,k*5,none⟩=some (string (tS w k)):=t0;by_cases bs:k<S
 ·have hx:=aT.o k br bs;generalize tS w k=b2 at *;go_wp2;go_roundg (S-(k+1))
  ·exact⟨k+1,⟨by omega,by omega⟩,rfl,by go_num,rfl⟩
  omega
 ·have ek:k=S:=by omega
  subst ek;obtain⟨b4,e3,-,J,-⟩:=N.o.t.2 (k+1) _ (jN w (k+1) (by omega));cases e3
  replace J:wr.cell? ⟨gT,(k+1)*5,none⟩=some (string (tS w (k+1))):=J;have b1:(k:Int)+1<w.length:=by omega
  have a0:Xq (((tS w (k+1)).toList == [40])=true->Calls prog 126 #[pointer (some ⟨o,0,none⟩),int i64 H,int i64 ((k:Int)+1+1),int i64 l] wr fun en w'=>rh wr (lC w b H (k+2) l) en w'):=fun h=>by
   have cj:k+1≠l:=fun S=>by
    rw[<-S]at V;have a1:(tS w (k+1)).toList=[40]:=by simpa using h
    rw[a1]at V;exact absurd V (by decide)
   have:=Kx o H (k+2) l w _ I b _ i wr N.o aq.o hn bg.o bj.o (by omega) bz;rw[show((k+2:Nat):Int)=(k:Int)+1+1 by omega]at this;exact this
  have Q:Xq (io w b H k l=if((tS w (k+1)).toList == [40])=true then lC w b H (k+2) l else pM w b H l (l-(k+1)) (k+1) []):=rfl;obtain⟨b2,Hx⟩:=aP (tS w (k+1));rw[Hx.o]at J a0 Q;generalize tS w k=y at *;cases hx:(b2.toList == [40])
  ·rw[Xz (by rw[hx];simp)]at Q;have S0:Xq (WP x (wr.alloc (.cells #[slice none 0 0,int i64 0,string ⟨#[]⟩,int i64 0,int i64 0] 122)) [] ⟨none,0⟩):=⟨(bH.alloc _).get HB.o (by simp),by rw[<-bm];exact XD _ _,XE _ _ _ _,(by intro k hk;cases hk),an.o.alloc _⟩;have bd:Xq (pM w b H l (l-(k+1)) (k+1) []=io w b H k l):=Q.o.symm;go_wp2
   go_loopg [8] (l-(k+1)) (fun g b0 w1=>∃(m:Nat) (h:Hd) (P:List dV),(k+1<=m/\m<=l)/\g=l-m/\b0=int i64 m/\P.length<=m/\Xq (pM w b H l (l-m) m P=io w b H k l)/\Xq (WP x w1 P h))
   ·exact⟨k+1,⟨none,0⟩,[],⟨by omega,by omega⟩,rfl,by go_num,XX _,bd,S0⟩
   obtain⟨m,h,P,⟨cg,ch⟩,cb,rfl,b6,c,d⟩:=hrel;have ap:Xq _:=d.o.Zbw;have ac:Xq _:=gM.Zbj Z.o ap.o;clear c0 c1 hb q1 q2 bq n t0 J;obtain⟨c0,-,hb⟩:=ac.o.cells;rcases kn m l with ⟨bv,bw⟩ | ⟨bv,-⟩
   ·have a6:(m:Int)<w.length:=(by omega);obtain⟨b5,e4,n,J,-⟩:=ac.o.t.2 m _ (jN w m (by omega));cases e4
    replace J:wr.cell? ⟨gT,m*5,none⟩=some (string (tS w m)):=J;obtain⟨f,hf⟩:∃f,l-m=f+1:=⟨l-m-1,by omega⟩
    have a4:l-(m+1)=f:=(by omega);rw[hf,pM]at c;have av:Xq (Calls prog 127 #[pointer (some ⟨o,0,none⟩),int i64 H,string (tS w m)] wr fun S w'=>S=returned (int i64 (fV w b H (tS w m)))/\aa [] wr w'):=By o H (tS w m) w _ I b _ i wr ac.o aq.o;have A:=tM w b H (tS w m);obtain⟨v,Hv⟩:=aP (tS w m);rw[Hv.o]at J c av A;(go_upto_region 13 with (go_at_call 127;refine Xx av.o ?_;rintro S w1 ⟨rfl,k1⟩));have K:Xq _:=d.o.Zbj k1;have ag:Xq _:=K.o.Zbw;have R:Xq _:=gM.Zbj Z.o ag.o;have M:=K.o.r;clear k1 c0 hb J n av;obtain⟨c0,-,hb⟩:=R.o.cells;obtain⟨bk,e5,n,J,-,u2,u3,u4⟩:=R.o.t.2 m _ (jN w m (by omega));cases e5
    replace J:w1.cell? ⟨gT,m*5,none⟩=some (string (tS w m)):=J;rw[Hv.o]at J;cases L:(v.toList == [63])
    ·rw[Xz (by rw[L];simp)]at c;rcases A with A | ⟨j,hj,A⟩
     ·rw[A,XA (by omega)]at c;rw[A];have HX:Xq (io w b H k l=qc 2 (Kj (w.getD m kg))):=c.o.symm;generalize w.getD m kg=tm at *;obtain⟨ms,mr,C,E,B⟩:=tm;simp only at u2 u3 u4;obtain⟨⟨r0,r1,r2,r3,r4⟩,⟨f0,f1,f2,f3,f4⟩,a7⟩:=ua M;go_wp2;obtain⟨x0,x1,X,x3,x4⟩:=gB M (slice none 0 0) (int i64 2) (string C) (int i64 E) (int i64 B);exact XG (v:=agg #[slice none 0 0,int i64 2,string C,int i64 E,int i64 B]) (by simp[results,results87,go_sem,x0,x1,X,x3,x4]) rfl (by rw[HX.o];exact je rfl rfl (((((ag.o.sr1 (by simp) _).sr1 (by simp) _).sr1 (by simp) _).sr1 (by simp) _).sr1 (by simp) _))
     ·rw[A,Xz (by omega)]at c;rw[A];have cc:¬(j:Int)<0:=by omega
      have O:Xq _:=Dd o H j w _ I b _ i w1 R.o aq.o hj;generalize jW w b (j:Int)=nd at *;(go_upto_region 18 with (go_at_call 128;refine Xx O.o ?_;rintro S w2 ⟨rfl,k2⟩));have a:Xq _:=K.o.Zbj k2;have u:Xq _:=gM.Zbj Z.o a.o.Zbw;clear c0 hb J u2 u3 u4 n k2 O;obtain⟨c0,-,hb⟩:=u.o.cells;obtain⟨bl,e6,n,-,-,u2,u3,u4⟩:=u.o.t.2 m _ (jN w m (by omega));cases e6
      generalize w.getD m kg=tm at *;obtain⟨ms,mr,C,E,B⟩:=tm;simp only at u2 u3 u4;have p0:w2.cell? ⟨x.heap.size+1,0,none⟩=some (slice h.ao P.length h.cap):=by rw[ab a.o.p];rfl
      have p1:=zcW a.o.p 0;have p2:=ah a.o.p;have U:=a.o.op;have az:Xq ((fI P).n<=900000000):=(by show P.length<=_;omega);have ar:Xq ((fI P).n=P.length):=rfl;go_region_law (refine ci w2 rfl (.tmp 97) (.tmp 109) 120 rfl iP (agg #[int i64 0,int i64 0,int i64 0,string ⟨#[]⟩,int i64 0,int i64 0]) 56 h (fI P) [int i64 (j:Int),int i64 0,int i64 (nd:Int),string C,int i64 E,int i64 B] underlying120 a5 ai al am rfl (show 0<6 by omega) (by rw[ar.o];simp[Act.eval]) U az.o (by omega) (by simp[Act.eval]) rfl (wX (⟨(j:Int),0,nd,C,E,B⟩:dV)) ?_;intro ax T w5 G F;have Y:=F.Zbw.get a.o.p (fun L=>by have:=a.o.fp _ (aX L);omega);have f5:=zcW Y 0;have c5:w5.cell? ⟨x.heap.size+1,0,none⟩=some (slice h.ao P.length h.cap):=(by rw[ab Y];rfl);have z5:=ah Y)
      all_goals
       rw[show([int i64 (j:Int),int i64 0,int i64 (nd:Int),string C,int i64 E,int i64 B]:List Value)=mG (⟨(j:Int),0,nd,C,E,B⟩:dV) from rfl,pj]at G;have HA:Xq _:=(a.o.addP (m:=(fI P).n+1) F G (by simp[fI,lu]));clear G F Y f5 c5 z5;go_wp2;go_roundg (l-(m+1))
       ·exact⟨m+1,⟨ax,T⟩,P++[(⟨(j:Int),0,nd,C,E,B⟩:dV)],⟨by omega,by omega⟩,rfl,by go_num,by simp;omega,by rw[a4];exact c,HA⟩
       omega
    ·rw[XA L]at c;have O:Xq _:=OE (pointer (some ⟨o,0,none⟩)) w b w1;have bc:Xq (jW w b (-1)=0):=rfl;rw[bc.o]at O;(go_upto_region 18 with (go_at_call 128;refine Xx O.o ?_;rintro S w2 ⟨rfl,k2⟩));have a:Xq _:=K.o.Zbj k2;have u:Xq _:=gM.Zbj Z.o a.o.Zbw;clear c0 hb J u2 u3 u4 n k2 O;obtain⟨c0,-,hb⟩:=u.o.cells;obtain⟨bl,e6,n,-,-,u2,u3,u4⟩:=u.o.t.2 m _ (jN w m (by omega));cases e6
     generalize w.getD m kg=tm at *;obtain⟨ms,mr,C,E,B⟩:=tm;simp only at u2 u3 u4;have p0:w2.cell? ⟨x.heap.size+1,0,none⟩=some (slice h.ao P.length h.cap):=by rw[ab a.o.p];rfl
     have p1:=zcW a.o.p 0;have p2:=ah a.o.p;have U:=a.o.op;have az:Xq ((fI P).n<=900000000):=(by show P.length<=_;omega);have ar:Xq ((fI P).n=P.length):=rfl;go_region_law (refine ci w2 rfl (.tmp 97) (.tmp 109) 120 rfl iP (agg #[int i64 0,int i64 0,int i64 0,string ⟨#[]⟩,int i64 0,int i64 0]) 56 h (fI P) [int i64 (-1),int i64 0,int i64 0,string C,int i64 E,int i64 B] underlying120 a5 ai al am rfl (show 0<6 by omega) (by rw[ar.o];simp[Act.eval]) U az.o (by omega) (by simp[Act.eval]) rfl (wX (⟨(-1),0,0,C,E,B⟩:dV)) ?_;intro ax T w5 G F;have Y:=F.Zbw.get a.o.p (fun L=>by have:=a.o.fp _ (aX L);omega);have f5:=zcW Y 0;have c5:w5.cell? ⟨x.heap.size+1,0,none⟩=some (slice h.ao P.length h.cap):=(by rw[ab Y];rfl);have z5:=ah Y)
     all_goals
      rw[show([int i64 (-1),int i64 0,int i64 0,string C,int i64 E,int i64 B]:List Value)=mG (⟨(-1),0,0,C,E,B⟩:dV) from rfl,pj]at G;have HA:Xq _:=(a.o.addP (m:=(fI P).n+1) F G (by simp[fI,lu]));clear G F Y f5 c5 z5;go_wp2;go_roundg (l-(m+1))
      ·exact⟨m+1,⟨ax,T⟩,P++[(⟨(-1),0,0,C,E,B⟩:dV)],⟨by omega,by omega⟩,rfl,by go_num,by simp;omega,by rw[a4];exact c,HA⟩
      omega
   ·have em:m=l:=(by omega);subst em;rw[YA,pM]at c;have bw:¬(m:Int)<(m:Int):=by omega
    have a6:(m:Int)<w.length:=(by omega);obtain⟨bk,e5,n,-,-,u2,u3,u4⟩:=ac.o.t.2 m _ (jN w m (by omega));cases e5
    have M:=d.o.r;obtain⟨⟨r0,r1,r2,r3,r4⟩,⟨f0,f1,f2,f3,f4⟩,a7⟩:=ua M;have p0:wr.cell? ⟨x.heap.size+1,0,none⟩=some (slice h.ao P.length h.cap):=(by rw[ab d.o.p];rfl);have p1:wr.cell? ⟨x.heap.size+1,1,none⟩=some (int i64 0):=(by rw[ab d.o.p];rfl);have p2:wr.cell? ⟨x.heap.size+1,2,none⟩=some (string ⟨#[]⟩):=(by rw[ab d.o.p];rfl);have p3:wr.cell? ⟨x.heap.size+1,3,none⟩=some (int i64 0):=(by rw[ab d.o.p];rfl);have p4:wr.cell? ⟨x.heap.size+1,4,none⟩=some (int i64 0):=(by rw[ab d.o.p];rfl);have Y:=ah d.o.p;by_cases ad:P.length=0
    ·rw[XA ad]at c;have HX:Xq (io w b H k m=qc 1 (Kj (w.getD m kg))):=c.o.symm;have bx:((P.length:Int)==0)=true:=(by simpa using ad);generalize w.getD m kg=tm at *;obtain⟨ms,mr,C,E,B⟩:=tm;simp only at u2 u3 u4;go_wp2;obtain⟨x0,x1,X,x3,x4⟩:=gB M (slice none 0 0) (int i64 1) (string C) (int i64 E) (int i64 B);exact XG (v:=agg #[slice none 0 0,int i64 1,string C,int i64 E,int i64 B]) (by simp[results,results87,go_sem,x0,x1,X,x3,x4]) rfl (by rw[HX.o];exact je rfl rfl (((((ap.o.sr1 (by simp) _).sr1 (by simp) _).sr1 (by simp) _).sr1 (by simp) _).sr1 (by simp) _))
    ·rw[Xz ad]at c;have HX:Xq (io w b H k m=⟨P,0,⟨#[]⟩,0,0⟩):=c.o.symm;have bx:((P.length:Int)==0)=false:=(by simpa using ad);have e:Xq (∀q,h.Zbx=some q->q≠x.heap.size):=fun q L=>by have:=d.o.fp q L;omega
     go_wp2;obtain⟨x0,x1,X,x3,x4⟩:=gB M (slice h.ao P.length h.cap) (int i64 0) (string ⟨#[]⟩) (int i64 0) (int i64 0);exact XG (v:=agg #[slice h.ao P.length h.cap,int i64 0,string ⟨#[]⟩,int i64 0,int i64 0]) (by simp[results,results87,go_sem,x0,x1,X,x3,x4]) rfl (by rw[HX.o];exact⟨h,rfl,⟨((((d.o.op.Zbs e.o _ _).Zbs e.o _ _).Zbs e.o _ _).Zbs e.o _ _).Zbs e.o _ _,fun q L=>(by have:=d.o.fp q L;omega),((((ap.o.sr1 (by simp) _).sr1 (by simp) _).sr1 (by simp) _).sr1 (by simp) _).sr1 (by simp) _⟩⟩)
  ·rw[XA hx]at Q;have be:Xq _:=a0.o hx;generalize lC w b H (k+2) l=PF at *;obtain⟨af,pw,pf,pl,pc⟩:=PF;have bf:Xq (Calls prog 126 #[pointer (some ⟨o,0,none⟩),int i64 H,int i64 ((k:Int)+1+1),int i64 l] wr fun en w'=>∃h',en=returned (agg #[slice h'.ao af.length h'.cap,int i64 pw,string pf,int i64 pl,int i64 pc])/\iG wr w' h' (fI af)):=be.o;go_wp2_with (go_at_call 126;refine Xx bf.o ?_;rintro en w2 ⟨h3,rfl,X⟩;have aS:=X.Zbw.get HB.o (by simp);obtain⟨⟨r0,r1,r2,r3,r4⟩,⟨f0,f1,f2,f3,f4⟩,a7⟩:=ua aS);obtain⟨y0,y1,y2,y3,y4⟩:=gB aS (slice h3.ao af.length h3.cap) (int i64 pw) (string pf) (int i64 pl) (int i64 pc);have e:Xq (∀q,h3.Zbx=some q->q≠x.heap.size):=fun q L=>by have:=X.far q L;omega
   have ba:Xq _:=an.o.trans X.Zbw;exact XG (v:=agg #[slice h3.ao af.length h3.cap,int i64 pw,string pf,int i64 pl,int i64 pc]) (by simp[results,results87,go_sem,y0,y1,y2,y3,y4]) rfl (by rw[Q.o];exact⟨h3,rfl,⟨((((X.ZbH.Zbs e.o _ _).Zbs e.o _ _).Zbs e.o _ _).Zbs e.o _ _).Zbs e.o _ _,fun q L=>(by have:=X.far q L;omega),((((ba.o.sr1 (by simp) _).sr1 (by simp) _).sr1 (by simp) _).sr1 (by simp) _).sr1 (by simp) _⟩⟩)
def zce:dV:=⟨0,0,0,⟨#[]⟩,0,0⟩
def cn(P:List dV)(i:Nat):dV:=P.getD i zce
theorem Nc(h:y<f.length):f[y]?=some (cn f y):=by
 unfold cn;rw[Xw,Xv h];rfl
def Cj(P:List dV)(i:Nat):Bool:=((cn P i).ref == -1)
def jy(P:List dV):Int:=match (List.range P.length).find? (Cj P) with
 | some i=>i
 | none=>-1
theorem Oe(c:v<d.length)(h:Cj d v=true)(a:∀j,j<v->Cj d j=false):jy d=v:=by
 have e:(List.range d.length).find? (Cj d)=some v:=by
  rw[Y3];exact⟨h,XI.2 c,fun j b=>by rw[a j b];rfl⟩
 unfold jy;rw[e]
theorem RG(a:∀j,j<d.length->Cj d j=false):jy d=-1:=by
 have e:(List.range d.length).find? (Cj d)=none:=by
  rw[YD];intro j b;rw[a j (XI.1 b)];simp
 unfold jy;rw[e]
theorem J5:(jy f=-1/\∀j,j<f.length->(cn f j).ref≠-1)∨∃k,k<f.length/\jy f=(k:Int):=by
 unfold jy;cases h:(List.range f.length).find? (Cj f) with
 | none =>
  refine XQ ⟨rfl,fun j a e=>?_⟩;rw[YD]at h;exact h j (XI.2 a) (by unfold Cj;rw[e];rfl)
 | some i=>exact XK ⟨i,XI.1 (XS h),rfl⟩
theorem cW.step(h:cW T y5 6 mG d)(k:Nat)(b:k<d.length):∃g,y5=some ⟨g,0,none⟩/\g<T.heap.size/\T.cell? ⟨g,k*6,none⟩=some (int i64 (cn d k).ref)/\T.cell? ⟨g,k*6+1,none⟩=some (int i64 ((cn d k).back:Nat))/\T.cell? ⟨g,k*6+2,none⟩=some (int i64 ((cn d k).need:Nat)) /\
  T.cell? ⟨g,k*6+3,none⟩=some (string (cn d k).ZbD)/\T.cell? ⟨g,k*6+4,none⟩=some (int i64 (cn d k).ZbE)/\T.cell? ⟨g,k*6+5,none⟩=some (int i64 (cn d k).ZbF):=by
 obtain⟨g,e,a,c⟩:=h k _ (Nc d k b);exact⟨g,e,a,c 0 _ rfl,c 1 _ rfl,c 2 _ rfl,c 3 _ rfl,c 4 _ rfl,c 5 _ rfl⟩
theorem Od(q:cW x D 6 mG f)(B:f.length<=100000000) :
  Calls prog 129 #[agg #[slice D f.length i,int i64 z7,string N,int i64 z8,int i64 zf]] x fun e y=>e=returned (int i64 (jy f))/\aa [] x y:=by
 obtain⟨W,l⟩:=aP (x.alloc (.cells #[slice D f.length i,int i64 z7,string N,int i64 z8,int i64 zf] 122));have n:=dC l.o;have a:Xq _:=dx l.o;have t:Xq _:=q.Zbj a.o;obtain⟨E,-⟩:=nJ n;have C:=ah n;clear q;go_enter func129,ntmps129;go_upto_region 1 with fail
 rw[l.o];go_wp2
 go_loopg [3] f.length (fun g w wr=>∃k:Nat,k<=f.length/\g=f.length-k/\w=int i64 k/\Xq (∀j,j<k->Cj f j=false)/\wr=W)
 ·exact⟨0,by omega,rfl,rfl,(fun j v=>by omega),rfl⟩
 obtain⟨k,A,z,rfl,d,rfl⟩:=hrel;rcases kn k f.length with ⟨b,m⟩ | ⟨b,-⟩
 ·obtain⟨g,rfl,u,F,-⟩:=cW.step t.o k b;have p:Xq (Cj f k=((cn f k).ref == -1)):=rfl;generalize (cn f k).ref=r at *;cases s:(r == -1)
  ·have c:Xq _:=fm d.o (by rw[p.o,s]);go_wp2;go_roundg (f.length-(k+1))
   ·exact⟨k+1,by omega,rfl,by go_num,c,rfl⟩
   omega
  ·have c:Xq (jy f=k):=Oe b (by rw[p.o,s]) d.o;go_wp2;go_ret;exact⟨au c.o.symm,a.o⟩
 ·have c:Xq (jy f=-1):=RG (fun j v=>d.o j (by omega));have m:¬(k:Int)<f.length:=by omega
  go_wp2;go_ret;exact⟨au c.o.symm,a.o⟩
def ux(rec:Nat->Int):Nat->Nat->Int
 | 0,b=>b
 | k+1,b=>if b=0 then -1 else if rec (b-1)<0 then -1 else ux rec k (rec (b-1)).toNat
def Eb(P:List dV):Nat->Nat->Int
 | 0,_=>0
 | f+1,i=>ux (Eb P f) (cn P i).need i
theorem UR(a:∀i,z6 i<=(i:Int))(k:Nat):∀b,ux z6 k b<=(b:Int):=by
 induction k with
 | zero=>intro b;exact Zaa _
 | succ k c =>
  intro b;rw[ux];split
  ·omega
  ·split
   ·omega
   ·have d:=c (z6 (b-1)).toNat;have e:=a (b-1);omega
theorem Ec(a:Nat):∀i,Eb f a i<=(i:Int):=by
 induction a with
 | zero=>intro i;show(0:Int)<=i;omega
 | succ a b=>intro i;rw[Eb];exact UR b _ _
theorem zN{c:Nat->Int}(d:∀i,z6 i<=(i:Int))(k:Nat):∀b,(∀i,i<b->z6 i=c i)->ux z6 k b=ux c k b:=by
 induction k with
 | zero=>intro b _;rfl
 | succ k e =>
  intro b h;rw[ux,ux];by_cases a:b=0
  ·rw[XA a,XA a]
  ·rw[Xz a,Xz a,<-h (b-1) (by omega)];split
   ·rfl
   ·next f =>
    have:=d (b-1);exact e _ (fun i g=>h i (by omega))
theorem NG:∀a g i,i<a->i<g->Eb f a i=Eb f g i:=by
 intro a
 induction a with
 | zero=>intro g i h;omega
 | succ a b =>
  intro g i c d;cases g with
  | zero=>omega
  | succ g =>
   rw[Eb,Eb];exact zN (Ec f a) _ _ (fun j e=>b g j (by omega) (by omega))
def fj(P:List dV)(i:Nat):Int:=Eb P (i+1) i
theorem zQ:fj f y=ux (fj f) (cn f y).need y:=by
 unfold fj;rw[Eb];exact zN (Ec f y) _ _ (fun j a=>NG f y (j+1) j a (by omega))
theorem zR:fj f y<=(y:Int):=Ec f _ y
def UH(P:List dV):Prop:=∀i,(cn P i).need<=100000
theorem xj(hl:f.length<=100000000)(O:UH f)(z:Nat):∀(a:Nat) (w:World),a<z->a<f.length->cW w D 6 mG f ->
  Calls prog 131 #[agg #[slice D f.length i,int i64 z7,string N,int i64 z8,int i64 zf],int i64 a] w fun e w'=>e=returned (int i64 (fj f a))/\aa [] w w':=by
 induction z with
 | zero=>intro a w h;omega
 | succ z J =>
  intro a w S Q H;have x:Xq _:=J;clear J;obtain⟨W,y⟩:=aP (w.alloc (.cells #[slice D f.length i,int i64 z7,string N,int i64 z8,int i64 zf] 122));have u:=dC y.o;have p:Xq _:=dx y.o;have G:Xq _:=H.Zbj p.o;obtain⟨p0,-⟩:=nJ u;have T:(a:Int)<f.length:=by omega
  obtain⟨g,rfl,B,-,-,q2,-⟩:=cW.step G.o a Q;have L:Xq _:=u;have v:Xq _:=zQ f a;have X:=O a;generalize (cn f a).need=n at *;generalize fj f a=R at *;clear H u;go_enter func131,ntmps131;go_upto_region 1 with fail
  rw[y.o];go_wp2;clear q2 B
  go_loopg [6,7] n (fun m M Z wr=>∃(k b:Nat),k<=n/\m=n-k/\M=int i64 b/\Z=int i64 k/\b<=a/\Xq (R=ux (fj f) (n-k) b)/\Xq (aa [] W wr))
  ·exact⟨0,a,by omega,rfl,rfl,rfl,by omega,v,aa.refl _ _⟩
  obtain⟨k,b,hk,hm,rfl,rfl,hb,c,s⟩:=hrel;rcases kn k n with ⟨C,U⟩ | ⟨C,-⟩
  ·obtain⟨d,P⟩:∃d,n-k=d+1:=⟨n-k-1,by omega⟩
   have A:n-(k+1)=d:=(by omega);rw[P,ux]at c;have j:Xq _:=p.o.trans s.o;cases b with
   | zero =>
    rw[XA rfl]at c;go_wp2;go_ret;exact⟨au c.o.symm,j.o⟩
   | succ q =>
    rw[Xz (by omega),Za]at c;have K:=s.o.get L.o (by simp);obtain⟨r0,r1,r2,r3,r4⟩:=nJ K;have F:Xq _:=(x.o q wr (by omega) (by omega) (cW.Zbj G.o s.o));have V:=zR f q;have Y:((q:Int)+1==0)=false:=by simp;omega
    generalize fj f q=r at *;by_cases I:r<0
    ·rw[XA I]at c;go_wp2_with (go_at_call 131;refine Xx F.o ?_;rintro e w1 ⟨rfl,t⟩;have l:Xq _:=j.o.trans t;clear t);go_ret;exact⟨au c.o.symm,l.o⟩
    ·rw[Xz I]at c;obtain⟨E,rfl⟩:∃E:Nat,r=E:=⟨r.toNat,by omega⟩
     rw[YO,<-A]at c;go_wp2_with (go_at_call 131;refine Xx F.o ?_;rintro e w1 ⟨rfl,t⟩;have l:Xq _:=s.o.trans t;clear t);go_roundg (n-(k+1))
     ·exact⟨k+1,E,by omega,rfl,rfl,by go_num,by omega,c,l⟩
     omega
  ·have e:k=n:=(by omega);subst e;rw[YA,ux]at c;have j:Xq _:=p.o.trans s.o;go_wp2;go_ret;exact⟨au c.o.symm,j.o⟩
def Tw(A B:Xs)(i:Nat):Bool:=((A.getD i ⟨#[]⟩).toList==(B.getD i ⟨#[]⟩).toList)
def qQ(A B:Xs):Bool:=(A.length==B.length)&&(List.range A.length).all (Tw A B)
theorem oD(h:y<k.length):k[y]?=some (k.getD y ⟨#[]⟩):=by
 rw[Xw,Xv h];rfl
theorem II(B:Xs)(v y:Xt)(G H:Nat)(w:World)(A:iB w v k)(C:iB w y B)(K:k.length<=1000000000) :
  Calls prog 132 #[slice v k.length G,slice y B.length H] w fun e M=>e=returned (bool (qQ k B))/\aa [] w M:=by
 have E:Xq _:=A;have F:Xq _:=C;clear A C;by_cases c:k.length=B.length
 ·have q:Xq (qQ k B=(List.range k.length).all (Tw k B)):=by show _=_;unfold qQ;rw[c];simp
  obtain⟨l,b⟩:=aP (k.length);have n:Xq (B.length=l):=cm (by rw[<-c];exact b.o);rw[b.o,n.o];rw[b.o]at K q;clear c;go_enter func132,ntmps132;go_wp2
  go_loopg [5] l (fun g i wr=>∃a:Nat,a<=l/\g=l-a/\i=int i64 a/\Xq (∀j,j<a->Tw k B j=true)/\Xq (aa [] w wr))
  ·exact⟨0,by omega,rfl,rfl,(fun j r=>by omega),aa.refl _ _⟩
  obtain⟨a,Q,P,rfl,t,p⟩:=hrel;rcases kn a l with ⟨d,s⟩ | ⟨d,-⟩
  ·obtain⟨N,rfl,I,R⟩:=(iB.Zbj E.o p.o) a _ (oD k a (by rw[b.o];exact d));obtain⟨O,rfl,J,S⟩:=(iB.Zbj F.o p.o) a _ (oD B a (by rw[n.o];exact d));have u:Xq (Tw k B a=((k.getD a ⟨#[]⟩).toList==(B.getD a ⟨#[]⟩).toList)):=rfl;generalize k.getD a ⟨#[]⟩=x at *;generalize B.getD a ⟨#[]⟩=z at *;have m:Xq _:=p.o.drew;cases D:(x.toList==z.toList)
   ·have f:Xq (qQ k B=false):=by
     show _=_;rw[q.o,ZK];exact⟨a,XI.2 d,by rw[u.o,D];simp⟩
    (go_upto_region 6 with fail);go_region
    all_goals
     go_wp2;go_ret;exact⟨aH f.o.symm,m.o⟩
   ·have f:Xq (∀j,j<a+1->Tw k B j=true):=fun j r=>by
     by_cases e:j=a
     ·rw[e,u.o,D]
     ·exact t.o j (by omega)
    (go_upto_region 6 with fail);go_region
    all_goals
     go_wp2;go_roundg (l-(a+1))
     ·exact⟨a+1,by omega,rfl,by go_num,f,m⟩
     omega
  ·have f:Xq (qQ k B=true):=by
    show _=_;rw[q.o,YP];exact fun j r=>t.o j (by have:=XI.1 r;omega)
   have s:¬(a:Int)<(l:Int):=(by omega);go_wp2;go_ret;exact⟨aH f.o.symm,p.o⟩
 ·have f:Xq (qQ k B=false):=by show _=_;unfold qQ;simp[c]
  have L:((k.length:Int)==B.length)=false:=Za4 (by omega);go_enter func132,ntmps132;go_wp2;go_ret;exact⟨aH f.o.symm,aa.refl _ _⟩
end Go.Proofs.YtpdholcaobgofaaGreat
