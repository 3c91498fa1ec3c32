import Derived.Test.YtnbhnocdhbcbcaaGreatG17
namespace Go.Proofs.YtnbhnocdhbcbcaaGreat
open Go.RowKit Tryz
open Value IntKind Ending
set_option maxHeartbeats 0
variable{T o L:World}{k:Hd}{M:eB}{y:Nat}{I:List Nat}{s:List cW}(d H n l:Nat)(w:List Tk)(N:Option Addr)(i:Nat)(b:List Sm)(D:Option Addr)(x:Nat)(S:World)(f:List Nat)
theorem ci{P:Program}{k:Array Oper}{d:List Oper}{o:Oper}{a:Act}{Q:Exit->Act->World->Prop}(H:o.guard=none)(s x:Operand)(t:TypeId)(p:o.op=Op.call { callee:=Callee.builtin Builtin.append,args:=#[s,x],argTypes:=#[t,t] })(i:TypeInfo)(z:Value)(c:Nat)(h:Hd)(r:eB)(b:List Value)(w:P.underlying t=some (.slice r.e))(y:P.info? r.e=some i)(A:i.zero=some z)(B:i.size=r.size)(C:i.bytes=c)(D:z.cells.size=r.size)(E:0<r.size)(K:a.eval s=slice h.ao r.n h.cap)(g:aC S h r)(O:r.n<=900000000)(G:c<=1000)(L:a.eval x=slice (some ⟨S.heap.size,0,none⟩) 1 1)(R:b.length=r.size)(m:∀u∈b,u.oneCell'=true)(F:∀f l,aC l f ⟨r.e,r.size,r.n+1,r.xs++b⟩->bI S l h f->wpList P k Q d (a.put o.dst (slice f.ao (r.n+1) f.cap)) l) :
  wpList P k Q (o :: d) a (S.alloc (.cells b.toArray r.e)):=by
 have q:aa [] S (S.alloc (.cells b.toArray r.e)):=(aa.refl [] _).alloc _;have J:(S.alloc (.cells b.toArray r.e)).heap[S.heap.size]?=some (.cells b.toArray r.e):=R2 _ _;refine eN _ H s x t p i z c h r w y A B C D E K (g.Wj q) (some ⟨S.heap.size,0,none⟩) 1 1 b L (by omega) (fun e=>by cases e) ?_ m (by omega) G ?_
 ·intro N e j u I;cases e
  rw[bS,aj J];simpa using I
 ·intro f l M v;exact F f l M ((bI.Wj q).trans v)
def oM(w:World)(p:jM)(e:Ending)(w':World):Prop:=∃h',e=returned (QV p h')/\jd w w' h' (eW p.st)
theorem ie{p:jM}{e:Ending}(a:p.st=[])(b:e=returned (agg #[slice none 0 0,int i64 p.why,string p.file,int i64 p.line,int i64 p.col]))(k:aa [] T o):oM T p e o :=
 ⟨⟨none,0⟩,by rw[b,QV,a];rfl,by rw[a];exact⟨Sb _ _ _ _,(by intro k c;cases c),k⟩⟩
theorem aC.Ws(o:aC T k M)(c:∀a,k.blk=some a->a≠y)(i:Nat)(v:Value):aC (T.setCell ⟨y,i,none⟩ v) k M:=by
 have a:aa [y] T (T.setCell ⟨y,i,none⟩ v):=(aa.refl _ _).setCell (R4 (by simp)) _;exact o.Wo (fun q b=>a.block q (o.lt b) (by simp;exact c q b))
theorem IS{α:Type}(L:List α)(k:Nat)(h:k<L.length):L.drop k=L[k] :: L.drop (k+1):=Sq h
set_option maxRecDepth 100000
theorem Kr(b5:Option Addr)(cR:Nat)(L:List Lt)(b4:Option Addr)(cL:Nat)(B:Lt)(F:World)(hD:fZ F n w N i b D x)(ok:oP w b l)(hR:rI F b5 f)(hr:∀r∈f,r<l)(dz:f.length<=30000)(hL:cG F b4 4 QU L)(c8:L.length<=20000000)(a0:∀co∈L,0<=co.c/\co.c<256) :
  Calls prog 177 #[pointer (some ⟨n,0,none⟩),slice b5 f.length cR,slice b4 L.length cL,agg #[string B.file,int i64 B.line,int i64 B.col]] F fun e w'=>oM F (jW w b f B L) e w':=by
 have HD:Hid _:=hD;have ct:Hid _:=ok;have HR:Hid _:=hR;have HL:Hid _:=hL;have cs:Hid _:=a0;have cx:Hid _:=hr;obtain⟨iN,cP,cj,ck,cl⟩:=Sr Ay;obtain⟨iP,bv,bd,be,bf⟩:=Sr Mj;have S0:Hid (Gp F (((F.alloc (.cells #[string B.file,int i64 B.line,int i64 B.col] 36)).alloc (.cells #[slice none 0 0,int i64 0,string ⟨#[]⟩,int i64 0,int i64 0] 122)).alloc (.cells #[slice none 0 0,int i64 0,string ⟨#[]⟩,int i64 0,int i64 0] 122)) B [] ⟨none,0⟩ [] ⟨none,0⟩):=by
  obtain⟨W1,bk⟩:∃W1,W1=F.alloc (.cells #[string B.file,int i64 B.line,int i64 B.col] 36):=⟨_,rfl⟩
  obtain⟨W2,bl⟩:∃W2,W2=W1.alloc (.cells #[slice none 0 0,int i64 0,string ⟨#[]⟩,int i64 0,int i64 0] 122):=⟨_,rfl⟩
  have z1:W1.heap.size=F.heap.size+1:=by rw[bk];simp
  have z2:W2.heap.size=F.heap.size+2:=by rw[bl];simp[z1]
  have k1:=fN bl.symm;have k0:=fN bk.symm;have k2:aa [] W2 (W2.alloc (.cells #[slice none 0 0,int i64 0,string ⟨#[]⟩,int i64 0,int i64 0] 122)):=(aa.refl [] _).alloc _;have e0:=fY bk.symm;have e1:W2.heap[F.heap.size+1]?=some (.cells #[slice none 0 0,int i64 0,string ⟨#[]⟩,int i64 0,int i64 0] 122):=by rw[bl,<-z1];exact R2 _ _
  show Gp _ _ _ _ _ _ _;rw[<-bk,<-bl];exact⟨k2.get (k1.get e0 (by simp)) (by simp),k2.get e1 (by simp),by rw[<-z2];exact R2 _ _,Sb _ _ _ _,Sb _ _ _ _,(by intro k hk;cases hk),(by intro k hk;cases hk),(by intro k hk;cases hk),(k0.trans k1).trans k2⟩
 clear hD ok hR hL a0 hr;go_enter func177,ntmps177;go_wp2
 go_loopg [10,11,12,13] L.length (fun g tg nm fr d3 wr=>∃(k:Nat) (h:Hd) (P:List cW) (ht:Hd) (d:List Nat) (t:ByteArray) (cb:Bool),k<=L.length/\g=L.length-k/\tg=slice ht.ao d.length ht.cap/\nm=string t/\fr=bool cb/\d3=int i64 k/\(P.length<=k/\d.length<=k/\t.size<=k)/\Hid (cb=true->0<P.length)/\Hid (mv w b f B (L.drop k) P d t cb=jW w b f B L)/\Hid (Gp F wr B P h d ht))
 case atStart=>exact⟨0,⟨none,0⟩,[],⟨none,0⟩,[],⟨#[]⟩,false,by omega,rfl,rfl,rfl,rfl,rfl,⟨RV _,RV _,RV _⟩,(fun h=>by cases h),rfl,S0⟩
 case round =>
  obtain⟨k,h,P,ht,d,t,cb,hk,hg,rfl,rfl,rfl,rfl,⟨db,d0,dt⟩,HF,u,E⟩:=hrel;obtain⟨⟨U,V,W⟩,⟨af,ag,ai,al,an⟩,⟨X,Y,Z,ac,ad⟩,⟨ar,ax,az,aS,aT⟩,ap,a3⟩:=E.out.cells;have G:Hid _:=E.out.kept;by_cases bo:k<L.length
  ·have ds:(k:Int)<L.length:=(by omega);obtain⟨gL,rfl,cc,a7⟩:=(cG.Wj HL.out G.out) k L[k] (RQ bo);have l0:wr.cell? ⟨gL,k*4,none⟩=some (int u8 L[k].c):=a7 0 _ rfl;have l1:=a7 1 _ rfl;have l2:=a7 2 _ rfl;have l3:=a7 3 _ rfl;have b0:Hid (∀w',aa [] F w'->gL<w'.heap.size/\w'.cell? ⟨gL,k*4+1,none⟩=some (string L[k].file)/\w'.cell? ⟨gL,k*4+2,none⟩=some (int i64 L[k].line)/\w'.cell? ⟨gL,k*4+3,none⟩=some (int i64 L[k].col)):=fun w' kw=>by
    obtain⟨g2,e2,h2,c2⟩:=(cG.Wj HL.out kw) k L[k] (RQ bo);cases e2
    exact⟨h2,c2 1 _ rfl,c2 2 _ rfl,c2 3 _ rfl⟩
   have a0:=cs.out L[k] (Sj bo);have bz:Hid _:=IS L k bo;rw[bz.out,mv]at u;clear a7 bz;generalize L[k]=co at *;obtain⟨c,o,s,j⟩:=co;simp only at l0 l1 l2 l3 a0 u b0;have dk:=fun wx=>NY c a0 wx;obtain⟨df,dg⟩:=a0;have cH:(vR c).size=1:=rfl
   -- a fault at this letter
   have c4:Hid (∀(w2:World) (e:Ending),aa [] F w2->e=returned (agg #[slice none 0 0,int i64 4,string o,int i64 s,int i64 j])->jW w b f B L=nP 4 ⟨c,o,s,j⟩->oM F (jW w b f B L) e w2):=fun w2 e k2 he hx=>by rw[hx];exact ie rfl he k2
   by_cases a1:85<=c/\c<=89
   ·rw[RY a1]at u;obtain⟨a1,a2⟩:=a1;have cp:Hid _:=(aa.refl [] wr).alloc (.cells #[int u8 c] 5);have cy:Hid _:=E.out.Wj cp.out;have cA:Hid ((t++vR c).size=t.size+1):=(by show _=_;rw[ByteArray.size_append,cH]);go_wp2;go_roundg (L.length-(k+1))
    case measure=>omega
    case rel=>exact⟨k+1,h,P,ht,d,t++vR c,false,by omega,rfl,rfl,rfl,rfl,by go_num,⟨by omega,by omega,by rw[cA.out];omega⟩,(fun h=>by cases h),u,cy⟩
   ·rw[RU a1]at u;by_cases b1:65<=c/\c<=84
    ·rw[RY b1]at u;obtain⟨b1,b2⟩:=b1;have a2:¬85<=c:=(by omega);have bs:Hid (∀wx,Calls prog 214 #[string (t++vR c),int i64 ((f.length:Int)+(d.length:Int))] wx fun e w'=>e=returned (int i64 (fV (t++vR c) (f.length+d.length):Nat))/\aa [] wx w'):=fun wx=>by
      have:=E7 (t++vR c) (f.length+d.length) wx (by omega);rw[Int.natCast_add]at this;exact this
     have cf:=zs (t++vR c) (f.length+d.length);obtain⟨H,cz⟩:∃H,Hid (fV (t++vR c) (f.length+d.length)=H):=⟨_,rfl⟩
     rw[cz.out]at bs u cf;have dT:t.size+1<=9223372036854775807:=by omega
     (go_upto_region 15 with (go_at_call 214;refine(bs.out _).mono ?_;rintro e w1 ⟨rfl,k1⟩));have bT:Hid _:=((aa.refl [] wr).alloc _).trans k1;have a6:Hid _:=E.out.Wj bT.out;have R:Hid _:=G.out.trans bT.out;clear k1 U V W af ag ai al an X Y Z ac ad ar ax az aS aT ap a3 l0 l1 l2 l3 cc bs;obtain⟨⟨U,V,W⟩,⟨af,ag,ai,al,an⟩,⟨X,Y,Z,ac,ad⟩,⟨ar,ax,az,aS,aT⟩,ap,a3⟩:=a6.out.cells;obtain⟨cc,l1,l2,l3⟩:=b0.out w1 R.out;by_cases n0:H=0
     ·rw[RY n0]at u;subst n0;have S:Hid (jW w b f B L=nP 5 ⟨c,o,s,j⟩):=u.out.symm;go_wp2;obtain⟨J,K,M,O,Q⟩:=fD a6.out.r (slice none 0 0) (int i64 5) (string o) (int i64 s) (int i64 j);exact Sa (v:=agg #[slice none 0 0,int i64 5,string o,int i64 s,int i64 j]) (by simp[results,results177,go_sem,J,K,M,O,Q]) rfl (by rw[S.out];exact ie rfl rfl (((((R.out.setCell (RZ (by simp)) _).setCell (RZ (by simp)) _).setCell (RZ (by simp)) _).setCell (RZ (by simp)) _).setCell (RZ (by simp)) _))
     ·rw[RU n0]at u;have d4:((H:Int)==0)=false:=(by simpa using n0);by_cases n1:H<=f.length
      ·have c1:(H:Int)<=f.length:=(by omega);obtain⟨q,rfl⟩:∃q,H=q+1:=⟨H-1,by omega⟩
       have bw:q<f.length:=(by omega);have dv:(q:Int)<f.length:=(by omega);have a5:Hid (pi w b f d (q+1) ⟨c,o,s,j⟩=⟨(f[q]:Nat),0,gu w b (f[q]:Nat),o,s,j⟩):=by
        show _=_;unfold pi;rw[RY n1,Tq,RT,RQ bw];rfl
       have c0:=cx.out f[q] (Sj bw);obtain⟨gR,rfl,dl,cq⟩:=(rI.Wj HR.out R.out) q f[q] (RQ bw);rw[a5.out]at u;have b3:Hid (∀wx,aa [] F wx->Calls prog 130 #[pointer (some ⟨n,0,none⟩),int i64 (f[q]:Nat)] wx fun e w'=>e=returned (int i64 (gu w b (f[q]:Nat):Nat))/\aa [] wx w'):=fun wx kx=>zr n l f[q] w N i b D x wx (fZ.Wj HD.out kx) ct.out c0;clear a5;generalize f[q]=rf at *;generalize gu w b (rf:Nat)=nd at *;obtain⟨W2,bj⟩:∃W2,Hid (w1.alloc (.cells #[int i64 (rf:Int),int i64 0,int i64 0,string o,int i64 s,int i64 j] 162)=W2):=⟨_,rfl⟩
       have bx:=fN bj.out;have B2:=fY bj.out;have br:Hid _:=b3.out W2 (R.out.trans bx);obtain⟨s0,-⟩:=IM B2;have z2:=ae B2;(go_upto_region 20 with fail);rw[bj.out];(go_upto_region 22 with (go_at_call 130;refine R0 br.out ?_;rintro e w2 ⟨rfl,k2⟩;have B3:=k2.get B2 (by simp);have f3:=am B3 2;have c3:w2.cell? ⟨w1.heap.size,2,none⟩=some (int i64 0):=(by rw[aj B3];rfl);have z3:=ae B3));obtain⟨W3,z⟩:∃W3,Hid (w2.setCell ⟨w1.heap.size,2,none⟩ (int i64 (nd:Int))=W3):=⟨_,rfl⟩
       have bg:aa [] w1 W3:=(by rw[<-z.out];exact(bx.trans k2).setCell (RZ (by simp)) _);have B4:W3.heap[w1.heap.size]?=some (.cells #[int i64 (rf:Int),int i64 0,int i64 (nd:Int),string o,int i64 s,int i64 j] 162):=(by rw[<-z.out,ah B3];rfl);have C:Hid _:=a6.out.Wj bg;rw[z.out];clear U V W af ag ai al an X Y Z ac ad ar ax az aS aT ap a3;clear B2 B3 bx k2 bg s0 z2 f3 c3 z3 z bj br b3 cq;obtain⟨⟨U,V,W⟩,⟨af,ag,ai,al,an⟩,⟨X,Y,Z,ac,ad⟩,⟨ar,ax,az,aS,aT⟩,ap,a3⟩:=C.out.cells;obtain⟨t0,t1,t2,t3,t4,t5⟩:=IM B4;have t6:=ae B4;have I:=C.out.op;have ba:(eW P).n<=900000000:=(by show P.length<=_;omega);go_wp2_with (at_builtin;refine ci _ rfl (.tmp 103) (.tmp 105) 120 rfl iP (agg #[int i64 0,int i64 0,int i64 0,string ⟨#[]⟩,int i64 0,int i64 0]) 56 h (eW P) [int i64 (rf:Int),int i64 0,int i64 (nd:Int),string o,int i64 s,int i64 j] underlying120 bv bd be bf rfl (show 0<6 by omega) rfl I ba (by omega) rfl rfl (t8 (⟨(rf:Int),0,nd,o,s,j⟩:cW)) ?_;intro h5 w5 y A;rw[show([int i64 (rf:Int),int i64 0,int i64 (nd:Int),string o,int i64 s,int i64 j]:List Value)=lq (⟨(rf:Int),0,nd,o,s,j⟩:cW) from rfl,nu]at y;have HA:Hid _:=(C.out.addP (m:=(eW P).n+1) A y (by simp[eW,kT]));have T:=A.kept.get C.out.p (fun hq=>by have:=C.out.fp _ (aQ hq);omega);have f5:=am T 0;have c5:w5.cell? ⟨F.heap.size+2,0,none⟩=some (slice h.ao P.length h.cap):=(by rw[aj T];rfl);have z5:=ae T;clear y A T);go_roundg (L.length-(k+1))
       case measure=>omega
       case rel=>exact⟨k+1,h5,P++[⟨(rf:Int),0,nd,o,s,j⟩],ht,d,⟨#[]⟩,true,by omega,rfl,rfl,rfl,rfl,by go_num,⟨by simp;omega,by omega,SE _⟩,(fun _=>by simp),u,HA⟩
      ·have c1:¬(H:Int)<=f.length:=(by omega);obtain⟨q,Hq⟩:∃q,Hid (H-f.length-1=q):=⟨_,rfl⟩
       have ch:q<d.length:=(by have:=Hq.out;omega);have i1:IntKind.i64.wrap ((H:Int)-(f.length:Int))=(H:Int)-(f.length:Int):=(by rw[TE];omega);have i2:IntKind.i64.wrap ((H:Int)-(f.length:Int)-1)=(H:Int)-(f.length:Int)-1:=(by rw[TE];omega);have i3:((H:Int)-(f.length:Int)-1).toNat=q:=(by have:=Hq.out;omega);have i4:(0:Int)<=(H:Int)-(f.length:Int)-1:=(by omega);have i5:(H:Int)-(f.length:Int)-1<d.length:=(by omega);have a5:Hid (pi w b f d H ⟨c,o,s,j⟩=⟨-2,d[q],0,o,s,j⟩):=by
        show _=_;unfold pi;rw[RU n1,Hq.out,RT,RQ ch];rfl
       obtain⟨gt,ca,dp,cq⟩:=a6.out.ot.srcN q d[q] (RQ ch);rw[a5.out]at u;clear a5;generalize d[q]=tg at *;obtain⟨W3,z⟩:∃W3,Hid (w1.alloc (.cells #[int i64 (-2),int i64 (tg:Int),int i64 0,string o,int i64 s,int i64 j] 162)=W3):=⟨_,rfl⟩
       have bg:=fN z.out;have B4:=fY z.out;have C:Hid _:=a6.out.Wj bg;rw[ca];(go_upto_region 22 with fail);rw[z.out];clear U V W af ag ai al an X Y Z ac ad ar ax az aS aT ap a3;clear bg z cq i1 i2 i3 i4 i5;obtain⟨⟨U,V,W⟩,⟨af,ag,ai,al,an⟩,⟨X,Y,Z,ac,ad⟩,⟨ar,ax,az,aS,aT⟩,ap,a3⟩:=C.out.cells;obtain⟨t0,t1,t2,t3,t4,t5⟩:=IM B4;have t6:=ae B4;have I:=C.out.op;have ba:(eW P).n<=900000000:=by show P.length<=_;omega
       go_wp2_with (at_builtin;refine ci _ rfl (.tmp 103) (.tmp 105) 120 rfl iP (agg #[int i64 0,int i64 0,int i64 0,string ⟨#[]⟩,int i64 0,int i64 0]) 56 h (eW P) [int i64 (-2),int i64 (tg:Int),int i64 0,string o,int i64 s,int i64 j] underlying120 bv bd be bf rfl (show 0<6 by omega) rfl I ba (by omega) rfl rfl (t8 (⟨-2,tg,0,o,s,j⟩:cW)) ?_;intro h5 w5 y A;rw[show([int i64 (-2),int i64 (tg:Int),int i64 0,string o,int i64 s,int i64 j]:List Value)=lq (⟨-2,tg,0,o,s,j⟩:cW) from rfl,nu]at y;have HA:Hid _:=(C.out.addP (m:=(eW P).n+1) A y (by simp[eW,kT]));have T:=A.kept.get C.out.p (fun hq=>by have:=C.out.fp _ (aQ hq);omega);have f5:=am T 0;have c5:w5.cell? ⟨F.heap.size+2,0,none⟩=some (slice h.ao P.length h.cap):=(by rw[aj T];rfl);have z5:=ae T;clear y A T);go_roundg (L.length-(k+1))
       case measure=>omega
       case rel=>exact⟨k+1,h5,P++[⟨-2,tg,0,o,s,j⟩],ht,d,⟨#[]⟩,true,by omega,rfl,by rw[ca],rfl,rfl,by go_num,⟨by simp;omega,by omega,SE _⟩,(fun _=>by simp),u,HA⟩
    ·rw[RU b1]at u;by_cases d1:c=90
     ·subst d1;cases cb
      ·rw[RU (by simp),RU (by omega)]at u;have S:Hid (jW w b f B L=nP 4 ⟨90,o,s,j⟩):=u.out.symm;go_wp2;obtain⟨J,K,M,O,Q⟩:=fD E.out.r (slice none 0 0) (int i64 4) (string o) (int i64 s) (int i64 j);exact Sa (v:=agg #[slice none 0 0,int i64 4,string o,int i64 s,int i64 j]) (by simp[results,results177,go_sem,J,K,M,O,Q]) rfl (by rw[S.out];exact ie rfl rfl (((((G.out.setCell (RZ (by simp)) _).setCell (RZ (by simp)) _).setCell (RZ (by simp)) _).setCell (RZ (by simp)) _).setCell (RZ (by simp)) _))
      ·rw[RY ⟨rfl,rfl⟩]at u;have c9:=HF.out rfl;have cV:((P.length-1:Nat):Int)=(P.length:Int)-1:=(by omega);have d2:IntKind.i64.wrap ((P.length:Int)-1)=(P.length:Int)-1:=(by rw[TE];omega);have cE:=E.out.ot;have cF:(bL d).n<=900000000:=(by show d.length<=_;omega);go_wp2_with (at_builtin;refine ci _ rfl (.tmp 114) (.tmp 119) 24 rfl iN (int i64 0) 8 ht (bL d) [int i64 ((P.length:Int)-1)] underlying24 cP cj ck cl rfl So rfl cE cF (by omega) rfl rfl (by simp[Value.oneCell']) ?_;intro h5 w5 y A;rw[<-cV,tT]at y;have HA:Hid _:=E.out.addT A y;clear y A);go_roundg (L.length-(k+1))
       case measure=>omega
       case rel=>exact⟨k+1,h,P,h5,d++[P.length-1],t,false,by omega,rfl,by simp[bL],rfl,rfl,by go_num,⟨by omega,by simp;omega,by omega⟩,(fun h=>by cases h),u,HA⟩
     ·have c6:(c==90)=false:=(by simpa using d1);rw[RU (fun h=>d1 h.1)]at u;by_cases e1:c=63
      ·subst e1;cases bc:(t.toList == [])
       ·rw[RU (by rw[bc];simp)]at u;have S:Hid (jW w b f B L=nP 4 ⟨63,o,s,j⟩):=u.out.symm;go_wp2;obtain⟨J,K,M,O,Q⟩:=fD E.out.r (slice none 0 0) (int i64 4) (string o) (int i64 s) (int i64 j);exact Sa (v:=agg #[slice none 0 0,int i64 4,string o,int i64 s,int i64 j]) (by simp[results,results177,go_sem,J,K,M,O,Q]) rfl (by rw[S.out];exact ie rfl rfl (((((G.out.setCell (RZ (by simp)) _).setCell (RZ (by simp)) _).setCell (RZ (by simp)) _).setCell (RZ (by simp)) _).setCell (RZ (by simp)) _))
       ·rw[RY ⟨rfl,bc⟩]at u;have I:=E.out.op;have ba:Hid ((eW P).n<=900000000):=(by show P.length<=_;omega);have cu:Hid ((eW P).n=P.length):=rfl;(go_upto_region 29 with fail);go_region_law (refine bR wr rfl (.tmp 129) (.tmp 136) 120 rfl iP (agg #[int i64 0,int i64 0,int i64 0,string ⟨#[]⟩,int i64 0,int i64 0]) 56 h (eW P) [int i64 (-1),int i64 0,int i64 0,string o,int i64 s,int i64 j] underlying120 bv bd be bf rfl (show 0<6 by omega) (by rw[cu.out];simp[Act.eval]) I ba.out (by omega) (by simp[Act.eval]) rfl (t8 (⟨-1,0,0,o,s,j⟩:cW)) ?_;intro cB b6 w5 y A;have T:=A.kept.get E.out.p (fun hq=>by have:=E.out.fp _ (aQ hq);omega);have f5:=am T 0;have c5:w5.cell? ⟨F.heap.size+2,0,none⟩=some (slice h.ao P.length h.cap):=(by rw[aj T];rfl);have z5:=ae T)
        all_goals
         rw[show([int i64 (-1),int i64 0,int i64 0,string o,int i64 s,int i64 j]:List Value)=lq (⟨-1,0,0,o,s,j⟩:cW) from rfl,nu]at y;have HA:Hid _:=(E.out.addP (m:=(eW P).n+1) A y (by simp[eW,kT]));clear y A T f5 c5 z5;go_wp2;go_roundg (L.length-(k+1))
         case measure=>omega
         case rel=>exact⟨k+1,⟨cB,b6⟩,P++[⟨-1,0,0,o,s,j⟩],ht,d,t,false,by omega,rfl,rfl,rfl,rfl,by go_num,⟨by simp;omega,by omega,by omega⟩,(fun h=>by cases h),u,HA⟩
      ·have c7:(c==63)=false:=(by simpa using e1);rw[RU (fun h=>e1 h.1)]at u;have S:Hid (jW w b f B L=nP 4 ⟨c,o,s,j⟩):=u.out.symm;by_cases f1:85<=c
       ·have f2:¬c<=89:=fun h=>a1 ⟨f1,h⟩;have f3:65<=c:=(by omega);have f4:¬c<=84:=(by omega);go_wp2;obtain⟨J,K,M,O,Q⟩:=fD E.out.r (slice none 0 0) (int i64 4) (string o) (int i64 s) (int i64 j);exact Sa (v:=agg #[slice none 0 0,int i64 4,string o,int i64 s,int i64 j]) (by simp[results,results177,go_sem,J,K,M,O,Q]) rfl (by rw[S.out];exact ie rfl rfl (((((G.out.setCell (RZ (by simp)) _).setCell (RZ (by simp)) _).setCell (RZ (by simp)) _).setCell (RZ (by simp)) _).setCell (RZ (by simp)) _))
       ·by_cases f3:65<=c
        ·exact absurd ⟨f3,by omega⟩ b1
        ·skip
         go_wp2;obtain⟨J,K,M,O,Q⟩:=fD E.out.r (slice none 0 0) (int i64 4) (string o) (int i64 s) (int i64 j);exact Sa (v:=agg #[slice none 0 0,int i64 4,string o,int i64 s,int i64 j]) (by simp[results,results177,go_sem,J,K,M,O,Q]) rfl (by rw[S.out];exact ie rfl rfl (((((G.out.setCell (RZ (by simp)) _).setCell (RZ (by simp)) _).setCell (RZ (by simp)) _).setCell (RZ (by simp)) _).setCell (RZ (by simp)) _))
  ·have e:k=L.length:=(by omega);subst e;rw[Vn,mv]at u;cases bc:(t.toList == [])
   ·rw[RY bc]at u;have S:Hid (jW w b f B L=nP 4 B):=u.out.symm;obtain⟨ec,ef,el,eo⟩:=B;go_wp2;obtain⟨J,K,M,O,Q⟩:=fD E.out.r (slice none 0 0) (int i64 4) (string ef) (int i64 el) (int i64 eo);exact Sa (v:=agg #[slice none 0 0,int i64 4,string ef,int i64 el,int i64 eo]) (by simp[results,results177,go_sem,J,K,M,O,Q]) rfl (by rw[S.out];exact ie rfl rfl (((((G.out.setCell (RZ (by simp)) _).setCell (RZ (by simp)) _).setCell (RZ (by simp)) _).setCell (RZ (by simp)) _).setCell (RZ (by simp)) _))
   ·rw[RU (by rw[bc];simp)]at u;by_cases bp:P.length=0
    ·rw[RY bp]at u;have S:Hid (jW w b f B L=nP 1 B):=u.out.symm;have cX:((P.length:Int)==0)=true:=(by simpa using bp);obtain⟨ec,ef,el,eo⟩:=B;go_wp2;obtain⟨J,K,M,O,Q⟩:=fD E.out.r (slice none 0 0) (int i64 1) (string ef) (int i64 el) (int i64 eo);exact Sa (v:=agg #[slice none 0 0,int i64 1,string ef,int i64 el,int i64 eo]) (by simp[results,results177,go_sem,J,K,M,O,Q]) rfl (by rw[S.out];exact ie rfl rfl (((((G.out.setCell (RZ (by simp)) _).setCell (RZ (by simp)) _).setCell (RZ (by simp)) _).setCell (RZ (by simp)) _).setCell (RZ (by simp)) _))
    ·rw[RU bp]at u;have S:Hid (jW w b f B L=⟨P,0,⟨#[]⟩,0,0⟩):=u.out.symm;have cX:((P.length:Int)==0)=false:=(by simpa using bp);have a4:Hid (∀q,h.blk=some q->q≠F.heap.size+1):=fun q hq=>by have:=E.out.fp q hq;omega
     go_wp2;obtain⟨J,K,M,O,Q⟩:=fD E.out.r (slice h.ao P.length h.cap) (int i64 0) (string ⟨#[]⟩) (int i64 0) (int i64 0);exact Sa (v:=agg #[slice h.ao P.length h.cap,int i64 0,string ⟨#[]⟩,int i64 0,int i64 0]) (by simp[results,results177,go_sem,J,K,M,O,Q]) rfl (by rw[S.out];exact⟨h,rfl,⟨((((E.out.op.Ws a4.out _ _).Ws a4.out _ _).Ws a4.out _ _).Ws a4.out _ _).Ws a4.out _ _,fun q hq=>(by have:=E.out.fp q hq;omega),((((G.out.setCell (RZ (by simp)) _).setCell (RZ (by simp)) _).setCell (RZ (by simp)) _).setCell (RZ (by simp)) _).setCell (RZ (by simp)) _⟩⟩)
def DR(t:Tk):Lt:=⟨0,t.file,t.line,t.col⟩
def rk(T:List Tk)(S:List Sm)(a z:Nat):Nat->Nat->List Nat->jM
 | 0,_,_=>nP 3 (DR (T.getD z gB))
 | n+1,i,refs =>
  if((tS T i).toList == [41])=true then jW T S refs (DR (T.getD z gB)) (ew T (i+1) z)
  else if dM T S a (tS T i)<0 then nP 2 (DR (T.getD i gB))
  else if refs.contains (dM T S a (tS T i)).toNat=true then nP 3 (DR (T.getD i gB))
  else rk T S a z n (i+1) (refs++[(dM T S a (tS T i)).toNat])
def jF(T:List Tk)(S:List Sm)(a i z:Nat):jM:=rk T S a z (z-i) i (aZ T S a)
theorem rI.cells{f:Option Addr}(h:rI T f I):∀b,f=some b->∀j u,(km I)[j]?=some u->T.cell? (b.add j)=some u:=by
 intro b e j u a;rw[km,Sy]at a;cases d:I[j]? with
 | none=>rw[d]at a;cases a
 | some x =>
  rw[d]at a;cases a
  obtain⟨g,i,-,c⟩:=h j x d;rw[e]at i;cases i
  rw[bS];simpa using c
theorem MA:∀u∈km f,u.oneCell'=true:=by
 intro u a;obtain⟨x,-,rfl⟩:=Tw.1 a;rfl
theorem M3(M:List Nat):(⟨(bL f).e,(bL f).size,(bL f).n+M.length,(bL f).xs++km M⟩:eB)=bL (f++M):=by
 simp[bL,km]
theorem jd.none(a:jd T o k M):k.ao=none->M.n=0/\k.cap=0:=fun e=>by
 rcases a.own.Wu with ⟨b,d,f⟩ | ⟨g,c,b,-⟩
 ·exact⟨d,by rw[b]⟩
 ·rw[e]at b;cases b
theorem jd.le(a:jd T o k M):M.n<=k.cap:=by
 rcases a.own.Wu with ⟨d,e,b⟩ | ⟨g,c,d,-,b,-⟩
 ·omega
 ·exact b
theorem pW:∀j∈aZ w b x,j<x:=fun _ a=>Sd.1 (SD.1 a).1
theorem mY:(aZ w b x).length<=x:=by
 unfold aZ;have:=TQ (tB w b x (ub w b x)) (List.range x);rw[Ul]at this;exact this
theorem xM(e:fc w)(a z:Nat):(ew w a z).length<=1024*w.length:=by
 have:∀L:List Tk,(∀t∈L,t.s.size<=1024)->(L.flatMap sx).length<=1024*L.length:=by
  intro L
  induction L with
  | nil=>intro _;simp
  | cons t L f =>
   intro h;have c:=h t (by simp);have d:=f (fun t b=>h t (by simp[b]));rw[SZ,R9,SA];have:(sx t).length=t.s.size:=by unfold sx;simp
   omega
 have c:=this ((w.drop a).take (z-a)) (fun t b=>(e t (U3 (Ud b))).1);have d:((w.drop a).take (z-a)).length<=w.length:=by rw[To,Tc];omega
 unfold ew;omega
theorem II(d:ByteArray)(k:Nat):0<=aH d k/\aH d k<256:=by
 unfold aH;split
 ·next h=>have:=(d[k]'h).toNat_lt;omega
 ·omega
theorem Ng:∀l∈ew w i x,0<=l.c/\l.c<256:=by
 intro l a;unfold ew at a;obtain⟨t,-,b⟩:=Ua.1 a;unfold sx at b;obtain⟨k,-,rfl⟩:=Tw.1 b;exact II _ _
theorem qL(h:T.heap[y]?=some (.cells #[slice none 0 0,int i64 0,string ⟨#[]⟩,int i64 0,int i64 0] 122)) :
  (T.cell? ⟨y,0,none⟩=some (slice none 0 0)/\T.cell? ⟨y,1,none⟩=some (int i64 0)/\T.cell? ⟨y,2,none⟩=some (string ⟨#[]⟩)/\T.cell? ⟨y,3,none⟩=some (int i64 0)/\T.cell? ⟨y,4,none⟩=some (int i64 0)) /\
  (T.frozen? ⟨y,0,none⟩=false/\T.frozen? ⟨y,1,none⟩=false/\T.frozen? ⟨y,2,none⟩=false/\T.frozen? ⟨y,3,none⟩=false/\T.frozen? ⟨y,4,none⟩=false)/\y<T.heap.size:=by
 refine⟨⟨?_,?_,?_,?_,?_⟩,⟨am h 0,am h 1,am h 2,am h 3,am h 4⟩,ae h⟩
 all_goals (rw[aj h];rfl)
theorem BY{m:Nat}(c:m=I.length)(h:∀q (a:q<I.length),q<m->I[q]≠y):I.contains y=false:=by
 cases e:I.contains y
 ·rfl
 ·rw[UA]at e;obtain⟨q,a,b⟩:=Tg e;exact absurd b (h q a (by omega))
theorem Fb(hD:fZ S d w N i b D x)(ok:oP w b H)(hn:H<b.length)(hE:dG w (aq b H).h)(hO:fc w)(hi:n<=l)(hz:l<w.length) :
  Calls prog 128 #[pointer (some ⟨d,0,none⟩),int i64 H,int i64 n,int i64 l] S fun e w'=>oM S (jF w b H n l) e w':=by
 obtain⟨W,HW⟩:∃W,Hid (S.alloc (.cells #[slice none 0 0,int i64 0,string ⟨#[]⟩,int i64 0,int i64 0] 122)=W):=⟨_,rfl⟩
 have BW:=fY HW.out;have M:Hid _:=fN HW.out;have ck:W.heap.size=S.heap.size+1:=by rw[<-HW.out];simp
 have K:Hid _:=hD.Wj M.out;have a2:Hid _:=ok;have a6:Hid _:=hO;have b3:=ok.tm;have cj:=ok.sm;have aS:Hid _:=qH d H w N i b D x W K.out ok hn hE;have cA:=mY w b H;have bT:Hid _:=pW w b H;have bw:Hid (rk w b H l (l-n) n (aZ w b H)=jF w b H n l):=rfl;obtain⟨iN,bj,X,Y,Z⟩:=Sr Ay;have bp:Hid _:=BW
 -- a fault
 have L:Hid (∀(wr:World),aa [] W wr->(wr.heap[S.heap.size]?=some (.cells #[slice none 0 0,int i64 0,string ⟨#[]⟩,int i64 0,int i64 0] 122))):=fun wr k=>k.get bp.out (by simp);clear hD ok hO;generalize aZ w b H=HY at *;go_enter func128,ntmps128;go_upto_region 1 with fail
 rw[HW.out];go_upto_region 2 with (go_at_call 63;refine R0 aS.out ?_;rintro e U ⟨h1,rfl,A⟩)
 have cc:Hid _:=A.kept;have O:Hid _:=A.own.srcN.cells;have bk:Hid _:=A.none;have af:Hid (jd W U ⟨none,0⟩ (bL [])):=⟨Sb _ _ _ _,(by intro k hk;cases hk),A.kept⟩;have ba:=af.out.own;clear A aS;go_upto_region 3 with (at_builtin;refine eN _ rfl (.const (slice none 0 0)) (.tmp 18) 24 rfl iN (int i64 0) 8 ⟨none,0⟩ (bL []) underlying24 bj X Y Z rfl So rfl ba h1.ao HY.length h1.cap (km HY) rfl (by simp[bL,km]) bk.out O.out (MA HY) (by simp only[bL,List.length_nil];omega) (by omega) ?_;intro h5 w5 ar bf;rw[M3]at ar;have aT:Hid _:=af.out.Wt bf ar;clear ar bf)
 rw[UP]at aT;have bo:(bL ([]:List Nat)).n+HY.length=HY.length:=by simp[bL]
 rw[bo];clear bo O bk af ba;go_wp2
 go_loopg [10,11] (l-n) (fun g r iv wr=>∃(m:Nat) (B:Hd) (R:List Nat),(n<=m/\m<=l)/\g=l-m/\r=slice B.ao R.length B.cap/\iv=int i64 m/\R.length<=10000+m/\Hid (∀q∈R,q<H)/\Hid (rk w b H l (l-m) m R=jF w b H n l)/\Hid (jd W wr B (bL R)))
 case atStart=>exact⟨n,h5,HY,⟨by omega,by omega⟩,rfl,rfl,rfl,by omega,bT,bw,aT⟩
 case round =>
  obtain⟨m,B,R,⟨cu,cx⟩,hg,rfl,rfl,ch,a3,c,al⟩:=hrel;have ad:Hid _:=al.out.kept;have C:Hid _:=fZ.Wj K.out ad.out;obtain⟨c0,-,hb⟩:=C.out.cells;have BR:=L.out wr ad.out;have bs:Hid _:=M.out.trans ad.out;obtain⟨⟨r0,r1,r2,r3,r4⟩,⟨f0,f1,f2,f3,f4⟩,Q⟩:=qL BR;obtain⟨gT,rfl,P,t0,-,t2,t3,t4⟩:=C.out.t.2 l _ (iK w l hz);have cB:(l:Int)<w.length:=by omega
  by_cases ct:m<l
  ·have cy:(m:Int)<(l:Int):=(by omega);have cb:(m:Int)<w.length:=(by omega);obtain⟨cf,e2,-,u0,-,u2,u3,u4⟩:=C.out.t.2 m _ (iK w m (by omega));cases e2
   replace u0:wr.cell? ⟨gT,m*5,none⟩=some (string (tS w m)):=u0;obtain⟨f,hf⟩:∃f,l-m=f+1:=⟨l-m-1,by omega⟩
   rw[hf,rk]at c;have a7:Hid (Calls prog 129 #[pointer (some ⟨d,0,none⟩),int i64 H,string (tS w m)] wr fun e w'=>e=returned (int i64 (dM w b H (tS w m)))/\aa [] wr w'):=xX d H (tS w m) w _ i b D x wr C.out a2.out;have z:=qz w b H (tS w m);obtain⟨b6,Hx⟩:∃b6,Hid (tS w m=b6):=⟨_,rfl⟩
   rw[Hx.out]at u0 c a7 z;clear Hx;cases h1:(b6.toList == [41])
   ·rw[RU (by rw[h1];simp)]at c;(go_upto_region 6 with (go_at_call 129;refine R0 a7.out ?_;rintro e U ⟨rfl,k1⟩));have s:Hid _:=al.out.Wj k1;have o:Hid _:=s.out.kept;have y:Hid _:=M.out.trans o.out;have u:Hid _:=fZ.Wj K.out o.out;have ac:=L.out U o.out;clear r0 r1 r2 r3 r4 f0 f1 f2 f3 f4 Q;clear k1 c0 hb t0 t2 t3 t4 u0 u2 u3 u4 P;obtain⟨⟨r0,r1,r2,r3,r4⟩,⟨f0,f1,f2,f3,f4⟩,Q⟩:=qL ac;obtain⟨c0,-,hb⟩:=u.out.cells;obtain⟨b0,e3,P,-,-,u2,u3,u4⟩:=u.out.t.2 m _ (iK w m (by omega));cases e3
    rcases z with z | ⟨j,hj,z⟩
    ·rw[z,RY (by omega)]at c;rw[z];have V:Hid (jF w b H n l=nP 2 (DR (w.getD m gB))):=c.out.symm;generalize w.getD m gB=tm at *;obtain⟨ms,mr,G,I,F⟩:=tm;simp only at u2 u3 u4;go_wp2;obtain⟨x0,A,J,x3,x4⟩:=fD ac (slice none 0 0) (int i64 2) (string G) (int i64 I) (int i64 F);exact Sa (v:=agg #[slice none 0 0,int i64 2,string G,int i64 I,int i64 F]) (by simp[results,results128,go_sem,x0,A,J,x3,x4]) rfl (by rw[V.out];exact ie rfl rfl (((((y.out.setCell (RZ (by simp)) _).setCell (RZ (by simp)) _).setCell (RZ (by simp)) _).setCell (RZ (by simp)) _).setCell (RZ (by simp)) _))
    ·rw[z,RU (by omega),SO]at c;rw[z];have cs:¬(j:Int)<0:=by omega
     have bz:Hid _:=s.out.own.srcN;have bc:=s.out.le;have ca:R.length<=B.cap:=bc;clear bc;obtain⟨bd,be⟩:=B;go_wp2
     go_loopg [13] R.length (fun g kv wr=>∃q:Nat,q<=R.length/\g=R.length-q/\kv=int i64 q/\Hid (∀p (hp:p<R.length),p<q->R[p]≠j)/\wr=U)
     case atStart=>exact⟨0,by omega,rfl,rfl,(fun p _ h=>by omega),rfl⟩
     case round =>
      obtain⟨q,hq,cl,rfl,a1,rfl⟩:=hrel;by_cases bl:q<R.length
      ·have b5:(q:Int)<R.length:=(by omega);obtain⟨gR,an,co,cq⟩:=bz.out q R[q] (RQ bl);have a0:Hid (R[q]=j->R.contains j=true):=fun e=>by rw[UA,<-e];exact Sj bl
       have bv:Hid (R[q]≠j->∀p (hp:p<R.length),p<q+1->R[p]≠j):=fun e p hp h2=>by
        by_cases e2:p=q
        ·subst e2;exact e
        ·exact a1.out p hp (by omega)
       generalize R[q]=rq at *;replace an:bd=some ⟨gR,0,none⟩:=an;subst an;by_cases ap:rq=j
       ·subst ap;rw[RY (a0.out rfl)]at c;have V:Hid (jF w b H n l=nP 3 (DR (w.getD m gB))):=c.out.symm;generalize w.getD m gB=tm at *;obtain⟨ms,mr,G,I,F⟩:=tm;simp only at u2 u3 u4;go_wp2;obtain⟨x0,A,J,x3,x4⟩:=fD ac (slice none 0 0) (int i64 3) (string G) (int i64 I) (int i64 F);exact Sa (v:=agg #[slice none 0 0,int i64 3,string G,int i64 I,int i64 F]) (by simp[results,results128,go_sem,x0,A,J,x3,x4]) rfl (by rw[V.out];exact ie rfl rfl (((((y.out.setCell (RZ (by simp)) _).setCell (RZ (by simp)) _).setCell (RZ (by simp)) _).setCell (RZ (by simp)) _).setCell (RZ (by simp)) _))
       ·have cp:((rq:Int)==(j:Int))=false:=(by simpa using (fun e=>ap (by omega)));have HM:Hid _:=bv.out ap;go_wp2;go_roundg (R.length-(q+1))
        case measure=>omega
        case rel=>exact⟨q+1,by omega,rfl,by go_num,HM,rfl⟩
      ·have eq:q=R.length:=(by omega);rw[RU (by rw[BY eq a1.out];simp)]at c;have b5:¬(q:Int)<R.length:=by omega
       have b1:=s.out.own;have b2:(bL R).n<=900000000:=(by show R.length<=_;omega);have a4:Hid (∀q∈R++[j],q<H):=fun q hq=>by
        rcases SB.1 hq with h | h
        ·exact a3.out q h
        ·rw[Se.1 h];exact hj
       have b4:l-(m+1)=f:=(by omega);go_wp2_with (at_builtin;refine ci _ rfl (.tmp 78) (.tmp 80) 24 rfl iN (int i64 0) 8 ⟨bd,be⟩ (bL R) [int i64 (j:Int)] underlying24 bj X Y Z rfl So rfl b1 b2 (by omega) rfl rfl (by simp[Value.oneCell']) ?_;intro h6 w6 ax bg;rw[tT]at ax;have HA:Hid _:=s.out.Wt bg ax;clear ax bg);go_roundg (l-(m+1))
       case measure=>omega
       case rel=>exact⟨m+1,h6,R++[j],⟨by omega,by omega⟩,rfl,by simp[bL],by go_num,by simp;omega,a4,by rw[b4];exact c,HA⟩
   ·rw[RY h1]at c;have cz:((m:Int)==(l:Int))=false:=(by simpa using (fun e:(m:Int)=(l:Int)=>by omega));have O:((m+1:Nat):Int)=(m:Int)+1:=(by omega);have ag:Hid _:=(FG w (some ⟨gT,0,none⟩) i (m+1) l wr C.out.t b3 (by omega) (by omega) a6.out);rw[O]at ag;(go_upto_region 18 with (go_at_call 176;refine R0 ag.out ?_;rintro e U ⟨h2,rfl,A⟩));have k1:=A.kept;have bx:Hid _:=A.own.srcG Ox;have s:Hid _:=al.out.Wj k1;have o:Hid _:=s.out.kept;have y:Hid _:=M.out.trans o.out;have u:Hid _:=fZ.Wj K.out o.out;have ai:Hid _:=(Kr d H w (some ⟨gT,0,none⟩) i b D x R B.ao B.cap (ew w (m+1) l) h2.ao h2.cap (DR (w.getD l gB)) U u.out a2.out s.out.own.srcN a3.out (by omega) bx.out (by have:=xM w a6.out (m+1) l;omega) (Ng w (m+1) l));have V:Hid (jF w b H n l=jW w b R (DR (w.getD l gB)) (ew w (m+1) l)):=c.out.symm;generalize ew w (m+1) l=SP at *;clear r0 r1 r2 r3 r4 f0 f1 f2 f3 f4 Q;clear c0 hb t0 t2 t3 t4 u0 u2 u3 u4 P A ag;obtain⟨c0,-,hb⟩:=u.out.cells;obtain⟨b0,e3,P,-,-,t2,t3,t4⟩:=u.out.t.2 l _ (iK w l hz);cases e3
    generalize w.getD l gB=tm at *;obtain⟨ms,mr,G,I,F⟩:=tm;simp only at t2 t3 t4;unfold DR at ai V;simp only at ai;generalize jW w b R ⟨0,G,I,F⟩ SP=PF at *;obtain⟨T,pw,pf,pl,pc⟩:=PF;have a5:Hid (Calls prog 177 #[pointer (some ⟨d,0,none⟩),slice B.ao R.length B.cap,slice h2.ao SP.length h2.cap,agg #[string G,int i64 I,int i64 F]] U fun e w'=>∃B,e=returned (agg #[slice B.ao T.length B.cap,int i64 pw,string pf,int i64 pl,int i64 pc])/\jd U w' B (eW T)):=ai.out;go_wp2_with (go_at_call 177;refine R0 a5.out ?_;rintro e w2 ⟨h3,rfl,J⟩;have az:=L.out w2 (o.out.trans J.kept);obtain⟨⟨r0,r1,r2,r3,r4⟩,⟨f0,f1,f2,f3,f4⟩,Q⟩:=qL az);obtain⟨y0,y1,y2,y3,y4⟩:=fD az (slice h3.ao T.length h3.cap) (int i64 pw) (string pf) (int i64 pl) (int i64 pc);have E:Hid (∀q,h3.blk=some q->q≠S.heap.size):=fun q hq=>by have:=J.far q hq;have:=y.out.size;have:=ae (L.out U o.out);omega
    have br:Hid _:=y.out.trans J.kept;exact Sa (v:=agg #[slice h3.ao T.length h3.cap,int i64 pw,string pf,int i64 pl,int i64 pc]) (by simp[results,results128,go_sem,y0,y1,y2,y3,y4]) rfl (by rw[V.out];exact⟨h3,rfl,⟨((((J.own.Ws E.out _ _).Ws E.out _ _).Ws E.out _ _).Ws E.out _ _).Ws E.out _ _,fun q hq=>(by have:=J.far q hq;have:=y.out.size;omega),((((br.out.setCell (RZ (by simp)) _).setCell (RZ (by simp)) _).setCell (RZ (by simp)) _).setCell (RZ (by simp)) _).setCell (RZ (by simp)) _⟩⟩)
  ·have e:m=l:=(by omega);subst e;rw[Td,rk]at c;have V:Hid (jF w b H n m=nP 3 (DR (w.getD m gB))):=c.out.symm;generalize w.getD m gB=tm at *;obtain⟨ms,mr,G,I,F⟩:=tm;simp only at t2 t3 t4;go_wp2;obtain⟨x0,A,J,x3,x4⟩:=fD BR (slice none 0 0) (int i64 3) (string G) (int i64 I) (int i64 F);exact Sa (v:=agg #[slice none 0 0,int i64 3,string G,int i64 I,int i64 F]) (by simp[results,results128,go_sem,x0,A,J,x3,x4]) rfl (by rw[V.out];exact ie rfl rfl (((((bs.out.setCell (RZ (by simp)) _).setCell (RZ (by simp)) _).setCell (RZ (by simp)) _).setCell (RZ (by simp)) _).setCell (RZ (by simp)) _))
def l8(T:List Tk)(S:List Sm)(a zt:Nat):Nat->Nat->List cW->jM
 | 0,_,P=>if P.length=0 then nP 1 (DR (T.getD zt gB)) else⟨P,0,⟨#[]⟩,0,0⟩
 | n+1,i,P =>
  if((tS T i).toList == [63])=true then l8 T S a zt n (i+1) (P++[⟨-1,0,0,(T.getD i gB).file,(T.getD i gB).line,(T.getD i gB).col⟩])
  else if dM T S a (tS T i)<0 then nP 2 (DR (T.getD i gB))
  else l8 T S a zt n (i+1) (P++[⟨dM T S a (tS T i),0,gu T S (dM T S a (tS T i)),(T.getD i gB).file,(T.getD i gB).line,(T.getD i gB).col⟩])
def fF(T:List Tk)(S:List Sm)(a e zt:Nat):jM:=if((tS T (e+1)).toList == [40])=true then jF T S a (e+2) zt else l8 T S a zt (zt-(e+1)) (e+1) []
structure Pk(w wr:World)(P:List cW)(h:Hd):Prop where
 r:wr.heap[w.heap.size]?=some (.cells #[slice none 0 0,int i64 0,string ⟨#[]⟩,int i64 0,int i64 0] 122)
 p:wr.heap[w.heap.size+1]?=some (.cells #[slice h.ao P.length h.cap,int i64 0,string ⟨#[]⟩,int i64 0,int i64 0] 122)
 op:aC wr h (eW P)
 fp:∀k,h.blk=some k->w.heap.size+1<k
 kept:aa [] w wr
theorem Pk.Wj(a:Pk T o s k)(b:aa [] o L):Pk T L s k:=⟨b.get a.r (by simp),b.get a.p (by simp),a.op.Wj b,a.fp,a.kept.trans b⟩
theorem Pk.addP{f:List cW}{b:Hd}(a:Pk T o s k)(g:bI o L k b)(u:aC L b (eW f)){m:Nat}(l:m=f.length):Pk T (L.setCell ⟨T.heap.size+1,0,none⟩ (slice b.ao m b.cap)) f b:=by
 subst l;have t:∀q,q<=T.heap.size+1->q∉k.blk.toList:=fun q c l=>by have:=a.fp q (aQ l);omega
 have y:=ae a.p;have x:=g.kept.get a.r (t _ (by omega));have w:=g.kept.get a.p (t _ (by omega));have d:∀i,b.blk=some i->T.heap.size+1<i:=fun i j=>by
  rcases g.blk with e | ⟨q,e,c⟩
  ·exact a.fp i (by rw[<-e];exact j)
  ·rw[e]at j;cases j;omega
 have n:aa [T.heap.size+1] L (L.setCell ⟨T.heap.size+1,0,none⟩ (slice b.ao f.length b.cap)):=(aa.refl _ _).setCell (R4 (by simp)) _;have v:aa [] T L:=pY g.kept (fun q c=>by have:=a.fp q (aQ c);omega) a.kept;exact⟨n.get x (by simp),by rw[ah w];rfl,u.Wo (fun q c=>n.block q (u.lt c) (by simp;have:=d q c;omega)),d,v.setCell (RZ (by simp)) _⟩
theorem Em(hD:fZ S d w N i b D x)(ok:oP w b H)(hn:H<b.length)(hE:dG w (aq b H).h)(hO:fc w)(bz:(aq b H).h<=n)(cl:((tS w n).toList == [36,61])=true)(a7:∀q,(aq b H).h<=q->q<n->((tS w q).toList == [36,61])=false)(b5:(aq b H).z=l+1)(co:n<l)(b4:l<w.length)(X:((tS w l).toList == [36,46])=true) :
  Calls prog 89 #[pointer (some ⟨d,0,none⟩),int i64 H] S fun en w'=>oM S (fF w b H n l) en w':=by
 obtain⟨W,HW⟩:∃W,Hid (S.alloc (.cells #[slice none 0 0,int i64 0,string ⟨#[]⟩,int i64 0,int i64 0] 122)=W):=⟨_,rfl⟩
 have BW:=fY HW.out;have ar:Hid _:=fN HW.out;have bw:W.heap.size=S.heap.size+1:=by rw[<-HW.out];simp
 have O:Hid _:=hD.Wj ar.out;have ac:Hid _:=hD;have az:Hid _:=ok;have br:Hid _:=hO;have ck:=ok.tm;have cj:=ok.sm;have cA:(H:Int)<b.length:=by omega
 have HB:Hid _:=BW;have a4:Hid _:=a7;have bp:Hid _:=hE;obtain⟨iP,bc,al,an,ap⟩:=Sr Mj;obtain⟨c0,c1,hb⟩:=O.out.cells;obtain⟨gS,rfl,bT,-,q1,q2,-⟩:=O.out.s.2 H b[H] (RQ hn);rw[bQ b H hn]at q1 q2;rw[b5]at q1;obtain⟨gT,rfl,u,-⟩:=O.out.t.2 n _ (iK w n (by omega));obtain⟨hd,a6⟩:∃hd,Hid ((aq b H).h=hd):=⟨_,rfl⟩
 rw[a6.out]at q2 bz a4;clear hD ok hO a7 hE a6;have bx:((l+1:Nat):Int)=(l:Int)+1:=by omega
 rw[bx]at q1;go_enter func89,ntmps89;go_upto_region 1 with fail
 rw[HW.out];go_wp2
 go_loopg [5] (n-hd) (fun g b6 wr=>∃k:Nat,(hd<=k/\k<=n)/\g=n-k/\b6=int i64 k/\wr=W)
 case atStart=>exact⟨hd,⟨by omega,by omega⟩,rfl,rfl,rfl⟩
 case round =>
  obtain⟨k,⟨b0,cs⟩,hg,rfl,rfl⟩:=hrel;have ct:(k:Int)<w.length:=by omega
  obtain⟨cb,e2,-,t0,-⟩:=O.out.t.2 k _ (iK w k (by omega));cases e2
  replace t0:wr.cell? ⟨gT,k*5,none⟩=some (string (tS w k)):=t0;by_cases b1:k<n
  ·have hx:=a4.out k b0 b1;generalize tS w k=bf at *;go_wp2;go_roundg (n-(k+1))
   case measure=>omega
   case rel=>exact⟨k+1,⟨by omega,by omega⟩,rfl,by go_num,rfl⟩
  ·have ek:k=n:=(by omega);subst ek;obtain⟨cc,e3,-,J,-⟩:=O.out.t.2 (k+1) _ (iK w (k+1) (by omega));cases e3
   replace J:wr.cell? ⟨gT,(k+1)*5,none⟩=some (string (tS w (k+1))):=J;have ca:(k:Int)+1<w.length:=(by omega);have a5:Hid (((tS w (k+1)).toList == [40])=true->Calls prog 128 #[pointer (some ⟨d,0,none⟩),int i64 H,int i64 ((k:Int)+1+1),int i64 l] wr fun en w'=>oM wr (jF w b H (k+2) l) en w'):=fun h=>by
    have cz:k+1≠l:=fun n=>by
     rw[<-n]at X;have a1:(tS w (k+1)).toList=[40]:=by simpa using h
     rw[a1]at X;exact absurd X (by decide)
    have:=Fb d H (k+2) l w _ i b _ x wr O.out az.out hn bp.out br.out (by omega) b4;rw[show((k+2:Nat):Int)=(k:Int)+1+1 by omega]at this;exact this
   have R:Hid (fF w b H k l=if((tS w (k+1)).toList == [40])=true then jF w b H (k+2) l else l8 w b H l (l-(k+1)) (k+1) []):=rfl;obtain⟨bf,Hx⟩:∃bf,Hid (tS w (k+1)=bf):=⟨_,rfl⟩
   rw[Hx.out]at J a5 R;generalize tS w k=y at *;cases hx:(bf.toList == [40])
   ·rw[RU (by rw[hx];simp)]at R;have S0:Hid (Pk S (wr.alloc (.cells #[slice none 0 0,int i64 0,string ⟨#[]⟩,int i64 0,int i64 0] 122)) [] ⟨none,0⟩):=⟨((aa.refl [] _).alloc _).get HB.out (by simp),by rw[<-bw];exact R2 _ _,Sb _ _ _ _,(by intro k hk;cases hk),ar.out.alloc _⟩;have bk:Hid (l8 w b H l (l-(k+1)) (k+1) []=fF w b H k l):=R.out.symm;go_wp2
    go_loopg [8] (l-(k+1)) (fun g b6 w1=>∃(m:Nat) (h:Hd) (P:List cW),(k+1<=m/\m<=l)/\g=l-m/\b6=int i64 m/\P.length<=m/\Hid (l8 w b H l (l-m) m P=fF w b H k l)/\Hid (Pk S w1 P h))
    case atStart=>exact⟨k+1,⟨none,0⟩,[],⟨by omega,by omega⟩,rfl,by go_num,SE _,bk,S0⟩
    case round =>
     obtain⟨m,h,P,⟨cx,cy⟩,cp,rfl,ch,c,e⟩:=hrel;have ax:Hid _:=e.out.kept;have ad:Hid _:=fZ.Wj ac.out ax.out;clear c0 c1 hb q1 q2 bT u t0 J;obtain⟨c0,-,hb⟩:=ad.out.cells;by_cases cu:m<l
     ·have b2:(m:Int)<(l:Int):=(by omega);have bd:(m:Int)<w.length:=(by omega);obtain⟨cf,e4,u,J,-⟩:=ad.out.t.2 m _ (iK w m (by omega));cases e4
      replace J:wr.cell? ⟨gT,m*5,none⟩=some (string (tS w m)):=J;obtain⟨f,hf⟩:∃f,l-m=f+1:=⟨l-m-1,by omega⟩
      have ba:l-(m+1)=f:=(by omega);rw[hf,l8]at c;have aT:Hid (Calls prog 129 #[pointer (some ⟨d,0,none⟩),int i64 H,string (tS w m)] wr fun n w'=>n=returned (int i64 (dM w b H (tS w m)))/\aa [] wr w'):=xX d H (tS w m) w _ i b _ x wr ad.out az.out;have B:=qz w b H (tS w m);obtain⟨v,Hv⟩:∃v,Hid (tS w m=v):=⟨_,rfl⟩
      rw[Hv.out]at J c aT B;(go_upto_region 13 with (go_at_call 129;refine R0 aT.out ?_;rintro n w1 ⟨rfl,k1⟩));have K:Hid _:=e.out.Wj k1;have ai:Hid _:=K.out.kept;have T:Hid _:=fZ.Wj ac.out ai.out;have M:=K.out.r;clear k1 c0 hb J u aT;obtain⟨c0,-,hb⟩:=T.out.cells;obtain⟨bs,e5,u,J,-,u2,u3,u4⟩:=T.out.t.2 m _ (iK w m (by omega));cases e5
      replace J:w1.cell? ⟨gT,m*5,none⟩=some (string (tS w m)):=J;rw[Hv.out]at J;cases L:(v.toList == [63])
      ·rw[RU (by rw[L];simp)]at c;rcases B with B | ⟨j,hj,B⟩
       ·rw[B,RY (by omega)]at c;rw[B];have HX:Hid (fF w b H k l=nP 2 (DR (w.getD m gB))):=c.out.symm;generalize w.getD m gB=tm at *;obtain⟨ms,mr,E,F,C⟩:=tm;simp only at u2 u3 u4;obtain⟨⟨r0,r1,r2,r3,r4⟩,⟨f0,f1,f2,f3,f4⟩,be⟩:=qL M;go_wp2;obtain⟨x0,x1,Y,x3,x4⟩:=fD M (slice none 0 0) (int i64 2) (string E) (int i64 F) (int i64 C);exact Sa (v:=agg #[slice none 0 0,int i64 2,string E,int i64 F,int i64 C]) (by simp[results,results89,go_sem,x0,x1,Y,x3,x4]) rfl (by rw[HX.out];exact ie rfl rfl (((((ai.out.setCell (RZ (by simp)) _).setCell (RZ (by simp)) _).setCell (RZ (by simp)) _).setCell (RZ (by simp)) _).setCell (RZ (by simp)) _))
       ·rw[B,RU (by omega)]at c;rw[B];have cq:¬(j:Int)<0:=by omega
        have Q:Hid _:=zr d H j w _ i b _ x w1 T.out az.out hj;generalize gu w b (j:Int)=nd at *;(go_upto_region 18 with (go_at_call 130;refine R0 Q.out ?_;rintro n w2 ⟨rfl,k2⟩));have a:Hid _:=K.out.Wj k2;have A:Hid _:=fZ.Wj ac.out a.out.kept;clear c0 hb J u2 u3 u4 u k2 Q;obtain⟨c0,-,hb⟩:=A.out.cells;obtain⟨bv,e6,u,-,-,u2,u3,u4⟩:=A.out.t.2 m _ (iK w m (by omega));cases e6
        generalize w.getD m gB=tm at *;obtain⟨ms,mr,E,F,C⟩:=tm;simp only at u2 u3 u4;have p0:w2.cell? ⟨S.heap.size+1,0,none⟩=some (slice h.ao P.length h.cap):=by rw[aj a.out.p];rfl
        have p1:=am a.out.p 0;have p2:=ae a.out.p;have V:=a.out.op;have a2:Hid ((eW P).n<=900000000):=(by show P.length<=_;omega);have aS:Hid ((eW P).n=P.length):=rfl;go_region_law (refine bR w2 rfl (.tmp 97) (.tmp 109) 120 rfl iP (agg #[int i64 0,int i64 0,int i64 0,string ⟨#[]⟩,int i64 0,int i64 0]) 56 h (eW P) [int i64 (j:Int),int i64 0,int i64 (nd:Int),string E,int i64 F,int i64 C] underlying120 bc al an ap rfl (show 0<6 by omega) (by rw[aS.out];simp[Act.eval]) V a2.out (by omega) (by simp[Act.eval]) rfl (t8 (⟨(j:Int),0,nd,E,F,C⟩:cW)) ?_;intro a0 U w5 I G;have Z:=G.kept.get a.out.p (fun L=>by have:=a.out.fp _ (aQ L);omega);have f5:=am Z 0;have c5:w5.cell? ⟨S.heap.size+1,0,none⟩=some (slice h.ao P.length h.cap):=(by rw[aj Z];rfl);have z5:=ae Z)
        all_goals
         rw[show([int i64 (j:Int),int i64 0,int i64 (nd:Int),string E,int i64 F,int i64 C]:List Value)=lq (⟨(j:Int),0,nd,E,F,C⟩:cW) from rfl,nu]at I;have HA:Hid _:=(a.out.addP (m:=(eW P).n+1) G I (by simp[eW,kT]));clear I G Z f5 c5 z5;go_wp2;go_roundg (l-(m+1))
         case measure=>omega
         case rel=>exact⟨m+1,⟨a0,U⟩,P++[(⟨(j:Int),0,nd,E,F,C⟩:cW)],⟨by omega,by omega⟩,rfl,by go_num,by simp;omega,by rw[ba];exact c,HA⟩
      ·rw[RY L]at c;have Q:Hid _:=Jw (pointer (some ⟨d,0,none⟩)) w b w1;have bj:Hid (gu w b (-1)=0):=rfl;rw[bj.out]at Q;(go_upto_region 18 with (go_at_call 130;refine R0 Q.out ?_;rintro n w2 ⟨rfl,k2⟩));have a:Hid _:=K.out.Wj k2;have A:Hid _:=fZ.Wj ac.out a.out.kept;clear c0 hb J u2 u3 u4 u k2 Q;obtain⟨c0,-,hb⟩:=A.out.cells;obtain⟨bv,e6,u,-,-,u2,u3,u4⟩:=A.out.t.2 m _ (iK w m (by omega));cases e6
       generalize w.getD m gB=tm at *;obtain⟨ms,mr,E,F,C⟩:=tm;simp only at u2 u3 u4;have p0:w2.cell? ⟨S.heap.size+1,0,none⟩=some (slice h.ao P.length h.cap):=by rw[aj a.out.p];rfl
       have p1:=am a.out.p 0;have p2:=ae a.out.p;have V:=a.out.op;have a2:Hid ((eW P).n<=900000000):=(by show P.length<=_;omega);have aS:Hid ((eW P).n=P.length):=rfl;go_region_law (refine bR w2 rfl (.tmp 97) (.tmp 109) 120 rfl iP (agg #[int i64 0,int i64 0,int i64 0,string ⟨#[]⟩,int i64 0,int i64 0]) 56 h (eW P) [int i64 (-1),int i64 0,int i64 0,string E,int i64 F,int i64 C] underlying120 bc al an ap rfl (show 0<6 by omega) (by rw[aS.out];simp[Act.eval]) V a2.out (by omega) (by simp[Act.eval]) rfl (t8 (⟨(-1),0,0,E,F,C⟩:cW)) ?_;intro a0 U w5 I G;have Z:=G.kept.get a.out.p (fun L=>by have:=a.out.fp _ (aQ L);omega);have f5:=am Z 0;have c5:w5.cell? ⟨S.heap.size+1,0,none⟩=some (slice h.ao P.length h.cap):=(by rw[aj Z];rfl);have z5:=ae Z)
       all_goals
        rw[show([int i64 (-1),int i64 0,int i64 0,string E,int i64 F,int i64 C]:List Value)=lq (⟨(-1),0,0,E,F,C⟩:cW) from rfl,nu]at I;have HA:Hid _:=(a.out.addP (m:=(eW P).n+1) G I (by simp[eW,kT]));clear I G Z f5 c5 z5;go_wp2;go_roundg (l-(m+1))
        case measure=>omega
        case rel=>exact⟨m+1,⟨a0,U⟩,P++[(⟨(-1),0,0,E,F,C⟩:cW)],⟨by omega,by omega⟩,rfl,by go_num,by simp;omega,by rw[ba];exact c,HA⟩
     ·have em:m=l:=(by omega);subst em;rw[Td,l8]at c;have b2:¬(m:Int)<(m:Int):=by omega
      have bd:(m:Int)<w.length:=(by omega);obtain⟨bs,e5,u,-,-,u2,u3,u4⟩:=ad.out.t.2 m _ (iK w m (by omega));cases e5
      have M:=e.out.r;obtain⟨⟨r0,r1,r2,r3,r4⟩,⟨f0,f1,f2,f3,f4⟩,be⟩:=qL M;have p0:wr.cell? ⟨S.heap.size+1,0,none⟩=some (slice h.ao P.length h.cap):=(by rw[aj e.out.p];rfl);have p1:wr.cell? ⟨S.heap.size+1,1,none⟩=some (int i64 0):=(by rw[aj e.out.p];rfl);have p2:wr.cell? ⟨S.heap.size+1,2,none⟩=some (string ⟨#[]⟩):=(by rw[aj e.out.p];rfl);have p3:wr.cell? ⟨S.heap.size+1,3,none⟩=some (int i64 0):=(by rw[aj e.out.p];rfl);have p4:wr.cell? ⟨S.heap.size+1,4,none⟩=some (int i64 0):=(by rw[aj e.out.p];rfl);have Z:=ae e.out.p;by_cases af:P.length=0
      ·rw[RY af]at c;have HX:Hid (fF w b H k m=nP 1 (DR (w.getD m gB))):=c.out.symm;have b3:((P.length:Int)==0)=true:=(by simpa using af);generalize w.getD m gB=tm at *;obtain⟨ms,mr,E,F,C⟩:=tm;simp only at u2 u3 u4;go_wp2;obtain⟨x0,x1,Y,x3,x4⟩:=fD M (slice none 0 0) (int i64 1) (string E) (int i64 F) (int i64 C);exact Sa (v:=agg #[slice none 0 0,int i64 1,string E,int i64 F,int i64 C]) (by simp[results,results89,go_sem,x0,x1,Y,x3,x4]) rfl (by rw[HX.out];exact ie rfl rfl (((((ax.out.setCell (RZ (by simp)) _).setCell (RZ (by simp)) _).setCell (RZ (by simp)) _).setCell (RZ (by simp)) _).setCell (RZ (by simp)) _))
      ·rw[RU af]at c;have HX:Hid (fF w b H k m=⟨P,0,⟨#[]⟩,0,0⟩):=c.out.symm;have b3:((P.length:Int)==0)=false:=(by simpa using af);have o:Hid (∀q,h.blk=some q->q≠S.heap.size):=fun q L=>by have:=e.out.fp q L;omega
       go_wp2;obtain⟨x0,x1,Y,x3,x4⟩:=fD M (slice h.ao P.length h.cap) (int i64 0) (string ⟨#[]⟩) (int i64 0) (int i64 0);exact Sa (v:=agg #[slice h.ao P.length h.cap,int i64 0,string ⟨#[]⟩,int i64 0,int i64 0]) (by simp[results,results89,go_sem,x0,x1,Y,x3,x4]) rfl (by rw[HX.out];exact⟨h,rfl,⟨((((e.out.op.Ws o.out _ _).Ws o.out _ _).Ws o.out _ _).Ws o.out _ _).Ws o.out _ _,fun q L=>(by have:=e.out.fp q L;omega),((((ax.out.setCell (RZ (by simp)) _).setCell (RZ (by simp)) _).setCell (RZ (by simp)) _).setCell (RZ (by simp)) _).setCell (RZ (by simp)) _⟩⟩)
   ·rw[RY hx]at R;have bl:Hid _:=a5.out hx;generalize jF w b H (k+2) l=PF at *;obtain⟨ag,pw,pf,pl,pc⟩:=PF;have bo:Hid (Calls prog 128 #[pointer (some ⟨d,0,none⟩),int i64 H,int i64 ((k:Int)+1+1),int i64 l] wr fun en w'=>∃h',en=returned (agg #[slice h'.ao ag.length h'.cap,int i64 pw,string pf,int i64 pl,int i64 pc])/\jd wr w' h' (eW ag)):=bl.out;go_wp2_with (go_at_call 128;refine R0 bo.out ?_;rintro en w2 ⟨h3,rfl,Y⟩;have a3:=Y.kept.get HB.out (by simp);obtain⟨⟨r0,r1,r2,r3,r4⟩,⟨f0,f1,f2,f3,f4⟩,be⟩:=qL a3);obtain⟨y0,y1,y2,y3,y4⟩:=fD a3 (slice h3.ao ag.length h3.cap) (int i64 pw) (string pf) (int i64 pl) (int i64 pc);have o:Hid (∀q,h3.blk=some q->q≠S.heap.size):=fun q L=>by have:=Y.far q L;omega
    have bg:Hid _:=ar.out.trans Y.kept;exact Sa (v:=agg #[slice h3.ao ag.length h3.cap,int i64 pw,string pf,int i64 pl,int i64 pc]) (by simp[results,results89,go_sem,y0,y1,y2,y3,y4]) rfl (by rw[R.out];exact⟨h3,rfl,⟨((((Y.own.Ws o.out _ _).Ws o.out _ _).Ws o.out _ _).Ws o.out _ _).Ws o.out _ _,fun q L=>(by have:=Y.far q L;omega),((((bg.out.setCell (RZ (by simp)) _).setCell (RZ (by simp)) _).setCell (RZ (by simp)) _).setCell (RZ (by simp)) _).setCell (RZ (by simp)) _⟩⟩)
end Go.Proofs.YtnbhnocdhbcbcaaGreat
