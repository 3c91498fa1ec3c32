import Derived.BigQuiet
import Derived.Deep.RegionLaw
import Derived.Test.YtpddjjabfbfifaaGreatG09
namespace Go.Proofs.YtpddjjabfbfifaaGreat
open Go.RowKit Tryz
set_option maxHeartbeats 0
variable{x z7 yr:World}{z0:Hd}{yf:dN}{i ys:Nat}{yd:Option Addr}{y9:List Nat}{N:List dj}{ya:Nat->Int}{g:List ByteArray}{yt:ByteArray}(z4 v:Nat)(k:List Tk)(I D:List ByteArray)(yg:Option Addr)(d:Nat)(S:List Sm)(y8:Option Addr)(o:Nat)(f:List Nat)(H:Nat)(w:List Tk)(n:List dj)(L:Option Addr)(y:List ByteArray)(a:Nat)(b:List Sm)(M:Option Addr)(y5:Int)(zb:ByteArray)(y6 y7:Int)(l:Nat)(T:World)(yu:List Nat)
theorem bN{P:Program}{k:Array Oper}{d:List Oper}{o:Oper}{a:Act}{Q:Exit->Act->World->Prop}(H:o.guard=none)(s x:Operand)(t:TypeId)(p:o.op=Op.call { callee:=Callee.builtin Builtin.append,args:=#[s,x],argTypes:=#[t,t] })(i:TypeInfo)(z:Value)(c:Nat)(h:Hd)(r:dN)(b:List Value)(w:P.underlying t=some (.slice r.e))(y:P.info? r.e=some i)(A:i.zero=some z)(B:i.size=r.size)(C:i.bytes=c)(D:z.cells.size=r.size)(E:0<r.size)(K:a.eval s=.slice h.ao r.n h.cap)(g:aw T h r)(O:r.n<=900000000)(G:c<=1000)(L:a.eval x=.slice (some ⟨T.heap.size,0,none⟩) 1 1)(R:b.length=r.size)(m:∀u∈b,u.oneCell'=true)(F:∀f l,aw l f ⟨r.e,r.size,r.n+1,r.xs++b⟩->bt T l h f->wpList P k Q d (a.put o.dst (.slice f.ao (r.n+1) f.cap)) l) :
  wpList P k Q (o :: d) a (T.alloc (.cells b.toArray r.e)):=by
 have q:ab [] T (T.alloc (.cells b.toArray r.e)):=(ab.refl [] _).alloc _;have J:(T.alloc (.cells b.toArray r.e)).heap[T.heap.size]?=some (.cells b.toArray r.e (0,0)):=QS _ _;refine ed _ H s x t p i z c h r w y A B C D E K (g.Vb q) (some ⟨T.heap.size,0,none⟩) 1 1 b L (by omega) (fun e=>by cases e) ?_ m (by omega) G ?_
 ·intro N e j u I
  cases e
  rw[bL,aa J];simpa using I
 ·intro f l M v
  exact F f l M ((bt.Vb q).trans v)
def om(w:World)(p:jS)(e:Ending)(w':World):Prop:=∃h',e=.returned (Qg p h')/\gw w w' h' (eI p.st)
theorem gO{p:jS}{e:Ending}(a:p.st=[])(b:e=.returned (.agg #[.slice none 0 0,.int .i64 p.why,.string p.file,.int .i64 p.line,.int .i64 p.col]))(k:ab [] x z7):om x p e z7 :=
 ⟨⟨none,0⟩,by rw[b,Qg,a];rfl,by rw[a];exact⟨QZ _ _ _ _,(by intro k c;cases c),k⟩⟩
theorem aw.Vk(o:aw x z0 yf)(c:∀k,z0.blk=some k->k≠i)(b:Nat)(v:Value):aw (x.setCell ⟨i,b,none⟩ v) z0 yf:=by
 have k:ab [i] x (x.setCell ⟨i,b,none⟩ v):=(ab.refl _ _).setCell (Q1 (by simp)) _;exact o.Vg (fun q a=>k.block q (o.lt a) (by simp;exact c q a))
theorem Id{α:Type}(L:List α)(k:Nat)(h:k<L.length):L.drop k=L[k] :: L.drop (k+1):=Rf h
set_option maxRecDepth 100000
theorem JV(L:List Lt)(b3:Option Addr)(cL:Nat)(z:Lt)(w:World)(hD:fz w z4 k yg d S y8 o)(ok:nK k S v)(hR:qD w M f)(hr:∀r∈f,r<v)(dv:f.length<=30000)(hL:cm w b3 4 Qe L)(c6:L.length<=20000000)(aT:∀ck∈L,0<=ck.c/\ck.c<256) :
  Calls prog 176 #[.pointer (some ⟨z4,0,none⟩),.slice M f.length l,.slice b3 L.length cL,.agg #[.string z.file,.int .i64 z.line,.int .i64 z.col]] w fun e w'=>om w (j4 k S f z L) e w':=by
 have HD:Hid _:=hD;have cp:Hid _:=ok;have HR:Hid _:=hR;have HL:Hid _:=hL;have co:Hid _:=aT;have ct:Hid _:=hr;obtain⟨iN,cF,cf,ch,cj⟩:=Re z8;obtain⟨iP,bs,bc,bd,be⟩:=Re Lx
 have S0:Hid (FR w (((w.alloc (.cells #[.string z.file,.int .i64 z.line,.int .i64 z.col] 36)).alloc (.cells #[.slice none 0 0,.int .i64 0,.string ⟨#[]⟩,.int .i64 0,.int .i64 0] 122)).alloc (.cells #[.slice none 0 0,.int .i64 0,.string ⟨#[]⟩,.int .i64 0,.int .i64 0] 122)) z [] ⟨none,0⟩ [] ⟨none,0⟩):=by
  obtain⟨W1,bj⟩:∃W1,W1=w.alloc (.cells #[.string z.file,.int .i64 z.line,.int .i64 z.col] 36):=⟨_,rfl⟩
  obtain⟨V,bk⟩:∃V,V=W1.alloc (.cells #[.slice none 0 0,.int .i64 0,.string ⟨#[]⟩,.int .i64 0,.int .i64 0] 122):=⟨_,rfl⟩
  have z1:W1.heap.size=w.heap.size+1:=by rw[bj];simp
  have z2:V.heap.size=w.heap.size+2:=by rw[bk];simp[z1]
  have k1:ab [] W1 V:=by rw[bk];exact(ab.refl [] _).alloc _
  have k0:ab [] w W1:=by rw[bj];exact(ab.refl [] _).alloc _
  have k2:ab [] V (V.alloc (.cells #[.slice none 0 0,.int .i64 0,.string ⟨#[]⟩,.int .i64 0,.int .i64 0] 122)):=(ab.refl [] _).alloc _;have e0:W1.heap[w.heap.size]?=some (.cells #[.string z.file,.int .i64 z.line,.int .i64 z.col] 36 (0,0)):=by rw[bj];exact QS _ _
  have e1:V.heap[w.heap.size+1]?=some (.cells #[.slice none 0 0,.int .i64 0,.string ⟨#[]⟩,.int .i64 0,.int .i64 0] 122 (0,0)):=by rw[bk,<-z1];exact QS _ _
  show FR _ _ _ _ _ _ _
  rw[<-bj,<-bk];exact⟨k2.get (k1.get e0 (by simp)) (by simp),k2.get e1 (by simp),by rw[<-z2];exact QS _ _,QZ _ _ _ _,QZ _ _ _ _,(by intro t hk;cases hk),(by intro t hk;cases hk),(by intro t hk;cases hk),(k0.trans k1).trans k2⟩
 clear hD ok hR hL aT hr;go_enter func176,ntmps176;go_wp2
 go_loopg [10,11,12,13] L.length (fun g tg nm fr i wr=>∃(t:Nat) (h:Hd) (P:List dj) (ht:Hd) (b:List Nat) (u:ByteArray) (b6:Bool),t<=L.length/\g=L.length-t/\tg=.slice ht.ao b.length ht.cap/\nm=.string u/\fr=.bool b6/\i=.int .i64 t/\(P.length<=t/\b.length<=t/\u.size<=t)/\Hid (b6=true->0<P.length)/\Hid (nj k S f z (L.drop t) P b u b6=j4 k S f z L)/\Hid (FR w wr z P h b ht))
 case atStart=>exact⟨0,⟨none,0⟩,[],⟨none,0⟩,[],⟨#[]⟩,false,by omega,rfl,rfl,rfl,rfl,rfl,⟨QR _,QR _,QR _⟩,(fun h=>by cases h),rfl,S0⟩
 case round =>
  obtain⟨t,h,P,ht,b,u,b6,hk,hg,rfl,rfl,rfl,rfl,⟨c8,dT,ds⟩,HF,x,F⟩:=hrel;obtain⟨⟨X,Y,Z⟩,⟨al,an,ap,ar,ax⟩,⟨ac,ad,af,ag,ai⟩,⟨aS,Ov,Ow,Ox,Oy⟩,az,a0⟩:=F.out.cells;have G:Hid _:=F.out.kept
  by_cases bl:t<L.length
  ·have dp:(t:Int)<(L.length:Int):=by omega
   obtain⟨gL,rfl,ca,a6⟩:=(cm.Vb HL.out G.out) t L[t] (QP bl);have l0:wr.cell? ⟨gL,t*4,none⟩=some (.int .u8 L[t].c):=a6 0 _ rfl;have l1:=a6 1 _ rfl;have l2:=a6 2 _ rfl;have l3:=a6 3 _ rfl
   have bT:Hid (∀w',ab [] w w'->gL<w'.heap.size/\w'.cell? ⟨gL,t*4+1,none⟩=some (.string L[t].file)/\w'.cell? ⟨gL,t*4+2,none⟩=some (.int .i64 L[t].line)/\w'.cell? ⟨gL,t*4+3,none⟩=some (.int .i64 L[t].col)):=fun w' kw=>by
    obtain⟨g2,e2,h2,c2⟩:=(cm.Vb HL.out kw) t L[t] (QP bl)
    cases e2
    exact⟨h2,c2 1 _ rfl,c2 2 _ rfl,c2 3 _ rfl⟩
   have aT:=co.out L[t] (Rb bl);have bx:Hid _:=Id L t bl;rw[bx.out,nj]at x;clear a6 bx;generalize L[t]=ck at *;obtain⟨c,n,s,j⟩:=ck;simp only at l0 l1 l2 l3 aT x bT;have df:=fun wx=>Nh c aT wx
   obtain⟨c9,db⟩:=aT;have cE:(Du c).size=1:=rfl
   -- a fault at this letter
   have c0:Hid (∀(w2:World) (e:Ending),ab [] w w2->e=.returned (.agg #[.slice none 0 0,.int .i64 4,.string n,.int .i64 s,.int .i64 j])->j4 k S f z L=nr 4 ⟨c,n,s,j⟩->om w (j4 k S f z L) e w2):=fun w2 e k2 he hx=>by rw[hx];exact gO rfl he k2
   by_cases a1:85<=c/\c<=89
   ·rw[QW a1]at x
    obtain⟨a1,a2⟩:=a1;have cl:Hid _:=(ab.refl [] wr).alloc (.cells #[.int .u8 c] 5);have cu:Hid _:=F.out.Vb cl.out;have cy:Hid ((u++Du c).size=u.size+1):=by show _=_;rw[Sd,cE]
    go_wp2
    go_roundg (L.length-(t+1))
    case measure=>omega
    case rel=>exact⟨t+1,h,P,ht,b,u++Du c,false,by omega,rfl,rfl,rfl,rfl,by go_num,⟨by omega,by omega,by rw[cy.out];omega⟩,(fun h=>by cases h),x,cu⟩
   ·rw[QT a1]at x
    by_cases b1:65<=c/\c<=84
    ·rw[QW b1]at x
     obtain⟨b1,b2⟩:=b1;have a2:¬85<=c:=by omega
     have br:Hid (∀wx,Calls prog 213 #[.string (u++Du c),.int .i64 ((f.length:Int)+(b.length:Int))] wx fun e w'=>e=.returned (.int .i64 (iO (u++Du c) (f.length+b.length):Nat))/\ab [] wx w'):=fun wx=>by
      have:=EJ (u++Du c) (f.length+b.length) wx (by omega);rw[Int.natCast_add]at this;exact this
     have cb:=yS (u++Du c) (f.length+b.length);obtain⟨H,cx⟩:∃H,Hid (iO (u++Du c) (f.length+b.length)=H):=⟨_,rfl⟩
     rw[cx.out]at br x cb;have dz:u.size+1<=9223372036854775807:=by omega
     go_upto_region 15 with (go_at_call 213;refine(br.out _).mono ?_;rintro e C ⟨rfl,k1⟩)
     have bz:Hid _:=((ab.refl [] wr).alloc _).trans k1;have a5:Hid _:=F.out.Vb bz.out;have T:Hid _:=G.out.trans bz.out;clear k1 X Y Z al an ap ar ax ac ad af ag ai aS Ov Ow Ox Oy az a0 l0 l1 l2 l3 ca br;obtain⟨⟨X,Y,Z⟩,⟨al,an,ap,ar,ax⟩,⟨ac,ad,af,ag,ai⟩,⟨aS,Ov,Ow,Ox,Oy⟩,az,a0⟩:=a5.out.cells;obtain⟨ca,l1,l2,l3⟩:=bT.out C T.out
     by_cases n0:H=0
     ·rw[QW n0]at x
      subst n0;have U:Hid (j4 k S f z L=nr 5 ⟨c,n,s,j⟩):=x.out.symm;go_wp2;obtain⟨K,N,O,Q,R⟩:=fj a5.out.r (.slice none 0 0) (.int .i64 5) (.string n) (.int .i64 s) (.int .i64 j);exact QY (v:=.agg #[.slice none 0 0,.int .i64 5,.string n,.int .i64 s,.int .i64 j]) (by simp[results,results176,go_sem,K,N,O,Q,R]) rfl (by rw[U.out];exact gO rfl rfl (((((T.out.setCell (QV (by simp)) _).setCell (QV (by simp)) _).setCell (QV (by simp)) _).setCell (QV (by simp)) _).setCell (QV (by simp)) _))
     ·rw[QT n0]at x
      have d2:((H:Int)==0)=false:=by simpa using n0
      by_cases n1:H<=f.length
      ·have cX:(H:Int)<=(f.length:Int):=by omega
       obtain⟨q,rfl⟩:∃q,H=q+1:=⟨H-1,by omega⟩
       have bv:q<f.length:=by omega
       have dt:(q:Int)<(f.length:Int):=by omega
       have a4:Hid (rN k S f b (q+1) ⟨c,n,s,j⟩=⟨(f[q]:Nat),0,iD k S (f[q]:Nat),n,s,j⟩):=by
        show _=_
        unfold rN;rw[QW n1,SD,QQ,QP bv];rfl
       have cV:=ct.out f[q] (Rb bv);obtain⟨gR,rfl,dk,cq⟩:=(qD.Vb HR.out T.out) q f[q] (QP bv);rw[a4.out]at x;have b0:Hid (∀wx,ab [] w wx->Calls prog 129 #[.pointer (some ⟨z4,0,none⟩),.int .i64 (f[q]:Nat)] wx fun e w'=>e=.returned (.int .i64 (iD k S (f[q]:Nat):Nat))/\ab [] wx w'):=fun wx kx=>yR z4 v f[q] k yg d S y8 o wx (fz.Vb HD.out kx) cp.out cV
       clear a4;generalize f[q]=rf at *;generalize iD k S (rf:Nat)=nd at *;obtain⟨V,bg⟩:∃V,Hid (C.alloc (.cells #[.int .i64 (rf:Int),.int .i64 0,.int .i64 0,.string n,.int .i64 s,.int .i64 j] 162)=V):=⟨_,rfl⟩
       have bw:ab [] C V:=by rw[<-bg.out];exact(ab.refl [] _).alloc _
       have B2:V.heap[C.heap.size]?=some (.cells #[.int .i64 (rf:Int),.int .i64 0,.int .i64 0,.string n,.int .i64 s,.int .i64 j] 162 (0,0)):=by rw[<-bg.out];exact QS _ _
       have bp:Hid _:=b0.out V (T.out.trans bw);have s0:V.cell? ⟨C.heap.size,0,none⟩=some (.int .i64 (rf:Int)):=by rw[aa B2];rfl
       have z2:=ae B2
       go_upto_region 20 with fail
       rw[bg.out]
       go_upto_region 22 with (go_at_call 129;refine QU bp.out ?_;rintro e w2 ⟨rfl,k2⟩;have B3:=k2.get B2 (by simp);have f3:=am B3 2;have c3:w2.cell? ⟨C.heap.size,2,none⟩=some (.int .i64 0):=(by rw[aa B3];rfl);have z3:=ae B3)
       obtain⟨E,A⟩:∃E,Hid (w2.setCell ⟨C.heap.size,2,none⟩ (.int .i64 (nd:Int))=E):=⟨_,rfl⟩
       have bf:ab [] C E:=by rw[<-A.out];exact(bw.trans k2).setCell (QV (by simp)) _
       have J:E.heap[C.heap.size]?=some (.cells #[.int .i64 (rf:Int),.int .i64 0,.int .i64 (nd:Int),.string n,.int .i64 s,.int .i64 j] 162 (0,0)):=by rw[<-A.out,ah B3];rfl
       have D:Hid _:=a5.out.Vb bf;rw[A.out];clear X Y Z al an ap ar ax ac ad af ag ai aS Ov Ow Ox Oy az a0;clear B2 B3 bw k2 bf s0 z2 f3 c3 z3 A bg bp b0 cq;obtain⟨⟨X,Y,Z⟩,⟨al,an,ap,ar,ax⟩,⟨ac,ad,af,ag,ai⟩,⟨aS,Ov,Ow,Ox,Oy⟩,az,a0⟩:=D.out.cells;have t0:E.cell? ⟨C.heap.size,0,none⟩=some (.int .i64 (rf:Int)):=by rw[aa J];rfl
       have t1:E.cell? ⟨C.heap.size,1,none⟩=some (.int .i64 0):=by rw[aa J];rfl
       have t2:E.cell? ⟨C.heap.size,2,none⟩=some (.int .i64 (nd:Int)):=by rw[aa J];rfl
       have t3:E.cell? ⟨C.heap.size,3,none⟩=some (.string n):=by rw[aa J];rfl
       have t4:E.cell? ⟨C.heap.size,4,none⟩=some (.int .i64 s):=by rw[aa J];rfl
       have t5:E.cell? ⟨C.heap.size,5,none⟩=some (.int .i64 j):=by rw[aa J];rfl
       have t6:=ae J;have I:=D.out.op;have a7:(eI P).n<=900000000:=by show P.length<=_;omega
       go_wp2_with (at_builtin;refine bN _ rfl (.tmp 103) (.tmp 105) 120 rfl iP (.agg #[.int .i64 0,.int .i64 0,.int .i64 0,.string ⟨#[]⟩,.int .i64 0,.int .i64 0]) 56 h (eI P) [.int .i64 (rf:Int),.int .i64 0,.int .i64 (nd:Int),.string n,.int .i64 s,.int .i64 j] underlying120 bs bc bd be rfl (show 0<6 by omega) rfl I a7 (by omega) rfl rfl (tB (⟨(rf:Int),0,nd,n,s,j⟩:dj)) ?_;intro h5 w5 y B;rw[show([.int .i64 (rf:Int),.int .i64 0,.int .i64 (nd:Int),.string n,.int .i64 s,.int .i64 j]:List Value)=kV (⟨(rf:Int),0,nd,n,s,j⟩:dj) from rfl,mK]at y;have HA:Hid _:=(D.out.addP (m:=(eI P).n+1) B y (by simp[eI,kU]));have W:=B.kept.get D.out.p (fun hq=>by have:=D.out.fp _ (aN hq);omega);have f5:=am W 0;have c5:w5.cell? ⟨w.heap.size+2,0,none⟩=some (.slice h.ao P.length h.cap):=(by rw[aa W];rfl);have z5:=ae W;clear y B W)
       go_roundg (L.length-(t+1))
       case measure=>omega
       case rel=>exact⟨t+1,h5,P++[⟨(rf:Int),0,nd,n,s,j⟩],ht,b,⟨#[]⟩,true,by omega,rfl,rfl,rfl,rfl,by go_num,⟨by simp;omega,by omega,Ro _⟩,(fun _=>by simp),x,HA⟩
      ·have cX:¬(H:Int)<=(f.length:Int):=by omega
       obtain⟨q,Hq⟩:∃q,Hid (H-f.length-1=q):=⟨_,rfl⟩
       have cc:q<b.length:=by have:=Hq.out;omega
       have i1:IntKind.i64.wrap ((H:Int)-(f.length:Int))=(H:Int)-(f.length:Int):=by rw[R9];omega
       have i2:IntKind.i64.wrap ((H:Int)-(f.length:Int)-1)=(H:Int)-(f.length:Int)-1:=by rw[R9];omega
       have i3:((H:Int)-(f.length:Int)-1).toNat=q:=by have:=Hq.out;omega
       have i4:(0:Int)<=(H:Int)-(f.length:Int)-1:=by omega
       have i5:(H:Int)-(f.length:Int)-1<(b.length:Int):=by omega
       have a4:Hid (rN k S f b H ⟨c,n,s,j⟩=⟨-2,b[q],0,n,s,j⟩):=by
        show _=_
        unfold rN;rw[QT n1,Hq.out,QQ,QP cc];rfl
       obtain⟨gt,b5,dl,cq⟩:=a5.out.ot.srcN q b[q] (QP cc);rw[a4.out]at x;clear a4;generalize b[q]=tg at *;obtain⟨E,A⟩:∃E,Hid (C.alloc (.cells #[.int .i64 (-2),.int .i64 (tg:Int),.int .i64 0,.string n,.int .i64 s,.int .i64 j] 162)=E):=⟨_,rfl⟩
       have bf:ab [] C E:=by rw[<-A.out];exact(ab.refl [] _).alloc _
       have J:E.heap[C.heap.size]?=some (.cells #[.int .i64 (-2),.int .i64 (tg:Int),.int .i64 0,.string n,.int .i64 s,.int .i64 j] 162 (0,0)):=by rw[<-A.out];exact QS _ _
       have D:Hid _:=a5.out.Vb bf;rw[b5]
       go_upto_region 22 with fail
       rw[A.out];clear X Y Z al an ap ar ax ac ad af ag ai aS Ov Ow Ox Oy az a0;clear bf A cq i1 i2 i3 i4 i5;obtain⟨⟨X,Y,Z⟩,⟨al,an,ap,ar,ax⟩,⟨ac,ad,af,ag,ai⟩,⟨aS,Ov,Ow,Ox,Oy⟩,az,a0⟩:=D.out.cells;have t0:E.cell? ⟨C.heap.size,0,none⟩=some (.int .i64 (-2)):=by rw[aa J];rfl
       have t1:E.cell? ⟨C.heap.size,1,none⟩=some (.int .i64 (tg:Int)):=by rw[aa J];rfl
       have t2:E.cell? ⟨C.heap.size,2,none⟩=some (.int .i64 0):=by rw[aa J];rfl
       have t3:E.cell? ⟨C.heap.size,3,none⟩=some (.string n):=by rw[aa J];rfl
       have t4:E.cell? ⟨C.heap.size,4,none⟩=some (.int .i64 s):=by rw[aa J];rfl
       have t5:E.cell? ⟨C.heap.size,5,none⟩=some (.int .i64 j):=by rw[aa J];rfl
       have t6:=ae J;have I:=D.out.op;have a7:(eI P).n<=900000000:=by show P.length<=_;omega
       go_wp2_with (at_builtin;refine bN _ rfl (.tmp 103) (.tmp 105) 120 rfl iP (.agg #[.int .i64 0,.int .i64 0,.int .i64 0,.string ⟨#[]⟩,.int .i64 0,.int .i64 0]) 56 h (eI P) [.int .i64 (-2),.int .i64 (tg:Int),.int .i64 0,.string n,.int .i64 s,.int .i64 j] underlying120 bs bc bd be rfl (show 0<6 by omega) rfl I a7 (by omega) rfl rfl (tB (⟨-2,tg,0,n,s,j⟩:dj)) ?_;intro h5 w5 y B;rw[show([.int .i64 (-2),.int .i64 (tg:Int),.int .i64 0,.string n,.int .i64 s,.int .i64 j]:List Value)=kV (⟨-2,tg,0,n,s,j⟩:dj) from rfl,mK]at y;have HA:Hid _:=(D.out.addP (m:=(eI P).n+1) B y (by simp[eI,kU]));have W:=B.kept.get D.out.p (fun hq=>by have:=D.out.fp _ (aN hq);omega);have f5:=am W 0;have c5:w5.cell? ⟨w.heap.size+2,0,none⟩=some (.slice h.ao P.length h.cap):=(by rw[aa W];rfl);have z5:=ae W;clear y B W)
       go_roundg (L.length-(t+1))
       case measure=>omega
       case rel=>exact⟨t+1,h5,P++[⟨-2,tg,0,n,s,j⟩],ht,b,⟨#[]⟩,true,by omega,rfl,by rw[b5],rfl,rfl,by go_num,⟨by simp;omega,by omega,Ro _⟩,(fun _=>by simp),x,HA⟩
    ·rw[QT b1]at x
     by_cases d1:c=90
     ·subst d1
      cases b6
      ·rw[QT (by simp),QT (by omega)]at x
       have U:Hid (j4 k S f z L=nr 4 ⟨90,n,s,j⟩):=x.out.symm;go_wp2;obtain⟨K,N,O,Q,R⟩:=fj F.out.r (.slice none 0 0) (.int .i64 4) (.string n) (.int .i64 s) (.int .i64 j);exact QY (v:=.agg #[.slice none 0 0,.int .i64 4,.string n,.int .i64 s,.int .i64 j]) (by simp[results,results176,go_sem,K,N,O,Q,R]) rfl (by rw[U.out];exact gO rfl rfl (((((G.out.setCell (QV (by simp)) _).setCell (QV (by simp)) _).setCell (QV (by simp)) _).setCell (QV (by simp)) _).setCell (QV (by simp)) _))
      ·rw[QW ⟨rfl,rfl⟩]at x
       have c7:=HF.out rfl;have cH:((P.length-1:Nat):Int)=(P.length:Int)-1:=by omega
       have d0:IntKind.i64.wrap ((P.length:Int)-1)=(P.length:Int)-1:=by rw[R9];omega
       have cA:=F.out.ot;have cB:(bB b).n<=900000000:=by show b.length<=_;omega
       go_wp2_with (at_builtin;refine bN _ rfl (.tmp 114) (.tmp 119) 26 rfl iN (.int .i64 0) 8 ht (bB b) [.int .i64 ((P.length:Int)-1)] underlying26 cF cf ch cj rfl Rc rfl cA cB (by omega) rfl rfl (by simp[Value.oneCell']) ?_;intro h5 w5 y B;rw[<-cH,tn]at y;have HA:Hid _:=F.out.addT B y;clear y B)
       go_roundg (L.length-(t+1))
       case measure=>omega
       case rel=>exact⟨t+1,h,P,h5,b++[P.length-1],u,false,by omega,rfl,by simp[bB],rfl,rfl,by go_num,⟨by omega,by simp;omega,by omega⟩,(fun h=>by cases h),x,HA⟩
     ·have c1:(c==90)=false:=by simpa using d1
      rw[QT (fun h=>d1 h.1)]at x
      by_cases e1:c=63
      ·subst e1
       cases ba:(u.toList == [])
       ·rw[QT (by rw[ba];simp)]at x
        have U:Hid (j4 k S f z L=nr 4 ⟨63,n,s,j⟩):=x.out.symm;go_wp2;obtain⟨K,N,O,Q,R⟩:=fj F.out.r (.slice none 0 0) (.int .i64 4) (.string n) (.int .i64 s) (.int .i64 j);exact QY (v:=.agg #[.slice none 0 0,.int .i64 4,.string n,.int .i64 s,.int .i64 j]) (by simp[results,results176,go_sem,K,N,O,Q,R]) rfl (by rw[U.out];exact gO rfl rfl (((((G.out.setCell (QV (by simp)) _).setCell (QV (by simp)) _).setCell (QV (by simp)) _).setCell (QV (by simp)) _).setCell (QV (by simp)) _))
       ·rw[QW ⟨rfl,ba⟩]at x
        have I:=F.out.op;have a7:Hid ((eI P).n<=900000000):=by show P.length<=_;omega
        have cs:Hid ((eI P).n=P.length):=rfl
        go_upto_region 29 with fail
        go_region_law (refine bH wr rfl (.tmp 129) (.tmp 136) 120 rfl iP (.agg #[.int .i64 0,.int .i64 0,.int .i64 0,.string ⟨#[]⟩,.int .i64 0,.int .i64 0]) 56 h (eI P) [.int .i64 (-1),.int .i64 0,.int .i64 0,.string n,.int .i64 s,.int .i64 j] underlying120 bs bc bd be rfl (show 0<6 by omega) (by rw[cs.out];simp[Act.eval]) I a7.out (by omega) (by simp[Act.eval]) rfl (tB (⟨-1,0,0,n,s,j⟩:dj)) ?_;intro cz b4 w5 y B;have W:=B.kept.get F.out.p (fun hq=>by have:=F.out.fp _ (aN hq);omega);have f5:=am W 0;have c5:w5.cell? ⟨w.heap.size+2,0,none⟩=some (.slice h.ao P.length h.cap):=(by rw[aa W];rfl);have z5:=ae W)
        all_goals
         rw[show([.int .i64 (-1),.int .i64 0,.int .i64 0,.string n,.int .i64 s,.int .i64 j]:List Value)=kV (⟨-1,0,0,n,s,j⟩:dj) from rfl,mK]at y;have HA:Hid _:=(F.out.addP (m:=(eI P).n+1) B y (by simp[eI,kU]));clear y B W f5 c5 z5;go_wp2
         go_roundg (L.length-(t+1))
         case measure=>omega
         case rel=>exact⟨t+1,⟨cz,b4⟩,P++[⟨-1,0,0,n,s,j⟩],ht,b,u,false,by omega,rfl,rfl,rfl,rfl,by go_num,⟨by simp;omega,by omega,by omega⟩,(fun h=>by cases h),x,HA⟩
      ·have c4:(c==63)=false:=by simpa using e1
       rw[QT (fun h=>e1 h.1)]at x;have U:Hid (j4 k S f z L=nr 4 ⟨c,n,s,j⟩):=x.out.symm
       by_cases f1:85<=c
       ·have f2:¬c<=89:=fun h=>a1 ⟨f1,h⟩
        have f3:65<=c:=by omega
        have f4:¬c<=84:=by omega
        go_wp2;obtain⟨K,N,O,Q,R⟩:=fj F.out.r (.slice none 0 0) (.int .i64 4) (.string n) (.int .i64 s) (.int .i64 j);exact QY (v:=.agg #[.slice none 0 0,.int .i64 4,.string n,.int .i64 s,.int .i64 j]) (by simp[results,results176,go_sem,K,N,O,Q,R]) rfl (by rw[U.out];exact gO rfl rfl (((((G.out.setCell (QV (by simp)) _).setCell (QV (by simp)) _).setCell (QV (by simp)) _).setCell (QV (by simp)) _).setCell (QV (by simp)) _))
       ·by_cases f3:65<=c
        ·exact absurd ⟨f3,by omega⟩ b1
        ·skip
         go_wp2;obtain⟨K,N,O,Q,R⟩:=fj F.out.r (.slice none 0 0) (.int .i64 4) (.string n) (.int .i64 s) (.int .i64 j);exact QY (v:=.agg #[.slice none 0 0,.int .i64 4,.string n,.int .i64 s,.int .i64 j]) (by simp[results,results176,go_sem,K,N,O,Q,R]) rfl (by rw[U.out];exact gO rfl rfl (((((G.out.setCell (QV (by simp)) _).setCell (QV (by simp)) _).setCell (QV (by simp)) _).setCell (QV (by simp)) _).setCell (QV (by simp)) _))
  ·have e:t=L.length:=by omega
   subst e;rw[List.drop_length,nj]at x
   cases ba:(u.toList == [])
   ·rw[QW ba]at x
    have U:Hid (j4 k S f z L=nr 4 z):=x.out.symm;obtain⟨ec,ef,el,eo⟩:=z;go_wp2;obtain⟨K,N,O,Q,R⟩:=fj F.out.r (.slice none 0 0) (.int .i64 4) (.string ef) (.int .i64 el) (.int .i64 eo);exact QY (v:=.agg #[.slice none 0 0,.int .i64 4,.string ef,.int .i64 el,.int .i64 eo]) (by simp[results,results176,go_sem,K,N,O,Q,R]) rfl (by rw[U.out];exact gO rfl rfl (((((G.out.setCell (QV (by simp)) _).setCell (QV (by simp)) _).setCell (QV (by simp)) _).setCell (QV (by simp)) _).setCell (QV (by simp)) _))
   ·rw[QT (by rw[ba];simp)]at x
    by_cases bo:P.length=0
    ·rw[QW bo]at x
     have U:Hid (j4 k S f z L=nr 1 z):=x.out.symm;have cP:((P.length:Int)==0)=true:=by simpa using bo
     obtain⟨ec,ef,el,eo⟩:=z;go_wp2;obtain⟨K,N,O,Q,R⟩:=fj F.out.r (.slice none 0 0) (.int .i64 1) (.string ef) (.int .i64 el) (.int .i64 eo);exact QY (v:=.agg #[.slice none 0 0,.int .i64 1,.string ef,.int .i64 el,.int .i64 eo]) (by simp[results,results176,go_sem,K,N,O,Q,R]) rfl (by rw[U.out];exact gO rfl rfl (((((G.out.setCell (QV (by simp)) _).setCell (QV (by simp)) _).setCell (QV (by simp)) _).setCell (QV (by simp)) _).setCell (QV (by simp)) _))
    ·rw[QT bo]at x
     have U:Hid (j4 k S f z L=⟨P,0,⟨#[]⟩,0,0⟩):=x.out.symm;have cP:((P.length:Int)==0)=false:=by simpa using bo
     have a3:Hid (∀q,h.blk=some q->q≠w.heap.size+1):=fun q hq=>by have:=F.out.fp q hq;omega
     go_wp2;obtain⟨K,N,O,Q,R⟩:=fj F.out.r (.slice h.ao P.length h.cap) (.int .i64 0) (.string ⟨#[]⟩) (.int .i64 0) (.int .i64 0);exact QY (v:=.agg #[.slice h.ao P.length h.cap,.int .i64 0,.string ⟨#[]⟩,.int .i64 0,.int .i64 0]) (by simp[results,results176,go_sem,K,N,O,Q,R]) rfl (by rw[U.out];exact⟨h,rfl,⟨((((F.out.op.Vk a3.out _ _).Vk a3.out _ _).Vk a3.out _ _).Vk a3.out _ _).Vk a3.out _ _,fun q hq=>(by have:=F.out.fp q hq;omega),((((G.out.setCell (QV (by simp)) _).setCell (QV (by simp)) _).setCell (QV (by simp)) _).setCell (QV (by simp)) _).setCell (QV (by simp)) _⟩⟩)
def Ez(t:Tk):Lt:=⟨0,t.file,t.line,t.col⟩
def ve(T:List Tk)(S:List Sm)(a z:Nat):Nat->Nat->List Nat->jS
 | 0,_,_=>nr 3 (Ez (T.getD z jf))
 | n+1,i,refs =>
  if((tS T i).toList == [41])=true then j4 T S refs (Ez (T.getD z jf)) (eR T (i+1) z)
  else if eU T S a (tS T i)<0 then nr 2 (Ez (T.getD i jf))
  else if refs.contains (eU T S a (tS T i)).toNat=true then nr 3 (Ez (T.getD i jf))
  else ve T S a z n (i+1) (refs++[(eU T S a (tS T i)).toNat])
def jQ(T:List Tk)(S:List Sm)(a i z:Nat):jS:=ve T S a z (z-i) i (bW T S a)
theorem qD.cells(h:qD x yd y9):∀b,yd=some b->∀j u,(jX y9)[j]?=some u->x.cell? (b.add j)=some u:=by
 intro b e j u a;rw[jX,Rq]at a
 cases d:y9[j]? with
 | none=>rw[d]at a;cases a
 | some i =>
  rw[d]at a
  cases a
  obtain⟨g,f,-,c⟩:=h j i d;rw[e]at f
  cases f
  rw[bL];simpa using c
theorem LN:∀u∈jX yu,u.oneCell'=true:=by
 intro u a;obtain⟨x,-,rfl⟩:=Si.1 a;rfl
theorem Mk:(⟨(bB f).e,(bB f).size,(bB f).n+yu.length,(bB f).xs++jX yu⟩:dN)=bB (f++yu):=by
 simp[bB,jX]
theorem gw.none(a:gw x z7 z0 yf):z0.ao=none->yf.n=0/\z0.cap=0:=fun e=>by
 rcases a.own.Vm with ⟨b,d,f⟩ | ⟨g,c,b,-⟩
 ·exact⟨d,by rw[b]⟩
 ·rw[e]at b;cases b
theorem gw.le(a:gw x z7 z0 yf):yf.n<=z0.cap:=by
 rcases a.own.Vm with ⟨d,e,b⟩ | ⟨g,c,d,-,b,-⟩
 ·omega
 ·exact b
theorem sK:∀j∈bW w b l,j<l:=fun _ a=>Ra.1 (RH.1 a).1
theorem kj:(bW w b l).length<=l:=by
 unfold bW;have:=Sc (sJ w b l (Dj w b l)) (List.range l);rw[Tf]at this;exact this
theorem xg(e:dC w)(a z:Nat):(eR w a z).length<=1024*w.length:=by
 have:∀L:List Tk,(∀t∈L,t.s.size<=1024)->(L.flatMap um).length<=1024*L.length:=by
  intro L
  induction L with
  | nil=>intro _;simp
  | cons t L f =>
   intro h;have c:=h t (by simp);have d:=f (fun t b=>h t (by simp[b]));rw[RI,Q0,Rp];have:(um t).length=t.s.size:=by unfold um;simp
   omega
 have c:=this ((w.drop a).take (z-a)) (fun t b=>(e t (List.mem_of_mem_drop (Tb b))).1);have d:((w.drop a).take (z-a)).length<=w.length:=by rw[RQ,RT];omega
 unfold eR;omega
theorem Ht:0<=aF zb l/\aF zb l<256:=by
 unfold aF
 split
 ·next h=>have:=(zb[l]'h).toNat_lt;omega
 ·omega
theorem Mu:∀b∈eR w a l,0<=b.c/\b.c<256:=by
 intro b d;unfold eR at d;obtain⟨t,-,e⟩:=TT.1 d;unfold um at e;obtain⟨k,-,rfl⟩:=Si.1 e;exact Ht _ _
theorem qr(h:x.heap[i]?=some (.cells #[.slice none 0 0,.int .i64 0,.string ⟨#[]⟩,.int .i64 0,.int .i64 0] 122 (0,0))) :
  (x.cell? ⟨i,0,none⟩=some (.slice none 0 0)/\x.cell? ⟨i,1,none⟩=some (.int .i64 0)/\x.cell? ⟨i,2,none⟩=some (.string ⟨#[]⟩)/\x.cell? ⟨i,3,none⟩=some (.int .i64 0)/\x.cell? ⟨i,4,none⟩=some (.int .i64 0)) /\
  (x.frozen? ⟨i,0,none⟩=false/\x.frozen? ⟨i,1,none⟩=false/\x.frozen? ⟨i,2,none⟩=false/\x.frozen? ⟨i,3,none⟩=false/\x.frozen? ⟨i,4,none⟩=false)/\i<x.heap.size:=by
 refine⟨⟨?_,?_,?_,?_,?_⟩,⟨am h 0,am h 1,am h 2,am h 3,am h 4⟩,ae h⟩
 all_goals (rw[aa h];rfl)
theorem Br(c:ys=y9.length)(h:∀q (a:q<y9.length),q<ys->y9[q]≠i):y9.contains i=false:=by
 cases e:y9.contains i
 ·rfl
 ·rw[TG]at e
  obtain⟨q,a,b⟩:=R0 e;exact absurd b (h q a (by omega))
theorem EM(hD:fz T v w L a b M l)(ok:nK w b d)(hn:d<b.length)(hE:cU w (au b d).h)(hO:dC w)(hi:o<=H)(hz:H<w.length) :
  Calls prog 127 #[.pointer (some ⟨v,0,none⟩),.int .i64 d,.int .i64 o,.int .i64 H] T fun e w'=>om T (jQ w b d o H) e w':=by
 obtain⟨W,HW⟩:∃W,Hid (T.alloc (.cells #[.slice none 0 0,.int .i64 0,.string ⟨#[]⟩,.int .i64 0,.int .i64 0] 122)=W):=⟨_,rfl⟩
 have BW:W.heap[T.heap.size]?=some (.cells #[.slice none 0 0,.int .i64 0,.string ⟨#[]⟩,.int .i64 0,.int .i64 0] 122 (0,0)):=by rw[<-HW.out];exact QS _ _
 have K:Hid (ab [] T W):=by show ab [] T W;rw[<-HW.out];exact(ab.refl [] _).alloc _
 have ch:W.heap.size=T.heap.size+1:=by rw[<-HW.out];simp
 have I:Hid _:=hD.Vb K.out;have a1:Hid _:=ok;have a5:Hid _:=hO;have b2:=ok.tm;have cf:=ok.sm;have az:Hid _:=nP v d w L a b M l W I.out ok hn hE;have cy:=kj w b d;have bz:Hid _:=sK w b d;have bv:Hid (ve w b d H (H-o) o (bW w b d)=jQ w b d o H):=rfl;obtain⟨iN,bg,V,X,Y⟩:=Re z8;have bo:Hid _:=BW
 -- a fault
 have J:Hid (∀(wr:World),ab [] W wr->(wr.heap[T.heap.size]?=some (.cells #[.slice none 0 0,.int .i64 0,.string ⟨#[]⟩,.int .i64 0,.int .i64 0] 122 (0,0)))):=fun wr k=>k.get bo.out (by simp)
 clear hD ok hO;generalize bW w b d=HY at *;go_enter func127,ntmps127
 go_upto_region 1 with fail
 rw[HW.out]
 go_upto_region 2 with (go_at_call 62;refine QU az.out ?_;rintro e S ⟨h1,rfl,z⟩)
 have ca:Hid _:=z.kept;have N:Hid _:=z.own.srcN.cells;have bj:Hid _:=z.none;have ad:Hid (gw W S ⟨none,0⟩ (bB [])):=⟨QZ _ _ _ _,(by intro k hk;cases hk),z.kept⟩;have a7:=ad.out.own;clear z az
 go_upto_region 3 with (at_builtin;refine ed _ rfl (.const (.slice none 0 0)) (.tmp 18) 26 rfl iN (.int .i64 0) 8 ⟨none,0⟩ (bB []) underlying26 bg V X Y rfl Rc rfl a7 h1.ao HY.length h1.cap (jX HY) rfl (by simp[bB,jX]) bj.out N.out (LN HY) (by simp only[bB,List.length_nil];omega) (by omega) ?_;intro h5 w5 ap be;rw[Mk]at ap;have aS:Hid _:=ad.out.Vl be ap;clear ap be)
 rw[Uu]at aS;have bl:(bB ([]:List Nat)).n+HY.length=HY.length:=by simp[bB]
 rw[bl];clear bl N bj ad a7;go_wp2
 go_loopg [10,11] (H-o) (fun g r iv wr=>∃(m:Nat) (A:Hd) (R:List Nat),(o<=m/\m<=H)/\g=H-m/\r=.slice A.ao R.length A.cap/\iv=.int .i64 m/\R.length<=10000+m/\Hid (∀q∈R,q<d)/\Hid (ve w b d H (H-m) m R=jQ w b d o H)/\Hid (gw W wr A (bB R)))
 case atStart=>exact⟨o,h5,HY,⟨by omega,by omega⟩,rfl,rfl,rfl,by omega,bz,bv,aS⟩
 case round =>
  obtain⟨m,A,R,⟨cs,ct⟩,hg,rfl,rfl,cc,a2,c,ai⟩:=hrel;have ac:Hid _:=ai.out.kept;have B:Hid _:=fz.Vb I.out ac.out;obtain⟨c0,-,hb⟩:=B.out.cells;have BR:=J.out wr ac.out;have br:Hid _:=K.out.trans ac.out;obtain⟨⟨r0,r1,r2,r3,r4⟩,⟨f0,f1,f2,f3,f4⟩,P⟩:=qr BR;obtain⟨gT,rfl,O,t0,-,t2,t3,t4⟩:=B.out.t.2 H _ (iw w H hz);have cz:(H:Int)<(w.length:Int):=by omega
  by_cases cp:m<H
  ·have cu:(m:Int)<(H:Int):=by omega
   have b6:(m:Int)<(w.length:Int):=by omega
   obtain⟨cb,e2,-,u0,-,u2,u3,u4⟩:=B.out.t.2 m _ (iw w m (by omega))
   cases e2
   replace u0:wr.cell? ⟨gT,m*5,none⟩=some (.string (tS w m)):=u0;obtain⟨f,hf⟩:∃f,H-m=f+1:=⟨H-m-1,by omega⟩
   rw[hf,ve]at c;have a6:Hid (Calls prog 128 #[.pointer (some ⟨v,0,none⟩),.int .i64 d,.string (tS w m)] wr fun e w'=>e=.returned (.int .i64 (eU w b d (tS w m)))/\ab [] wr w'):=xr v d (tS w m) w _ a b M l wr B.out a1.out;have y:=p9 w b d (tS w m);obtain⟨x,Hx⟩:∃x,Hid (tS w m=x):=⟨_,rfl⟩
   rw[Hx.out]at u0 c a6 y;clear Hx
   cases h1:(x.toList == [41])
   ·rw[QT (by rw[h1];simp)]at c
    go_upto_region 6 with (go_at_call 128;refine QU a6.out ?_;rintro e S ⟨rfl,k1⟩)
    have n:Hid _:=ai.out.Vb k1;have i:Hid _:=n.out.kept;have u:Hid _:=K.out.trans i.out;have s:Hid _:=fz.Vb I.out i.out;have Z:=J.out S i.out;clear r0 r1 r2 r3 r4 f0 f1 f2 f3 f4 P;clear k1 c0 hb t0 t2 t3 t4 u0 u2 u3 u4 O;obtain⟨⟨r0,r1,r2,r3,r4⟩,⟨f0,f1,f2,f3,f4⟩,P⟩:=qr Z;obtain⟨c0,-,hb⟩:=s.out.cells;obtain⟨bT,e3,O,-,-,u2,u3,u4⟩:=s.out.t.2 m _ (iw w m (by omega))
    cases e3
    rcases y with y | ⟨j,hj,y⟩
    ·rw[y,QW (by omega)]at c
     rw[y];have U:Hid (jQ w b d o H=nr 2 (Ez (w.getD m jf))):=c.out.symm;generalize w.getD m jf=tm at *;obtain⟨ms,mr,E,F,D⟩:=tm;simp only at u2 u3 u4;go_wp2;obtain⟨x0,z,G,x3,x4⟩:=fj Z (.slice none 0 0) (.int .i64 2) (.string E) (.int .i64 F) (.int .i64 D);exact QY (v:=.agg #[.slice none 0 0,.int .i64 2,.string E,.int .i64 F,.int .i64 D]) (by simp[results,results127,go_sem,x0,z,G,x3,x4]) rfl (by rw[U.out];exact gO rfl rfl (((((u.out.setCell (QV (by simp)) _).setCell (QV (by simp)) _).setCell (QV (by simp)) _).setCell (QV (by simp)) _).setCell (QV (by simp)) _))
    ·rw[y,QT (by omega),Sa]at c
     rw[y];have co:¬(j:Int)<0:=by omega
     have bx:Hid _:=n.out.own.srcN;have ba:=n.out.le;have b5:R.length<=A.cap:=ba;clear ba;obtain⟨bc,bd⟩:=A;go_wp2
     go_loopg [13] R.length (fun g kv wr=>∃q:Nat,q<=R.length/\g=R.length-q/\kv=.int .i64 q/\Hid (∀p (hp:p<R.length),p<q->R[p]≠j)/\wr=S)
     case atStart=>exact⟨0,by omega,rfl,rfl,(fun p _ h=>by omega),rfl⟩
     case round =>
      obtain⟨q,hq,cj,rfl,a0,rfl⟩:=hrel
      by_cases bk:q<R.length
      ·have b4:(q:Int)<(R.length:Int):=by omega
       obtain⟨gR,al,ck,cq⟩:=bx.out q R[q] (QP bk);have aT:Hid (R[q]=j->R.contains j=true):=fun e=>by rw[TG,<-e];exact Rb bk
       have bs:Hid (R[q]≠j->∀p (hp:p<R.length),p<q+1->R[p]≠j):=fun e p hp h2=>by
        by_cases e2:p=q
        ·subst e2;exact e
        ·exact a0.out p hp (by omega)
       generalize R[q]=rq at *;replace al:bc=some ⟨gR,0,none⟩:=al;subst al
       by_cases an:rq=j
       ·subst an
        rw[QW (aT.out rfl)]at c;have U:Hid (jQ w b d o H=nr 3 (Ez (w.getD m jf))):=c.out.symm;generalize w.getD m jf=tm at *;obtain⟨ms,mr,E,F,D⟩:=tm;simp only at u2 u3 u4;go_wp2;obtain⟨x0,z,G,x3,x4⟩:=fj Z (.slice none 0 0) (.int .i64 3) (.string E) (.int .i64 F) (.int .i64 D);exact QY (v:=.agg #[.slice none 0 0,.int .i64 3,.string E,.int .i64 F,.int .i64 D]) (by simp[results,results127,go_sem,x0,z,G,x3,x4]) rfl (by rw[U.out];exact gO rfl rfl (((((u.out.setCell (QV (by simp)) _).setCell (QV (by simp)) _).setCell (QV (by simp)) _).setCell (QV (by simp)) _).setCell (QV (by simp)) _))
       ·have cl:((rq:Int)==(j:Int))=false:=by simpa using (fun e=>an (by omega))
        have HM:Hid _:=bs.out an;go_wp2
        go_roundg (R.length-(q+1))
        case measure=>omega
        case rel=>exact⟨q+1,by omega,rfl,by go_num,HM,rfl⟩
      ·have eq:q=R.length:=by omega
       rw[QT (by rw[Br eq a0.out];simp)]at c;have b4:¬(q:Int)<(R.length:Int):=by omega
       have b0:=n.out.own;have b1:(bB R).n<=900000000:=by show R.length<=_;omega
       have a3:Hid (∀q∈R++[j],q<d):=fun q hq=>by
        rcases Rr.1 hq with h | h
        ·exact a2.out q h
        ·rw[Q9.1 h];exact hj
       have b3:H-(m+1)=f:=by omega
       go_wp2_with (at_builtin;refine bN _ rfl (.tmp 78) (.tmp 80) 26 rfl iN (.int .i64 0) 8 ⟨bc,bd⟩ (bB R) [.int .i64 (j:Int)] underlying26 bg V X Y rfl Rc rfl b0 b1 (by omega) rfl rfl (by simp[Value.oneCell']) ?_;intro h6 w6 ar bf;rw[tn]at ar;have HA:Hid _:=n.out.Vl bf ar;clear ar bf)
       go_roundg (H-(m+1))
       case measure=>omega
       case rel=>exact⟨m+1,h6,R++[j],⟨by omega,by omega⟩,rfl,by simp[bB],by go_num,by simp;omega,a3,by rw[b3];exact c,HA⟩
   ·rw[QW h1]at c
    have cx:((m:Int)==(H:Int))=false:=by simpa using (fun e:(m:Int)=(H:Int)=>by omega)
    have N:((m+1:Nat):Int)=(m:Int)+1:=by omega
    have af:Hid _:=(Fj w (some ⟨gT,0,none⟩) a (m+1) H wr B.out.t b2 (by omega) (by omega) a5.out);rw[N]at af
    go_upto_region 18 with (go_at_call 175;refine QU af.out ?_;rintro e S ⟨h2,rfl,z⟩)
    have k1:=z.kept;have bw:Hid _:=z.own.srcG NM;have n:Hid _:=ai.out.Vb k1;have i:Hid _:=n.out.kept;have u:Hid _:=K.out.trans i.out;have s:Hid _:=fz.Vb I.out i.out;have ag:Hid _:=(JV v d w (some ⟨gT,0,none⟩) a b M l R A.ao A.cap (eR w (m+1) H) h2.ao h2.cap (Ez (w.getD H jf)) S s.out a1.out n.out.own.srcN a2.out (by omega) bw.out (by have:=xg w a5.out (m+1) H;omega) (Mu w (m+1) H));have U:Hid (jQ w b d o H=j4 w b R (Ez (w.getD H jf)) (eR w (m+1) H)):=c.out.symm;generalize eR w (m+1) H=SP at *;clear r0 r1 r2 r3 r4 f0 f1 f2 f3 f4 P;clear c0 hb t0 t2 t3 t4 u0 u2 u3 u4 O z af;obtain⟨c0,-,hb⟩:=s.out.cells;obtain⟨bT,e3,O,-,-,t2,t3,t4⟩:=s.out.t.2 H _ (iw w H hz)
    cases e3
    generalize w.getD H jf=tm at *;obtain⟨ms,mr,E,F,D⟩:=tm;simp only at t2 t3 t4;unfold Ez at ag U;simp only at ag;generalize j4 w b R ⟨0,E,F,D⟩ SP=PF at *;obtain⟨Q,pw,pf,pl,pc⟩:=PF;have a4:Hid (Calls prog 176 #[.pointer (some ⟨v,0,none⟩),.slice A.ao R.length A.cap,.slice h2.ao SP.length h2.cap,.agg #[.string E,.int .i64 F,.int .i64 D]] S fun e w'=>∃A,e=.returned (.agg #[.slice A.ao Q.length A.cap,.int .i64 pw,.string pf,.int .i64 pl,.int .i64 pc])/\gw S w' A (eI Q)):=ag.out;go_wp2_with (go_at_call 176;refine QU a4.out ?_;rintro e w2 ⟨h3,rfl,G⟩;have ax:=J.out w2 (i.out.trans G.kept);obtain⟨⟨r0,r1,r2,r3,r4⟩,⟨f0,f1,f2,f3,f4⟩,P⟩:=qr ax);obtain⟨y0,y1,y2,y3,y4⟩:=fj ax (.slice h3.ao Q.length h3.cap) (.int .i64 pw) (.string pf) (.int .i64 pl) (.int .i64 pc);have C:Hid (∀q,h3.blk=some q->q≠T.heap.size):=fun q hq=>by have:=G.far q hq;have:=u.out.size;have:=ae (J.out S i.out);omega
    have bp:Hid _:=u.out.trans G.kept;exact QY (v:=.agg #[.slice h3.ao Q.length h3.cap,.int .i64 pw,.string pf,.int .i64 pl,.int .i64 pc]) (by simp[results,results127,go_sem,y0,y1,y2,y3,y4]) rfl (by rw[U.out];exact⟨h3,rfl,⟨((((G.own.Vk C.out _ _).Vk C.out _ _).Vk C.out _ _).Vk C.out _ _).Vk C.out _ _,fun q hq=>(by have:=G.far q hq;have:=u.out.size;omega),((((bp.out.setCell (QV (by simp)) _).setCell (QV (by simp)) _).setCell (QV (by simp)) _).setCell (QV (by simp)) _).setCell (QV (by simp)) _⟩⟩)
  ·have e:m=H:=by omega
   subst e;rw[RY,ve]at c;have U:Hid (jQ w b d o m=nr 3 (Ez (w.getD m jf))):=c.out.symm;generalize w.getD m jf=tm at *;obtain⟨ms,mr,E,F,D⟩:=tm;simp only at t2 t3 t4;go_wp2;obtain⟨x0,z,G,x3,x4⟩:=fj BR (.slice none 0 0) (.int .i64 3) (.string E) (.int .i64 F) (.int .i64 D);exact QY (v:=.agg #[.slice none 0 0,.int .i64 3,.string E,.int .i64 F,.int .i64 D]) (by simp[results,results127,go_sem,x0,z,G,x3,x4]) rfl (by rw[U.out];exact gO rfl rfl (((((br.out.setCell (QV (by simp)) _).setCell (QV (by simp)) _).setCell (QV (by simp)) _).setCell (QV (by simp)) _).setCell (QV (by simp)) _))
def m9(T:List Tk)(S:List Sm)(a zt:Nat):Nat->Nat->List dj->jS
 | 0,_,P=>if P.length=0 then nr 1 (Ez (T.getD zt jf)) else⟨P,0,⟨#[]⟩,0,0⟩
 | n+1,i,P =>
  if((tS T i).toList == [63])=true then m9 T S a zt n (i+1) (P++[⟨-1,0,0,(T.getD i jf).file,(T.getD i jf).line,(T.getD i jf).col⟩])
  else if eU T S a (tS T i)<0 then nr 2 (Ez (T.getD i jf))
  else m9 T S a zt n (i+1) (P++[⟨eU T S a (tS T i),0,iD T S (eU T S a (tS T i)),(T.getD i jf).file,(T.getD i jf).line,(T.getD i jf).col⟩])
def fU(T:List Tk)(S:List Sm)(a e zt:Nat):jS:=if((tS T (e+1)).toList == [40])=true then jQ T S a (e+2) zt else m9 T S a zt (zt-(e+1)) (e+1) []
structure Ol(w wr:World)(P:List dj)(h:Hd):Prop where
 r:wr.heap[w.heap.size]?=some (.cells #[.slice none 0 0,.int .i64 0,.string ⟨#[]⟩,.int .i64 0,.int .i64 0] 122 (0,0))
 p:wr.heap[w.heap.size+1]?=some (.cells #[.slice h.ao P.length h.cap,.int .i64 0,.string ⟨#[]⟩,.int .i64 0,.int .i64 0] 122 (0,0))
 op:aw wr h (eI P)
 fp:∀k,h.blk=some k->w.heap.size+1<k
 kept:ab [] w wr
theorem Ol.Vb(a:Ol x z7 N z0)(k:ab [] z7 yr):Ol x yr N z0:=⟨k.get a.r (by simp),k.get a.p (by simp),a.op.Vb k,a.fp,a.kept.trans k⟩
theorem Ol.addP{f:List dj}{b:Hd}(a:Ol x z7 N z0)(g:bt z7 yr z0 b)(o:aw yr b (eI f)){m:Nat}(i:m=f.length):Ol x (yr.setCell ⟨x.heap.size+1,0,none⟩ (.slice b.ao m b.cap)) f b:=by
 subst i;have l:∀q,q<=x.heap.size+1->q∉z0.blk.toList:=fun q c i=>by have:=a.fp q (aN i);omega
 have u:=ae a.p;have t:=g.kept.get a.r (l _ (by omega));have s:=g.kept.get a.p (l _ (by omega))
 have d:∀k,b.blk=some k->x.heap.size+1<k:=fun k h=>by
  rcases g.blk with e | ⟨q,e,c⟩
  ·exact a.fp k (by rw[<-e];exact h)
  ·rw[e]at h;cases h;omega
 have j:ab [x.heap.size+1] yr (yr.setCell ⟨x.heap.size+1,0,none⟩ (.slice b.ao f.length b.cap)):=(ab.refl _ _).setCell (Q1 (by simp)) _;have n:ab [] x yr:=pK g.kept (fun q c=>by have:=a.fp q (aN c);omega) a.kept;exact⟨j.get t (by simp),by rw[ah s];rfl,o.Vg (fun q c=>j.block q (o.lt c) (by simp;have:=d q c;omega)),d,n.setCell (QV (by simp)) _⟩
theorem DR(hD:fz T v w L a b M l)(ok:nK w b d)(hn:d<b.length)(hE:cU w (au b d).h)(hO:dC w)(bz:(au b d).h<=o)(ck:((tS w o).toList == [36,61])=true)(ba:∀q,(au b d).h<=q->q<o->((tS w q).toList == [36,61])=false)(b5:(au b d).z=H+1)(cl:o<H)(b4:H<w.length)(Y:((tS w H).toList == [36,46])=true) :
  Calls prog 88 #[.pointer (some ⟨v,0,none⟩),.int .i64 d] T fun en w'=>om T (fU w b d o H) en w':=by
 obtain⟨W,HW⟩:∃W,Hid (T.alloc (.cells #[.slice none 0 0,.int .i64 0,.string ⟨#[]⟩,.int .i64 0,.int .i64 0] 122)=W):=⟨_,rfl⟩
 have BW:W.heap[T.heap.size]?=some (.cells #[.slice none 0 0,.int .i64 0,.string ⟨#[]⟩,.int .i64 0,.int .i64 0] 122 (0,0)):=by rw[<-HW.out];exact QS _ _
 have ar:Hid (ab [] T W):=by show ab [] T W;rw[<-HW.out];exact(ab.refl [] _).alloc _
 have bw:W.heap.size=T.heap.size+1:=by rw[<-HW.out];simp
 have Q:Hid _:=hD.Vb ar.out;have ac:Hid _:=hD;have az:Hid _:=ok;have br:Hid _:=hO;have cj:=ok.tm;have ch:=ok.sm;have cz:(d:Int)<(b.length:Int):=by omega
 have HB:Hid _:=BW;have a5:Hid _:=ba;have bp:Hid _:=hE;obtain⟨iP,bd,al,an,ap⟩:=Re Lx;obtain⟨c0,c1,hb⟩:=Q.out.cells;obtain⟨gS,rfl,bT,-,q1,q2,-⟩:=Q.out.s.2 d b[d] (QP hn);rw[bM b d hn]at q1 q2;rw[b5]at q1;obtain⟨gT,rfl,A,-⟩:=Q.out.t.2 o _ (iw w o (by omega));obtain⟨hd,a7⟩:∃hd,Hid ((au b d).h=hd):=⟨_,rfl⟩
 rw[a7.out]at q2 bz a5;clear hD ok hO ba hE a7;have bx:((H+1:Nat):Int)=(H:Int)+1:=by omega
 rw[bx]at q1;go_enter func88,ntmps88
 go_upto_region 1 with fail
 rw[HW.out];go_wp2
 go_loopg [5] (o-hd) (fun g i wr=>∃k:Nat,(hd<=k/\k<=o)/\g=o-k/\i=.int .i64 k/\wr=W)
 case atStart=>exact⟨hd,⟨by omega,by omega⟩,rfl,rfl,rfl⟩
 case round =>
  obtain⟨k,⟨b0,cq⟩,hg,rfl,rfl⟩:=hrel;have cs:(k:Int)<(w.length:Int):=by omega
  obtain⟨ca,e2,-,t0,-⟩:=Q.out.t.2 k _ (iw w k (by omega))
  cases e2
  replace t0:wr.cell? ⟨gT,k*5,none⟩=some (.string (tS w k)):=t0
  by_cases b1:k<o
  ·have hx:=a5.out k b0 b1
   generalize tS w k=x at *;go_wp2
   go_roundg (o-(k+1))
   case measure=>omega
   case rel=>exact⟨k+1,⟨by omega,by omega⟩,rfl,by go_num,rfl⟩
  ·have ek:k=o:=by omega
   subst ek;obtain⟨cb,e3,-,J,-⟩:=Q.out.t.2 (k+1) _ (iw w (k+1) (by omega))
   cases e3
   replace J:wr.cell? ⟨gT,(k+1)*5,none⟩=some (.string (tS w (k+1))):=J;have b6:(k:Int)+1<(w.length:Int):=by omega
   have a6:Hid (((tS w (k+1)).toList == [40])=true->Calls prog 127 #[.pointer (some ⟨v,0,none⟩),.int .i64 d,.int .i64 ((k:Int)+1+1),.int .i64 H] wr fun en w'=>om wr (jQ w b d (k+2) H) en w'):=fun h=>by
    have cy:k+1≠H:=fun o=>by
     rw[<-o]at Y;have a1:(tS w (k+1)).toList=[40]:=by simpa using h
     rw[a1]at Y;exact absurd Y (by decide)
    have:=EM v d (k+2) H w _ a b _ l wr Q.out az.out hn bp.out br.out (by omega) b4;rw[show((k+2:Nat):Int)=(k:Int)+1+1 by omega]at this;exact this
   have S:Hid (fU w b d k H=if((tS w (k+1)).toList == [40])=true then jQ w b d (k+2) H else m9 w b d H (H-(k+1)) (k+1) []):=rfl;obtain⟨x,Hx⟩:∃x,Hid (tS w (k+1)=x):=⟨_,rfl⟩
   rw[Hx.out]at J a6 S;generalize tS w k=y at *
   cases hx:(x.toList == [40])
   ·rw[QT (by rw[hx];simp)]at S
    have S0:Hid (Ol T (wr.alloc (.cells #[.slice none 0 0,.int .i64 0,.string ⟨#[]⟩,.int .i64 0,.int .i64 0] 122)) [] ⟨none,0⟩):=⟨((ab.refl [] _).alloc _).get HB.out (by simp),by rw[<-bw];exact QS _ _,QZ _ _ _ _,(by intro k hk;cases hk),ar.out.alloc _⟩;have bk:Hid (m9 w b d H (H-(k+1)) (k+1) []=fU w b d k H):=S.out.symm;go_wp2
    go_loopg [8] (H-(k+1)) (fun g i w1=>∃(m:Nat) (h:Hd) (P:List dj),(k+1<=m/\m<=H)/\g=H-m/\i=.int .i64 m/\P.length<=m/\Hid (m9 w b d H (H-m) m P=fU w b d k H)/\Hid (Ol T w1 P h))
    case atStart=>exact⟨k+1,⟨none,0⟩,[],⟨by omega,by omega⟩,rfl,by go_num,Ro _,bk,S0⟩
    case round =>
     obtain⟨m,h,P,⟨cu,cx⟩,co,rfl,cf,e,n⟩:=hrel;have ax:Hid _:=n.out.kept;have ad:Hid _:=fz.Vb ac.out ax.out;clear c0 c1 hb q1 q2 bT A t0 J;obtain⟨c0,-,hb⟩:=ad.out.cells
     by_cases ct:m<H
     ·have b2:(m:Int)<(H:Int):=by omega
      have be:(m:Int)<(w.length:Int):=by omega
      obtain⟨cc,e4,A,J,-⟩:=ad.out.t.2 m _ (iw w m (by omega))
      cases e4
      replace J:wr.cell? ⟨gT,m*5,none⟩=some (.string (tS w m)):=J;obtain⟨f,hf⟩:∃f,H-m=f+1:=⟨H-m-1,by omega⟩
      have bc:H-(m+1)=f:=by omega
      rw[hf,m9]at e;have aT:Hid (Calls prog 128 #[.pointer (some ⟨v,0,none⟩),.int .i64 d,.string (tS w m)] wr fun o w'=>o=.returned (.int .i64 (eU w b d (tS w m)))/\ab [] wr w'):=xr v d (tS w m) w _ a b _ l wr ad.out az.out;have C:=p9 w b d (tS w m);obtain⟨a3,Hv⟩:∃a3,Hid (tS w m=a3):=⟨_,rfl⟩
      rw[Hv.out]at J e aT C
      go_upto_region 13 with (go_at_call 128;refine QU aT.out ?_;rintro o w1 ⟨rfl,k1⟩)
      have K:Hid _:=n.out.Vb k1;have ai:Hid _:=K.out.kept;have U:Hid _:=fz.Vb ac.out ai.out;have O:=K.out.r;clear k1 c0 hb J A aT;obtain⟨c0,-,hb⟩:=U.out.cells;obtain⟨bs,e5,A,J,-,u2,u3,u4⟩:=U.out.t.2 m _ (iw w m (by omega))
      cases e5
      replace J:w1.cell? ⟨gT,m*5,none⟩=some (.string (tS w m)):=J;rw[Hv.out]at J
      cases N:(a3.toList == [63])
      ·rw[QT (by rw[N];simp)]at e
       rcases C with C | ⟨j,hj,C⟩
       ·rw[C,QW (by omega)]at e
        rw[C];have HX:Hid (fU w b d k H=nr 2 (Ez (w.getD m jf))):=e.out.symm;generalize w.getD m jf=tm at *;obtain⟨ms,mr,E,F,D⟩:=tm;simp only at u2 u3 u4;obtain⟨⟨r0,r1,r2,r3,r4⟩,⟨f0,f1,f2,f3,f4⟩,bf⟩:=qr O;go_wp2;obtain⟨x0,x1,Z,x3,x4⟩:=fj O (.slice none 0 0) (.int .i64 2) (.string E) (.int .i64 F) (.int .i64 D);exact QY (v:=.agg #[.slice none 0 0,.int .i64 2,.string E,.int .i64 F,.int .i64 D]) (by simp[results,results88,go_sem,x0,x1,Z,x3,x4]) rfl (by rw[HX.out];exact gO rfl rfl (((((ai.out.setCell (QV (by simp)) _).setCell (QV (by simp)) _).setCell (QV (by simp)) _).setCell (QV (by simp)) _).setCell (QV (by simp)) _))
       ·rw[C,QT (by omega)]at e
        rw[C];have cp:¬(j:Int)<0:=by omega
        have R:Hid _:=yR v d j w _ a b _ l w1 U.out az.out hj;generalize iD w b (j:Int)=nd at *
        go_upto_region 18 with (go_at_call 129;refine QU R.out ?_;rintro o w2 ⟨rfl,k2⟩)
        have c:Hid _:=K.out.Vb k2;have B:Hid _:=fz.Vb ac.out c.out.kept;clear c0 hb J u2 u3 u4 A k2 R;obtain⟨c0,-,hb⟩:=B.out.cells;obtain⟨bv,e6,A,-,-,u2,u3,u4⟩:=B.out.t.2 m _ (iw w m (by omega))
        cases e6
        generalize w.getD m jf=tm at *;obtain⟨ms,mr,E,F,D⟩:=tm;simp only at u2 u3 u4;have p0:w2.cell? ⟨T.heap.size+1,0,none⟩=some (.slice h.ao P.length h.cap):=by rw[aa c.out.p];rfl
        have p1:=am c.out.p 0;have p2:=ae c.out.p;have X:=c.out.op;have a2:Hid ((eI P).n<=900000000):=by show P.length<=_;omega
        have aS:Hid ((eI P).n=P.length):=rfl
        go_region_law (refine bH w2 rfl (.tmp 97) (.tmp 109) 120 rfl iP (.agg #[.int .i64 0,.int .i64 0,.int .i64 0,.string ⟨#[]⟩,.int .i64 0,.int .i64 0]) 56 h (eI P) [.int .i64 (j:Int),.int .i64 0,.int .i64 (nd:Int),.string E,.int .i64 F,.int .i64 D] underlying120 bd al an ap rfl (show 0<6 by omega) (by rw[aS.out];simp[Act.eval]) X a2.out (by omega) (by simp[Act.eval]) rfl (tB (⟨(j:Int),0,nd,E,F,D⟩:dj)) ?_;intro a0 V w5 I G;have p5:=G.kept.get c.out.p (fun N=>by have:=c.out.fp _ (aN N);omega);have f5:=am p5 0;have c5:w5.cell? ⟨T.heap.size+1,0,none⟩=some (.slice h.ao P.length h.cap):=(by rw[aa p5];rfl);have z5:=ae p5)
        all_goals
         rw[show([.int .i64 (j:Int),.int .i64 0,.int .i64 (nd:Int),.string E,.int .i64 F,.int .i64 D]:List Value)=kV (⟨(j:Int),0,nd,E,F,D⟩:dj) from rfl,mK]at I;have HA:Hid _:=(c.out.addP (m:=(eI P).n+1) G I (by simp[eI,kU]));clear I G p5 f5 c5 z5;go_wp2
         go_roundg (H-(m+1))
         case measure=>omega
         case rel=>exact⟨m+1,⟨a0,V⟩,P++[(⟨(j:Int),0,nd,E,F,D⟩:dj)],⟨by omega,by omega⟩,rfl,by go_num,by simp;omega,by rw[bc];exact e,HA⟩
      ·rw[QW N]at e
       have R:Hid _:=IW (.pointer (some ⟨v,0,none⟩)) w b w1;have bj:Hid (iD w b (-1)=0):=rfl;rw[bj.out]at R
       go_upto_region 18 with (go_at_call 129;refine QU R.out ?_;rintro o w2 ⟨rfl,k2⟩)
       have c:Hid _:=K.out.Vb k2;have B:Hid _:=fz.Vb ac.out c.out.kept;clear c0 hb J u2 u3 u4 A k2 R;obtain⟨c0,-,hb⟩:=B.out.cells;obtain⟨bv,e6,A,-,-,u2,u3,u4⟩:=B.out.t.2 m _ (iw w m (by omega))
       cases e6
       generalize w.getD m jf=tm at *;obtain⟨ms,mr,E,F,D⟩:=tm;simp only at u2 u3 u4;have p0:w2.cell? ⟨T.heap.size+1,0,none⟩=some (.slice h.ao P.length h.cap):=by rw[aa c.out.p];rfl
       have p1:=am c.out.p 0;have p2:=ae c.out.p;have X:=c.out.op;have a2:Hid ((eI P).n<=900000000):=by show P.length<=_;omega
       have aS:Hid ((eI P).n=P.length):=rfl
       go_region_law (refine bH w2 rfl (.tmp 97) (.tmp 109) 120 rfl iP (.agg #[.int .i64 0,.int .i64 0,.int .i64 0,.string ⟨#[]⟩,.int .i64 0,.int .i64 0]) 56 h (eI P) [.int .i64 (-1),.int .i64 0,.int .i64 0,.string E,.int .i64 F,.int .i64 D] underlying120 bd al an ap rfl (show 0<6 by omega) (by rw[aS.out];simp[Act.eval]) X a2.out (by omega) (by simp[Act.eval]) rfl (tB (⟨(-1),0,0,E,F,D⟩:dj)) ?_;intro a0 V w5 I G;have p5:=G.kept.get c.out.p (fun N=>by have:=c.out.fp _ (aN N);omega);have f5:=am p5 0;have c5:w5.cell? ⟨T.heap.size+1,0,none⟩=some (.slice h.ao P.length h.cap):=(by rw[aa p5];rfl);have z5:=ae p5)
       all_goals
        rw[show([.int .i64 (-1),.int .i64 0,.int .i64 0,.string E,.int .i64 F,.int .i64 D]:List Value)=kV (⟨(-1),0,0,E,F,D⟩:dj) from rfl,mK]at I;have HA:Hid _:=(c.out.addP (m:=(eI P).n+1) G I (by simp[eI,kU]));clear I G p5 f5 c5 z5;go_wp2
        go_roundg (H-(m+1))
        case measure=>omega
        case rel=>exact⟨m+1,⟨a0,V⟩,P++[(⟨(-1),0,0,E,F,D⟩:dj)],⟨by omega,by omega⟩,rfl,by go_num,by simp;omega,by rw[bc];exact e,HA⟩
     ·have em:m=H:=by omega
      subst em;rw[RY,m9]at e;have b2:¬(m:Int)<(m:Int):=by omega
      have be:(m:Int)<(w.length:Int):=by omega
      obtain⟨bs,e5,A,-,-,u2,u3,u4⟩:=ad.out.t.2 m _ (iw w m (by omega))
      cases e5
      have O:=n.out.r;obtain⟨⟨r0,r1,r2,r3,r4⟩,⟨f0,f1,f2,f3,f4⟩,bf⟩:=qr O;have p0:wr.cell? ⟨T.heap.size+1,0,none⟩=some (.slice h.ao P.length h.cap):=by rw[aa n.out.p];rfl
      have p1:wr.cell? ⟨T.heap.size+1,1,none⟩=some (.int .i64 0):=by rw[aa n.out.p];rfl
      have p2:wr.cell? ⟨T.heap.size+1,2,none⟩=some (.string ⟨#[]⟩):=by rw[aa n.out.p];rfl
      have p3:wr.cell? ⟨T.heap.size+1,3,none⟩=some (.int .i64 0):=by rw[aa n.out.p];rfl
      have p4:wr.cell? ⟨T.heap.size+1,4,none⟩=some (.int .i64 0):=by rw[aa n.out.p];rfl
      have p5:=ae n.out.p
      by_cases af:P.length=0
      ·rw[QW af]at e
       have HX:Hid (fU w b d k m=nr 1 (Ez (w.getD m jf))):=e.out.symm;have b3:((P.length:Int)==0)=true:=by simpa using af
       generalize w.getD m jf=tm at *;obtain⟨ms,mr,E,F,D⟩:=tm;simp only at u2 u3 u4;go_wp2;obtain⟨x0,x1,Z,x3,x4⟩:=fj O (.slice none 0 0) (.int .i64 1) (.string E) (.int .i64 F) (.int .i64 D);exact QY (v:=.agg #[.slice none 0 0,.int .i64 1,.string E,.int .i64 F,.int .i64 D]) (by simp[results,results88,go_sem,x0,x1,Z,x3,x4]) rfl (by rw[HX.out];exact gO rfl rfl (((((ax.out.setCell (QV (by simp)) _).setCell (QV (by simp)) _).setCell (QV (by simp)) _).setCell (QV (by simp)) _).setCell (QV (by simp)) _))
      ·rw[QT af]at e
       have HX:Hid (fU w b d k m=⟨P,0,⟨#[]⟩,0,0⟩):=e.out.symm;have b3:((P.length:Int)==0)=false:=by simpa using af
       have u:Hid (∀q,h.blk=some q->q≠T.heap.size):=fun q N=>by have:=n.out.fp q N;omega
       go_wp2;obtain⟨x0,x1,Z,x3,x4⟩:=fj O (.slice h.ao P.length h.cap) (.int .i64 0) (.string ⟨#[]⟩) (.int .i64 0) (.int .i64 0);exact QY (v:=.agg #[.slice h.ao P.length h.cap,.int .i64 0,.string ⟨#[]⟩,.int .i64 0,.int .i64 0]) (by simp[results,results88,go_sem,x0,x1,Z,x3,x4]) rfl (by rw[HX.out];exact⟨h,rfl,⟨((((n.out.op.Vk u.out _ _).Vk u.out _ _).Vk u.out _ _).Vk u.out _ _).Vk u.out _ _,fun q N=>(by have:=n.out.fp q N;omega),((((ax.out.setCell (QV (by simp)) _).setCell (QV (by simp)) _).setCell (QV (by simp)) _).setCell (QV (by simp)) _).setCell (QV (by simp)) _⟩⟩)
   ·rw[QW hx]at S
    have bl:Hid _:=a6.out hx;generalize jQ w b d (k+2) H=PF at *;obtain⟨ag,pw,pf,pl,pc⟩:=PF;have bo:Hid (Calls prog 127 #[.pointer (some ⟨v,0,none⟩),.int .i64 d,.int .i64 ((k:Int)+1+1),.int .i64 H] wr fun en w'=>∃h',en=.returned (.agg #[.slice h'.ao ag.length h'.cap,.int .i64 pw,.string pf,.int .i64 pl,.int .i64 pc])/\gw wr w' h' (eI ag)):=bl.out;go_wp2_with (go_at_call 127;refine QU bo.out ?_;rintro en w2 ⟨h3,rfl,Z⟩;have a4:=Z.kept.get HB.out (by simp);obtain⟨⟨r0,r1,r2,r3,r4⟩,⟨f0,f1,f2,f3,f4⟩,bf⟩:=qr a4);obtain⟨y0,y1,y2,y3,y4⟩:=fj a4 (.slice h3.ao ag.length h3.cap) (.int .i64 pw) (.string pf) (.int .i64 pl) (.int .i64 pc);have u:Hid (∀q,h3.blk=some q->q≠T.heap.size):=fun q N=>by have:=Z.far q N;omega
    have bg:Hid _:=ar.out.trans Z.kept;exact QY (v:=.agg #[.slice h3.ao ag.length h3.cap,.int .i64 pw,.string pf,.int .i64 pl,.int .i64 pc]) (by simp[results,results88,go_sem,y0,y1,y2,y3,y4]) rfl (by rw[S.out];exact⟨h3,rfl,⟨((((Z.own.Vk u.out _ _).Vk u.out _ _).Vk u.out _ _).Vk u.out _ _).Vk u.out _ _,fun q N=>(by have:=Z.far q N;omega),((((bg.out.setCell (QV (by simp)) _).setCell (QV (by simp)) _).setCell (QV (by simp)) _).setCell (QV (by simp)) _).setCell (QV (by simp)) _⟩⟩)
def Ql:dj:=⟨0,0,0,⟨#[]⟩,0,0⟩
def bO(P:List dj)(i:Nat):dj:=P.getD i Ql
theorem GO(h:l<n.length):n[l]?=some (bO n l):=by
 unfold bO;rw[QQ,QP h];rfl
def xJ(P:List dj)(i:Nat):Bool:=((bO P i).ref == -1)
def ic(P:List dj):Int:=match (List.range P.length).find? (xJ P) with
 | some i=>i
 | none=>-1
theorem Iv(c:i<N.length)(h:xJ N i=true)(a:∀j,j<i->xJ N j=false):ic N=i:=by
 have e:(List.range N.length).find? (xJ N)=some i:=by
  rw[Sj];exact⟨h,Ra.2 c,fun j b=>by rw[a j b];rfl⟩
 unfold ic;rw[e]
theorem Ln(a:∀j,j<N.length->xJ N j=false):ic N=-1:=by
 have e:(List.range N.length).find? (xJ N)=none:=by
  rw[Sk];intro j b;rw[a j (Ra.1 b)];simp
 unfold ic;rw[e]
theorem Ei:(ic n=-1/\∀j,j<n.length->(bO n j).ref≠-1)∨∃k,k<n.length/\ic n=(k:Int):=by
 unfold ic
 cases h:(List.range n.length).find? (xJ n) with
 | none =>
  refine Q1 ⟨rfl,fun j a e=>?_⟩;rw[Sk]at h;exact h j (Ra.2 a) (by unfold xJ;rw[e];rfl)
 | some i=>exact QV ⟨i,Ra.1 (Rz h),rfl⟩
theorem cm.step(h:cm x yd 6 kV N)(k:Nat)(b:k<N.length):∃g,yd=some ⟨g,0,none⟩/\g<x.heap.size/\x.cell? ⟨g,k*6,none⟩=some (.int .i64 (bO N k).ref)/\x.cell? ⟨g,k*6+1,none⟩=some (.int .i64 ((bO N k).back:Nat))/\x.cell? ⟨g,k*6+2,none⟩=some (.int .i64 ((bO N k).need:Nat)) /\
  x.cell? ⟨g,k*6+3,none⟩=some (.string (bO N k).file)/\x.cell? ⟨g,k*6+4,none⟩=some (.int .i64 (bO N k).line)/\x.cell? ⟨g,k*6+5,none⟩=some (.int .i64 (bO N k).col):=by
 obtain⟨g,e,a,c⟩:=h k _ (GO N k b);exact⟨g,e,a,c 0 _ rfl,c 1 _ rfl,c 2 _ rfl,c 3 _ rfl,c 4 _ rfl,c 5 _ rfl⟩
theorem Is(p:cm T L 6 kV n)(y:n.length<=100000000) :
  Calls prog 130 #[.agg #[.slice L n.length a,.int .i64 y5,.string zb,.int .i64 y6,.int .i64 y7]] T fun e v=>e=.returned (.int .i64 (ic n))/\ab [] T v:=by
 obtain⟨W,h⟩:∃W,Hid (T.alloc (.cells #[.slice L n.length a,.int .i64 y5,.string zb,.int .i64 y6,.int .i64 y7] 122)=W):=⟨_,rfl⟩
 have m:W.heap[T.heap.size]?=some (.cells #[.slice L n.length a,.int .i64 y5,.string zb,.int .i64 y6,.int .i64 y7] 122 (0,0)):=by rw[<-h.out];exact QS _ _
 have b:Hid (ab [] T W):=by show ab [] T W;rw[<-h.out];exact(ab.refl [] _).alloc _
 have s:Hid _:=p.Vb b.out;have A:W.cell? ⟨T.heap.size,0,none⟩=some (.slice L n.length a):=by rw[aa m];rfl
 have z:=ae m;clear p;go_enter func130,ntmps130
 go_upto_region 1 with fail
 rw[h.out];go_wp2
 go_loopg [3] n.length (fun g i wr=>∃k:Nat,k<=n.length/\g=n.length-k/\i=.int .i64 k/\Hid (∀j,j<k->xJ n j=false)/\wr=W)
 case atStart=>exact⟨0,by omega,rfl,rfl,(fun j u=>by omega),rfl⟩
 case round =>
  obtain⟨k,x,w,rfl,f,rfl⟩:=hrel
  by_cases d:k<n.length
  ·have l:(k:Int)<(n.length:Int):=by omega
   obtain⟨g,rfl,t,B,-⟩:=cm.step s.out k d;have o:Hid (xJ n k=((bO n k).ref == -1)):=rfl;generalize (bO n k).ref=r at *
   cases q:(r == -1)
   ·have c:Hid _:=dU f.out (by rw[o.out,q])
    go_wp2
    go_roundg (n.length-(k+1))
    case measure=>omega
    case rel=>exact⟨k+1,by omega,rfl,by go_num,c,rfl⟩
   ·have c:Hid (ic n=k):=Iv d (by rw[o.out,q]) f.out
    go_wp2;go_ret;exact⟨QN c.out.symm,b.out⟩
  ·have c:Hid (ic n=-1):=Ln (fun j u=>f.out j (by omega))
   have l:¬(k:Int)<(n.length:Int):=by omega
   go_wp2;go_ret;exact⟨QN c.out.symm,b.out⟩
def qI(rec:Nat->Int):Nat->Nat->Int
 | 0,b=>b
 | k+1,b=>if b=0 then -1 else if rec (b-1)<0 then -1 else qI rec k (rec (b-1)).toNat
def zH(P:List dj):Nat->Nat->Int
 | 0,_=>0
 | f+1,i=>qI (zH P f) (bO P i).need i
theorem Ng(a:∀i,ya i<=(i:Int))(k:Nat):∀b,qI ya k b<=(b:Int):=by
 induction k with
 | zero=>intro b;exact TJ _
 | succ k c =>
  intro b;rw[qI]
  split
  ·omega
  ·split
   ·omega
   ·have d:=c (ya (b-1)).toNat
    have e:=a (b-1);omega
theorem zI(f:Nat):∀i,zH n f i<=(i:Int):=by
 induction f with
 | zero=>intro i;show(0:Int)<=i;omega
 | succ f a=>intro i;rw[zH];exact Ng a _ _
theorem vJ{c:Nat->Int}(d:∀i,ya i<=(i:Int))(k:Nat):∀b,(∀i,i<b->ya i=c i)->qI ya k b=qI c k b:=by
 induction k with
 | zero=>intro b _;rfl
 | succ k e =>
  intro b h;rw[qI,qI]
  by_cases a:b=0
  ·rw[QW a,QW a]
  ·rw[QT a,QT a,<-h (b-1) (by omega)]
   split
   ·rfl
   ·next f =>
    have:=d (b-1);exact e _ (fun i g=>h i (by omega))
theorem Ha:∀f g i,i<f->i<g->zH n f i=zH n g i:=by
 intro f
 induction f with
 | zero=>intro g i h;omega
 | succ f a =>
  intro g i b c
  cases g with
  | zero=>omega
  | succ g =>
   rw[zH,zH];exact vJ (zI n f) _ _ (fun j d=>a g j (by omega) (by omega))
def dS(P:List dj)(i:Nat):Int:=zH P (i+1) i
theorem vM:dS n l=qI (dS n) (bO n l).need l:=by
 unfold dS;rw[zH];exact vJ (zI n l) _ _ (fun j a=>Ha n l (j+1) j a (by omega))
theorem vN:dS n l<=(l:Int):=zI n _ l
def M0(P:List dj):Prop:=∀i,(bO P i).need<=100000
theorem tJ(hl:n.length<=100000000)(K:M0 n)(f:Nat):∀(i:Nat) (w:World),i<f->i<n.length->cm w L 6 kV n ->
  Calls prog 132 #[.agg #[.slice L n.length a,.int .i64 y5,.string zb,.int .i64 y6,.int .i64 y7],.int .i64 i] w fun e w'=>e=.returned (.int .i64 (dS n i))/\ab [] w w':=by
 induction f with
 | zero=>intro i w h;omega
 | succ f H =>
  intro i w O N F;have y:Hid _:=H;clear H;obtain⟨W,z⟩:∃W,Hid (w.alloc (.cells #[.slice L n.length a,.int .i64 y5,.string zb,.int .i64 y6,.int .i64 y7] 122)=W):=⟨_,rfl⟩
  have v:W.heap[w.heap.size]?=some (.cells #[.slice L n.length a,.int .i64 y5,.string zb,.int .i64 y6,.int .i64 y7] 122 (0,0)):=by rw[<-z.out];exact QS _ _
  have p:Hid (ab [] w W):=by show ab [] w W;rw[<-z.out];exact(ab.refl [] _).alloc _
  have E:Hid _:=F.Vb p.out;have p0:W.cell? ⟨w.heap.size,0,none⟩=some (.slice L n.length a):=by rw[aa v];rfl
  have hz:=ae v;have P:(i:Int)<(n.length:Int):=by omega
  obtain⟨g,rfl,B,-,-,Z,-⟩:=cm.step E.out i N;have I:Hid _:=v;have x:Hid _:=vM n i;have U:=K i;generalize (bO n i).need=j at *;generalize dS n i=R at *;clear F v;go_enter func132,ntmps132
  go_upto_region 1 with fail
  rw[z.out];go_wp2;clear Z B
  go_loopg [6,7] j (fun m J Y wr=>∃(k b:Nat),k<=j/\m=j-k/\J=.int .i64 b/\Y=.int .i64 k/\b<=i/\Hid (R=qI (dS n) (j-k) b)/\Hid (ab [] W wr))
  case atStart=>exact⟨0,i,by omega,rfl,rfl,rfl,by omega,x,ab.refl _ _⟩
  case round =>
   obtain⟨k,b,hk,hm,rfl,rfl,hb,c,t⟩:=hrel
   by_cases T:k<j
   ·have Q:(k:Int)<(j:Int):=by omega
    obtain⟨d,M⟩:∃d,j-k=d+1:=⟨j-k-1,by omega⟩
    have A:j-(k+1)=d:=by omega
    rw[M,qI]at c;have l:Hid _:=p.out.trans t.out
    cases b with
    | zero =>
     rw[QW rfl]at c;go_wp2;go_ret;exact⟨QN c.out.symm,l.out⟩
    | succ q =>
     rw[QT (by omega),SD]at c;have s:=t.out.get I.out (by simp);have r0:wr.cell? ⟨w.heap.size,0,none⟩=some (.slice (some ⟨g,0,none⟩) n.length a):=by rw[aa s];rfl
     have r1:wr.cell? ⟨w.heap.size,1,none⟩=some (.int .i64 y5):=by rw[aa s];rfl
     have r2:wr.cell? ⟨w.heap.size,2,none⟩=some (.string zb):=by rw[aa s];rfl
     have r3:wr.cell? ⟨w.heap.size,3,none⟩=some (.int .i64 y6):=by rw[aa s];rfl
     have r4:wr.cell? ⟨w.heap.size,4,none⟩=some (.int .i64 y7):=by rw[aa s];rfl
     have X:=ae s;have D:Hid _:=(y.out q wr (by omega) (by omega) (cm.Vb E.out t.out));have S:=vN n q;have V:((q:Int)+1==0)=false:=by simp;omega
     generalize dS n q=r at *
     by_cases G:r<0
     ·rw[QW G]at c
      go_wp2_with (go_at_call 132;refine QU D.out ?_;rintro e w1 ⟨rfl,u⟩;have o:Hid _:=l.out.trans u;clear u);go_ret;exact⟨QN c.out.symm,o.out⟩
     ·rw[QT G]at c
      obtain⟨C,rfl⟩:∃C:Nat,r=C:=⟨r.toNat,by omega⟩
      rw[Sa,<-A]at c;go_wp2_with (go_at_call 132;refine QU D.out ?_;rintro e w1 ⟨rfl,u⟩;have o:Hid _:=t.out.trans u;clear u)
      go_roundg (j-(k+1))
      case measure=>omega
      case rel=>exact⟨k+1,C,by omega,rfl,rfl,by go_num,by omega,c,o⟩
   ·have e:k=j:=by omega
    subst e;rw[RY,qI]at c;have l:Hid _:=p.out.trans t.out;go_wp2;go_ret;exact⟨QN c.out.symm,l.out⟩
def Mr(A B:List ByteArray)(i:Nat):Bool:=((A.getD i ⟨#[]⟩).toList==(B.getD i ⟨#[]⟩).toList)
def oc(A B:List ByteArray):Bool:=(A.length==B.length)&&(List.range A.length).all (Mr A B)
theorem mm(h:l<y.length):y[l]?=some (y.getD l ⟨#[]⟩):=by
 rw[QQ,QP h];rfl
theorem C0(u:ge T y8 I)(v:ge T L D)(E:I.length<=1000000000) :
  Calls prog 133 #[.slice y8 I.length a,.slice L D.length l] T fun e G=>e=.returned (.bool (oc I D))/\ab [] T G:=by
 have y:Hid _:=u;have A:Hid _:=v;clear u v
 by_cases d:I.length=D.length
 ·have p:Hid (oc I D=(List.range I.length).all (Mr I D)):=by show _=_;unfold oc;rw[d];simp
  obtain⟨b,c⟩:∃b,Hid (I.length=b):=⟨_,rfl⟩
  have n:Hid (D.length=b):=by show _=_;rw[<-d];exact c.out
  rw[c.out,n.out];rw[c.out]at E p;clear d;go_enter func133,ntmps133;go_wp2
  go_loopg [5] b (fun g i wr=>∃k:Nat,k<=b/\g=b-k/\i=.int .i64 k/\Hid (∀j,j<k->Mr I D j=true)/\Hid (ab [] T wr))
  case atStart=>exact⟨0,by omega,rfl,rfl,(fun j q=>by omega),ab.refl _ _⟩
  case round =>
   obtain⟨k,M,K,rfl,s,o⟩:=hrel
   by_cases h:k<b
   ·have r:(k:Int)<(b:Int):=by omega
    obtain⟨H,rfl,B,N⟩:=(ge.Vb y.out o.out) k _ (mm I k (by rw[c.out];exact h));obtain⟨J,rfl,C,O⟩:=(ge.Vb A.out o.out) k _ (mm D k (by rw[n.out];exact h));have t:Hid (Mr I D k=((I.getD k ⟨#[]⟩).toList==(D.getD k ⟨#[]⟩).toList)):=rfl;generalize I.getD k ⟨#[]⟩=x at *;generalize D.getD k ⟨#[]⟩=z at *;have m:Hid _:=o.out.drew
    cases w:(x.toList==z.toList)
    ·have f:Hid (oc I D=false):=by
      show _=_
      rw[p.out,Ue];exact⟨k,Ra.2 h,by rw[t.out,w];simp⟩
     go_upto_region 6 with fail
     go_region
     all_goals
      go_wp2;go_ret;exact⟨aD f.out.symm,m.out⟩
    ·have f:Hid (∀j,j<k+1->Mr I D j=true):=fun j q=>by
      by_cases e:j=k
      ·rw[e,t.out,w]
      ·exact s.out j (by omega)
     go_upto_region 6 with fail
     go_region
     all_goals
      go_wp2
      go_roundg (b-(k+1))
      case measure=>omega
      case rel=>exact⟨k+1,by omega,rfl,by go_num,f,m⟩
   ·have f:Hid (oc I D=true):=by
     show _=_
     rw[p.out,Sn];exact fun j q=>s.out j (by have:=Ra.1 q;omega)
    have r:¬(k:Int)<(b:Int):=by omega
    go_wp2;go_ret;exact⟨aD f.out.symm,o.out⟩
 ·have f:Hid (oc I D=false):=by show _=_;unfold oc;simp[d]
  have F:((I.length:Int)==(D.length:Int))=false:=UV (by omega);go_enter func133,ntmps133;go_wp2;go_ret;exact⟨aD f.out.symm,ab.refl _ _⟩
def xc(rec:Nat->Int):Nat->Nat->List Nat->List Nat
 | 0,_,acc=>acc
 | m+1,b,acc=>xc rec m (rec (b-1)).toNat ((b-1) :: acc)
def mJ(P:List dj)(i:Nat):List Nat:=xc (dS P) (bO P i).need i []
theorem Mp(c:Nat->Int)(m:Nat):∀b a,(xc c m b a).length=m+a.length:=by
 induction m with
 | zero=>intro b a;simp[xc]
 | succ m d=>intro b a;rw[xc,d];simp;omega
theorem Jy:(mJ n l).length=(bO n l).need:=by unfold mJ;rw[Mp];simp
theorem N7(j:∀i,ya i<=(i:Int))(m:Nat):∀b a i,b<=i->0<=qI ya m b->(∀q∈a,q<i)->∀q∈xc ya m b a,q<i:=by
 induction m with
 | zero=>intro b a i _ _ h;exact h
 | succ m k =>
  intro b a i l c h q d;rw[qI]at c;rw[xc]at d
  by_cases g:b=0
  ·rw[QW g]at c;omega
  ·rw[QT g]at c
   by_cases f:ya (b-1)<0
   ·rw[QW f]at c;omega
   ·rw[QT f]at c
    have:=j (b-1);refine k _ _ i (by omega) c (fun q d=>?_) q d
    rcases Rj.1 d with e | e
    ·omega
    ·exact h q e
theorem Mj(h:0<=dS n l):∀q∈mJ n l,q<l:=by
 rw[vM]at h;exact N7 (vN n) _ _ _ l (QR _) h (fun q a=>by cases a)
theorem N3(m x:Nat)(L:List Nat):(jX (List.replicate (m+1) 0++L)).set m (.int .i64 x)=jX (List.replicate m 0++x :: L):=by
 unfold jX
 induction m with
 | zero=>simp
 | succ m a=>rw[TY,Ti,Tp,SB,a];simp[List.replicate_succ]
theorem IN:madeCells (Value.int .i64 0).cells (l*1)=(jX (List.replicate l 0)).toArray:=by
 rw[UZ]
 apply Array.ext
 ·rw[Su];simp[jX]
 ·intro i a b
  have e:(Value.int .i64 0).cells=#[.int .i64 0]:=rfl;simp[madeCells,e,Nat.mod_one,jX]
def nG(w:World)(g:Nat)(L:List Nat):Prop:=w.heap[g]?=some (.cells (jX L).toArray 3 (0,0))
theorem nG.src(h:nG x i y9):qD x (some ⟨i,0,none⟩) y9:=by
 intro k b a;refine⟨i,rfl,ae h,?_⟩;rw[aa h];simp[jX,a]
theorem Jx(hl:n.length<=100000000)(hN:M0 n)(hi:l<n.length)(hS:cm T L 6 kV n)(M:0<=dS n l) :
  Calls prog 102 #[.agg #[.slice L n.length a,.int .i64 y5,.string zb,.int .i64 y6,.int .i64 y7],.int .i64 l] T fun e z=>∃g,e=.returned (.slice (some ⟨g,0,none⟩) (bO n l).need (bO n l).need)/\nG z g (mJ n l)/\ab [] T z:=by
 obtain⟨i0,O,Q,R,S⟩:=Re z8;have ai:=hN l;have V:=fun T=>dB (P:=prog) T 26 3 i0 _ underlying26 O Q (bO n l).need 1 R (by rw[S];omega) (by omega)
 obtain⟨y,r⟩:∃y,Hid (madeCells (Value.int .i64 0).cells ((bO n l).need*1)=y):=⟨_,rfl⟩
 have G:Hid (y=(jX (List.replicate (bO n l).need 0)).toArray):=by show _=_;rw[<-r.out,IN]
 rw[r.out]at V;obtain⟨W,I⟩:∃W,Hid (T.alloc (.cells #[.slice L n.length a,.int .i64 y5,.string zb,.int .i64 y6,.int .i64 y7] 122)=W):=⟨_,rfl⟩
 have x:W.heap[T.heap.size]?=some (.cells #[.slice L n.length a,.int .i64 y5,.string zb,.int .i64 y6,.int .i64 y7] 122 (0,0)):=by rw[<-I.out];exact QS _ _
 have o:Hid (ab [] T W):=by show ab [] T W;rw[<-I.out];exact(ab.refl [] _).alloc _
 have HS:Hid _:=hS.Vb o.out;have p0:W.cell? ⟨T.heap.size,0,none⟩=some (.slice L n.length a):=by rw[aa x];rfl
 have hz:=ae x;have af:(l:Int)<(n.length:Int):=by omega
 obtain⟨g,rfl,N,-,-,q2,-⟩:=cm.step HS.out l hi;have Z:Hid _:=x;rw[vM]at M;have H0:Hid _:=M;have H:Hid (xc (dS n) (bO n l).need l []=mJ n l):=rfl;have ac:Hid _:=V W;generalize (bO n l).need=v at *;generalize mJ n l=K at *;have I0:Hid (nG (W.alloc (.cells y 3)) W.heap.size (List.replicate v 0++[])):=by show _=_;rw[Rl,G.out];exact QS _ _
 clear hS x M;go_enter func102,ntmps102
 go_upto_region 1 with fail
 rw[I.out];go_wp2;clear q2 N p0 V
 go_loopg [7,8] v (fun ms bv kv wr=>∃(m b:Nat) (h:List Nat),m<=v/\ms=m/\bv=.int .i64 b/\kv=.int .i64 ((m:Int)-1)/\b<=l/\Hid (0<=qI (dS n) m b)/\Hid (xc (dS n) m b h=K)/\Hid (nG wr W.heap.size (List.replicate m 0++h))/\Hid (ab [] W wr))
 case atStart=>exact⟨v,l,[],by omega,rfl,rfl,by go_num,by omega,H0,H,I0,(ab.refl _ _).alloc _⟩
 case round =>
  obtain⟨m,b,h,hm,ag,rfl,rfl,hb,d,p,k,D⟩:=hrel;have F:Hid _:=o.out.trans D.out
  cases m with
  | zero =>
   have HE:Hid (nG wr W.heap.size K):=by show nG wr W.heap.size K;have:=k.out;rw[<-p.out];simpa [xc] using this
   go_wp2;go_ret;exact⟨W.heap.size,rfl,HE.out,F.out⟩
  | succ q =>
   rw[qI]at d
   have s:b≠0:=fun e=>by
    have:=d.out;rw[QW e]at this;omega
   obtain⟨c,rfl⟩:∃c,b=c+1:=⟨b-1,by omega⟩
   rw[QT s,SD]at d
   have t:¬dS n c<0:=fun e=>by
    have:=d.out;rw[QW e]at this;omega
   rw[QT t]at d;rw[xc,SD]at p;have i:=D.out.get Z.out (by simp);have r0:wr.cell? ⟨T.heap.size,0,none⟩=some (.slice (some ⟨g,0,none⟩) n.length a):=by rw[aa i];rfl
   have r1:wr.cell? ⟨T.heap.size,1,none⟩=some (.int .i64 y5):=by rw[aa i];rfl
   have r2:wr.cell? ⟨T.heap.size,2,none⟩=some (.string zb):=by rw[aa i];rfl
   have r3:wr.cell? ⟨T.heap.size,3,none⟩=some (.int .i64 y6):=by rw[aa i];rfl
   have r4:wr.cell? ⟨T.heap.size,4,none⟩=some (.int .i64 y7):=by rw[aa i];rfl
   have ap:=ae i;have ad:=ae k.out;have u0:=am k.out q
   have u1:wr.cell? ⟨W.heap.size,q,none⟩=some (.int .i64 0):=by
    rw[aa k.out];simp[jX,List.replicate_succ']
   have an:(q:Int)<(v:Int):=by omega
   have al:((q:Int)+1-1)=(q:Int):=by omega
   have HC:Hid (∀w,ab [] W w->Calls prog 132 #[.agg #[.slice (some ⟨g,0,none⟩) n.length a,.int .i64 y5,.string zb,.int .i64 y6,.int .i64 y7],.int .i64 c] w fun e z=>e=.returned (.int .i64 (dS n c))/\ab [] w z):=fun w kx=>tJ n _ a y5 zb y6 y7 hl hN (c+1) c w (by omega) (by omega) (cm.Vb HS.out kx)
   have P:=vN n c;obtain⟨Y,u⟩:∃Y:Nat,dS n c=Y:=⟨(dS n c).toNat,by omega⟩
   rw[u]at HC p d P;rw[Sa]at p d;obtain⟨X,J⟩:∃X,Hid (wr.setCell ⟨W.heap.size,q,none⟩ (.int .i64 (c:Int))=X):=⟨_,rfl⟩
   have f:Hid (ab [] W X):=by show ab [] W X;rw[<-J.out];exact D.out.setCell (QV (by simp)) _
   have C:Hid (nG X W.heap.size (List.replicate q 0++c :: h)):=by
    show _=_
    rw[<-J.out,ah k.out]
    congr 2
    have:=N3 q c h;rw[<-this];simp
   have j:=f.out.get Z.out (by simp);have x0:X.cell? ⟨T.heap.size,0,none⟩=some (.slice (some ⟨g,0,none⟩) n.length a):=by rw[aa j];rfl
   have x1:X.cell? ⟨T.heap.size,1,none⟩=some (.int .i64 y5):=by rw[aa j];rfl
   have x2:X.cell? ⟨T.heap.size,2,none⟩=some (.string zb):=by rw[aa j];rfl
   have x3:X.cell? ⟨T.heap.size,3,none⟩=some (.int .i64 y6):=by rw[aa j];rfl
   have x4:X.cell? ⟨T.heap.size,4,none⟩=some (.int .i64 y7):=by rw[aa j];rfl
   have xz:=ae j;have A:Hid _:=HC.out X f.out;clear u t s
   go_upto_region 8 with fail
   rw[J.out];go_wp2_with (go_at_call 132;refine QU A.out ?_;rintro e w1 ⟨rfl,U⟩;have E:Hid _:=f.out.trans U;have B:=(show Hid (nG w1 W.heap.size (List.replicate q 0++c :: h)) from U.get C.out (by simp));clear U)
   go_roundg q
   case measure=>omega
   case rel=>exact⟨q,Y,c :: h,by omega,rfl,rfl,by go_num,by omega,d,p,B,E⟩
def kN(T:List Tk)(S:List Sm)(a:Nat)(e:List ByteArray):List ByteArray:=e.filter (fun x=>kZ T S x a)
theorem J4(h:l<y.length):kN k S H (y.take (l+1))=kN k S H (y.take l)++(if kZ k S y[l] H=true then [y[l]] else []):=by
 unfold kN;rw[RG h,RV]
 congr 1
 cases a:kZ k S y[l] H
 ·rw[Ss (by rw[a];simp)];rfl
 ·rw[SG (p:=fun x=>kZ k S x H) a];rfl
theorem qW(W:fz T z4 w L a b M l)(ok:nK w b v)(X:ge T y8 D)(hl:D.length<=900000000) :
  Calls prog 241 #[.pointer (some ⟨z4,0,none⟩),.int .i64 v,.slice y8 D.length H] T fun e r=>∃c,e=.returned (.slice c.ao (kN w b v D).length c.cap)/\gw T r c (aB (kN w b v D)):=by
 have HD:Hid _:=W;have f:Hid _:=ok.ok;have G:Hid _:=X;have J:Hid (gw T T ⟨none,0⟩ (aB [])):=⟨QZ _ _ _ _,(by intro k Y;cases Y),ab.refl _ _⟩;obtain⟨iS,S,B,C,E⟩:=Re js;clear W ok X;go_enter func241,ntmps241;go_wp2
 go_loopg [7,8] D.length (fun g o i wr=>∃(k:Nat) (c:Hd) (O:List ByteArray),k<=D.length/\g=D.length-k/\o=.slice c.ao O.length c.cap/\i=.int .i64 k/\O.length<=k/\Hid (O=kN w b v (D.take k))/\Hid (gw T wr c (aB O)))
 case atStart=>exact⟨0,⟨none,0⟩,[],by omega,rfl,rfl,rfl,by simp,by show _=_;simp[kN],J⟩
 case round =>
  obtain⟨k,c,O,Y,hg,rfl,rfl,hO,V,u⟩:=hrel
  by_cases A:k<D.length
  ·have ac:(k:Int)<(D.length:Int):=by omega
   obtain⟨P,rfl,j,y⟩:=(ge.Vb G.out u.out.kept) k D[k] (QP A);have d:Hid _:=J4 w b v D k A;rw[<-V.out]at d;have K:Hid _:=AJ z4 v D[k] w L a b M l wr (fz.Vb HD.out u.out.kept) f.out.m f.out.s f.out.t f.out.v;have F:Hid (∀r,ab [] wr r->r.cell? ⟨P,k,none⟩=some (.string D[k])/\P<r.heap.size):=fun r Z=>⟨by rw[Q6 (Z.block P j (by simp))];exact y,QX j Z.size⟩
   generalize D[k]=x at *;obtain⟨U,N⟩:∃U,Hid (kZ w b x v=U):=⟨_,rfl⟩
   rw[N.out]at K d
   cases U
   ·have p:Hid (O=kN w b v (D.take (k+1))):=by have:=d.out;rw[QT (by simp),Rl]at this;exact this.symm
    go_wp2_with (go_at_call 173;refine QU K.out ?_;rintro e w1 ⟨rfl,q⟩;have h:Hid _:=u.out.Vb q;clear q)
    go_roundg (D.length-(k+1))
    case measure=>omega
    case rel=>exact⟨k+1,c,O,by omega,rfl,rfl,by go_num,by omega,p,h⟩
   ·have p:Hid (O++[x]=kN w b v (D.take (k+1))):=by have:=d.out;rw[QW rfl]at this;exact this.symm
    go_upto_region 7 with (go_at_call 173;refine QU K.out ?_;rintro e w1 ⟨rfl,q⟩)
    have h:Hid _:=u.out.Vb q;obtain⟨d0,d1⟩:=F.out w1 q;have R:=h.out.own;have Q:(aB O).n<=900000000:=by show O.length<=_;omega
    clear q y j;go_wp2_with (at_builtin;refine bN _ rfl (.tmp 24) (.tmp 29) 61 rfl iS (.string ⟨#[]⟩) 16 c (aB O) [.string x] underlying61 S B C E rfl Rc rfl R Q (by omega) rfl rfl (by simp[Value.oneCell']) ?_;intro h5 w5 n z;rw[dr]at n;have I:Hid _:=h.out.Vl z n;clear n z)
    go_roundg (D.length-(k+1))
    case measure=>omega
    case rel=>exact⟨k+1,h5,O++[x],by omega,rfl,by simp[aB],by go_num,by simp;omega,p,I⟩
  ·have e:k=D.length:=by omega
   subst e;have p:Hid (kN w b v D=O):=by show _=_;rw[V.out,RK]
   go_wp2;go_ret;exact⟨c,by rw[p.out];rfl,by rw[p.out];exact u.out⟩
def DP(T:List Tk)(S:List Sm)(a:Nat)(Y:List ByteArray)(x:ByteArray):Bool:=Y.all (fun y=>hQ T S x y a)
def tL(T:List Tk)(S:List Sm)(a:Nat)(E F:List ByteArray):Bool:=(kN T S a E).all (DP T S a (kN T S a F))
theorem FZ{p:ByteArray->Bool}(h:l<g.length)(a:p g[l]=false):g.all p=false:=by
 rw[Ue];exact⟨g[l],Rb h,by rw[a];simp⟩
theorem Ba{p:ByteArray->Bool}(c:i=g.length)(h:∀k (a:k<g.length),k<i->p g[k]=true):g.all p=true:=by
 rw[Sn];intro x b;obtain⟨k,a,e⟩:=R0 b;rw[<-e];exact h k a (by omega)
theorem zp:(kN k S H y).length<=y.length:=Sc _ _
theorem Hz(K:fz T z4 w L a b M l)(O:nK w b v)(hE:ge T yg I)(hF:ge T y8 D)(hl:I.length<=900000000)(ad:D.length<=900000000) :
  Calls prog 214 #[.pointer (some ⟨z4,0,none⟩),.int .i64 v,.slice yg I.length o,.slice y8 D.length H] T fun e J=>e=.returned (.bool (tL w b v I D))/\ab [] T J:=by
 have HD:Hid _:=K;have U:Hid _:=O;have B:Hid _:=qW z4 v I yg o w L a b M l T K O hE hl;have C:Hid (∀d,ab [] T d->Calls prog 241 #[.pointer (some ⟨z4,0,none⟩),.int .i64 v,.slice y8 D.length H] d fun e J=>∃h',e=.returned (.slice h'.ao (kN w b v D).length h'.cap)/\gw d J h' (aB (kN w b v D))):=fun d N=>qW z4 v D y8 H w L a b M l d (K.Vb N) O (hF.Vb N) ad
 have HR:Hid (tL w b v I D=(kN w b v I).all (DP w b v (kN w b v D))):=rfl;have an:=zp w b v I;have ar:=zp w b v D;generalize kN w b v I=X at *;generalize kN w b v D=Y at *;clear K O hE hF;go_enter func214,ntmps214
 go_upto_region 2 with (go_at_call 241;refine QU B.out ?_;rintro e w1 ⟨h1,rfl,P⟩)
 have E:Hid _:=C.out w1 P.kept
 go_upto_region 3 with (go_at_call 241;refine QU E.out ?_;rintro e w2 ⟨h2,rfl,Q⟩)
 have HX:Hid _:=(P.own.srcX.Vb Q.kept);have HY:Hid _:=Q.own.srcX;have s:Hid _:=P.kept.trans Q.kept;clear P Q B C E;obtain⟨a1,c1⟩:=h1;obtain⟨a2,c2⟩:=h2;go_wp2
 go_loopg [11] X.length (fun g i wr=>∃k:Nat,k<=X.length/\g=X.length-k/\i=.int .i64 k/\Hid (∀j (f:j<X.length),j<k->DP w b v Y X[j]=true)/\Hid (ab [] w2 wr))
 case atStart=>exact⟨0,by omega,rfl,rfl,(fun j _ f=>by omega),ab.refl _ _⟩
 case round =>
  obtain⟨k,hk,hg,rfl,HN,HK⟩:=hrel
  by_cases G:k<X.length
  ·have ac:(k:Int)<(X.length:Int):=by omega
   obtain⟨gX,Z,F,qX⟩:=HX.out k X[k] (QP G);replace Z:a1=some ⟨gX,0,none⟩:=Z;subst Z;have R:Hid (DP w b v Y X[k]=false->tL w b v I D=false):=fun h=>by rw[HR.out];exact FZ k G h
   have S:Hid (DP w b v Y X[k]=true->∀j (f:j<X.length),j<k+1->DP w b v Y X[j]=true):=fun h j f h2=>by
    by_cases e:j=k
    ·subst e;exact h
    ·exact HN.out j f (by omega)
   generalize X[k]=x at *;go_wp2
   go_loopg [12] Y.length (fun g i wr=>∃m:Nat,m<=Y.length/\g=Y.length-m/\i=.int .i64 m/\Hid (∀j (f:j<Y.length),j<m->hQ w b x Y[j] v=true)/\Hid (ab [] w2 wr))
   case atStart=>exact⟨0,by omega,rfl,rfl,(fun j _ f=>by omega),HK⟩
   case round =>
    obtain⟨m,hm,ai,rfl,A,c⟩:=hrel
    by_cases r:m<Y.length
    ·have af:(m:Int)<(Y.length:Int):=by omega
     obtain⟨gY,eY,al,qY⟩:=(ge.Vb HY.out c.out) m Y[m] (QP r);replace eY:a2=some ⟨gY,0,none⟩:=eY;subst eY;have ax:wr.cell? ⟨gX,k,none⟩=some (.string x):=by rw[Q6 (c.out.block gX F (by simp))];exact qX
     have ag:=QX F c.out.size;have u:Hid (∀d,ab [] wr d->Calls prog 94 #[.pointer (some ⟨z4,0,none⟩),.string x,.string Y[m],.int .i64 v] d fun e J=>e=.returned (.bool (hQ w b x Y[m] v))/\ab [] d J):=fun d N=>vI z4 v x Y[m] w L a b M l d (fz.Vb HD.out ((s.out.trans c.out).trans N)) U.out
     have n:Hid (hQ w b x Y[m] v=false->DP w b v Y x=false):=fun h=>FZ (p:=fun y=>hQ w b x y v) m r h
     have q:Hid (hQ w b x Y[m] v=true->∀j (f:j<Y.length),j<m+1->hQ w b x Y[j] v=true):=fun h j f h2=>by
      by_cases e:j=m
      ·subst e;exact h
      ·exact A.out j f (by omega)
     generalize Y[m]=y at *;obtain⟨W,V⟩:∃W,Hid (hQ w b x y v=W):=⟨_,rfl⟩
     rw[V.out]at u n q
     go_upto_region 9 with fail
     go_region_with (go_at_call 94;refine(u.out _ (by exact(ab.refl [] wr).drew)).mono ?_;rintro e w3 ⟨rfl,k3⟩)
     all_goals
      have z:Hid _:=(c.out.drew).trans k3
      cases W
      ·have t:Hid _:=R.out (n.out rfl)
       go_wp2;go_ret;exact⟨aD t.out.symm,s.out.trans z.out⟩
      ·have t:Hid _:=q.out rfl
       go_wp2
       go_roundg (Y.length-(m+1))
       case measure=>omega
       case rel=>exact⟨m+1,by omega,rfl,by go_num,t,z⟩
    ·have e:m=Y.length:=by omega
     have t:Hid _:=S.out (Ba e A.out);have af:¬(m:Int)<(Y.length:Int):=by omega
     go_wp2
     go_roundg (X.length-(k+1))
     case measure=>omega
     case rel=>exact⟨k+1,by omega,rfl,by go_num,t,c⟩
  ·have e:k=X.length:=by omega
   have t:Hid (tL w b v I D=true):=by show _=_;rw[HR.out];exact Ba e HN.out
   have ac:¬(k:Int)<(X.length:Int):=by omega
   go_wp2;go_ret;exact⟨aD t.out.symm,s.out.trans HK.out⟩
structure Sl where
 ao:Option Addr
 cap:Nat
 L:List ByteArray
def Ff(s:Sl):List Value:=[.slice s.ao s.L.length s.cap]
theorem vw(s:Sl):(Ff s).length=1:=rfl
def lA(A:List Sl):dN:=kU 61 1 Ff A
theorem qw(L:List Sl)(x:Sl):(⟨(lA L).e,(lA L).size,(lA L).n+1,(lA L).xs++Ff x⟩:dN)=lA (L++[x]):=gM _ _ _ _ _
structure pr(w:World)(s:Sl):Prop where
 src:∀(k:Nat) (x:ByteArray),s.L[k]?=some x->∃g o,s.ao=some ⟨g,o,none⟩/\g<w.heap.size/\w.cell? ⟨g,o+k,none⟩=some (.string x)
 nil:s.ao=none->s.L.length=0/\s.cap=0
 le:s.L.length<=s.cap
theorem pr.Vb{s:Sl}(h:pr x s)(k:ab [] x z7):pr z7 s :=
 ⟨fun j d c=>by
  obtain⟨g,o,e,a,b⟩:=h.src j d c;exact⟨g,o,e,QX a k.size,by rw[Q6 (k.block g a (by simp))];exact b⟩,h.nil,h.le⟩
def pa(w:World)(A:List Sl):Prop:=∀s∈A,pr w s
theorem pa.Vb{A:List Sl}(h:pa x A)(k:ab [] x z7):pa z7 A:=fun s a=>(h s a).Vb k
theorem GZ:(⟨H,a,none⟩:Addr).add l=⟨H,a+l,none⟩:=by
 simp only[Addr.add]
 split
 ·next h=>subst h;rfl
 ·rfl
theorem pr.cells{s:Sl}(h:pr x s):∀b,s.ao=some b->∀j u,(cN s.L)[j]?=some u->x.cell? (b.add j)=some u:=by
 intro b e j u a;rw[cN,Rq]at a
 cases d:s.L[j]? with
 | none=>rw[d]at a;cases a
 | some i =>
  rw[d]at a
  cases a
  obtain⟨g,o,f,-,c⟩:=h.src j i d;rw[e]at f
  cases f
  rw[GZ];exact c
theorem gw.sl(a:gw x z7 z0 (aB g)):pr z7 ⟨z0.ao,z0.cap,g⟩ :=
 ⟨fun k h f=>by
  obtain⟨b,e,d,c⟩:=a.own.srcX k h f;exact⟨b,0,e,d,by rw[SJ];exact c⟩,a.none,a.le⟩
def wt(V:List ByteArray)(x:ByteArray):Nat:=V.findIdx (fun y=>(y.toList==x.toList))
def LZ(V:List ByteArray)(A:List (List ByteArray))(x:ByteArray):List ByteArray:=if wt V x<V.length then A.getD (wt V x) [] else [x]
def iU(V:List ByteArray)(A:List (List ByteArray))(e:List ByteArray):List ByteArray:=e.flatMap (LZ V A)
theorem Ny(c:i<g.length)(h:(g[i].toList==yt.toList)=true)(b:∀j (a:j<g.length),j<i->(g[j].toList==yt.toList)=false):wt g yt=i:=by
 unfold wt;rw[List.findIdx_eq c];exact⟨h,fun j a=>b j (by omega) a⟩
theorem Lp(d:i=g.length)(b:∀j (a:j<g.length),j<i->(g[j].toList==yt.toList)=false):wt g yt=g.length:=by
 unfold wt;rw[List.findIdx_eq_length];intro y c;obtain⟨j,a,e⟩:=R0 c;rw[<-e];exact b j a (by omega)
theorem L7(A:List (List ByteArray))(e:List ByteArray)(k:Nat)(h:k<e.length):iU y A (e.take (k+1))=iU y A (e.take k)++LZ y A e[k]:=by
 unfold iU;rw[RG h,Sh];simp
def QL:Sl:=⟨none,0,[]⟩
def fQ(A:List Sl)(i:Nat):Sl:=A.getD i QL
theorem GM(A:List Sl)(i:Nat)(h:i<A.length):A[i]?=some (fQ A i):=by
 unfold fQ;rw[QQ,QP h];rfl
theorem jK(A:List Sl)(i:Nat)(h:i<A.length):fQ A i∈A:=R4 (GM A i h)
theorem cm.sl{A:List Sl}(h:cm x yd 1 Ff A)(k:Nat)(b:k<A.length):∃g,yd=some ⟨g,0,none⟩/\g<x.heap.size/\x.cell? ⟨g,k,none⟩=some (.slice (fQ A k).ao (fQ A k).L.length (fQ A k).cap):=by
 obtain⟨g,e,a,c⟩:=h k _ (GM A k b);refine⟨g,e,a,?_⟩;have:=c 0 _ rfl;simpa using this
theorem wF(A:List Sl)(k:Nat)(h:k<A.length):(A.map (·.L)).getD k []=(fQ A k).L:=by
 unfold fQ;rw[QQ,QQ,Rq,QP h];rfl
theorem CN(A:List Sl)(m:Option Addr)(cA:Nat)(E:List ByteArray)(Z:Option Addr)(cE:Nat)(w:World)(hV:ge w M y)(hA:cm w m 1 Ff A)(ad:pa w A)(bj:y.length<=A.length)(bf:A.length<=100000)(hE:ge w Z E)(bg:E.length<=10000)(af:∀s∈A,s.L.length<=10000) :
  Calls prog 179 #[.agg #[.slice M y.length l,.slice m A.length cA],.slice Z E.length cE] w fun e r=>∃c,e=.returned (.slice c.ao (iU y (A.map (·.L)) E).length c.cap)/\gw w r c (aB (iU y (A.map (·.L)) E)):=by
 obtain⟨W,HW⟩:∃W,Hid (w.alloc (.cells #[.slice M y.length l,.slice m A.length cA] 271)=W):=⟨_,rfl⟩
 have BW:W.heap[w.heap.size]?=some (.cells #[.slice M y.length l,.slice m A.length cA] 271 (0,0)):=by rw[<-HW.out];exact QS _ _
 have G:Hid (ab [] w W):=by show ab [] w W;rw[<-HW.out];exact(ab.refl [] _).alloc _
 have HB:Hid _:=BW;have HV:Hid _:=hV;have HA:Hid _:=hA;have ax:Hid _:=ad;have HE:Hid _:=hE;have a2:Hid _:=af;have bd:Hid (gw w W ⟨none,0⟩ (aB [])):=⟨QZ _ _ _ _,(by intro k Q;cases Q),G.out⟩;obtain⟨iS,al,B,C,D⟩:=Re js;have U:Hid (([]:List ByteArray)=iU y (A.map (·.L)) (E.take 0)):=by show _=_;simp[iU]
 obtain⟨t,S⟩:∃t,Hid (A.map (·.L)=t):=⟨_,rfl⟩
 rw[S.out]at U ⊢;have a1:Hid (∀k,k<A.length->t.getD k []=(fQ A k).L):=fun k Q=>by rw[<-S.out];exact wF A k Q
 clear hV hA ad hE af
 have az:Hid (∀wr,ab [] w wr->wr.heap[w.heap.size]?=W.heap[w.heap.size]?->wr.cell? ⟨w.heap.size,0,none⟩=some (.slice M y.length l)/\wr.cell? ⟨w.heap.size,1,none⟩=some (.slice m A.length cA)/\w.heap.size<wr.heap.size):=fun wr _ e=>by
  rw[HB.out]at e;exact⟨by rw[aa e];rfl,by rw[aa e];rfl,ae e⟩
 go_enter func179,ntmps179
 go_upto_region 1 with fail
 rw[HW.out];go_wp2
 go_loopg [5,6] E.length (fun g o i wr=>∃(k:Nat) (c:Hd) (O:List ByteArray),k<=E.length/\g=E.length-k/\o=.slice c.ao O.length c.cap/\i=.int .i64 k/\O.length<=10000*k/\Hid (O=iU y t (E.take k))/\Hid (gw W wr c (aB O)))
 case atStart=>exact⟨0,⟨none,0⟩,[],by omega,rfl,rfl,rfl,by simp,U,⟨QZ _ _ _ _,(by intro k Q;cases Q),ab.refl _ _⟩⟩
 case round =>
  obtain⟨k,c,O,Q,hg,rfl,rfl,hO,HO,X⟩:=hrel
  by_cases ap:k<E.length
  ·have bp:(k:Int)<(E.length:Int):=by omega
   obtain⟨gE,rfl,ai,a3⟩:=HE.out k E[k] (QP ap);have J:Hid _:=L7 y t E k ap;rw[<-HO.out]at J;have a0:Hid (∀r,ab [] w r->r.cell? ⟨gE,k,none⟩=some (.string E[k])/\gE<r.heap.size):=fun r kw=>⟨by rw[Q6 (kw.block gE ai (by simp))];exact a3,QX ai kw.size⟩
   generalize E[k]=x at *;have V:Hid (LZ y t x=if wt y x<y.length then t.getD (wt y x) [] else [x]):=rfl;go_wp2
   go_loopg [7] (y.length) (fun g i wr=>∃q:Nat,q<=y.length/\g=y.length-q/\i=.int .i64 q/\Hid (∀j (hj:j<y.length),j<q->(y[j].toList==x.toList)=false)/\Hid (gw W wr c (aB O)))
   case atStart=>exact⟨0,by omega,rfl,rfl,(fun j _ hj=>by omega),X⟩
   case round =>
    obtain⟨q,hq,bl,rfl,I,f⟩:=hrel;have d:Hid _:=G.out.trans f.out.kept;have aS:Hid _:=(f.out.kept.get HB.out (by simp));obtain⟨b0,b1,bk⟩:=az.out wr d.out (by rw[aS.out,HB.out]);obtain⟨d0,d1⟩:=a0.out wr d.out
    by_cases P:q<y.length
    ·have a7:(q:Int)<(y.length:Int):=by omega
     obtain⟨gV,eV,bo,be⟩:=(ge.Vb HV.out d.out) q y[q] (QP P);subst eV;have Y:Hid ((y[q].toList==x.toList)=true->wt y x=q):=fun h=>Ny P h I.out
     have T:Hid ((y[q].toList==x.toList)=false->∀j (hj:j<y.length),j<q+1->(y[j].toList==x.toList)=false):=fun h j hj h2=>by
      by_cases e:j=q
      ·subst e;exact h
      ·exact I.out j hj (by omega)
     generalize y[q]=bs at *
     cases hy:(bs.toList==x.toList)
     ·have HM:Hid _:=T.out hy
      go_upto_region 6 with fail
      go_quiet (fail)
      have a:Hid _:=f.out.Vb ((ab.refl [] wr).drewN nq);go_wp2
      go_roundg (y.length-(q+1))
      case measure=>omega
      case rel=>exact⟨q+1,by omega,rfl,by go_num,HM,a⟩
     ·have an:=Y.out hy
      have v:q<A.length:=by omega
      have bc:(q:Int)<(A.length:Int):=by omega
      obtain⟨gA,eA,ag,ac⟩:=cm.sl (cm.Vb HA.out d.out) q v;subst eA;have K:Hid _:=(pa.Vb ax.out d.out) (fQ A q) (jK A q v);have ba:=a2.out (fQ A q) (jK A q v)
      have u:Hid (O++(fQ A q).L=iU y t (E.take (k+1))):=by
       show _=_
       rw[J.out,V.out,an,QW P,a1.out q v]
      have aT:Hid (∀r,ab [] wr r->r.cell? ⟨gA,q,none⟩=some (.slice (fQ A q).ao (fQ A q).L.length (fQ A q).cap)/\gA<r.heap.size):=fun r kw=>⟨by rw[Q6 (kw.block gA ag (by simp))];exact ac,QX ag kw.size⟩
      clear an;generalize fQ A q=s at *;obtain⟨ar,F,sL⟩:=s;simp only at ac K ba u aT
      go_upto_region 6 with fail
      go_quiet (fail)
      have R:=(ab.refl [] wr).drewN nq;have a:Hid _:=f.out.Vb R;have z:Hid _:=pr.Vb K.out R;have a5:Hid _:=z.out.cells;have a6:Hid (ar=none->sL.length=0/\F=0):=z.out.nil;have N:=a.out.own;clear R K;go_wp2_with (at_builtin;refine ed _ rfl (.tmp 38) (.tmp 43) 61 rfl iS (.string ⟨#[]⟩) 16 c (aB O) underlying61 al B C D rfl Rc rfl N ar sL.length F (cN sL) rfl (by simp[aB,cN]) a6.out a5.out (lY sL) (by simp only[aB];omega) (by omega) ?_;intro h5 w5 b p;rw[CT]at b;have H:Hid _:=a.out.Vl p b;clear b p)
      go_roundg (E.length-(k+1))
      case measure=>omega
      case rel=>exact⟨k+1,h5,O++sL,by omega,rfl,by simp[aB],by go_num,by simp;omega,u,H⟩
    ·have eq:q=y.length:=by omega
     have a7:decide ((q:Int)<(y.length:Int))=false:=Sb (by omega);have br:¬(q:Int)<(y.length:Int):=by omega
     have u:Hid (O++[x]=iU y t (E.take (k+1))):=by
      show _=_
      rw[J.out,V.out,Lp eq I.out,QT (by omega)]
     go_upto_region 6 with fail
     go_quiet (fail)
     have R:=(ab.refl [] wr).drewN nq;have a:Hid _:=f.out.Vb R;have N:=a.out.own;have a4:(aB O).n<=900000000:=by show O.length<=_;omega
     clear R;go_wp2_with (at_builtin;refine bN _ rfl (.tmp 45) (.tmp 50) 61 rfl iS (.string ⟨#[]⟩) 16 c (aB O) [.string x] underlying61 al B C D rfl Rc rfl N a4 (by omega) rfl rfl (by simp[Value.oneCell']) ?_;intro h5 w5 b p;rw[dr]at b;have H:Hid _:=a.out.Vl p b;clear b p)
     go_roundg (E.length-(k+1))
     case measure=>omega
     case rel=>exact⟨k+1,h5,O++[x],by omega,rfl,by simp[aB],by go_num,by simp;omega,u,H⟩
  ·have e:k=E.length:=by omega
   subst e;have HM:Hid (iU y t E=O):=by show _=_;rw[HO.out,RK]
   go_wp2;go_ret;exact⟨c,by rw[HM.out];rfl,by rw[HM.out];exact X.out.base G.out⟩
def GI(S:List Sm)(hs:List Nat)(i:Nat):Bool:=((au S (hs.getD i 0)).k.toList == [36,102])
def xO(S:List Sm)(hs:List Nat)(k:Nat):List Nat:=(List.range k).filter (GI S hs)
def cI(T:List Tk)(S:List Sm)(j:Nat):List ByteArray:=bu T (au S j).h
def gK(T:List Tk)(S:List Sm)(hs:List Nat)(k:Nat):List ByteArray:=(xO S hs k).map (fun i=>(cI T S (hs.getD i 0)).getD 1 ⟨#[]⟩)
def gi(S:List Sm)(hs:List Nat)(M:List (List ByteArray))(k:Nat):List (List ByteArray):=(xO S hs k).map (fun i=>(M.getD i []).drop 1)
theorem Jn:xO S f (l+1)=xO S f l++(if GI S f l=true then [l] else []):=gZ _ _
theorem Ej:(prog.info? 61).map (fun i=>(i.zero,i.size,i.bytes))=some (some (.slice none 0 0),1,24):=by kernel_rfl
structure Ki(w wr:World)(V:List ByteArray)(hv:Hd)(B:List Sl)(hb:Hd):Prop where
 r:wr.heap[w.heap.size]?=some (.cells #[.slice none 0 0,.slice none 0 0] 271 (0,0))
 c:wr.heap[w.heap.size+1]?=some (.cells #[.slice hv.ao V.length hv.cap,.slice hb.ao B.length hb.cap] 271 (0,0))
 v:aw wr hv (aB V)
 b:aw wr hb (lA B)
 fv:∀k,hv.blk=some k->w.heap.size+1<k
 fb:∀k,hb.blk=some k->w.heap.size+1<k
 ap:∀k,hv.blk=some k->hb.blk≠some k
 s:pa w B
 kept:ab [] w wr
section
variable {w wr w5:World} {V V':List ByteArray} {hv hb h5:Hd} {B B':List Sl}
theorem Ki.Vb(a:Ki w wr V hv B hb)(k:ab [] wr w5):Ki w w5 V hv B hb :=
 ⟨k.get a.r (by simp),k.get a.c (by simp),a.v.Vb k,a.b.Vb k,a.fv,a.fb,a.ap,a.s,a.kept.trans k⟩
theorem BO(f:∀k,z0.blk=some k->i<k)(b:i<wr.heap.size)(g:bt wr w5 z0 h5):∀k,h5.blk=some k->i<k:=fun k a=>by
 rcases g.blk with e | ⟨q,e,c⟩
 ·exact f k (by rw[<-e];exact a)
 ·rw[e]at a;cases a;omega
theorem wl{h o:Hd}(c:∀k,h.blk=some k->o.blk≠some k)(d:aw wr o yf)(g:bt wr w5 h h5):∀k,h5.blk=some k->o.blk≠some k:=fun k b a=>by
 rcases g.blk with e | ⟨q,e,f⟩
 ·exact c k (by rw[<-e];exact b) a
 ·rw[e]at b;cases b
  have:=d.lt a;omega
theorem Ki.addV(a:Ki w wr V hv B hb)(g:bt wr w5 hv h5)(o:aw w5 h5 (aB V')){m:Nat}(f:m=V'.length):Ki w (w5.setCell ⟨w.heap.size+1,0,none⟩ (.slice h5.ao m h5.cap)) V' h5 B hb:=by
 subst f;have l:∀q,q<=w.heap.size+1->q∉hv.blk.toList:=fun q d f=>by have:=a.fv q (aN f);omega
 have t:=ae a.c;have v:=g.kept.get a.r (l _ (by omega));have n:=g.kept.get a.c (l _ (by omega));have j:=BO a.fv t g;have i:aw w5 hb (lA B):=g.beside a.b (fun k p e=>a.ap k e p);have h:ab [w.heap.size+1] w5 (w5.setCell ⟨w.heap.size+1,0,none⟩ (.slice h5.ao V'.length h5.cap)):=(ab.refl _ _).setCell (Q1 (by simp)) _;have u:ab [] w w5:=pK g.kept (fun q d=>by have:=a.fv q (aN d);omega) a.kept;exact⟨h.get v (by simp),by rw[ah n];rfl,o.Vg (fun q d=>h.block q (o.lt d) (by simp;have:=j q d;omega)),i.Vg (fun q d=>h.block q (i.lt d) (by simp;have:=a.fb q d;omega)),j,a.fb,wl a.ap a.b g,a.s,u.setCell (QV (by simp)) _⟩
theorem Ki.addB(a:Ki w wr V hv B hb)(g:bt wr w5 hb h5)(o:aw w5 h5 (lA B'))(s:pa w B'){m:Nat}(i:m=B'.length):Ki w (w5.setCell ⟨w.heap.size+1,1,none⟩ (.slice h5.ao m h5.cap)) V hv B' h5:=by
 subst i;have n:∀q,q<=w.heap.size+1->q∉hb.blk.toList:=fun q d i=>by have:=a.fb q (aN i);omega
 have u:=ae a.c;have y:=g.kept.get a.r (n _ (by omega));have t:=g.kept.get a.c (n _ (by omega));have l:=BO a.fb u g;have p:aw w5 hv (aB V):=g.beside a.v (fun k e b=>a.ap k e b);have j:ab [w.heap.size+1] w5 (w5.setCell ⟨w.heap.size+1,1,none⟩ (.slice h5.ao B'.length h5.cap)):=(ab.refl _ _).setCell (Q1 (by simp)) _;have x:ab [] w w5:=pK g.kept (fun q d=>by have:=a.fb q (aN d);omega) a.kept;have f:=wl (h:=hb) (o:=hv) (fun k e b=>a.ap k b e) a.v g;exact⟨j.get y (by simp),by rw[ah t];rfl,p.Vg (fun q d=>j.block q (p.lt d) (by simp;have:=a.fv q d;omega)),o.Vg (fun q d=>j.block q (o.lt d) (by simp;have:=l q d;omega)),a.fv,l,fun k e b=>f k b e,s,x.setCell (QV (by simp)) _⟩
end
theorem J2{d e:Value}(h:x.heap[i]?=some (.cells #[d,e] 271 (0,0)))(a b:Value) :
  (x.setCell ⟨i,0,none⟩ a).cell? ⟨i,0,none⟩=some a/\((x.setCell ⟨i,0,none⟩ a).setCell ⟨i,1,none⟩ b).cell? ⟨i,1,none⟩=some b:=by
 have c:=ah h 0 a;have f:=ah c 1 b;exact⟨by rw[aa c];rfl,by rw[aa f];rfl⟩
theorem pr.tail{n:Nat}(a:pr x ⟨some ⟨i,ys,none⟩,n,g⟩):pr x ⟨some ⟨i,ys+1,none⟩,n-1,g.drop 1⟩:=by
 have b:=a.le;simp only at b;refine⟨fun k j d=>?_,fun h=>(by cases h),(by simp;omega)⟩;simp only[List.getElem?_drop]at d;obtain⟨l,m,e,f,c⟩:=a.src (1+k) j d
 cases e
 exact⟨i,ys+1,rfl,f,by rw[show ys+1+k=ys+(1+k) by omega];exact c⟩
theorem pr.none0(h:yd=none->i=0):pr x ⟨yd,i,[]⟩:=⟨fun k b a=>by simp at a,fun e=>⟨rfl,h e⟩,Ro _⟩
theorem Ju(A:List Sl)(bj:Option Addr)(cA:Nat)(w:World)(hD:fz w z4 k yg d S y8 o)(ok:nK k S v)(hH:qD w M f)(D:∀j∈f,j<v)(cB:f.length<=10000)(hA:cm w bj 1 Ff A)(bo:pa w A)(cz:f.length<=A.length)(hF:∀i,i<f.length->GI S f i=true->1<(cI k S (f.getD i 0)).length)(hN:∀s∈A,0<s.L.length) :
  Calls prog 177 #[.pointer (some ⟨z4,0,none⟩),.slice M f.length l,.slice bj A.length cA] w fun e w'=>∃t p B,e=.returned (.agg #[.slice t.ao (gK k S f f.length).length t.cap,.slice p.ao B.length p.cap])/\B.map (·.L)=gi S f (A.map (·.L)) f.length/\pa w B/\gw w w' t (aB (gK k S f f.length))/\gw w w' p (lA B):=by
 have HD:Hid _:=hD;have ca:Hid _:=ok;have cE:=ok.sm;have cF:=ok.tm;have hn:=ok.ok.m;have HH:Hid _:=hH;have b5:Hid _:=D;have HA:Hid _:=hA;have b2:Hid _:=bo;have HF:Hid _:=hF;have HN:Hid _:=hN;obtain⟨iS,cp,bT,b0,b1⟩:=Re js;obtain⟨iL,bz,ac,ad,af⟩:=Re Ej
 have S0:Hid (Ki w ((w.alloc (.cells #[.slice none 0 0,.slice none 0 0] 271)).alloc (.cells #[.slice none 0 0,.slice none 0 0] 271)) [] ⟨none,0⟩ [] ⟨none,0⟩):=by
  obtain⟨W1,U⟩:∃W1,W1=w.alloc (.cells #[.slice none 0 0,.slice none 0 0] 271):=⟨_,rfl⟩
  have z1:W1.heap.size=w.heap.size+1:=by rw[U];simp
  have k0:ab [] w W1:=by rw[U];exact(ab.refl [] _).alloc _
  have e0:W1.heap[w.heap.size]?=some (.cells #[.slice none 0 0,.slice none 0 0] 271 (0,0)):=by rw[U];exact QS _ _
  have k1:ab [] W1 (W1.alloc (.cells #[.slice none 0 0,.slice none 0 0] 271)):=(ab.refl [] _).alloc _
  show Ki _ _ _ _ _ _
  rw[<-U];exact⟨k1.get e0 (by simp),by rw[<-z1];exact QS _ _,QZ _ _ _ _,QZ _ _ _ _,(by intro a Z;cases Z),(by intro a Z;cases Z),(by intro a Z;cases Z),(fun s f=>by cases f),k0.trans k1⟩
 obtain⟨R,ba⟩:∃R,Hid (A.map (·.L)=R):=⟨_,rfl⟩
 rw[ba.out];have b6:Hid (∀a,a<A.length->R.getD a []=(fQ A a).L):=fun a Z=>by rw[<-ba.out];exact wF A a Z
 have cb:Hid (([]:List ByteArray)=gK k S f 0):=rfl;have b3:Hid (([]:List Sl).map (·.L)=gi S f R 0):=rfl;clear hD ok hH D hA bo hF hN;go_enter func177,ntmps177;go_wp2
 go_loopg [8] f.length (fun g i wr=>∃(a:Nat) (V:List ByteArray) (t:Hd) (B:List Sl) (p:Hd),a<=f.length/\g=f.length-a/\i=.int .i64 a/\(V.length<=a/\B.length<=a)/\Hid (V=gK k S f a)/\Hid (B.map (·.L)=gi S f R a)/\Hid (Ki w wr V t B p))
 case atStart=>exact⟨0,[],⟨none,0⟩,[],⟨none,0⟩,by omega,rfl,rfl,⟨QR _,QR _⟩,cb,b3,S0⟩
 case round =>
  obtain⟨a,V,t,B,p,Z,hg,rfl,⟨cL,cy⟩,HV,HB,u⟩:=hrel;have P:Hid _:=u.out.kept
  by_cases D:a<f.length
  ·have cs:(a:Int)<(f.length:Int):=by omega
   have cq:=b5.out f[a] (Rb D);have O:f[a]<S.length:=by omega
   obtain⟨gH,rfl,bw,bk⟩:=(qD.Vb HH.out P.out) a f[a] (QP D);have a6:Hid _:=fz.Vb HD.out P.out;obtain⟨t0,s0,ck⟩:=a6.out.cells;obtain⟨gs,rfl,co,-,-,-,q3⟩:=a6.out.s.2 f[a] S[f[a]] (QP O);have aT:f.getD a 0=f[a]:=by rw[QQ,QP D];rfl
   have be:Hid (GI S f a=(S[f[a]].k.toList == [36,102])):=by show _=_;unfold GI;rw[aT,bM S f[a] O]
   have y:Hid _:=Jn S f a;have c4:((f[a]:Nat):Int)<(S.length:Int):=by omega
   have c3:(0:Int)<=((f[a]:Nat):Int):=by omega
   have a3:Hid ((S[f[a]].k.toList == [36,102])=true->∀wx,ab [] w wx->Calls prog 72 #[.pointer (some ⟨z4,0,none⟩),.int .i64 ((f[a]:Nat):Int)] wx fun e w'=>∃h',e=.returned (.slice h'.ao (bu k S[f[a]].h).length h'.cap)/\vj wx w' h' (bu k S[f[a]].h)):=fun h wx kx=>kD z4 f[a] k yg d S _ o wx (fz.Vb HD.out kx) O (by omega) (by have:=ca.out.e f[a] cq;rw[<-bM S f[a] O]at this;exact this (fX h (by decide)))
   have a4:Hid (bu k S[f[a]].h=cI k S (f.getD a 0)):=by show _=_;unfold cI;rw[aT,bM S f[a] O]
   rw[a4.out]at a3;have a7:Hid _:=HF.out a D;rw[be.out]at y a7;clear a4 be aT;generalize S[f[a]].k=sk at *;generalize f[a]=j at *
   cases h1:(sk.toList == [36,102])
   ·rw[h1,QT (by simp),Rl]at y
    have Q:Hid (V=gK k S f (a+1)):=by show _=_;unfold gK;rw[y.out];exact HV.out
    have J:Hid (B.map (·.L)=gi S f R (a+1)):=by show _=_;unfold gi;rw[y.out];exact HB.out
    go_upto_region 5 with fail
    go_quiet (fail)
    have ar:Hid _:=u.out.Vb ((ab.refl [] wr).drewN nq);go_wp2
    go_roundg (f.length-(a+1))
    case measure=>omega
    case rel=>exact⟨a+1,V,t,B,p,by omega,rfl,by go_num,⟨by omega,by omega⟩,Q,J,ar⟩
   ·rw[h1,QW rfl]at y
    have bs:=a7.out h1;have al:Hid _:=a3.out h1;obtain⟨X,HX⟩:∃X,Hid (cI k S (f.getD a 0)=X):=⟨_,rfl⟩
    rw[HX.out]at bs al;have Q:Hid (V++[X.getD 1 ⟨#[]⟩]=gK k S f (a+1)):=by show _=_;unfold gK;rw[y.out,Ry,HV.out];simp only[List.map_cons,List.map_nil];rw[HX.out];rfl
    have W:a<A.length:=by omega
    have J:Hid (B.map (·.L)++[(fQ A a).L.drop 1]=gi S f R (a+1)):=by show _=_;unfold gi;rw[y.out,Ry,HB.out];simp only[List.map_cons,List.map_nil];rw[b6.out a W];rfl
    go_upto_region 5 with fail
    go_quiet (fail)
    go_upto_region 6 with fail
    obtain⟨W2,Y⟩:∃W2,Hid (wr.drewN nq=W2):=⟨_,rfl⟩
    rw[Y.out];have k2:ab [] wr W2:=by rw[<-Y.out];exact(ab.refl [] wr).drewN nq
    have ar:Hid _:=u.out.Vb k2;have a2:Hid _:=al.out W2 (P.out.trans k2);have bl:W2.cell? ⟨gH,a,none⟩=some (.int .i64 (j:Int)):=by rw[Q6 (k2.block gH bw (by simp))];exact bk
    have bx:=QX bw k2.size;clear t0 s0 ck q3 bk co k2 al
    go_upto_region 7 with (go_at_call 72;refine QU a2.out ?_;rintro e w3 ⟨h3,rfl,x3⟩)
    have z:Hid _:=ar.out.Vb x3.kept;obtain⟨gX,eX,cl,cX⟩:=x3.own.srcX 1 _ (mm X 1 bs);generalize X.getD 1 ⟨#[]⟩=x at *;rw[eX];have cP:(1:Int)<(X.length:Int):=by omega
    have p0:w3.cell? ⟨w.heap.size+1,0,none⟩=some (.slice t.ao V.length t.cap):=by rw[aa z.out.c];rfl
    have p1:=am z.out.c 0;have p2:=ae z.out.c;have ch:=z.out.v;have cj:Hid ((aB V).n<=900000000):=by show V.length<=_;omega
    have cc:Hid ((aB V).n=V.length):=rfl;clear bl bx x3
    go_region_law (refine bH w3 rfl (.tmp 36) (.tmp 40) 61 rfl iS (.string ⟨#[]⟩) 16 t (aB V) [.string x] underlying61 cp bT b0 b1 rfl Rc (by rw[cc.out];simp[Act.eval]) ch cj.out (by omega) (by simp[Act.eval]) rfl (by simp[Value.oneCell']) ?_;intro ax K w5 a1 aS;have c5:=aS.kept.get z.out.c (fun G=>by have:=z.out.fv _ (aN G);omega);have f5:=am c5 0;have d5:w5.cell? ⟨w.heap.size+1,0,none⟩=some (.slice t.ao V.length t.cap):=(by rw[aa c5];rfl);have z5:=ae c5)
    all_goals
     rw[dr]at a1;have b:Hid _:=(z.out.addV (m:=(aB V).n+1) aS a1 (by simp[aB]));obtain⟨X5,bg⟩:∃X5,Hid (w5.setCell ⟨w.heap.size+1,0,none⟩ (.slice ax ((aB V).n+1) K)=X5):=⟨_,rfl⟩
     rw[bg.out]at b ⊢;clear a1 aS c5 f5 d5 z5 p0 p1 p2 bg cl cX;have b4:Hid _:=b.out.kept;obtain⟨gA,rfl,c2,cf⟩:=cm.sl (cm.Vb HA.out b4.out) a W;have ap:Hid _:=b2.out (fQ A a) (jK A a W);have a0:=HN.out (fQ A a) (jK A a W);have cx:(a:Int)<(A.length:Int):=by omega
     generalize fQ A a=s at *;obtain⟨cu,n,F⟩:=s;obtain⟨H,I,es,-,-⟩:=ap.out.src 0 _ (mm F 0 a0);replace es:cu=some ⟨H,I,none⟩:=es;subst es;have ct:=ap.out.le;simp only at cf a0 ct J;have p0:X5.cell? ⟨w.heap.size+1,1,none⟩=some (.slice p.ao B.length p.cap):=by rw[aa b.out.c];rfl
     have p1:=am b.out.c 1;have p2:=ae b.out.c;have br:=b.out.b;have bp:Hid ((lA B).n<=900000000):=by show B.length<=_;omega
     have a5:Hid ((lA B).n=B.length):=rfl;have c7:(1:Int)<=(F.length:Int):=by omega
     have c8:1<=F.length:=a0;have cR:1<=n:=by omega
     have cV:(F.length:Int)<=(n:Int):=by omega
     by_cases bv:n=1
     ·subst bv
      have HT:Hid (pr w ⟨some ⟨H,I,none⟩,0,F.drop 1⟩):=by show pr w _;rw[Tz (by omega)];exact pr.none0 (fun e=>by cases e)
      have an:Hid (([.slice (some ⟨H,I,none⟩) 0 0]:List Value)=Ff ⟨some ⟨H,I,none⟩,0,F.drop 1⟩):=by show _=_;unfold Ff;rw[Tz (by omega)];rfl
      go_upto_region 8 with fail
      go_region_law (refine bH X5 rfl (.tmp 44) (.tmp 50) 218 rfl iL (.slice none 0 0) 24 p (lA B) [.slice (some ⟨H,I,none⟩) 0 0] underlying218 bz ac ad af rfl Rc (by rw[a5.out];simp[Act.eval]) br bp.out (by omega) (by simp[Act.eval]) rfl (by simp[Value.oneCell']) ?_;intro az N w6 E C;have T:=C.kept.get b.out.c (fun G=>by have:=b.out.fb _ (aN G);omega);have f6:=am T 1;have d6:w6.cell? ⟨w.heap.size+1,1,none⟩=some (.slice p.ao B.length p.cap):=(by rw[aa T];rfl);have z6:=ae T)
      all_goals
       rw[an.out,qw]at E
       have ag:=(show Hid _ from b.out.addB (m:=(lA B).n+1) C E (fun s f=>by
        rcases Rr.1 f with h | h
        ·exact b.out.s s h
        ·rw[Q9.1 h];exact HT.out) (by simp[lA,kU]))
       have ai:Hid ((B++[(⟨some ⟨H,I,none⟩,0,F.drop 1⟩:Sl)]).map (·.L)=gi S f R (a+1)):=by show _=_;rw[Ry];exact J.out
       clear E C T;go_wp2
       go_roundg (f.length-(a+1))
       case measure=>omega
       case rel=>exact⟨a+1,V++[x],⟨ax,K⟩,B++[⟨some ⟨H,I,none⟩,0,F.drop 1⟩],⟨az,N⟩,by omega,rfl,by go_num,⟨by simp;omega,by simp;omega⟩,Q,ai,ag⟩
     ·have HT:Hid _:=pr.tail ap.out
      have an:Hid (F.length-1=(F.drop 1).length):=by show _=_;simp
      go_upto_region 8 with fail
      go_region_law (refine bH X5 rfl (.tmp 44) (.tmp 50) 218 rfl iL (.slice none 0 0) 24 p (lA B) [.slice (some ⟨H,I+1,none⟩) (F.length-1) (n-1)] underlying218 bz ac ad af rfl Rc (by rw[a5.out];simp[Act.eval]) br bp.out (by omega) (by simp[Act.eval]) rfl (by simp[Value.oneCell']) ?_;intro az N w6 E C;have T:=C.kept.get b.out.c (fun G=>by have:=b.out.fb _ (aN G);omega);have f6:=am T 1;have d6:w6.cell? ⟨w.heap.size+1,1,none⟩=some (.slice p.ao B.length p.cap):=(by rw[aa T];rfl);have z6:=ae T)
      all_goals
       rw[an.out,show([.slice (some ⟨H,I+1,none⟩) (F.drop 1).length (n-1)]:List Value)=Ff ⟨some ⟨H,I+1,none⟩,n-1,F.drop 1⟩ from rfl,qw]at E
       have ag:=(show Hid _ from b.out.addB (m:=(lA B).n+1) C E (fun s f=>by
        rcases Rr.1 f with h | h
        ·exact b.out.s s h
        ·rw[Q9.1 h];exact HT.out) (by simp[lA,kU]))
       have ai:Hid ((B++[(⟨some ⟨H,I+1,none⟩,n-1,F.drop 1⟩:Sl)]).map (·.L)=gi S f R (a+1)):=by show _=_;rw[Ry];exact J.out
       clear E C T;go_wp2
       go_roundg (f.length-(a+1))
       case measure=>omega
       case rel=>exact⟨a+1,V++[x],⟨ax,K⟩,B++[⟨some ⟨H,I+1,none⟩,n-1,F.drop 1⟩],⟨az,N⟩,by omega,rfl,by go_num,⟨by simp;omega,by simp;omega⟩,Q,ai,ag⟩
  ·have e:a=f.length:=by omega
   subst e;have cs:¬(f.length:Int)<(f.length:Int):=by omega
   have r0:wr.cell? ⟨w.heap.size,0,none⟩=some (.slice none 0 0):=by rw[aa u.out.r];rfl
   have r1:wr.cell? ⟨w.heap.size,1,none⟩=some (.slice none 0 0):=by rw[aa u.out.r];rfl
   have r2:=am u.out.r 0;have r3:=am u.out.r 1;have c0:wr.cell? ⟨w.heap.size+1,0,none⟩=some (.slice t.ao V.length t.cap):=by rw[aa u.out.c];rfl
   have c1:wr.cell? ⟨w.heap.size+1,1,none⟩=some (.slice p.ao B.length p.cap):=by rw[aa u.out.c];rfl
   have db:=ae u.out.c;have c9:=ae u.out.r;have bc:Hid (∀q,t.blk=some q->q≠w.heap.size):=fun q G=>by have:=u.out.fv q G;omega
   have bd:Hid (∀q,p.blk=some q->q≠w.heap.size):=fun q G=>by have:=u.out.fb q G;omega
   have bf:Hid (gK k S f f.length=V):=HV.out.symm;go_wp2;obtain⟨x0,x1⟩:=J2 u.out.r (.slice t.ao V.length t.cap) (.slice p.ao B.length p.cap);have kf:ab [] w ((wr.setCell ⟨w.heap.size,0,none⟩ (.slice t.ao V.length t.cap)).setCell ⟨w.heap.size,1,none⟩ (.slice p.ao B.length p.cap)):=(P.out.setCell (QV (by simp)) _).setCell (QV (by simp)) _;exact QY (v:=.agg #[.slice t.ao V.length t.cap,.slice p.ao B.length p.cap]) (by simp[results,results177,go_sem,x0,x1]) rfl ⟨t,p,B,by rw[bf.out],HB.out,u.out.s,by rw[bf.out];exact⟨(u.out.v.Vk bc.out _ _).Vk bc.out _ _,fun q G=>(by have:=u.out.fv q G;omega),kf⟩,⟨(u.out.b.Vk bd.out _ _).Vk bd.out _ _,fun q G=>(by have:=u.out.fb q G;omega),kf⟩⟩
def fO(T:List Tk)(S:List Sm)(hs:List Nat)(k:Nat):List ByteArray:=((hs.take k).filter (fun j=>((au S j).k.toList == [36,102]))).map (fun j=>tS T ((au S j).h+1))
def CJ(p:ByteArray×ByteArray):List Value:=[.string p.1,.string p.2]
theorem LY(p:ByteArray×ByteArray):(CJ p).length=2:=rfl
def lz(L:Fs):dN:=kU 114 2 CJ L
theorem CS(L:Fs)(x:ByteArray×ByteArray):(⟨(lz L).e,(lz L).size,(lz L).n+1,(lz L).xs++CJ x⟩:dN)=lz (L++[x]):=gM _ _ _ _ _
def jY(T:List Tk)(S:List Sm)(a:Nat)(V:List ByteArray)(i m:Nat):Fs:=((List.range m).filter (fun j=>decide (i<j)&&hQ T S (V.getD i ⟨#[]⟩) (V.getD j ⟨#[]⟩) a)).map (fun j=>(V.getD i ⟨#[]⟩,V.getD j ⟨#[]⟩))
def lg(T:List Tk)(S:List Sm)(a:Nat)(V:List ByteArray)(k:Nat):Fs:=(List.range k).flatMap (fun i=>jY T S a V i V.length)
def fH(T:List Tk)(S:List Sm)(a:Nat):Fs:=lg T S a (fO T S (bW T S a) (bW T S a).length) (fO T S (bW T S a) (bW T S a).length).length
theorem CG(h:a<l):jY k S H y a (l+1)=jY k S H y a l++(if hQ k S (y.getD a ⟨#[]⟩) (y.getD l ⟨#[]⟩) H=true then [(y.getD a ⟨#[]⟩,y.getD l ⟨#[]⟩)] else []):=by
 unfold jY;rw[gZ,Ry,SM h,Sv]
 split <;> rfl
theorem CH:jY k S H y l (l+1)=[]:=by
 unfold jY;rw[Th.2 (fun j a=>by have:=Ra.1 a;simp;omega)];rfl
theorem wO:lg k S H y (l+1)=lg k S H y l++jY k S H y l y.length:=by
 unfold lg;rw[R6,Sh];simp
theorem EY:(jY k S H y a l).length<=l:=by
 unfold jY;rw[Ri];have:=Sc (fun j=>decide (a<j)&&hQ k S (y.getD a ⟨#[]⟩) (y.getD j ⟨#[]⟩) H) (List.range l);rw[Tf]at this;exact this
theorem ED(h:l<f.length):fO k S f (l+1)=fO k S f l++(if((au S f[l]).k.toList == [36,102])=true then [tS k ((au S f[l]).h+1)] else []):=by
 unfold fO;rw[RG h,RV,Ry]
 congr 1
 cases a:((au S f[l]).k.toList == [36,102])
 ·rw[Ss (by rw[a];simp)];rfl
 ·rw[SG (p:=fun j=>((au S j).k.toList == [36,102])) a];rfl
theorem NA:(prog.info? 114).map (fun i=>(i.zero,i.size,i.bytes))=some (some (.agg #[.string ⟨#[]⟩,.string ⟨#[]⟩]),2,32):=by kernel_rfl
theorem wI(hD:fz T o w L a b M l)(ok:nK w b H)(hn:H<b.length)(hE:cU w (au b H).h) :
  Calls prog 64 #[.pointer (some ⟨o,0,none⟩),.int .i64 H] T fun e c=>∃G,e=.returned (.slice G.ao (fH w b H).length G.cap)/\gw T c G (lz (fH w b H)):=by
 have HD:Hid _:=hD;have a7:Hid _:=ok;have cL:=ok.sm;have cP:=ok.tm;have a4:Hid _:=nP o H w L a b M l T hD ok hn hE;have df:=kj w b H;have ch:Hid _:=sK w b H;have b6:Hid (fH w b H=lg w b H (fO w b (bW w b H) (bW w b H).length) (fO w b (bW w b H) (bW w b H).length).length):=rfl;obtain⟨iS,cy,bz,bT,b0⟩:=Re js;obtain⟨iP,cx,bv,bw,bx⟩:=Re NA;clear hD ok;generalize bW w b H=d at *;go_enter func64,ntmps64
 go_upto_region 3 with (go_at_call 62;refine QU a4.out ?_;rintro e D ⟨h1,rfl,x1⟩)
 have a5:Hid _:=x1.kept;have cc:Hid _:=x1.own.srcN;have b3:Hid (gw D D ⟨none,0⟩ (aB [])):=⟨QZ _ _ _ _,(by intro k hk;cases hk),ab.refl _ _⟩;clear x1 a4;obtain⟨a1,c1⟩:=h1;have cf:Hid (([]:List ByteArray)=fO w b d 0):=by show _=_;simp[fO]
 go_wp2
 go_loopg [5,7] d.length (fun g b1 i wr=>∃(k:Nat) (G:Hd) (V:List ByteArray),k<=d.length/\g=d.length-k/\b1=.slice G.ao V.length G.cap/\i=.int .i64 k/\V.length<=k/\Hid (V=fO w b d k)/\Hid (gw D wr G (aB V)))
 case atStart=>exact⟨0,⟨none,0⟩,[],by omega,rfl,rfl,rfl,by simp,cf,b3⟩
 case round =>
  obtain⟨k,G,V,hk,hg,rfl,rfl,cR,HV,O⟩:=hrel;have ac:Hid _:=a5.out.trans O.out.kept
  by_cases aS:k<d.length
  ·have c4:(k:Int)<(d.length:Int):=by omega
   have cz:=ch.out d[k] (Rb aS);have az:d[k]<b.length:=by omega
   obtain⟨gH,eH,cu,cH⟩:=cc.out k d[k] (QP aS);replace eH:a1=some ⟨gH,0,none⟩:=eH;subst eH;have Z:Hid _:=fz.Vb HD.out a5.out;obtain⟨t0,s0,hb⟩:=Z.out.cells;obtain⟨K,rfl,bl,-,-,q2,q3⟩:=Z.out.s.2 d[k] b[d[k]] (QP az);have C:Hid _:=ED w b d k aS;rw[<-HV.out,<-bM b d[k] az]at C;have b2:Hid ((b[d[k]].k.toList == [36,102])=true->b[d[k]].h+1<w.length):=fun h=>by have:=a7.out.f d[k] cz;rw[<-bM b d[k] az]at this;exact this h
   have c3:((d[k]:Nat):Int)<(b.length:Int):=by omega
   have c2:(0:Int)<=((d[k]:Nat):Int):=by omega
   generalize b[d[k]].k=sk at *;generalize b[d[k]].h=A at *;generalize d[k]=j at *
   have X:Hid (∀c:World,D.heap.size<=c.heap.size->(∀q,q<D.heap.size->c.heap[q]?=D.heap[q]?)->(c.cell? ⟨o,0,none⟩=some (.slice L w.length a)/\c.cell? ⟨o,1,none⟩=some (.slice (some ⟨K,0,none⟩) b.length l)/\c.cell? ⟨gH,k,none⟩=some (.int .i64 (j:Int))/\c.cell? ⟨K,j*4+2,none⟩=some (.int .i64 (A:Int))/\c.cell? ⟨K,j*4+3,none⟩=some (.string sk))/\o<c.heap.size/\K<c.heap.size/\gH<c.heap.size):=fun c hz n =>
    ⟨⟨by rw[Q6 (n o hb)];exact t0,by rw[Q6 (n o hb)];exact s0,by rw[Q6 (n gH cu)];exact cH,by rw[Q6 (n K bl)];exact q2,by rw[Q6 (n K bl)];exact q3⟩,by omega,by omega,by omega⟩
   clear t0 s0 q2 q3 cH;have cb:Hid (∀q,q<D.heap.size->wr.heap[q]?=D.heap[q]?):=fun q n=>O.out.kept.block q n (by simp)
   obtain⟨⟨t0,s0,cH,q2,q3⟩,bg,U,S⟩:=X.out wr O.out.kept.size cb.out
   cases h1:(sk.toList == [36,102])
   ·have F:Hid (V=fO w b d (k+1)):=by have:=C.out;rw[h1,QT (by simp),Rl]at this;exact this.symm
    go_upto_region 6 with fail
    go_quiet (fail)
    have z:Hid _:=O.out.Vb ((ab.refl [] wr).drewN nq);go_wp2
    go_roundg (d.length-(k+1))
    case measure=>omega
    case rel=>exact⟨k+1,G,V,by omega,rfl,rfl,by go_num,by omega,F,z⟩
   ·have F:Hid (V++[tS w (A+1)]=fO w b d (k+1)):=by have:=C.out;rw[h1,QW rfl]at this;exact this.symm
    have ct:=b2.out h1;obtain⟨Q,rfl,bj,u0,-⟩:=Z.out.t.2 (A+1) _ (iw w (A+1) ct);replace u0:D.cell? ⟨Q,(A+1)*5,none⟩=some (.string (tS w (A+1))):=u0;generalize tS w (A+1)=v at *;have a3:Hid (∀c:World,(∀q,q<D.heap.size->c.heap[q]?=D.heap[q]?)->c.cell? ⟨Q,(A+1)*5,none⟩=some (.string v)):=fun c n=>by rw[Q6 (n Q bj)];exact u0
    have cV:(A:Int)+1<(w.length:Int):=by omega
    have db:IntKind.i64.wrap ((A:Int)+1)=(A:Int)+1:=by rw[R9];omega
    have c9:((A:Int)+1).toNat=A+1:=by omega
    have c8:(0:Int)<=(A:Int)+1:=by omega
    go_upto_region 6 with fail
    go_quiet (fail)
    go_upto_region 7 with fail
    obtain⟨N,ba⟩:∃N,Hid (wr.drewN nq=N):=⟨_,rfl⟩
    rw[ba.out];have k2:ab [] wr N:=by rw[<-ba.out];exact(ab.refl [] wr).drewN nq
    have z:Hid _:=O.out.Vb k2;have ag:Hid (∀q,q<D.heap.size->N.heap[q]?=D.heap[q]?):=fun q n=>z.out.kept.block q n (by simp)
    clear t0 s0 cH q2 q3 bg U S u0;obtain⟨⟨t0,s0,cH,q2,-⟩,bg,U,S⟩:=X.out N z.out.kept.size ag.out;have u0:=a3.out N ag.out;have cB:Q<N.heap.size:=QX bj z.out.kept.size;have an:=z.out.own;have cs:Hid ((aB V).n<=900000000):=by show V.length<=_;omega
    have HS:Hid (∀(B:World) (h5:Hd),bt N B G h5->(B.cell? ⟨o,0,none⟩=some (.slice (some ⟨Q,0,none⟩) w.length a)/\B.cell? ⟨o,1,none⟩=some (.slice (some ⟨K,0,none⟩) b.length l)/\B.cell? ⟨gH,k,none⟩=some (.int .i64 (j:Int))/\B.cell? ⟨K,j*4+2,none⟩=some (.int .i64 (A:Int))/\B.cell? ⟨Q,(A+1)*5,none⟩=some (.string v))):=fun B h5 gr=>by
     have br:∀q,q<D.heap.size->B.heap[q]?=D.heap[q]?:=fun q n=>by
      rw[gr.kept.block q (QX n z.out.kept.size) (fun hm=>by have:=O.out.far q (aN hm);omega)];exact ag.out q n
     obtain⟨⟨y0,y1,y2,y3,-⟩,-⟩:=X.out B (Q3 z.out.kept.size gr.kept.size) br;exact⟨y0,y1,y2,y3,a3.out B br⟩
    clear k2
    go_region_held3 (fun c=>c.cell? ⟨o,0,none⟩=some (.slice (some ⟨Q,0,none⟩) w.length a)/\c.cell? ⟨o,1,none⟩=some (.slice (some ⟨K,0,none⟩) b.length l)/\c.cell? ⟨gH,k,none⟩=some (.int .i64 (j:Int))/\c.cell? ⟨K,j*4+2,none⟩=some (.int .i64 (A:Int))/\c.cell? ⟨Q,(A+1)*5,none⟩=some (.string v)) (go_keep) ((refine bH N (by rfl) (.tmp 33) (.tmp 53) 61 (by rfl) iS (.string ⟨#[]⟩) 16 G (aB V) [.string v] underlying61 cy bz bT b0 rfl Rc (by simp[Act.eval] <;> rfl) an cs.out (by omega) (by simp[Act.eval]) rfl (by simp[Value.oneCell']) ?_;intro ck be B aT ar;obtain⟨y0,y1,y2,y3,y4⟩:=HS.out B _ ar))
    rw[dr]at aT;have af:Hid _:=z.out.Vl ar aT;clear aT ar;go_wp2
    go_roundg (d.length-(k+1))
    case measure=>omega
    case rel=>exact⟨k+1,⟨ck,be⟩,V++[v],by omega,rfl,by simp[aB],by go_num,by simp;omega,F,af⟩
  ·have e:k=d.length:=by omega
   subst e;have ca:Hid (fH w b H=lg w b H V V.length):=by show _=_;rw[b6.out,HV.out]
   have ai:Hid _:=O.out.own.srcX;have a6:Hid (gw wr wr ⟨none,0⟩ (lz [])):=⟨QZ _ _ _ _,(by intro k hk;cases hk),ab.refl _ _⟩;have b4:Hid (([]:Fs)=lg w b H V 0):=by show _=_;simp[lg]
   obtain⟨va,vc⟩:=G;obtain⟨W,al⟩:∃W,Hid (wr=W):=⟨_,rfl⟩
   rw[al.out];rw[al.out]at ai a6 ac;clear HV O al;go_wp2
   go_loopg [8,9] V.length (fun g b1 i w3=>∃(m:Nat) (h2:Hd) (P:Fs),m<=V.length/\g=V.length-m/\b1=.slice h2.ao P.length h2.cap/\i=.int .i64 m/\P.length<=10000*m/\Hid (P=lg w b H V m)/\Hid (gw W w3 h2 (lz P)))
   case atStart=>exact⟨0,⟨none,0⟩,[],by omega,rfl,rfl,rfl,by simp,b4,a6⟩
   case round =>
    obtain⟨m,h2,P,hm,cX,rfl,rfl,hL,HL,bc⟩:=hrel
    by_cases bo:m<V.length
    ·have c5:(m:Int)<(V.length:Int):=by omega
     have b5:Hid (P=lg w b H V m++jY w b H V m (m+1)):=by show _=_;rw[CH,Rl];exact HL.out
     obtain⟨J,eV,bk,co⟩:=ai.out m _ (mm V m bo);replace eV:va=some ⟨J,0,none⟩:=eV;subst eV;go_wp2
     go_loopg [8,10] (V.length-(m+1)) (fun g b1 i w3=>∃(q:Nat) (R:Hd) (E:Fs),(m<q/\q<=V.length)/\g=V.length-q/\b1=.slice R.ao E.length R.cap/\i=.int .i64 q/\E.length<=10000*m+q/\Hid (E=lg w b H V m++jY w b H V m q)/\Hid (gw W w3 R (lz E)))
     case atStart=>exact⟨m+1,h2,P,⟨by omega,by omega⟩,rfl,rfl,by go_num,by omega,b5,bc⟩
     case round =>
      obtain⟨q,R,E,⟨cA,c6⟩,c0,rfl,rfl,cF,ad,I⟩:=hrel
      by_cases bp:q<V.length
      ·have c7:(q:Int)<(V.length:Int):=by omega
       obtain⟨cE,cp,-,bd⟩:=ai.out q _ (mm V q bp)
       cases cp
       have C:Hid _:=CG w b H V m q cA;have a2:Hid (∀wx,ab [] W wx->Calls prog 94 #[.pointer (some ⟨o,0,none⟩),.string (V.getD m ⟨#[]⟩),.string (V.getD q ⟨#[]⟩),.int .i64 H] wx fun e c=>e=.returned (.bool (hQ w b (V.getD m ⟨#[]⟩) (V.getD q ⟨#[]⟩) H))/\ab [] wx c):=fun wx kx=>vI o H _ _ w L a b M l wx (fz.Vb HD.out (ac.out.trans kx)) a7.out
       have Y:Hid (∀c:World,W.heap.size<=c.heap.size->(∀q,q<W.heap.size->c.heap[q]?=W.heap[q]?)->c.cell? ⟨J,m,none⟩=some (.string (V.getD m ⟨#[]⟩))/\c.cell? ⟨J,q,none⟩=some (.string (V.getD q ⟨#[]⟩))/\J<c.heap.size):=fun c hz n=>⟨by rw[Q6 (n J bk)];exact co,by rw[Q6 (n J bk)];exact bd,by omega⟩
       generalize V.getD m ⟨#[]⟩=x at *;generalize V.getD q ⟨#[]⟩=y at *;obtain⟨ap,cj⟩:∃ap,Hid (hQ w b x y H=ap):=⟨_,rfl⟩
       rw[cj.out]at a2 C;clear bd;obtain⟨v0,v1,bs⟩:=Y.out wr I.out.kept.size (fun q n=>I.out.kept.block q n (by simp))
       go_upto_region 15 with fail
       go_region_with (go_at_call 94;refine(a2.out _ (by exact I.out.kept.drew)).mono ?_;rintro e B ⟨rfl,k5⟩)
       all_goals
        have k6:ab [] wr B:=((ab.refl [] wr).drew).trans k5;have r:Hid _:=I.out.Vb k6;clear k5 k6 v0 v1 bs
        cases ap
        ·have F:Hid (E=lg w b H V m++jY w b H V m (q+1)):=by show _=_;rw[C.out,QT (by simp),Rl];exact ad.out
         go_wp2
         go_roundg (V.length-(q+1))
         case measure=>omega
         case rel=>exact⟨q+1,R,E,⟨by omega,by omega⟩,rfl,rfl,by go_num,by omega,F,r⟩
        ·have F:Hid (E++[(x,y)]=lg w b H V m++jY w b H V m (q+1)):=by show _=_;rw[C.out,QW rfl,ad.out,Sy]
         go_upto_region 17 with fail
         obtain⟨v0,v1,bs⟩:=Y.out B r.out.kept.size (fun q n=>r.out.kept.block q n (by simp));have an:=r.out.own;have cq:Hid ((lz E).n<=900000000):=by show E.length<=_;omega
         have s3:Hid (∀u∈([.string x,.string y]:List Value),u.oneCell'=true):=by intro u hu;simp only[List.mem_cons,List.not_mem_nil,or_false]at hu;rcases hu with rfl | rfl <;> rfl
         have HS:Hid (∀(w6:World) (h6:Hd),bt B w6 R h6->w6.cell? ⟨J,m,none⟩=some (.string x)/\w6.cell? ⟨J,q,none⟩=some (.string y)):=fun w6 h6 gr=>by
          obtain⟨y0,y1,-⟩:=Y.out w6 (Q3 r.out.kept.size gr.kept.size) (fun p hp=>by
           rw[gr.kept.block p (QX hp r.out.kept.size) (fun hm=>by have:=r.out.far p (aN hm);omega)];exact r.out.kept.block p hp (by simp))
          exact⟨y0,y1⟩
         go_region_held3 (fun c=>c.cell? ⟨J,m,none⟩=some (.string x)/\c.cell? ⟨J,q,none⟩=some (.string y)) (go_keep) ((refine bH B (by rfl) (.tmp 81) (.tmp 91) 111 (by rfl) iP (.agg #[.string ⟨#[]⟩,.string ⟨#[]⟩]) 32 R (lz E) [.string x,.string y] underlying111 cx bv bw bx rfl Uq (by simp[Act.eval] <;> rfl) an cq.out (by omega) (by simp[Act.eval]) rfl s3.out ?_;intro cl bf w6 a0 ax;obtain⟨y0,y1⟩:=HS.out w6 _ ax))
         rw[show([.string x,.string y]:List Value)=CJ (x,y) from rfl,CS]at a0;have af:Hid _:=r.out.Vl ax a0;clear a0 ax;go_wp2
         go_roundg (V.length-(q+1))
         case measure=>omega
         case rel=>exact⟨q+1,⟨cl,bf⟩,E++[(x,y)],⟨by omega,by omega⟩,rfl,by simp[lz,kU],by go_num,by simp;omega,F,af⟩
      ·have eq:q=V.length:=by omega
       subst eq;have F:Hid (E=lg w b H V (m+1)):=by show _=_;rw[wO];exact ad.out
       go_wp2
       go_roundg (V.length-(m+1))
       case measure=>omega
       case rel=>exact⟨m+1,R,E,by omega,rfl,rfl,by go_num,by omega,F,I⟩
    ·have e:m=V.length:=by omega
     subst e;have F:Hid (fH w b H=P):=by show _=_;rw[ca.out,HL.out]
     go_wp2;go_ret;exact⟨h2,by rw[F.out];rfl,by rw[F.out];exact bc.out.base ac.out⟩
end Go.Proofs.YtpddjjabfbfifaaGreat
