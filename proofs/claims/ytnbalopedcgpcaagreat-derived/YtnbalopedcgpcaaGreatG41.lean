import Derived.Deep.RegionLaw
import Derived.Laws.CopyOwn
import Derived.Test.YtnbalopedcgpcaaGreatG33
import Derived.Test.YtnbalopedcgpcaaGreatG40
namespace Go.Proofs.YtnbalopedcgpcaaGreat
open Go.RowKit Tryz
open Value renaming int->Xx,string->Xy,slice->Xz,pointer->XA,agg->XB,tuple->XD
open Obj renaming cells->XE
open IntKind renaming i64->XF
open Ending renaming returned->XH
open World renaming cell?->XI
open Option renaming none->XJ,some->XK
open Bool renaming true->XL,false->XM
open Go.RowKit renaming Hid->XN
open Go renaming Calls->XO,World->XP,Value->XQ
set_option maxHeartbeats 0
variable(f:XP)(b l T:Nat)(S:List ByteArray)
def OU(c n:Nat)(ls:List ByteArray)(H:Nat->Hd):List XQ:=[XA (XK ⟨c,0,XJ⟩),Xx XF n,Xz (H 0).ao ls.length (H 0).cap]
def Od(ls:List ByteArray):Nat->fe
 | 0=>au ls
 | _+1=>au []
theorem GP(b:List ByteArray):∀j,j≠0->Od b j=Od S j:=by
 intro j a;cases j with
 | zero=>exact absurd rfl a
 | succ j=>rfl
structure uk(w0 w:XP)(wb c n:Nat)(ls:List ByteArray)(H:Nat->Hd):Prop where
 bag:aB w wb 145 (OU c n ls H) (Od ls) H
 kp:aa [] w0 w
 lo:w0.heap.size<=wb
 hi:∀k,cD H k->w0.heap.size<=k
section
variable {w0 w w':XP} {wb c n:Nat} {ls:List ByteArray} {H H':Nat->Hd}
theorem uk.Ur(h:uk w0 w wb c n ls H)(k:aa [] w w'):uk w0 w' wb c n ls H:=⟨h.bag.Ur k,h.kp.trans k,h.lo,h.hi⟩
theorem uk.turned{d:Nat}{a:List ByteArray}(h:uk w0 w wb c n ls H)(t:aj wb w H w' H')(g:aB w' wb 145 (OU c d a H') (Od a) H'):uk w0 w' wb c d a H':=by
 refine⟨g,aa.ofP h.kp t.1 (fun k b=>?_),h.lo,fun k b=>?_⟩
 ·rcases b with rfl | b
  ·exact h.lo
  ·exact h.hi k b
 ·rcases t.2 k b with q | q
  ·exact h.hi k q
  ·exact Qk h.kp.size q
theorem uk.cells(h:uk w0 w wb c n ls H):XI w ⟨wb,0,XJ⟩=XK (XA (XK ⟨c,0,XJ⟩))/\XI w ⟨wb,1,XJ⟩=XK (Xx XF n)/\XI w ⟨wb,2,XJ⟩=XK (Xz (H 0).ao ls.length (H 0).cap)/\wb<w.heap.size:=by
 refine⟨?_,?_,?_,h.bag.lt⟩ <;> (rw[h.bag.cell];rfl)
end
def G3(w0:XP)(wb c Gm n:Nat)(ls t:List ByteArray)(H:Nat->Hd)(w:XP)(e:Ending)(w':XP):Prop:=e=XH (XD #[])/\∃n' ls' H',uk w0 w' wb c n' ls' H'/\vZ Gm n ls t n' ls'/\aj wb w H w' H'
set_option maxRecDepth 100000
theorem GK(p:iX)(P:cY)(I:Nat->Nat×Nat)(C:Nat->List ByteArray)(K i j n:Nat)(Q:List ByteArray)(H:Nat->Hd)(w:XP)(hw:uk f w b l (n+1) Q H)(hn:n<64)(b5:Q.length<=n)(hp:jK f S p P)(hG:P.vars.length<=K)(bv:K<=100000)(ah:∀c,aa [] w c->XO prog 130 #[XA (XK ⟨l,0,XJ⟩),rq p,XA (XK ⟨T,0,XJ⟩),XB #[Xx XF i,Xx XF j]] c fun M m=>∃a,M=XH (Xz (XK ⟨a,0,XJ⟩) p.gs.length p.gs.length)/\iY m a p.gs.length I/\c.heap.size<=a/\aa [] c m)(a8:∀v (hv:v<p.gs.length) s g r c,uk f c b l s g r->s<=10000000->g.length<=jx s->XO prog 84 #[XA (XK ⟨b,0,XJ⟩),Xx XF p.gs[v],XB #[Xx XF (I v).1,Xx XF (I v).2]] c fun M m=>G3 f b l K s g (C v) r c M m) :
  XO prog 110 #[XA (XK ⟨b,0,XJ⟩),rq p,XA (XK ⟨T,0,XJ⟩),XB #[Xx XF i,Xx XF j]] w fun M m=>G3 f b l K n Q (o8 C P.vars.length++[P.label]) H w M m:=by
 unfold rq at ah ⊢;obtain⟨W,HW⟩:∃W,XN ((w.alloc (XE #[Xy p.label,Xx XF p.code,Xz (XK ⟨p.ap,0,XJ⟩) p.np p.np,Xz p.ag p.gs.length p.gs.length] 163)).alloc (XE #[Xx XF i,Xx XF j] 141)=W):=⟨_,rfl⟩
 have k1:aa [] w (w.alloc (XE #[Xy p.label,Xx XF p.code,Xz (XK ⟨p.ap,0,XJ⟩) p.np p.np,Xz p.ag p.gs.length p.gs.length] 163)):=(aa.refl [] _).alloc _;have kW:aa [] w W:=by rw[<-HW.out];exact k1.alloc _
 have BP:W.heap[w.heap.size]?=XK (XE #[Xy p.label,Xx XF p.code,Xz (XK ⟨p.ap,0,XJ⟩) p.np p.np,Xz p.ag p.gs.length p.gs.length] 163):=by
  rw[<-HW.out];exact((aa.refl [] _).alloc _).get (PM w _) (by simp)
 have BS:W.heap[w.heap.size+1]?=XK (XE #[Xx XF i,Xx XF j] 141):=by
  rw[<-HW.out];have:=PM (w.alloc (XE #[Xy p.label,Xx XF p.code,Xz (XK ⟨p.ap,0,XJ⟩) p.np p.np,Xz p.ag p.gs.length p.gs.length] 163)) (XE #[Xx XF i,Xx XF j] 141);rw[show(w.alloc (XE #[Xy p.label,Xx XF p.code,Xz (XK ⟨p.ap,0,XJ⟩) p.np p.np,Xz p.ag p.gs.length p.gs.length] 163)).heap.size=w.heap.size+1 by simp]at this;exact this
 have G:=hw.Ur kW;have z:XN (∀c r,aj b W H c r->(XI c ⟨w.heap.size,0,XJ⟩=XK (Xy p.label)/\XI c ⟨w.heap.size,1,XJ⟩=XK (Xx XF p.code)/\XI c ⟨w.heap.size,2,XJ⟩=XK (Xz (XK ⟨p.ap,0,XJ⟩) p.np p.np)/\XI c ⟨w.heap.size,3,XJ⟩=XK (Xz p.ag p.gs.length p.gs.length))/\w.heap.size<c.heap.size):=fun c r t=>by
  have R:=t.1.get BP (fun q=>by
   rcases q with q | q
   ·have:=hw.bag.lt;omega
   ·have:=hw.bag.inlt q;omega)
  refine⟨⟨?_,?_,?_,?_⟩,ae R⟩ <;> (rw[ab R];rfl)
 have X:XN _:=(fun c (q:aa [] W c)=>ah c (kW.trans q));have bq:XN _:=a8;have av:XN _:=hp;have Z:p.gs.length=P.vars.length:=by rw[hp.ng,hp.len]
 have bl:XN (p.label=P.label):=hp.lab;have Y:XN _:=G;have bg:XN _:=kW;have s0:XI W ⟨w.heap.size+1,0,XJ⟩=XK (Xx XF i):=by rw[ab BS];rfl
 have s1:XI W ⟨w.heap.size+1,1,XJ⟩=XK (Xx XF j):=by rw[ab BS];rfl
 have a5:=ae BS;obtain⟨⟨p0,p1,p2,p3⟩,ad⟩:=z.out W H (aj.refl _ _ _);obtain⟨c0,-,-,a7⟩:=G.cells;have A:XN (∀c,aa [] W c->(XI c ⟨b,0,XJ⟩=XK (XA (XK ⟨l,0,XJ⟩))/\XI c ⟨w.heap.size+1,0,XJ⟩=XK (Xx XF i)/\XI c ⟨w.heap.size+1,1,XJ⟩=XK (Xx XF j))/\XI c ⟨w.heap.size,0,XJ⟩=XK (Xy p.label)/\XI c ⟨w.heap.size,1,XJ⟩=XK (Xx XF p.code)/\XI c ⟨w.heap.size,2,XJ⟩=XK (Xz (XK ⟨p.ap,0,XJ⟩) p.np p.np)/\XI c ⟨w.heap.size,3,XJ⟩=XK (Xz p.ag p.gs.length p.gs.length)):=fun c q=>by
  have R:=q.get BP (by simp);have B3:=q.get BS (by simp);refine⟨⟨((G.Ur q).cells).1,?_,?_⟩,?_,?_,?_,?_⟩
  ·rw[ab B3];rfl
  ·rw[ab B3];rfl
  ·rw[ab R];rfl
  ·rw[ab R];rfl
  ·rw[ab R];rfl
  ·rw[ab R];rfl
 obtain⟨sb,a2⟩:∃sb,XN (w.heap.size+1=sb):=⟨_,rfl⟩
 rw[a2.out]at s0 s1 a5 A;obtain⟨y,az⟩:∃y,XN (w.heap.size=y):=⟨_,rfl⟩
 rw[az.out]at z A p0 p1 p2 p3 ad;obtain⟨o,aq⟩:∃o,XN (p.gs.length=o):=⟨_,rfl⟩
 rw[aq.out]at Z HW z X A p3 ⊢;have ao:XN _:=Z;have b6:o<=100000:=by omega
 clear ah a8 hp BP BS kW k1 hw G Z;go_enter func110,ntmps110;go_upto_region 1 with fail
 rw[HW.out,a2.out,az.out];go_region_held3 (fun m=>(XI m ⟨b,0,XJ⟩=XK (XA (XK ⟨l,0,XJ⟩))/\XI m ⟨sb,0,XJ⟩=XK (Xx XF i)/\XI m ⟨sb,1,XJ⟩=XK (Xx XF j))/\XI m ⟨y,0,XJ⟩=XK (Xy p.label)/\XI m ⟨y,1,XJ⟩=XK (Xx XF p.code)/\XI m ⟨y,2,XJ⟩=XK (Xz (XK ⟨p.ap,0,XJ⟩) p.np p.np)/\XI m ⟨y,3,XJ⟩=XK (Xz p.ag o o)) (go_keep) ((go_at_call 130;refine PU (X.out _ (by exact(aa.refl [] W).drew)) ?_;rintro e1 J ⟨a,rfl,a4,la,k1⟩;obtain⟨⟨y0,y1,y2⟩,y3,y4,y5,y6⟩:=A.out J ((aa.refl [] W).drew.trans k1)));have U:XN (aa [] W J):=(aa.refl [] W).drew.trans k1;have a1:XN _:=a4;have bk:XN (W.heap.size<=a):=la;have bo:XN (uk f J b l (n+1) Q H):=Y.out.Ur U.out;have V:XN (∀c r,aj b J H c r->iY c a o I):=fun c r t=>by
  obtain⟨bs,q1,q2⟩:=a1.out;refine⟨bs,t.1.get q1 (fun q=>?_),q2⟩;have:=bk.out;rcases q with q | q
  ·have:=Y.out.bag.lt;omega
  ·have:=Y.out.bag.inlt q;omega
 have a0:XN (∀c r,aj b J H c r->(XI c ⟨y,0,XJ⟩=XK (Xy p.label)/\XI c ⟨y,1,XJ⟩=XK (Xx XF p.code)/\XI c ⟨y,2,XJ⟩=XK (Xz (XK ⟨p.ap,0,XJ⟩) p.np p.np)/\XI c ⟨y,3,XJ⟩=XK (Xz p.ag o o))/\y<c.heap.size):=fun c r t=>z.out c r (aj.first U.out t);clear a4 la k1 y0 y1 y2 y3 y4 y5 y6 s0 s1 a5 p0 p1 p2 p3 ad c0 a7 A X a1 z;go_wp2
 go_loopg [9] o (fun gk vv wr=>∃(v s:Nat) (g:List ByteArray) (r:Nat->Hd),v<=o/\gk=o-v/\vv=Xx XF v/\XN (uk f wr b l s g r)/\XN (KG K v (n+1) Q (o8 C v) s g)/\XN (aj b J H wr r))
 case atStart=>exact⟨0,n+1,Q,H,by omega,rfl,rfl,bo,KG.first _ _ _,aj.refl _ _ _⟩
 case round =>
  obtain⟨v,s,g,r,hv,b3,rfl,B,HO,HT⟩:=hrel;obtain⟨⟨p0,p1,p2,p3⟩,ad⟩:=a0.out _ _ HT.out;have hm:jx s-jx (n+1)<=64:=by unfold jx;split <;> split <;> omega
  have a3:s<=10000000:=by
   have h1:=HO.out.d;have h2:K*(jx s-jx (n+1))<=100000*64:=Q3 bv hm;omega
  have ac:g.length<=jx s:=by
   have h1:=HO.out.e;have h2:=s9 HO.out.c;have h3:jx (n+1)=n+1:=by unfold jx;split <;> omega
   omega
  have bx:g.length<=64:=Qk ac (by unfold jx;split <;> omega);by_cases F:v<o
  ·have b7:(v:Int)<(o:Int):=(by omega);have ai:v<p.gs.length:=(by rw[aq.out];exact F);obtain⟨gg,e2,b4,b2⟩:=(av.out.Ur B.out.kp).gaps v p.gs[v] (PJ ai);have bf:XN (∀c,aa [] f c->XI c ⟨gg,v,XJ⟩=XK (Xx XF p.gs[v])):=fun c q=>by
    obtain⟨g',e3,-,c3⟩:=(av.out.Ur q).gaps v p.gs[v] (PJ ai);rw[e2]at e3;cases e3;exact c3
   obtain⟨t0,t1,b1⟩:=(V.out _ _ HT.out).cells F;have bm:XN (∀c k,aj b J H c k->XI c ⟨y,3,XJ⟩=XK (Xz (XK ⟨gg,0,XJ⟩) o o)):=fun c k t=>by
    have:=(a0.out c k t).1.2.2.2;rw[e2]at this;exact this
   rw[e2]at p3;have bp:XN (∀c,aa [] wr c->XO prog 84 #[XA (XK ⟨b,0,XJ⟩),Xx XF p.gs[v],XB #[Xx XF (I v).1,Xx XF (I v).2]] c fun M m=>M=XH (XD #[])/\∃E D k,uk f m b l E D k/\KG K (v+1) (n+1) Q (o8 C (v+1)) E D/\aj b J H m k):=fun c q=>by
    refine(bq.out v ai s g r c (B.out.Ur q) a3 ac).mono ?_;rintro M m ⟨he,E,D,k,r1,r2,r3⟩;exact⟨he,E,D,k,r1,by rw[vg];exact HO.out.next r2,(HT.out.Ur q).trans r3⟩
   have be:XN (∀c E D k,uk f c b l E D k->aj b J H c k->(XI c ⟨y,3,XJ⟩=XK (Xz (XK ⟨gg,0,XJ⟩) o o)/\XI c ⟨gg,v,XJ⟩=XK (Xx XF p.gs[v]))/\XI c ⟨a,v*2,XJ⟩=XK (Xx XF (I v).1)/\XI c ⟨a,v*2+1,XJ⟩=XK (Xx XF (I v).2)):=fun c E D k r1 r2=>⟨⟨bm.out c k r2,bf.out c r1.kp⟩,((V.out c k r2).cells F).1,((V.out c k r2).cells F).2.1⟩
   generalize p.gs[v]=kc at *;generalize I v=sv at *;clear e2 a3 ac bx hm HO;(go_upto_region 5 with fail);go_region_held3 (fun m=>(XI m ⟨y,3,XJ⟩=XK (Xz (XK ⟨gg,0,XJ⟩) o o)/\XI m ⟨gg,v,XJ⟩=XK (Xx XF kc))/\XI m ⟨a,v*2,XJ⟩=XK (Xx XF sv.1)/\XI m ⟨a,v*2+1,XJ⟩=XK (Xx XF sv.2)) (go_keep) ((go_at_call 84;refine PU (bp.out _ (by exact(aa.refl [] _).drew)) ?_;rintro e6 w6 ⟨rfl,n6,l6,H6,r1,r2,r3⟩;obtain⟨⟨z0,z1⟩,z2,z3⟩:=be.out w6 n6 l6 H6 r1 r3));go_wp2;go_roundg (o-(v+1))
   case measure=>omega
   case rel=>exact⟨v+1,n6,l6,H6,by omega,rfl,by go_num,r1,r2,r3⟩
  ·have b8:¬(v:Int)<(o:Int):=(by omega);obtain rfl:v=o:=(by omega);obtain⟨iS,bw,a9,bc,bd⟩:=Qq ey;have HB:=B.out.bag;obtain⟨-,-,c2,a7⟩:=B.out.cells;have b0:=HB.free 2;have hD:XN _:=aB.Ur HB ((aa.refl [] wr).alloc (XE #[Xy p.label] 9)).drew;have s2:XN (∀j u,([Xy p.label]:List XQ)[j]?=XK u->(wr.alloc (XE #[Xy p.label] 9)).drew.cell? ((⟨wr.heap.size,0,XJ⟩:Addr).add j)=XK u):=by
    intro j u hj;have hk:(wr.alloc (XE #[Xy p.label] 9)).drew.heap[wr.heap.size]?=XK (XE #[Xy p.label] 9):=PM _ _;rw[ba,ab hk];simpa using hj
   have s3:XN (∀u∈([Xy p.label]:List XQ),u.oneCell'=XL):=(by intro u hu;simp at hu;subst hu;rfl);have s4:XN ((au g).n+1<=maxLen):=(by show g.length+1<=_;unfold maxLen;omega);have s5:XN (((au g).n+1)*16<=140737488355328):=(by show(g.length+1)*16<=_;omega);have am:XN (∀wz k,aB wz b 145 (OU l s (g++[p.label]) k) (Od (g++[p.label])) k->aj b (wr.alloc (XE #[Xy p.label] 9)).drew r wz k->∃E D k,uk f wz b l E D k/\vZ K n Q (o8 C P.vars.length++[P.label]) E D/\aj b w H wz k):=fun wz k g1 g2=>by
    have g3:=g2.first ((aa.refl [] wr).alloc (XE #[Xy p.label] 9)).drew;refine⟨s,g++[p.label],k,B.out.turned g3 g1,?_,aj.first (bg.out.trans U.out) (HT.out.trans g3)⟩;rw[bl.out,<-ao.out];exact vZ.node HO.out (by have:=ao.out;omega) hn
   generalize p.label=x at *;(go_upto_region 6 with fail);go_region_law (refine aP rfl (.tmp 46) (.tmp 49) 22 rfl iS (Xy ⟨#[]⟩) 16 (r 0) (au g) underlying22 bw a9 bc bd rfl Qf (by simp[Act.eval] <;> rfl) (aB.own hD.out 0) ⟨wr.heap.size,0,XJ⟩ 1 1 [Xy x] (by simp[Act.eval]) rfl s2.out s3.out Qf s4.out s5.out ?_;intro g5 L w5 a6 O N;obtain⟨k5,f5,HP⟩:=aB.app hD.out (cs':=OU l s (g++[x]) (cX r 0 ⟨XK ⟨g5,0,XJ⟩,L⟩)) (rows':=Od (g++[x])) 2 0 g5 L (g.length+1) _ a6 (bJ _ _) O (by simpa using N) (GP g _) _ rfl (by simp[OU,cX]);clear a6 O N)
   all_goals go_wp2
   all_goals go_end0
   all_goals exact⟨rfl,am.out _ _ HP.out.1 HP.out.2⟩
section
variable {tx:List ByteArray} {C:kn} {P:cY} {i j:Nat}
theorem KT(t:iZ C)(b:i<tx.length+1)(a:jS tx C P i j=1)(k:Nat)(d:k<P.body.length) :
  nB tx C P i j k<=nB tx C P i j (k+1)/\nB tx C P i j (k+1)<tx.length+1/\(0<xN tx C P i k (nB tx C P i j k)/\0<cr tx C P P.body[k] (nB tx C P i j k) (nB tx C P i j (k+1)))/\∀x,x<tx.length+1->x≠nB tx C P i j k->0<xN tx C P i k x->cr tx C P P.body[k] x (nB tx C P i j (k+1))=0:=by
 have e:=wt b a k d;refine⟨?_,(g7 b a (k+1)).1,⟨by unfold xN;rw[(g7 b a k).2.1];decide,by omega⟩,fun x n c m=>?_⟩
 ·refine Nat.le_of_not_lt (fun q=>?_);rw[jW P t _ _ _ q]at e;cases e
 ·refine Ro (fun q=>c ?_);refine(g7 b a k).2.2.2 x n (wo.1 m) ?_;rw[rU _ _ _ _ d];have g:=(g7 b a (k+1)).2.2.1;have l:=(g7 b a (k+1)).1;have:=rc (f:=fun z=>cr tx C P P.body[k] x z*wy (tx.length+1) (cr tx C P) (P.body.drop (k+1)) z j) l;simp only[g,Nat.mul_one]at this;omega
end
theorem C0(hs:Hd)(y c:List ByteArray)(o:List cY)(L:List iX)(hc hp:Hd)(cg ca:Nat)(G:Nat->Nat->Nat->Nat)(Gm:Nat)(M:xX f T hs y c o L hc hp)(h:dR f l T hs y cg ca c.length G)(b2:AV G)(is:uL y o (CG c G))(b6:∀P∈o,kZ P)(ct:∀P∈o,P.vars.length<=Gm)(cF:Gm<=100000) :
  ∀(r:Nat) (cd:ByteArray) (V i j n:Nat) (ls:List ByteArray) (H:Nat->Hd) (w:XP),aZ c cd=XK V->i<y.length+1->j<y.length+1->CG c G cd i j=1->0<pS y o r cd i j->uk f w b l n ls H->n<=10000000->ls.length<=jx n ->
  XO prog 84 #[XA (XK ⟨b,0,XJ⟩),Xx XF V,XB #[Xx XF i,Xx XF j]] w fun e' E=>G3 f b l Gm n ls (pP y o (CG c G) r cd i j) H w e' E:=by
 intro r
 induction r with
 | zero=>intro cd V i j n ls H w _ _ _ _ h0;exact absurd h0 (R8 _)
 | succ r ih =>
  intro cd V i j n ls H w a7 hi hj h1 cl hw hn cn;have cb:XN _:=CW (r:=r) is hi hj h1;obtain⟨W,HW⟩:∃W,XN (w.alloc (XE #[Xx XF i,Xx XF j] 141)=W):=⟨_,rfl⟩
  have kW:aa [] w W:=by rw[<-HW.out];exact(aa.refl [] _).alloc _
  have BS:W.heap[w.heap.size]?=XK (XE #[Xx XF i,Xx XF j] 141):=by rw[<-HW.out];exact PM _ _
  have aq:=hw.Ur kW;obtain⟨c0,c1,-,ek⟩:=aq.cells;have d5:=aq.bag.free 1;obtain⟨b1,t1⟩:=aq.bag.set 1 (Xx XF (n+1:Nat));have J:XN (uk f (W.setCell ⟨b,1,XJ⟩ (Xx XF (n+1:Nat))) b l (n+1) ls H):=aq.turned t1 b1;have a6:XN (aj b w H (W.setCell ⟨b,1,XJ⟩ (Xx XF (n+1:Nat))) H):=aj.first kW t1;have av:(W.setCell ⟨b,1,XJ⟩ (Xx XF (n+1:Nat))).heap[w.heap.size]?=XK (XE #[Xx XF i,Xx XF j] 141):=by
   rw[P9 _ _ _ _ (by have:=hw.bag.lt;show w.heap.size≠b;omega)];exact BS
  have c2:(((n+1:Nat)):Int)=(n:Int)+1:=by omega
  rw[c2]at J a6 av;obtain⟨W1,bx⟩:∃W1,XN (W.setCell ⟨b,1,XJ⟩ (Xx XF ((n:Int)+1))=W1):=⟨_,rfl⟩
  rw[bx.out]at J a6 av;by_cases cs:64<=n
  ·have ee:(n:Int)+1 > 64:=(by omega);go_enter func84,ntmps84;(go_upto_region 1 with fail);rw[HW.out];go_wp2;go_end0;rw[bx.out];exact⟨rfl,n+1,ls,H,J.out,vZ.late cs cb.out,a6.out⟩
  ·have eh:¬(n:Int)+1 > 64:=(by omega);obtain⟨u,ad,b3,ai,bd,bo⟩:=is.pick hi hj h1;have cW:=M.gm.len;have am:u<L.length:=(by omega);have b7:=b2.cg c;have Z:∀m (t:m<L.length) (s:m<o.length),jK f c L[m] o[m]:=fun m t s=>M.gm.each m _ _ (PJ t) (PJ s);have bg:cd=o[u].code:=(ed ai).symm;have bk:L[u].code=V:=by
    have:=(Z u am ad).cod;rw[<-bg,a7]at this;cases this;rfl
   have b8:XN (∀m (t:m<L.length) (s:m<o.length),m≠u->L[m].code=V->cp (jS y (CG c G) o[m] i j)=0):=fun m t s a8 he=>by
    have h2:=(Z m t s).cod;rw[he]at h2;have e1:o[m].code=cd:=(by rw[<-po h2,<-po a7]);have:¬0<jS y (CG c G) o[m] i j:=fun q=>a8 (bo m s (mn e1) q);rw[show jS y (CG c G) o[m] i j=0 by omega];rfl
   have cf:XN (∀(m:Nat) (t:m<L.length) (s:m<o.length) (d:XP),aa [] f d->XO prog 109 #[XA (XK ⟨l,0,XJ⟩),rq L[m],Xx XF i] d fun e E=>∃g a,e=XH (XA (XK ⟨g,0,XJ⟩))/\bC E g a (o[m].body.length+1) (y.length+1) (xN y (CG c G) o[m] i)/\d.heap.size<=g/\d.heap.size<=a/\aa [] d E):=fun m t s d q =>
    AJ l T hs y c cg ca G L[m] o[m] i d (h.Ur q) ((Z m t s).Ur q) (M.vw.Ur q) M.hn M.ht (M.bl _ (PT s)) hi b2.two b7
   have cz:XN (∀(m:Nat) (t:m<L.length) (d:XP),aa [] f d->XO prog 108 #[XA (XK ⟨T,0,XJ⟩),Xx XF m] d fun e E=>e=XH (rq L[m])/\aa [] d E):=fun m t d q=>l9 T c o L hc hp m t d (M.gm.Ur q);have cw:XN (∀d,aa [] f d->XO prog 107 #[XA (XK ⟨T,0,XJ⟩)] d fun e E=>e=XH (Xx XF L.length)/\E=d):=fun d q=>yC T c o L hc hp d (M.gm.Ur q);have cv:XN (∀d,aa [] f d->XI d ⟨l,0,XJ⟩=XK (XA (XK ⟨T,0,XJ⟩))/\l<d.heap.size):=fun d q=>⟨(h.Ur q).cells.1,(h.Ur q).lt⟩
   have cu:XN (∀(m:Nat) (t:m<L.length) (s:m<o.length),L[m].np=o[m].body.length/\o[m].body.length<=100000):=fun m t s=>⟨(Z m t s).np,M.bl _ (PT s)⟩
   have be:XN (∀(m:Nat) (s:m<o.length) (g a:Nat) (d:XP),bC d g a (o[m].body.length+1) (y.length+1) (xN y (CG c G) o[m] i)->XO prog 106 #[XA (XK ⟨g,0,XJ⟩),Xx XF o[m].body.length,Xx XF j] d fun e E=>e=XH (Xx XF (cp (jS y (CG c G) o[m] i j)))/\E=d):=fun m s g a d q=>by
    have h3:=M.bl _ (PT s);have:=uM g a (o[m].body.length+1) (y.length+1) (xN y (CG c G) o[m] i) o[m].body.length j d q (by omega) (by have:=M.ht;omega) (by omega) hj;rw[show xN y (CG c G) o[m] i o[m].body.length j=cp (jS y (CG c G) o[m] i j) by unfold xN jS;rw[QJ]]at this;exact this
   have ah:XN (∀(g a:Nat) (d:XP),uk f d b l (n+1) ls H->bC d g a (o[u].body.length+1) (y.length+1) (xN y (CG c G) o[u] i)->XO prog 110 #[XA (XK ⟨b,0,XJ⟩),rq L[u],XA (XK ⟨g,0,XJ⟩),XB #[Xx XF i,Xx XF j]] d fun e' E=>G3 f b l Gm n ls (pP y o (CG c G) (r+1) cd i j) H d e' E):=fun g a d gw gg=>by
    have c5:=b6 _ (PT ad);have pI:=Z u am ad;have c6:=M.bl _ (PT ad);have c7:=ct _ (PT ad);have co:ls.length<=n:=by
     have h7:jx n=n:=(by unfold jx;rw[PZ (by omega)]);rw[h7]at cn;exact cn
    rw[xH b3];refine GK f b l g c L[u] o[u] (rd y (CG c G) o[u] i j) (fun v=>pP y o (CG c G) r (o[u].types.getD v ⟨#[]⟩) (rd y (CG c G) o[u] i j v).1 (rd y (CG c G) o[u] i j v).2) Gm i j n ls H d gw (by omega) co pI c7 cF (fun wy q=>?_) (fun v hv n' c4 H' wy q1 q2 q3=>?_)
    ·refine CY l g c L[u] o[u] (nB y (CG c G) o[u] i j) i j wy (pI.Ur (gw.kp.trans q)) c5 c6 (by omega) (Ds hi hj bd) (fun k wz hk q2=>?_);obtain⟨o1,o2,o3,o4⟩:=KT b7 hi bd k hk;have kz:=(gw.kp.trans q).trans q2;refine ym l g L[u] (xN y (CG c G) o[u] i k) (fun x=>cr y (CG c G) o[u] o[u].body[k] x (nB y (CG c G) o[u] i j (k+1))) k _ _ (y.length+1) wz (by have:=M.ht;omega) (fun x wu hx qu=>?_) (fun x wu hx qu=>?_) o1 o2 o3 o4
     ·exact uM g a (o[u].body.length+1) (y.length+1) (xN y (CG c G) o[u] i) k x wu (gg.Ur ((q.trans q2).trans qu)) (by omega) (by have:=M.ht;omega) (by omega) hx
     ·exact yW l T hs y c cg ca G L[u] o[u] k x _ wu (h.Ur (kz.trans qu)) (pI.Ur (kz.trans qu)) (M.vw.Ur (kz.trans qu)) M.hn M.ht hk (by omega) hx o2
    ·have c3:v<o[u].vars.length:=(by rw[pI.len,<-pI.ng];exact hv);obtain⟨d1,d2,d3,d4⟩:=is.kids b6 hi hj h1 cl b3 v c3;exact ih _ _ _ _ n' c4 H' wy (pI.typ v hv) d1 d2 d3 d4 q1 q2 q3
   have a4:XN (∀d,aa [] W1 d->XI d ⟨w.heap.size,0,XJ⟩=XK (Xx XF i)/\XI d ⟨w.heap.size,1,XJ⟩=XK (Xx XF j)/\w.heap.size<d.heap.size):=fun d q=>by
    have B:=q.get av (by simp);exact⟨by rw[ab B];rfl,by rw[ab B];rfl,ae B⟩
   have dT:XN _:=cW;have bv:XN (u<L.length/\u<o.length/\∀(q:u<L.length),L[u].code=V):=⟨am,ad,fun _=>bk⟩;have bf:XN (∀(q:u<o.length),cp (jS y (CG c G) o[u] i j)=1):=fun _=>by rw[bd];rfl
   have ei:L.length<=100000:=(by have:=M.pl;omega);have dd:V<1000000:=by
    have h5:V<c.length:=Qe.1 (Qm a7);have h6:c.length<=c.length*(y.length+1):=RU _ (RK _);have:=M.hn;omega
   obtain⟨C,HC⟩:∃C,XN (CG c G=C):=⟨_,rfl⟩
   rw[HC.out]at b8 cf be ah bf ⊢;obtain⟨sb,b9⟩:∃sb,XN (w.heap.size=sb):=⟨_,rfl⟩
   rw[b9.out]at a4;have ea:=J.out;clear cb kW BS aq b1 t1 av M h b2 is b6 ct ai bd bo b3 b7 Z bg bk ih cl h1 hw a7;go_enter func84,ntmps84;(go_upto_region 1 with fail);rw[HW.out,b9.out];go_wp2;rw[bx.out]
   go_loopg [6] (u+1) (fun gk mv wr=>∃m:Nat,m<=u/\gk=u+1-m/\mv=Xx XF m/\XN (aa [] W1 wr))
   case atStart=>exact⟨0,by omega,rfl,rfl,aa.refl _ _⟩
   case round =>
    obtain⟨m,eg,ec,rfl,HK⟩:=hrel;have bc:=J.out.Ur HK.out;obtain⟨d0,-,-,ds⟩:=bc.cells;obtain⟨d1,eb⟩:=cv.out _ bc.kp;have t:m<L.length:=(by have:=bv.out.1;omega);have s:m<o.length:=(by have:=bv.out.2.1;omega);have ef:(m:Int)<L.length:=(by omega);have Y:XN _:=cw.out _ bc.kp;have F:XN _:=cz.out m t _ bc.kp;have O:XN _:=cf.out m t s;have az:XN _:=be.out m s;obtain⟨a9,dk⟩:=cu.out m t s;by_cases bm:m=u
    ·subst bm;have bq:XN _:=bv.out.2.2 t;have cj:=bf.out s;have bs:XN _:=ah.out;rw[cj]at az;clear cj;unfold rq at bs;rw[a9]at bs;unfold rq at F O;rw[a9]at F O;generalize L[m]=p at *;generalize o[m].body.length=I at *;(go_upto_region 7 with (first | (go_at_call 107;refine PU Y.out ?_;rintro e2 w2 ⟨rfl,R⟩;rw[R];clear R) | (go_at_call 108;refine PU F.out ?_;rintro e3 X ⟨rfl,k3⟩)));obtain⟨D,K⟩:∃W,XN (X.alloc (XE #[Xy p.label,Xx XF p.code,Xz (XK ⟨p.ap,0,XJ⟩) I I,Xz p.ag p.gs.length p.gs.length] 163)=W):=⟨_,rfl⟩
     have B4:D.heap[X.heap.size]?=XK (XE #[Xy p.label,Xx XF p.code,Xz (XK ⟨p.ap,0,XJ⟩) I I,Xz p.ag p.gs.length p.gs.length] 163):=(by rw[<-K.out];exact PM _ _);have S:aa [] X D:=(by rw[<-K.out];exact(aa.refl [] _).alloc _);have A:XN (aa [] W1 D):=(HK.out.trans k3).trans S;obtain⟨z,N⟩:∃z,XN (X.heap.size=z):=⟨_,rfl⟩
     rw[N.out]at B4;have U:XN (∀d,aa [] D d->(XI d ⟨b,0,XJ⟩=XK (XA (XK ⟨l,0,XJ⟩))/\XI d ⟨sb,0,XJ⟩=XK (Xx XF i)/\XI d ⟨sb,1,XJ⟩=XK (Xx XF j))/\(XI d ⟨z,0,XJ⟩=XK (Xy p.label)/\XI d ⟨z,1,XJ⟩=XK (Xx XF p.code)/\XI d ⟨z,2,XJ⟩=XK (Xz (XK ⟨p.ap,0,XJ⟩) I I)/\XI d ⟨z,3,XJ⟩=XK (Xz p.ag p.gs.length p.gs.length))/\z<d.heap.size/\b<d.heap.size/\sb<d.heap.size):=fun d q=>by
      have B:=q.get B4 (by simp);have c9:=(J.out.Ur (A.out.trans q)).cells;have c8:=a4.out d (A.out.trans q);refine⟨⟨c9.1,c8.1,c8.2.1⟩,⟨?_,?_,?_,?_⟩,ae B,c9.2.2.2,c8.2.2⟩ <;> (rw[ab B];rfl)
     rw[K.out,N.out];obtain⟨⟨a0,a1,a2⟩,⟨p0,p1,p2,p3⟩,l1,l2,l3⟩:=U.out D (aa.refl _ _);clear B4 S F Y k3;have a8:((p.code:Int) != (V:Int))=XM:=by rw[bq.out];simp
     have b0:XN _:=fun d (q:aa [] D d)=>O.out d (J.out.Ur (A.out.trans q)).kp;(go_upto_region 8 with fail);go_region_held3 (fun E=>(XI E ⟨b,0,XJ⟩=XK (XA (XK ⟨l,0,XJ⟩))/\XI E ⟨sb,0,XJ⟩=XK (Xx XF i))/\XI E ⟨z,0,XJ⟩=XK (Xy p.label)/\XI E ⟨z,1,XJ⟩=XK (Xx XF p.code)/\XI E ⟨z,2,XJ⟩=XK (Xz (XK ⟨p.ap,0,XJ⟩) I I)/\XI E ⟨z,3,XJ⟩=XK (Xz p.ag p.gs.length p.gs.length)) (go_keep) ((go_at_call 109;refine PU (b0.out _ (by exact(aa.refl [] D).drew)) ?_;rintro e5 w5 ⟨g5,a5,rfl,ac,b5,b4,k5⟩;obtain⟨⟨y0,y1,y2⟩,⟨y3,y4,y5,y6⟩,y7,y8,y9⟩:=U.out w5 ((aa.refl [] D).drew.trans k5)));have a3:XN (aa [] D w5):=(aa.refl [] D).drew.trans k5;have bp:XN _:=az.out g5 a5 w5 ac;have cx:XN _:=bs.out g5 a5 w5 (J.out.Ur (A.out.trans a3.out)) ac;clear ac b5 b4 k5;go_wp2_with (first | (go_at_call 106;refine PU bp.out ?_;rintro e6 w6 ⟨rfl,ao⟩;rw[ao];clear ao) | (go_at_call 110;refine PU cx.out ?_;rintro e7 w7 ⟨rfl,n7,l7,H7,r1,r2,r3⟩));go_end0;exact⟨rfl,n7,l7,H7,r1,r2,a6.out.trans (aj.first (A.out.trans a3.out) r3)⟩
    ·have bw:=b8.out m t s bm;by_cases Q:L[m].code=V
     ·have ch:=bw Q;have bq:XN _:=Q;rw[ch]at az;clear bw Q ch;unfold rq at F O;rw[a9]at F O;generalize L[m]=p at *;generalize o[m].body.length=I at *;(go_upto_region 7 with (first | (go_at_call 107;refine PU Y.out ?_;rintro e2 w2 ⟨rfl,R⟩;rw[R];clear R) | (go_at_call 108;refine PU F.out ?_;rintro e3 X ⟨rfl,k3⟩)));obtain⟨D,K⟩:∃W,XN (X.alloc (XE #[Xy p.label,Xx XF p.code,Xz (XK ⟨p.ap,0,XJ⟩) I I,Xz p.ag p.gs.length p.gs.length] 163)=W):=⟨_,rfl⟩
      have B4:D.heap[X.heap.size]?=XK (XE #[Xy p.label,Xx XF p.code,Xz (XK ⟨p.ap,0,XJ⟩) I I,Xz p.ag p.gs.length p.gs.length] 163):=(by rw[<-K.out];exact PM _ _);have S:aa [] X D:=(by rw[<-K.out];exact(aa.refl [] _).alloc _);have A:XN (aa [] W1 D):=(HK.out.trans k3).trans S;obtain⟨z,N⟩:∃z,XN (X.heap.size=z):=⟨_,rfl⟩
      rw[N.out]at B4;have U:XN (∀d,aa [] D d->(XI d ⟨b,0,XJ⟩=XK (XA (XK ⟨l,0,XJ⟩))/\XI d ⟨sb,0,XJ⟩=XK (Xx XF i)/\XI d ⟨sb,1,XJ⟩=XK (Xx XF j))/\(XI d ⟨z,0,XJ⟩=XK (Xy p.label)/\XI d ⟨z,1,XJ⟩=XK (Xx XF p.code)/\XI d ⟨z,2,XJ⟩=XK (Xz (XK ⟨p.ap,0,XJ⟩) I I)/\XI d ⟨z,3,XJ⟩=XK (Xz p.ag p.gs.length p.gs.length))/\z<d.heap.size/\b<d.heap.size/\sb<d.heap.size):=fun d q=>by
       have B:=q.get B4 (by simp);have c9:=(J.out.Ur (A.out.trans q)).cells;have c8:=a4.out d (A.out.trans q);refine⟨⟨c9.1,c8.1,c8.2.1⟩,⟨?_,?_,?_,?_⟩,ae B,c9.2.2.2,c8.2.2⟩ <;> (rw[ab B];rfl)
      rw[K.out,N.out];obtain⟨⟨a0,a1,a2⟩,⟨p0,p1,p2,p3⟩,l1,l2,l3⟩:=U.out D (aa.refl _ _);clear B4 S F Y k3;have a8:((p.code:Int) != (V:Int))=XM:=by rw[bq.out];simp
      have b0:XN _:=fun d (q:aa [] D d)=>O.out d (J.out.Ur (A.out.trans q)).kp;(go_upto_region 8 with fail);go_region_held3 (fun E=>(XI E ⟨b,0,XJ⟩=XK (XA (XK ⟨l,0,XJ⟩))/\XI E ⟨sb,0,XJ⟩=XK (Xx XF i))/\XI E ⟨z,0,XJ⟩=XK (Xy p.label)/\XI E ⟨z,1,XJ⟩=XK (Xx XF p.code)/\XI E ⟨z,2,XJ⟩=XK (Xz (XK ⟨p.ap,0,XJ⟩) I I)/\XI E ⟨z,3,XJ⟩=XK (Xz p.ag p.gs.length p.gs.length)) (go_keep) ((go_at_call 109;refine PU (b0.out _ (by exact(aa.refl [] D).drew)) ?_;rintro e5 w5 ⟨g5,a5,rfl,ac,b5,b4,k5⟩;obtain⟨⟨y0,y1,y2⟩,⟨y3,y4,y5,y6⟩,y7,y8,y9⟩:=U.out w5 ((aa.refl [] D).drew.trans k5)));have a3:XN (aa [] D w5):=(aa.refl [] D).drew.trans k5;have bp:XN _:=az.out g5 a5 w5 ac;clear ac b5 b4 k5;go_wp2_with (go_at_call 106;refine PU bp.out ?_;rintro e6 w6 ⟨rfl,ao⟩;rw[ao];clear ao);go_roundg (u+1-(m+1))
      case measure=>omega
      case rel=>exact⟨m+1,by omega,rfl,by go_num,A.out.trans a3.out⟩
     ·clear bw;have dc:L[m].code≠V:=Q;clear Q;unfold rq at F O;rw[a9]at F O;generalize L[m]=p at *;generalize o[m].body.length=I at *;(go_upto_region 7 with (first | (go_at_call 107;refine PU Y.out ?_;rintro e2 w2 ⟨rfl,R⟩;rw[R];clear R) | (go_at_call 108;refine PU F.out ?_;rintro e3 X ⟨rfl,k3⟩)));obtain⟨D,K⟩:∃W,XN (X.alloc (XE #[Xy p.label,Xx XF p.code,Xz (XK ⟨p.ap,0,XJ⟩) I I,Xz p.ag p.gs.length p.gs.length] 163)=W):=⟨_,rfl⟩
      have B4:D.heap[X.heap.size]?=XK (XE #[Xy p.label,Xx XF p.code,Xz (XK ⟨p.ap,0,XJ⟩) I I,Xz p.ag p.gs.length p.gs.length] 163):=(by rw[<-K.out];exact PM _ _);have S:aa [] X D:=(by rw[<-K.out];exact(aa.refl [] _).alloc _);have A:XN (aa [] W1 D):=(HK.out.trans k3).trans S;obtain⟨z,N⟩:∃z,XN (X.heap.size=z):=⟨_,rfl⟩
      rw[N.out]at B4;have U:XN (∀d,aa [] D d->(XI d ⟨b,0,XJ⟩=XK (XA (XK ⟨l,0,XJ⟩))/\XI d ⟨sb,0,XJ⟩=XK (Xx XF i)/\XI d ⟨sb,1,XJ⟩=XK (Xx XF j))/\(XI d ⟨z,0,XJ⟩=XK (Xy p.label)/\XI d ⟨z,1,XJ⟩=XK (Xx XF p.code)/\XI d ⟨z,2,XJ⟩=XK (Xz (XK ⟨p.ap,0,XJ⟩) I I)/\XI d ⟨z,3,XJ⟩=XK (Xz p.ag p.gs.length p.gs.length))/\z<d.heap.size/\b<d.heap.size/\sb<d.heap.size):=fun d q=>by
       have B:=q.get B4 (by simp);have c9:=(J.out.Ur (A.out.trans q)).cells;have c8:=a4.out d (A.out.trans q);refine⟨⟨c9.1,c8.1,c8.2.1⟩,⟨?_,?_,?_,?_⟩,ae B,c9.2.2.2,c8.2.2⟩ <;> (rw[ab B];rfl)
      rw[K.out,N.out];obtain⟨⟨a0,a1,a2⟩,⟨p0,p1,p2,p3⟩,l1,l2,l3⟩:=U.out D (aa.refl _ _);clear B4 S F Y k3;have a8:((p.code:Int) != (V:Int))=XL:=by simp;omega
      go_wp2;go_roundg (u+1-(m+1))
      case measure=>omega
      case rel=>exact⟨m+1,by omega,rfl,by go_num,A⟩
theorem Bh(A:Hd)(o:List ByteArray)(i t B:Nat)(G:Nat->Nat->Nat->Nat)(e:Nat)(w:XP)(h:dR w l T A o i t B G)(F:o.length<=100) :
  XO prog 83 #[XA (XK ⟨l,0,XJ⟩),Xx XF (-1),XB #[Xx XF 0,Xx XF e]] w fun j p=>j=XH (Xx XF 0)/\aa [] w p:=by
 obtain⟨W,g⟩:∃W,XN (w.alloc (XE #[Xx XF 0,Xx XF e] 141)=W):=⟨_,rfl⟩
 have n:aa [] w W:=by rw[<-g.out];exact(aa.refl [] _).alloc _
 have d:W.heap[w.heap.size]?=XK (XE #[Xx XF 0,Xx XF e] 141):=by rw[<-g.out];exact PM _ _
 have C:XI W ⟨w.heap.size,0,XJ⟩=XK (Xx XF 0):=by rw[ab d];rfl
 have D:XI W ⟨w.heap.size,1,XJ⟩=XK (Xx XF e):=by rw[ab d];rfl
 have m:=ae d;have k:=h.Ur n;obtain⟨-,-,s,E⟩:=k.cells;have y:=k.lt;have a:XN _:=n;obtain⟨S,u⟩:∃S,o.length+1=S:=⟨_,rfl⟩
 rw[u]at s;have f:XN (∀c,aa [] W c->XO prog 106 #[XA (XK ⟨i,0,XJ⟩),Xx XF (-(S:Int)),Xx XF e] c fun j p=>j=XH (Xx XF 0)/\p=c):=fun c q=>Nf i (-(S:Int)) e c (by omega);have z:(-1:Int)*(S:Int)=-(S:Int):=by omega
 have v:(0:Int)<(S:Int):=by omega
 have x:¬(S:Int)<=0:=by omega
 obtain⟨r,b⟩:∃r,XN (w.heap.size=r):=⟨_,rfl⟩
 rw[b.out]at C D m;clear h k d n;go_enter func83,ntmps83;go_upto_region 1 with fail
 rw[g.out,b.out];go_quiet (fail);go_upto_region 3 with fail
 go_quiet ((go_at_call 106;exact xk (f.out _ ((aa.refl [] _).drewN _))));go_wp2;go_ret;exact⟨rfl,by first | exact(a.out.drewN _).drewN _ | exact a.out.drewN _⟩
def Oh(tx:List ByteArray)(Ps:List cY)(code:ByteArray)(w:XP)(e:Ending)(w':XP):Prop:=∃res:Int×List ByteArray,qG tx Ps code res/\O3 res.2 res.1 w e w'
theorem Hu:(Instr.build 145 #[(0,XA (XK ⟨T,0,XJ⟩))]).run prog f=.ok (XB #[XA (XK ⟨T,0,XJ⟩),Xx XF 0,Xz XJ 0 0]) f :=
 run_build f 145 _ _ (by kernel_rfl)
theorem uI(hs:Hd)(l f:List ByteArray)(o:List cY)(L:List iX)(hc hp:Hd)(Gm:Nat)(j:ByteArray)(w:XP)(ok:xX w T hs l f o L hc hp)(bf:∀P∈o,kZ P)(bc:∀P∈o,P.vars.length<=Gm)(a3:Gm<=100000) :
  XO prog 54 #[XA (XK ⟨T,0,XJ⟩),Xz hs.ao l.length hs.cap,Xy j] w fun e w'=>Oh l o j w e w':=by
 have ah:XN _:=xb T hs l f o L hc hp w ok;have bg:XN (∀n,aa [] w n->XO prog 82 #[XA (XK ⟨T,0,XJ⟩),Xy j] n fun e w'=>e=XH (Xx XF (eT (aZ f j)))/\w'=n):=fun n q=>by
  have g:=ok.gm.Ur q;have h5:f.length<=f.length*(l.length+1):=RU _ (RK _);exact uV T f hc j n g.cells.1 g.lt g.cod (by have:=ok.hn;omega)
 have V:XN _:=ok;have a9:=ok.ht;have bo:XN _:=bf;have bq:XN _:=bc;clear ok bf bc;go_enter func54,ntmps54;go_upto_region 2 with (go_at_call 81;refine PU ah.out ?_;rintro e1 w1 ⟨c,cg,ca,G,rfl,a4,a0,is,k1⟩)
 have D:XN _:=bg.out w1 k1;obtain⟨r,hr⟩:=LM is j;have HR:XN _:=hr;have S:XN _:=a4;have ad:XN _:=a0;have y:XN _:=is;have E:XN _:=k1;have bm:XN ((madeCells (XB #[Xx XF 0,Xx XF 0]).cells 0).size=0):=by show _=_;exact QV _ _
 clear a4 a0 is k1 hr ah bm;go_upto_region 4 with (go_at_call 82;refine PU D.out ?_;rintro e2 w2 ⟨rfl,bd⟩;rw[bd];clear bd)
 obtain⟨W2,Z⟩:∃W,XN (w1.alloc (XE #[Xx XF 0,Xx XF l.length] 141)=W):=⟨_,rfl⟩
 have B2:W2.heap[w1.heap.size]?=XK (XE #[Xx XF 0,Xx XF l.length] 141):=by rw[<-Z.out];exact PM _ _
 have z:XN (aa [] w1 W2):=by rw[<-Z.out];exact(aa.refl [] _).alloc _
 obtain⟨sb,ap⟩:∃sb,XN (w1.heap.size=sb):=⟨_,rfl⟩
 rw[ap.out]at B2;have Y:XN (∀n,aa [] W2 n->XI n ⟨sb,0,XJ⟩=XK (Xx XF 0)/\XI n ⟨sb,1,XJ⟩=XK (Xx XF l.length)/\sb<n.heap.size):=fun n q=>by
  have B:=q.get B2 (by simp);exact⟨by rw[ab B];rfl,by rw[ab B];rfl,ae B⟩
 obtain⟨s0,s1,cb⟩:=Y.out W2 (aa.refl _ _);rw[Z.out,ap.out];clear B2;have s:XN (∀n (x:Int),aa [] w n->O3 [] x w (XH (XD #[Xz XJ 0 0,Xx XF x])) n):=fun n x q=>⟨XJ,rfl,⟨⟨fun _=>rfl,fun _=>rfl⟩,fun b e=>by cases e⟩,(fun b e=>by cases e),q⟩
 cases K:aZ f j with
 | none =>
  have p:XN _:=Bh c T hs l cg ca f.length G l.length W2 (S.out.Ur z.out) a9;have HP:XN (qG l o j (10,[])):=⟨CG f G,r,y.out,HR.out,by unfold uu;rw[PZ (show CG f G j 0 l.length=0 by unfold CG;rw[K])]⟩;clear D;go_wp2_with (go_at_call 83;refine PU p.out ?_;rintro e3 v ⟨rfl,M⟩);go_ret2;exact⟨(10,[]),HP.out,s.out v 10 ((E.out.trans z.out).trans M)⟩
 | some C =>
  have b0:C<f.length:=Qe.1 (Qm K);have p:XN _:=(lH c T hs l cg ca f.length G C 0 l.length W2 (S.out.Ur z.out) V.out.hn a9 b0 (by omega) (by omega));have cd:=ad.out.two C 0 l.length;have m:XN (CG f G j 0 l.length=G C 0 l.length):=xW K _ _;have h5:f.length<=f.length*(l.length+1):=RU _ (RK _);have b7:C<1000000:=by have:=V.out.hn;omega
  clear h5;have hv:G C 0 l.length=0∨G C 0 l.length=1∨G C 0 l.length=2:=by omega
  rcases hv with hv | hv | hv
  ·rw[hv]at p m;have HP:XN (qG l o j (10,[])):=⟨CG f G,r,y.out,HR.out,by unfold uu;rw[PZ m.out]⟩;clear D;go_wp2_with (go_at_call 83;refine PU p.out ?_;rintro e3 v ⟨rfl,M⟩);go_ret2;exact⟨(10,[]),HP.out,s.out v 10 ((E.out.trans z.out).trans M)⟩
  ·rw[hv]at p m;have bw:=fun w=>Hu w c;have H:=HR.out m.out;have bp:XN (0<(pP l o (CG f G) r j 0 l.length).length):=by
    cases r with
    | zero=>exact absurd H (R8 _)
    | succ r=>exact CW y.out (by omega) (by omega) m.out
   have ai:XN (uu l o (CG f G) r j=if 64<(pP l o (CG f G) r j 0 l.length).length then(3,[]) else(0,pP l o (CG f G) r j 0 l.length)):=by
    show _=_;unfold uu;rw[PV (by rw[m.out];omega),PZ m.out]
   have am:XN (qG l o j (uu l o (CG f G) r j)):=⟨CG f G,r,y.out,HR.out,rfl⟩
   have bs:XN (∀w0 O n,aa [] w1 w0->uk w0 n O c 0 [] (fun _=>⟨XJ,0⟩)->XO prog 84 #[XA (XK ⟨O,0,XJ⟩),Xx XF C,XB #[Xx XF 0,Xx XF l.length]] n fun e' w'=>G3 w0 O c Gm 0 [] (pP l o (CG f G) r j 0 l.length) (fun _=>⟨XJ,0⟩) n e' w'):=fun w0 O n q g =>
    C0 w0 O c T hs l f o L hc hp cg ca G Gm (V.out.Ur (E.out.trans q)) (S.out.Ur q) ad.out y.out bo.out bq.out a3 r j C 0 l.length 0 [] (fun _=>⟨XJ,0⟩) n K (by omega) (by omega) m.out H g (by omega) (Qx _)
   generalize pP l o (CG f G) r j 0 l.length=t at *;have b9:((eT (XK C):Int))=(C:Int):=rfl;clear D H;(go_upto_region 9 with (go_at_call 83;refine PU p.out ?_;rintro e3 v ⟨rfl,M⟩));have ag:XN (aa [] w1 v):=z.out.trans M;have b4:=Y.out v M;have J:XN (uk v (v.alloc (XE #[XA (XK ⟨c,0,XJ⟩),Xx XF 0,Xz XJ 0 0] 145)) v.heap.size c 0 [] (fun _=>⟨XJ,0⟩)):=⟨⟨PM _ _,fun i=>by cases i <;> exact Qj _ _ _ _,fun _ _ _=>P0 rfl,fun _=>by simp[Hd.blk]⟩,(aa.refl [] _).alloc _,PQ _,fun k hk=>by obtain⟨i,hi⟩:=hk;simp[Hd.blk]at hi⟩
   (go_upto_region 10 with fail);obtain⟨W4,aq⟩:∃W,XN (v.alloc (XE #[XA (XK ⟨c,0,XJ⟩),Xx XF 0,Xz XJ 0 0] 145)=W):=⟨_,rfl⟩
   rw[aq.out]at J;have a6:=J.out.kp;obtain⟨O,av⟩:∃O,XN (v.heap.size=O):=⟨_,rfl⟩
   rw[av.out]at J;rw[aq.out,av.out];obtain⟨v0,v1,v2⟩:=Y.out W4 (M.trans a6);have bv:XN _:=bs.out v O W4 ag.out J.out;(go_upto_region 11 with (go_at_call 84;refine PU bv.out ?_;rintro e5 I ⟨rfl,n5,A,H5,r1,r2,r3⟩));obtain⟨d0,d1,d2,b5⟩:=r1.cells;have U:XN (aa [] w I):=(E.out.trans ag.out).trans r1.kp;have R:w.heap.size<=I.heap.size:=U.out.size;have b8:n5<=6400001:=by
    have h1:=r2.d;have h2:jx n5-jx 0<=64:=by unfold jx;split <;> split <;> omega
    have h3:Gm*(jx n5-jx 0)<=100000*64:=Q3 a3 h2;omega
   by_cases ht:64<t.length
   ·have h6:=r2.b (by omega);have bx:(n5:Int) > 64:=(by omega);have X:XN (qG l o j (3,[])):=by
     have:=am.out;rw[ai.out,PZ ht]at this;exact this
    go_wp2;go_ret2;exact⟨(3,[]),X.out,s.out I 3 U.out⟩
   ·obtain⟨a1,a2⟩:=r2.a (by omega);have bx:¬(n5:Int) > 64:=(by omega);have X:XN (qG l o j (0,t)):=by
     have:=am.out;rw[ai.out,PV ht]at this;exact this
    rw[RV]at a2;subst a2;obtain⟨i0,hi,b1,be,b2⟩:=Qq ey;have m1:=fun w=>bR (P:=prog) w 22 9 i0 _ underlying22 hi b1 A.length 1 be (by rw[b2];omega) (by omega);obtain⟨N,F⟩:∃mc,mc=madeCells (Xy ⟨#[]⟩).cells (A.length*1):=⟨_,rfl⟩
    have z1:N.size=A.length*1:=(by rw[F,QV]);rw[<-F]at m1;clear F;obtain⟨W6,ac⟩:∃W,XN (I.alloc (XE N 9)=W):=⟨_,rfl⟩
    have K6:aa [] I W6:=(by rw[<-ac.out];exact(aa.refl [] _).alloc _);have GW:W6.heap[I.heap.size]?=XK (XE N 9):=(by rw[<-ac.out];exact PM _ _);have Q:(prog.info? (au A).e).map (·.size)=XK (au A).size:=(by simp[au,hi,be]);obtain⟨w7,az,a5,a7,b3⟩:=jT (P:=prog) W6 22 22 3 I.heap.size A.length (H5 0) (au A) N 9 underlying22 Q GW ((r1.bag.own 0).Ur K6) z1 (fun u hu=>by obtain⟨x,-,rfl⟩:=Qu.1 hu;rfl);have b6:(Builtin.copy_ #[22,22] 3 #[Xz (XK ⟨I.heap.size,0,XJ⟩) A.length A.length,Xz (H5 0).ao A.length (H5 0).cap]).run prog W6=.ok (goInt A.length) w7:=az;have a8:=bp.out;have bk:XN (yd w7 (XK I.heap.size) A):=⟨⟨(fun e=>by cases e),fun e=>by rw[e]at a8;cases a8⟩,fun b e=>by cases e;exact a5⟩;have bl:XN (aa [] w w7):=ka U.out ((K6.mono (by simp)).trans a7) R;have q6:=(r1.Ur K6).cells;obtain⟨q0,q1,q2,q3⟩:=q6;clear K6 GW a5 a7 b3 z1 az Q r1 r2 r3;(go_upto_region 14 with fail);rw[ac.out];go_wp2;go_ret2;exact⟨(0,A),X.out,XK I.heap.size,rfl,bk.out,(fun b e=>by cases e;exact R),bl.out⟩
  ·rw[hv]at p m;have HP:XN (qG l o j (11,[])):=⟨CG f G,r,y.out,HR.out,by unfold uu;rw[PV (by rw[m.out];omega),PV (by rw[m.out];omega)]⟩;clear D;go_wp2_with (go_at_call 83;refine PU p.out ?_;rintro e3 v ⟨rfl,M⟩);go_ret2;exact⟨(11,[]),HP.out,s.out v 11 ((E.out.trans z.out).trans M)⟩
end Go.Proofs.YtnbalopedcgpcaaGreat
