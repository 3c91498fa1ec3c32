import Derived.Deep.QuietTactic
import Derived.BigQuiet
import Derived.Test.YtnbalopedcgpcaaGreatG38
namespace Go.Proofs.YtnbalopedcgpcaaGreat
open Go.RowKit Tryz
open Value renaming int->Xx,string->Xy,slice->Xz,pointer->XA,agg->XB,bool->XC
open Obj renaming cells->XE
open IntKind renaming i64->XF
open Ending renaming returned->XH
open World renaming cell?->XI
open Option renaming none->XJ,some->XK
open Bool renaming true->XL,false->XM
open Go.RowKit renaming Hid->XN
open Go renaming Calls->XO,World->XP,Value->XQ
set_option maxHeartbeats 0
variable{D:List ByteArray}{i:cY}{I:Nat->Nat->Nat->Nat}(S x:Nat)(d:Hd)(l:List ByteArray)(y:Nat)(H:List ByteArray)(o a:Nat)(T:Nat->Nat->Nat->Nat)(v:Nat)(f:List cY)
structure iX where
 label:ByteArray
 code:Nat
 ap:Nat
 np:Nat
 ag:Option Addr
 gs:List Nat
def MW(p:iX):List XQ:=[Xy p.label,Xx XF p.code,Xz (XK ⟨p.ap,0,XJ⟩) p.np p.np,Xz p.ag p.gs.length p.gs.length]
def rq(p:iX):XQ:=XB #[Xy p.label,Xx XF p.code,Xz (XK ⟨p.ap,0,XJ⟩) p.np p.np,Xz p.ag p.gs.length p.gs.length]
def Ob(vs:List ByteArray)(s:ByteArray):List XQ:=[Xy s,Xx XF (eT (aZ vs s))]
structure jK(w:XP)(codes:List ByteArray)(p:iX)(P:cY):Prop where
 lab:p.label=P.label
 cod:aZ codes P.code=XK p.code
 np:p.np=P.body.length
 parts:ot w (XK ⟨p.ap,0,XJ⟩) 2 (Ob P.vars) P.body
 ng:p.gs.length=P.types.length
 len:P.vars.length=P.types.length
 gaps:pV w p.ag p.gs
 typ:∀v (h:v<p.gs.length),aZ codes (P.types.getD v ⟨#[]⟩)=XK p.gs[v]
theorem jK.Ur{w a:XP}{p:iX}(h:jK w D p i)(k:aa [] w a):jK a D p i:=⟨h.lab,h.cod,h.np,h.parts.Ur k,h.ng,h.len,h.gaps.Ur k,h.typ⟩
structure pR(w:XP)(gm:Nat)(codes:List ByteArray)(Ps:List cY)(L:List iX)(hc hp:Hd):Prop where
 blk:w.heap[gm]?=XK (XE #[Xz hc.ao codes.length hc.cap,Xz hp.ao L.length hp.cap] 134)
 cod:cE w hc codes
 prd:ot w hp.ao 4 MW L
 cap:L.length<=hp.cap
 len:L.length=Ps.length
 each:∀(n:Nat) (p:iX) (P:cY),L[n]?=XK p->Ps[n]?=XK P->jK w codes p P
section
variable {w w':XP} {gm:Nat} {codes:List ByteArray} {Ps:List cY} {L:List iX} {hc hp:Hd}
theorem pR.Ur(h:pR w gm codes Ps L hc hp)(k:aa [] w w'):pR w' gm codes Ps L hc hp:=⟨k.get h.blk (by simp),h.cod.Ur k,h.prd.Ur k,h.cap,h.len,fun n p P a b=>(h.each n p P a b).Ur k⟩
theorem pR.cells(h:pR w gm codes Ps L hc hp):XI w ⟨gm,0,XJ⟩=XK (Xz hc.ao codes.length hc.cap)/\XI w ⟨gm,1,XJ⟩=XK (Xz hp.ao L.length hp.cap):=by
 refine⟨?_,?_⟩ <;> (rw[ab h.blk];rfl)
theorem pR.lt(h:pR w gm codes Ps L hc hp):gm<w.heap.size:=ae h.blk
end
theorem pZ(L:List iX)(a c:Hd)(w:XP)(h:pR w y H f L a c) :
  XO prog 104 #[XA (XK ⟨y,0,XJ⟩)] w fun e d=>e=XH (Xx XF H.length)/\d=w:=by
 obtain⟨g,-⟩:=h.cells;have b:=h.lt;clear h;go_enter func104,ntmps104;go_wp2;go_ret;exact⟨rfl,rfl⟩
theorem yC(L:List iX)(a c:Hd)(w:XP)(h:pR w y H f L a c) :
  XO prog 107 #[XA (XK ⟨y,0,XJ⟩)] w fun e d=>e=XH (Xx XF L.length)/\d=w:=by
 obtain⟨-,g⟩:=h.cells;have b:=h.lt;clear h;go_enter func107,ntmps107;go_wp2;go_ret;exact⟨rfl,rfl⟩
theorem uV(j:Hd)(x:ByteArray)(w:XP)(u:XI w ⟨y,0,XJ⟩=XK (Xz j.ao H.length j.cap))(o:y<w.heap.size)(v:cE w j H)(M:H.length<=1073741824) :
  XO prog 82 #[XA (XK ⟨y,0,XJ⟩),Xy x] w fun e E=>e=XH (Xx XF (eT (aZ H x)))/\E=w:=by
 obtain⟨l,c⟩:∃l,XN (j.ao=l):=⟨_,rfl⟩
 rw[c.out]at u;go_enter func82,ntmps82;go_wp2
 go_loopg [5] H.length (fun g i wr=>∃k:Nat,k<=H.length/\g=H.length-k/\i=Xx XF k/\XN (∀i,i<k->((H.getD i ⟨#[]⟩).toList==x.toList)=XM)/\wr=w)
 case atStart=>exact⟨0,by omega,by omega,rfl,fun i r=>by omega,rfl⟩
 case round =>
  obtain⟨k,L,K,rfl,a,rfl⟩:=hrel;by_cases b:k<H.length
  ·rcases v with B | ⟨g,d,z,t,A,n,p,I,J⟩
   ·rw[B]at b;simp at b
   ·have G:XI wr ⟨g,d+k,XJ⟩=XK (Xy H[k]):=(by rw[ab n];exact p k H[k] (PJ b));obtain rfl:l=XK ⟨g,d,XJ⟩:=c.out.symm.trans A;have f:XN _:=i7 H k b;have o:=ae n;have C:(k:Int)<H.length:=(by omega);generalize H[k]=F at *;clear n p;cases q:(F.toList==x.toList)
    ·have s:XN (∀i,i<k+1->((H.getD i ⟨#[]⟩).toList==x.toList)=XM):=by
      intro i r;by_cases e:i=k
      ·subst e;rw[f.out];exact q
      ·exact a.out i (by omega)
     clear f;go_wp2;go_roundg (H.length-(k+1))
     case measure=>omega
     case rel=>exact⟨k+1,by omega,rfl,by go_num,s,rfl⟩
    ·have m:XN (aZ H x=XK k):=dN b (by rw[f.out];exact q) a.out;clear f;go_wp2;go_ret;exact⟨ay (by rw[m.out];rfl),rfl⟩
  ·have m:XN (aZ H x=XJ):=eJ (fun i r=>a.out i (by omega));have D:¬(k:Int)<H.length:=(by omega);go_wp2;go_ret;exact⟨ay (by rw[m.out];rfl),rfl⟩
theorem l9(L:List iX)(i q:Hd)(n:Nat)(m:n<L.length)(w:XP)(h:pR w y H f L i q) :
  XO prog 108 #[XA (XK ⟨y,0,XJ⟩),Xx XF n] w fun e r=>e=XH (rq L[n])/\aa [] w r:=by
 obtain⟨-,b⟩:=h.cells;have l:=h.lt;have j:=h.cap;obtain⟨g,d,k,a⟩:=h.prd n L[n] (PJ m);have c:=a 0 _ rfl;have s:=a 1 _ rfl;have t:=a 2 _ rfl;have u:=a 3 _ rfl;rw[QT]at c;rw[d]at b;have o:(n:Int)<L.length:=by omega
 unfold rq;generalize L[n]=p at *;clear h a;go_enter func108,ntmps108;go_wp2;exact Qg (v:=XB #[Xy p.label,Xx XF p.code,Xz (XK ⟨p.ap,0,XJ⟩) p.np p.np,Xz p.ag p.gs.length p.gs.length]) (by simp[results,results108,go_sem]) rfl ⟨rfl,(aa.refl _ _).alloc _⟩
def qP(S:Nat)(G:Nat->Nat->Nat->Nat):Nat->Nat->Nat:=fun l e=>G (l / S) (l % S) e
structure dR(w:XP)(c gm:Nat)(hs:Hd)(tx:List ByteArray)(cg ca nc:Nat)(G:Nat->Nat->Nat->Nat):Prop where
 blk:w.heap[c]?=XK (XE #[XA (XK ⟨gm,0,XJ⟩),Xz hs.ao tx.length hs.cap,Xx XF (tx.length+1:Nat),XA (XK ⟨cg,0,XJ⟩)] 173)
 cnt:bC w cg ca (nc*(tx.length+1)) (tx.length+1) (qP (tx.length+1) G)
section
variable {w w':XP} {c gm cg ca nc:Nat} {hs:Hd} {tx:List ByteArray} {G:Nat->Nat->Nat->Nat}
theorem dR.Ur(h:dR w c gm hs tx cg ca nc G)(k:aa [] w w'):dR w' c gm hs tx cg ca nc G:=⟨k.get h.blk (by simp),h.cnt.Ur k⟩
theorem dR.cells(h:dR w c gm hs tx cg ca nc G):XI w ⟨c,0,XJ⟩=XK (XA (XK ⟨gm,0,XJ⟩))/\XI w ⟨c,1,XJ⟩=XK (Xz hs.ao tx.length hs.cap)/\XI w ⟨c,2,XJ⟩=XK (Xx XF (tx.length+1:Nat))/\XI w ⟨c,3,XJ⟩=XK (XA (XK ⟨cg,0,XJ⟩)):=by
 refine⟨?_,?_,?_,?_⟩ <;> (rw[ab h.blk];rfl)
theorem dR.lt(h:dR w c gm hs tx cg ca nc G):c<w.heap.size:=ae h.blk
end
set_option maxRecDepth 100000
theorem lH(b e:Nat)(w:XP)(h:dR w S x d l y o a T)(D:a*(l.length+1)<=1000000)(P:l.length<=100)(J:v<a)(m:b<l.length+1)(C:e<l.length+1) :
  XO prog 83 #[XA (XK ⟨S,0,XJ⟩),Xx XF v,XB #[Xx XF b,Xx XF e]] w fun r A=>r=XH (Xx XF (T v b e))/\aa [] w A:=by
 obtain⟨W,p⟩:∃W,XN (w.alloc (XE #[Xx XF b,Xx XF e] 141)=W):=⟨_,rfl⟩
 have z:aa [] w W:=by rw[<-p.out];exact(aa.refl [] _).alloc _
 have j:W.heap[w.heap.size]?=XK (XE #[Xx XF b,Xx XF e] 141):=by rw[<-p.out];exact PM _ _
 have M:XI W ⟨w.heap.size,0,XJ⟩=XK (Xx XF b):=by rw[ab j];rfl
 have N:XI W ⟨w.heap.size,1,XJ⟩=XK (Xx XF e):=by rw[ab j];rfl
 have u:=ae j;have k:=h.Ur z;obtain⟨-,-,F,O⟩:=k.cells;have I:=k.lt;have s:v*(l.length+1)+b<a*(l.length+1):=mA J m;have c:XN (∀i,aa [] W i->XO prog 106 #[XA (XK ⟨y,0,XJ⟩),Xx XF (v*(l.length+1)+b:Nat),Xx XF e] i fun r A=>r=XH (Xx XF (T v b e))/\A=i):=fun i q=>by
  have:=uM y o (a*(l.length+1)) (l.length+1) (qP (l.length+1) T) (v*(l.length+1)+b) e i (k.cnt.Ur q) D (by omega) s C;rw[show qP (l.length+1) T (v*(l.length+1)+b) e=T v b e by unfold qP;rw[lO m,lP m]]at this;exact this
 have n:XN _:=z;obtain⟨g,B⟩:∃g,l.length+1=g:=⟨_,rfl⟩
 rw[B]at F m C s c;obtain⟨q,t⟩:∃q,v*g=q:=⟨_,rfl⟩
 have K:(v:Int)*(g:Int)=(q:Int):=by rw[<-t];simp
 rw[t]at s c;simp only[Int.natCast_add]at c;have L:q<=1000000:=by rw[B]at D;omega
 obtain⟨E,f⟩:∃E,XN (w.heap.size=E):=⟨_,rfl⟩
 rw[f.out]at M N u;have H:(b:Int)<(g:Int):=by omega
 have G:decide ((b:Int)<0)=XM:=RY (by omega);clear h k j z t;go_enter func83,ntmps83;go_upto_region 1 with fail
 rw[p.out,f.out];go_quiet (fail);go_upto_region 3 with fail
 go_quiet ((go_at_call 106;exact xk (c.out _ ((aa.refl [] _).drewN _))));go_wp2;go_ret;exact⟨rfl,(n.out.drewN _).drewN _⟩
theorem xW{c:ByteArray}{k:Nat}(h:aZ D c=XK k)(i j:Nat):CG D I c i j=I k i j:=by unfold CG;rw[h]
theorem yW(p:iX)(P:cY)(k i j:Nat)(w:XP)(h:dR w S x d l o a H.length T)(D:jK w H p P)(U:cE w d l)(hn:H.length*(l.length+1)<=1000000)(ht:l.length<=100)(hk:k<P.body.length)(ai:P.body.length<=1000000)(hi:i<l.length+1)(hj:j<l.length+1) :
  XO prog 129 #[XA (XK ⟨S,0,XJ⟩),rq p,Xx XF k,XB #[Xx XF i,Xx XF j]] w fun e L=>e=XH (Xx XF (cr l (CG H T) P P.body[k] i j))/\aa [] w L:=by
 obtain⟨W,J⟩:∃W,XN ((w.alloc (XE #[Xy p.label,Xx XF p.code,Xz (XK ⟨p.ap,0,XJ⟩) p.np p.np,Xz p.ag p.gs.length p.gs.length] 163)).alloc (XE #[Xx XF i,Xx XF j] 141)=W):=⟨_,rfl⟩
 have V:aa [] w (w.alloc (XE #[Xy p.label,Xx XF p.code,Xz (XK ⟨p.ap,0,XJ⟩) p.np p.np,Xz p.ag p.gs.length p.gs.length] 163)):=(aa.refl [] _).alloc _;have F:aa [] w W:=by rw[<-J.out];exact V.alloc _
 have G:W.heap[w.heap.size]?=XK (XE #[Xy p.label,Xx XF p.code,Xz (XK ⟨p.ap,0,XJ⟩) p.np p.np,Xz p.ag p.gs.length p.gs.length] 163):=by
  rw[<-J.out];exact((aa.refl [] _).alloc _).get (PM w _) (by simp)
 have I:W.heap[w.heap.size+1]?=XK (XE #[Xx XF i,Xx XF j] 141):=by
  rw[<-J.out];have:=PM (w.alloc (XE #[Xy p.label,Xx XF p.code,Xz (XK ⟨p.ap,0,XJ⟩) p.np p.np,Xz p.ag p.gs.length p.gs.length] 163)) (XE #[Xx XF i,Xx XF j] 141);rw[show(w.alloc (XE #[Xy p.label,Xx XF p.code,Xz (XK ⟨p.ap,0,XJ⟩) p.np p.np,Xz p.ag p.gs.length p.gs.length] 163)).heap.size=w.heap.size+1 by simp]at this;exact this
 have K:=h.Ur F;have n:=D.Ur F;obtain⟨g,e1,a9,f⟩:=n.parts k P.body[k] (PJ hk);cases e1
 have d0:=f 0 _ rfl;have R:=f 1 _ rfl;rw[QT]at d0;have m:=D.np;have p2:XI W ⟨w.heap.size,2,XJ⟩=XK (Xz (XK ⟨p.ap,0,XJ⟩) p.np p.np):=by rw[ab G];rfl
 have p3:XI W ⟨w.heap.size,3,XJ⟩=XK (Xz p.ag p.gs.length p.gs.length):=by rw[ab G];rfl
 have s0:XI W ⟨w.heap.size+1,0,XJ⟩=XK (Xx XF i):=by rw[ab I];rfl
 have s1:XI W ⟨w.heap.size+1,1,XJ⟩=XK (Xx XF j):=by rw[ab I];rfl
 have ac:=ae G;have N:=ae I;obtain⟨-,c1,-,-⟩:=K.cells;have a7:=K.lt;have b:XN _:=F;obtain⟨X,s⟩:∃X,XN (w.heap.size+1=X):=⟨_,rfl⟩
 rw[s.out]at s0 s1 N;obtain⟨pb,r⟩:∃pb,XN (w.heap.size=pb):=⟨_,rfl⟩
 rw[r.out]at p2 p3 ac;have be:(k:Int)<(p.np:Int):=by rw[m];omega
 have bf:p.np<=1000000:=by rw[m];exact ai
 unfold rq;cases E:aZ P.vars P.body[k] with
 | some v =>
  have aq:v<P.vars.length:=Qe.1 (Qm E);have ad:v<p.gs.length:=by rw[D.ng,<-D.len];exact aq
  have O:=D.typ v ad;have C:XN (cr l (CG H T) P P.body[k] i j=T p.gs[v] i j):=by show _=_;rw[oW E,xW O]
  have ao:p.gs[v]<H.length:=Qe.1 (Qm O);obtain⟨gg,e2,Y,am⟩:=n.gaps v p.gs[v] (PJ ad);have ah:XN (∀A,aa [] W A->XO prog 83 #[XA (XK ⟨S,0,XJ⟩),Xx XF p.gs[v],XB #[Xx XF i,Xx XF j]] A fun e' L=>e'=XH (Xx XF (T p.gs[v] i j))/\aa [] A L):=fun A q=>lH S x d l o a H.length T p.gs[v] i j A (K.Ur q) hn ht ao hi hj;rw[C.out];rw[e2]at p3;clear e2;rw[E]at R;replace R:XI W ⟨p.ap,k*2+1,XJ⟩=XK (Xx XF (v:Int)):=R;generalize p.gs[v]=kc at *;have bg:(v:Int)<(p.gs.length:Int):=by omega
  generalize T kc i j=bk at *;have HC:XN (∀A,aa [] W A->XI A ⟨pb,3,XJ⟩=XK (Xz (XK ⟨gg,0,XJ⟩) p.gs.length p.gs.length)/\XI A ⟨gg,v,XJ⟩=XK (Xx XF kc)/\XI A ⟨X,0,XJ⟩=XK (Xx XF i)/\XI A ⟨X,1,XJ⟩=XK (Xx XF j)):=fun A q=>by
   refine⟨?_,?_,?_,?_⟩
   ·rw[Qy (q.block _ ac (by simp))];exact p3
   ·rw[Qy (q.block _ Y (by simp))];exact am
   ·rw[Qy (q.block _ N (by simp))];exact s0
   ·rw[Qy (q.block _ N (by simp))];exact s1
  clear h D K n f G I F V m C E O U;go_enter func129,ntmps129;go_upto_region 1 with fail
  rw[J.out,s.out,r.out];go_upto_region 5 with fail
  go_region_held3 (fun L=>XI L ⟨pb,3,XJ⟩=XK (Xz (XK ⟨gg,0,XJ⟩) p.gs.length p.gs.length)/\XI L ⟨gg,v,XJ⟩=XK (Xx XF kc)/\XI L ⟨X,0,XJ⟩=XK (Xx XF i)/\XI L ⟨X,1,XJ⟩=XK (Xx XF j)) (go_keep) ((go_at_call 83;refine PU (ah.out _ (by exact(aa.refl [] W).drew)) ?_;rintro e3 w3 ⟨rfl,k3⟩;obtain⟨x0,x1,x2,x3⟩:=HC.out w3 ((aa.refl [] W).drew.trans k3)));go_wp2;go_ret;exact⟨rfl,b.out.trans ((aa.refl [] W).drew.trans k3)⟩
 | none =>
  rw[E]at R;replace R:XI W ⟨p.ap,k*2+1,XJ⟩=XK (Xx XF (-1)):=R;have c:cr l (CG H T) P P.body[k] i j=if j=i+1/\i<l.length/\((l.getD i ⟨#[]⟩).toList==P.body[k].toList)=XL then 1 else 0:=by unfold cr;rw[E]
  have bc:decide ((i:Int)<0)=XM:=RY (by omega);have Q:=U.Ur F;generalize P.body[k]=y at *;by_cases u:i<l.length
  ·have az:decide (l.length<=i)=XM:=RY (by omega);by_cases B:j=i+1
   ·rcases Q with h0 | ⟨gt,av,a6,t,a1,a2,a3,a4,a5⟩
    ·rw[h0]at u;simp at u
    ·have t0:XI W ⟨gt,av+i,XJ⟩=XK (Xy l[i]):=(by rw[ab a2];exact a3 i l[i] (PJ u));have a8:=ae a2;rw[a1]at c1;have M:l.getD i ⟨#[]⟩=l[i]:=fT l i u;rw[M]at c;have bd:(i:Int)<l.length:=(by omega);have Z:((j:Int) != (i:Int)+1)=XM:=(by rw[B];simp);generalize l[i]=z at *;cases hb:(z.toList==y.toList)
     ·have C:XN (cr l (CG H T) P y i j=0):=(by show _=_;rw[c,hb];simp);rw[C.out];clear h D K n f G I F V m c E U M a1 a2 a3 a4 a5 B;go_enter func129,ntmps129;(go_upto_region 1 with fail);rw[J.out,s.out,r.out];(go_upto_region 6 with fail);go_quiet (fail);(go_upto_region 8 with fail);go_quiet (fail);go_wp2;go_ret;exact⟨rfl,by first | exact b.out.drewN _ | exact(b.out.drewN _).drewN _⟩
     ·have C:XN (cr l (CG H T) P y i j=1):=(by show _=_;rw[c,hb];simp[u,B]);rw[C.out];clear h D K n f G I F V m c E U M a1 a2 a3 a4 a5 B;go_enter func129,ntmps129;(go_upto_region 1 with fail);rw[J.out,s.out,r.out];(go_upto_region 6 with fail);go_quiet (fail);(go_upto_region 8 with fail);go_quiet (fail);go_wp2;go_ret;exact⟨rfl,by first | exact b.out.drewN _ | exact(b.out.drewN _).drewN _⟩
   ·have Z:(((j:Nat):Int) != (i:Int)+1)=XL:=(by simp;omega);have C:XN (cr l (CG H T) P y i j=0):=(by show _=_;rw[c,PV (fun q=>B q.1)]);rw[C.out];clear h D K n f G I F V m c E U Q;go_enter func129,ntmps129;(go_upto_region 1 with fail);rw[J.out,s.out,r.out];(go_upto_region 6 with fail);go_quiet (fail);go_wp2;go_ret;exact⟨rfl,by first | exact b.out.drewN _ | exact(b.out.drewN _).drewN _⟩
  ·have a0:(l.length:Int)<=(i:Int):=(by omega);have C:XN (cr l (CG H T) P y i j=0):=(by show _=_;rw[c,PV (fun q=>u q.2.1)]);rw[C.out];clear h D K n f G I F V m c E U Q;go_enter func129,ntmps129;(go_upto_region 1 with fail);rw[J.out,s.out,r.out];(go_upto_region 6 with fail);go_quiet (fail);go_wp2;go_ret;exact⟨rfl,by first | exact b.out.drewN _ | exact(b.out.drewN _).drewN _⟩
theorem M8(h:∀k i j,I k i j<=2)(c:ByteArray)(i j:Nat):CG D I c i j<=2:=by
 unfold CG;split
 ·exact h _ _ _
 ·omega
def rT(tx:List ByteArray)(C:kn)(P:cY)(b k m:Nat):Nat->Nat->Nat:=fun r e =>
 if r<=k then cp (wy (tx.length+1) (cr tx C P) (P.body.take r) b e) else if r=k+1 then Bz tx C P b k m e else 0
def xU(tx:List ByteArray)(C:kn)(P:cY)(b k m E:Nat):Nat->Nat->Nat:=fun r e =>
 if r<=k then cp (wy (tx.length+1) (cr tx C P) (P.body.take r) b e) else if r=k+1 then(if e<E then Bz tx C P b k (m+1) e else Bz tx C P b k m e) else 0
def xN(tx:List ByteArray)(C:kn)(P:cY)(b:Nat):Nat->Nat->Nat:=fun r e=>cp (wy (tx.length+1) (cr tx C P) (P.body.take r) b e)
section
variable {tx:List ByteArray} {C:kn} {P:cY} {b k m E r e:Nat}
theorem wI:Bz tx C P b k m e<=2:=oM _
theorem O9:rT tx C P b k m r e<=2:=by unfold rT;split;exact oM _;split;exact wI;omega
theorem MA:xU tx C P b k m E r e<=2:=by unfold xU;split;exact oM _;split;(split <;> exact wI);omega
theorem Kj(t:iZ C):xU tx C P b k m (b+m) r e=rT tx C P b k m r e:=by
 unfold xU rT;split
 ·rfl
 ·split
  ·split
   ·next h=>exact Lr t b k m e h
   ·rfl
  ·rfl
theorem NY(a:e<E):xU tx C P b k m E r e=rT tx C P b k (m+1) r e:=by
 unfold xU rT;rw[PZ a]
theorem MB(c:cp (wy (tx.length+1) (cr tx C P) (P.body.take k) b (b+m))=0):rT tx C P b k m r e=rT tx C P b k (m+1) r e:=by
 unfold rT;have a:Bz tx C P b k (m+1) e=Bz tx C P b k m e:=by rw[wH,c,Tr,QT,lj wI]
 rw[a]
theorem NZ(t:iZ C)(g:k<P.body.length)(d:b<tx.length+1)(f:e<tx.length+1):rT tx C P b k (tx.length+1-b) r e=rT tx C P b (k+1) 0 r e:=by
 unfold rT;by_cases c:r<=k
 ·rw[PZ c,PZ (by omega)]
 ·rw[PV c];by_cases a:r=k+1
  ·rw[PZ a,PZ (by omega),Lq t b k e g d f,a]
  ·rw[PV a,PV (by omega)];split
   ·rfl
   ·rfl
theorem Kh:rT tx C P b 0 0 r e=iW (fun _ _=>0) 0 b 1 r e:=by
 unfold rT iW;by_cases a:r=0
 ·subst a;rw[PZ (PQ _)];show cp (if b=e then 1 else 0)=_;by_cases h:b=e
  ·rw[PZ h,PZ ⟨rfl,h.symm⟩];rfl
  ·rw[PV h,PV (fun q=>h q.2.symm)];rfl
 ·rw[PV (by omega),PV (fun q:r=0/\e=b=>a q.1)];split <;> rfl
theorem Ki(i:v=cp (wy (tx.length+1) (cr tx C P) (P.body.take k) b (b+m))*cr tx C P (P.body.getD k ⟨#[]⟩) (b+m) E):iW (xU tx C P b k m E) (k+1) E (qY (xU tx C P b k m E (k+1) E) v) r e=xU tx C P b k m (E+1) r e:=by
 have f:xU tx C P b k m E (k+1) E=Bz tx C P b k m E:=by unfold xU;rw[PV (by omega),PZ rfl,PV (by omega)]
 have g:qY (Bz tx C P b k m E) v=Bz tx C P b k (m+1) E:=by
  unfold qY;rw[wH,<-i];split
  ·rw[Sn]
  ·next h=>rw[show v=0 by omega,QT,lj wI]
 rw[f,g];unfold iW;by_cases h:r=k+1/\e=E
 ·rw[PZ h];unfold xU;rw[PV (by omega),PZ h.1,PZ (by omega),h.2]
 ·rw[PV h];unfold xU;by_cases c:r<=k
  ·rw[PZ c,PZ c]
  ·rw[PV c,PV c];by_cases a:r=k+1
   ·rw[PZ a,PZ a];have j:e≠E:=fun q=>h ⟨a,q⟩;by_cases d:e<E
    ·rw[PZ d,PZ (by omega)]
    ·rw[PV d,PV (by omega)]
   ·rw[PV a,PV a]
end
theorem AJ(p:iX)(P:cY)(b:Nat)(w:XP)(h:dR w S x d l o a H.length T)(hp:jK w H p P)(hv:cE w d l)(hn:H.length*(l.length+1)<=1000000)(ht:l.length<=100)(bl:P.body.length<=100000)(hb:b<l.length+1)(K:∀k i j,T k i j<=2)(a8:iZ (CG H T)) :
  XO prog 109 #[XA (XK ⟨S,0,XJ⟩),rq p,Xx XF b] w fun e M=>∃g u,e=XH (XA (XK ⟨g,0,XJ⟩))/\bC M g u (P.body.length+1) (l.length+1) (xN l (CG H T) P b)/\w.heap.size<=g/\w.heap.size<=u/\aa [] w M:=by
 obtain⟨W,HW⟩:∃W,XN (w.alloc (XE #[Xy p.label,Xx XF p.code,Xz (XK ⟨p.ap,0,XJ⟩) p.np p.np,Xz p.ag p.gs.length p.gs.length] 163)=W):=⟨_,rfl⟩
 have kW:aa [] w W:=by rw[<-HW.out];exact(aa.refl [] _).alloc _
 have BP:W.heap[w.heap.size]?=XK (XE #[Xy p.label,Xx XF p.code,Xz (XK ⟨p.ap,0,XJ⟩) p.np p.np,Xz p.ag p.gs.length p.gs.length] 163):=by
  rw[<-HW.out];exact PM _ _
 have O:=h.Ur kW;have I:XN (∀(k:Nat) (_:k<P.body.length) (i j:Nat) (t:XP),i<l.length+1->j<l.length+1->aa [] W t->XO prog 129 #[XA (XK ⟨S,0,XJ⟩),XB #[Xy p.label,Xx XF p.code,Xz (XK ⟨p.ap,0,XJ⟩) p.np p.np,Xz p.ag p.gs.length p.gs.length],Xx XF k,XB #[Xx XF i,Xx XF j]] t fun e M=>e=XH (Xx XF (cr l (CG H T) P (P.body.getD k ⟨#[]⟩) i j))/\aa [] t M) :=
  fun k R i j t hi hj q=>by rw[fT _ _ R];exact yW S x d l H o a T p P k i j t (O.Ur q) ((hp.Ur kW).Ur q) ((hv.Ur kW).Ur q) hn ht R (by omega) hi hj
 have y:XN (∀t,aa [] W t->(XI t ⟨w.heap.size,0,XJ⟩=XK (Xy p.label)/\XI t ⟨w.heap.size,1,XJ⟩=XK (Xx XF p.code)/\XI t ⟨w.heap.size,2,XJ⟩=XK (Xz (XK ⟨p.ap,0,XJ⟩) p.np p.np)/\XI t ⟨w.heap.size,3,XJ⟩=XK (Xz p.ag p.gs.length p.gs.length))/\XI t ⟨S,2,XJ⟩=XK (Xx XF (l.length+1:Nat))/\w.heap.size<t.heap.size/\S<t.heap.size):=fun t q=>by
  have B2:=q.get BP (by simp);refine⟨⟨?_,?_,?_,?_⟩,(O.Ur q).cells.2.2.1,ae B2,(O.Ur q).lt⟩ <;> (rw[ab B2];rfl)
 have HT:XN _:=a8;have ah:XN (∀s i j,cr l (CG H T) P s i j<=2):=fun s i j=>Is (M8 K) s i j;have Z:=hp.np;have U:XN _:=kW;obtain⟨pb,az⟩:∃pb,XN (w.heap.size=pb):=⟨_,rfl⟩
 rw[az.out]at y;obtain⟨⟨-,-,p2,-⟩,c2,a6,Q⟩:=y.out W (aa.refl _ _);obtain⟨n,HN⟩:∃n,XN (P.body.length=n):=⟨_,rfl⟩
 rw[HN.out]at Z bl I ⊢;obtain⟨C,HC⟩:∃C,XN (CG H T=C):=⟨_,rfl⟩
 rw[HC.out]at I HT ah ⊢;have av:XN _:=lW (n+1) (l.length+1);obtain⟨c,HS⟩:∃c,XN (l.length+1=c):=⟨_,rfl⟩
 rw[HS.out]at hb I y c2 av;have hS:c<=101:=by rw[<-HS.out];omega
 unfold rq;rw[Z]at p2 HW I y ⊢;clear h K hp hv a8 O BP kW hn ht Z;go_enter func109,ntmps109;go_upto_region 1 with fail
 rw[HW.out,az.out];go_upto_region 3 with (go_at_call 103;refine PU (av.out W (by omega) (by omega)) ?_;rintro e w1 ⟨g,u,rfl,a4,lg,la,k1⟩)
 have a1:XN (∀(f:Nat->Nat->Nat) (G e:Nat) (m:Int) (t:XP),bC t g u (n+1) c f->aa [] W t->G<n+1->e<c->f G e<=2->-2<=m/\m<=4->XO prog 127 #[XA (XK ⟨g,0,XJ⟩),Xx XF G,Xx XF e,Xx XF m] t fun e' M=>(∃r,e'=XH (XC r))/\bC M g u (n+1) c (iW f G e (qY (f G e) m))/\aa [] W M):=fun f G e m t h1 K h3 h4 h5 h6=>by
  refine(qk g u (n+1) c f G e m t h1 (by omega) (by omega) h3 h4 h5 h6).mono ?_;rintro e' M ⟨he,hg,R⟩;exact⟨⟨_,he⟩,hg,⟨R.os.trans K.os,R.tape.trans K.tape,R.output.trans K.output,Qk K.size R.size,fun i hi _=>(R.block i (PY hi K.size) (by simp;omega)).trans (K.block i hi (by simp))⟩⟩
 have a9:XN (∀(f:Nat->Nat->Nat) (G e:Nat) (t:XP),bC t g u (n+1) c f->G<n+1->e<c->XO prog 106 #[XA (XK ⟨g,0,XJ⟩),Xx XF G,Xx XF e] t fun e' M=>e'=XH (Xx XF (f G e))/\M=t):=fun f G e t h1 K h3=>uM g u (n+1) c f G e t h1 (by omega) (by omega) K h3;have a0:XN _:=(a1.out (fun _ _=>0) 0 b 1 w1 a4 k1 (by omega) hb (by omega) (by omega));have aq:XN _:=(⟨lg,la⟩:W.heap.size<=g/\W.heap.size<=u);clear a4 lg la k1 c2 p2 a6 Q;go_upto_region 4 with (go_at_call 127;refine PU a0.out ?_;rintro e2 w2 ⟨⟨r2,rfl⟩,Y,k2⟩)
 have bc:XN (bC w2 g u (n+1) c (rT l C P b 0 0)):=Y.ext (fun r e _ _=>by rw[Kh];rfl);have bd:XN _:=k2;clear Y k2 a0;go_wp2
 go_loopg [9] n (fun gk kv wr=>∃k:Nat,k<=n/\gk=n-k/\kv=Xx XF k/\XN (bC wr g u (n+1) c (rT l C P b k 0))/\XN (aa [] W wr))
 case atStart=>exact⟨0,by omega,by omega,rfl,bc,bd⟩
 case round =>
  obtain⟨k,R,b7,rfl,am,ao⟩:=hrel;by_cases a5:k<n
  ·have b8:(k:Int)<(n:Int):=(by omega);have bp:k<P.body.length:=(by rw[HN.out];exact a5);go_wp2
   go_loopg [10] (c-b) (fun g2 fv wf=>∃f m:Nat,b+m=f/\f<=c/\g2=c-f/\fv=Xx XF f/\XN (bC wf g u (n+1) c (rT l C P b k m))/\XN (aa [] W wf))
   case atStart=>exact⟨b,0,rfl,by omega,rfl,rfl,am,ao⟩
   case round =>
    obtain⟨f,m,hf,b4,Y,rfl,D,N⟩:=hrel;obtain⟨-,c2,-,Q⟩:=y.out _ N.out;by_cases a3:f<c
    ·have b5:(f:Int)<(c:Int):=(by omega);have HA:XN _:=(a9.out _ k f _ D.out (by omega) a3);have HV:XN (rT l C P b k m k f=cp (wy (l.length+1) (cr l C P) (P.body.take k) b f)):=(by show _=_;unfold rT;rw[PZ (PQ _)]);have a7:cp (wy (l.length+1) (cr l C P) (P.body.take k) b f)<=2:=oM _;rw[HV.out]at HA;obtain⟨v,V⟩:∃v,XN (cp (wy (l.length+1) (cr l C P) (P.body.take k) b f)=v):=⟨_,rfl⟩
     rw[V.out]at HA a7;by_cases bq:v=0
     ·subst bq;have bf:XN (bC _ g u (n+1) c (rT l C P b k (m+1))):=D.out.ext (fun r e _ _=>MB (by rw[hf];exact V.out));clear HV D;(go_upto_region 11 with (go_at_call 106;refine PU HA.out ?_;rintro e3 w3 ⟨rfl,L⟩;rw[L];clear L));go_wp2
      go_loopg [12] 0 (fun g3 ev t=>g3=0/\ev=Xx XF f/\XN (bC t g u (n+1) c (rT l C P b k (m+1)))/\XN (aa [] W t))
      case atStart=>exact⟨rfl,rfl,bf,N⟩
      case round =>
       obtain⟨bm,rfl,J,A⟩:=hrel;obtain⟨-,c2,-,Q⟩:=y.out _ A.out;go_wp2;go_roundg (c-(f+1))
       case measure=>omega
       case rel=>exact⟨f+1,m+1,by omega,by omega,rfl,by go_num,J,A⟩
     ·have bw:(v:Int) > 0:=(by omega);have bk:XN (bC _ g u (n+1) c (xU l C P b k m f)):=D.out.ext (fun r e _ _=>by rw[<-hf];exact(Kj HT.out).symm);clear HV D;(go_upto_region 11 with (go_at_call 106;refine PU HA.out ?_;rintro e3 w3 ⟨rfl,L⟩;rw[L];clear L));go_wp2
      go_loopg [12] (c-f) (fun g3 ev t=>∃E:Nat,f<=E/\E<=c/\g3=c-E/\ev=Xx XF E/\XN (bC t g u (n+1) c (xU l C P b k m E))/\XN (aa [] W t))
      case atStart=>exact⟨f,by omega,by omega,rfl,rfl,bk,N⟩
      case round =>
       obtain⟨E,b3,b0,bm,rfl,J,A⟩:=hrel;obtain⟨⟨q0,q1,q2,q3⟩,c2,a6,Q⟩:=y.out _ A.out;by_cases hE:E<c
       ·have b1:(E:Int)<(c:Int):=(by omega);have HF:XN _:=I.out k a5 f E _ a3 hE A.out;have a2:=ah.out (P.body.getD k ⟨#[]⟩) f E;obtain⟨F,ac⟩:∃F,XN (cr l C P (P.body.getD k ⟨#[]⟩) f E=F):=⟨_,rfl⟩
        rw[ac.out]at HF a2;have bs:v*F<=2*2:=Q3 a7 a2;obtain⟨z,hz⟩:∃z,v*F=z:=⟨_,rfl⟩
        have cb:(v:Int)*(F:Int)=(z:Int):=(by rw[<-hz];simp);have ad:XN (z=cp (wy (l.length+1) (cr l C P) (P.body.take k) b f)*cr l C P (P.body.getD k ⟨#[]⟩) f E):=(by show _=_;rw[V.out,ac.out];exact hz.symm);rw[hz]at bs;have ai:XN _:=J.out;clear hz HA;(go_upto_region 15 with (go_at_call 129;refine PU HF.out ?_;rintro e4 w4 ⟨rfl,k4⟩));have X:=A.out.trans k4;have bg:XN _:=(a1.out _ (k+1) E z w4 (ai.out.Ur k4) X (by omega) hE MA (by omega));have be:XN (∀t,bC t g u (n+1) c (iW (xU l C P b k m E) (k+1) E (qY (xU l C P b k m E (k+1) E) z))->bC t g u (n+1) c (xU l C P b k m (E+1))):=fun t q=>q.ext (fun r e _ _=>Ki z (by rw[hf];exact ad.out));obtain⟨-,bx,-,bv⟩:=y.out _ X;clear X k4 HF ad ai J;go_wp2_with (go_at_call 127;refine PU bg.out ?_;rintro e5 w5 ⟨⟨r5,rfl⟩,bo,k5⟩);go_roundg (c-(E+1))
        case measure=>omega
        case rel=>exact⟨E+1,by omega,by omega,rfl,by go_num,be.out _ bo,k5⟩
       ·have b2:¬(E:Int)<(c:Int):=(by omega);have B:XN (bC _ g u (n+1) c (rT l C P b k (m+1))):=J.out.ext (fun r e _ he=>NY (by omega));clear HA;go_wp2;go_roundg (c-(f+1))
        case measure=>omega
        case rel=>exact⟨f+1,m+1,by omega,by omega,rfl,by go_num,B,A⟩
    ·have b6:¬(f:Int)<(c:Int):=by omega
     have B:XN (bC _ g u (n+1) c (rT l C P b (k+1) 0)):=D.out.ext (fun r e _ he=>by
      have:=NZ (r:=r) (e:=e) HT.out bp (by rw[HS.out];exact hb) (by rw[HS.out];exact he);rw[HS.out,show c-b=m by omega]at this;exact this)
     go_wp2;go_roundg (n-(k+1))
     case measure=>omega
     case rel=>exact⟨k+1,by omega,rfl,by go_num,B,N⟩
  ·have b9:¬(k:Int)<(n:Int):=(by omega);have B:XN (bC _ g u (n+1) c (xN l C P b)):=am.out.ext (fun r e hr _=>by unfold rT xN;rw[PZ (by omega)]);go_wp2;go_ret;rw[<-HS.out]at B;exact⟨g,rfl,u,B.out,by have:=aq.out;have:=U.out.size;omega,by have:=aq.out;have:=U.out.size;omega,U.out.trans ao.out⟩
def km(tx:List ByteArray)(Ps:List cY)(C:kn)(codes:List ByteArray)(b n:Nat):Nat->Nat->Nat:=fun k e=>cp (qZ (om tx C (codes.getD k ⟨#[]⟩) b e) (Ps.take n))
def tG(tx:List ByteArray)(Ps:List cY)(C:kn)(codes:List ByteArray)(b n kc E:Nat):Nat->Nat->Nat:=fun k e=>if k=kc/\¬e<E then km tx Ps C codes b n k e else km tx Ps C codes b (n+1) k e
section
variable {tx:List ByteArray} {Ps:List cY} {C:kn} {codes:List ByteArray} {b n kc E k e:Nat}
theorem od:km tx Ps C codes b n k e<=2:=oM _
theorem L0:tG tx Ps C codes b n kc E k e<=2:=by unfold tG;split <;> exact od
theorem xp(a:n<Ps.length):km tx Ps C codes b (n+1) k e=cp (km tx Ps C codes b n k e+om tx C (codes.getD k ⟨#[]⟩) b e Ps[n]):=by
 unfold km;rw[QE a,Mh,Dq];rfl
theorem N0(g:ug codes)(f:aZ codes i.code=XK kc)(l:k<codes.length)(c:k≠kc):om tx C (codes.getD k ⟨#[]⟩) b e i=0:=by
 have a:kc<codes.length:=Qe.1 (Qm f);have j:=(qj g a i.code).1 f;have d:=g.ne a l (fun q=>c q.symm);unfold om;rw[PV];intro q;rw[ed j,ed q]at d;simp at d
theorem Eo(f:ug codes)(c:aZ codes i.code=XK kc):om tx C (codes.getD kc ⟨#[]⟩) b e i=jS tx C i b e:=by
 have a:kc<codes.length:=Qe.1 (Qm c);have d:=(qj f a i.code).1 c;unfold om;rw[PZ (mn (ed d).symm)]
theorem L7(g:n<Ps.length)(d:ug codes)(c:aZ codes Ps[n].code=XK kc)(f:k<codes.length)(a:k≠kc):km tx Ps C codes b (n+1) k e=km tx Ps C codes b n k e:=by
 rw[xp g,N0 d c f a,QT,lj od]
theorem Jy(t:iZ C)(f:n<Ps.length)(d:ug codes)(c:aZ codes Ps[n].code=XK kc)(i:k<codes.length):tG tx Ps C codes b n kc b k e=km tx Ps C codes b n k e:=by
 unfold tG;split
 ·rfl
 ·next h =>
  by_cases a:k=kc
  ·have g:e<b:=by
    by_cases q:e<b
    ·exact q
    ·exact absurd ⟨a,q⟩ h
   rw[xp f,a,Eo d c,Ep _ t b e g,QT,lj od]
  ·exact L7 f d c i a
theorem NK(a:e<E):tG tx Ps C codes b n kc E k e=km tx Ps C codes b (n+1) k e:=by
 unfold tG;rw[PV (fun q=>q.2 a)]
theorem Jx(j:n<Ps.length)(i:ug codes)(g:aZ codes Ps[n].code=XK kc)(z:Nat)(l:z=cp (jS tx C Ps[n] b E)):iW (tG tx Ps C codes b n kc E) kc E (qY (tG tx Ps C codes b n kc E kc E) z) k e=tG tx Ps C codes b n kc (E+1) k e:=by
 have d:tG tx Ps C codes b n kc E kc E=km tx Ps C codes b n kc E:=by unfold tG;rw[PZ ⟨rfl,by omega⟩]
 have f:qY (km tx Ps C codes b n kc E) z=km tx Ps C codes b (n+1) kc E:=by
  rw[xp j,Eo i g,Dr,<-l];unfold qY;split
  ·rw[Sn]
  ·next h=>rw[show z=0 by omega,QT,lj od]
 rw[d,f];unfold iW;by_cases h:k=kc/\e=E
 ·rw[PZ h];unfold tG;rw[PV (fun q=>q.2 (by omega)),h.1,h.2]
 ·rw[PV h];unfold tG;by_cases a:k=kc
  ·have m:e≠E:=fun q=>h ⟨a,q⟩;by_cases c:e<E
   ·rw[PV (fun q=>q.2 c),PV (fun q=>q.2 (by omega))]
   ·rw[PZ ⟨a,c⟩,PZ ⟨a,by omega⟩]
  ·rw[PV (fun q=>a q.1),PV (fun q=>a q.1)]
end
theorem Cw(L:List iX)(hc hp:Hd)(cg ca:Nat)(G:Nat->Nat->Nat->Nat)(b:Nat)(w:XP)(Y:pR w x H f L hc hp)(h:dR w S x d l cg ca H.length G)(hv:cE w d l)(hn:H.length*(l.length+1)<=1000000)(ht:l.length<=100)(M:∀P∈f,P.body.length<=100000)(co:f.length<=100000)(hd:ug H)(hb:b<l.length+1)(V:∀k i j,G k i j<=2)(bc:iZ (CG H G)) :
  XO prog 126 #[XA (XK ⟨S,0,XJ⟩),Xx XF b] w fun e s=>∃g a,e=XH (XA (XK ⟨g,0,XJ⟩))/\bC s g a H.length (l.length+1) (km l f (CG H G) H b f.length)/\w.heap.size<=g/\w.heap.size<=a/\aa [] w s:=by
 have a5:XN (∀(n:Nat) (v:n<L.length) (A:n<f.length) (c:XP),aa [] w c->XO prog 109 #[XA (XK ⟨S,0,XJ⟩),rq L[n],Xx XF b] c fun e s=>∃g a,e=XH (XA (XK ⟨g,0,XJ⟩))/\bC s g a (f[n].body.length+1) (l.length+1) (xN l (CG H G) f[n] b)/\c.heap.size<=g/\c.heap.size<=a/\aa [] c s):=fun n v A c q =>
  AJ S x d l H cg ca G L[n] f[n] b c (h.Ur q) ((Y.each n _ _ (PJ v) (PJ A)).Ur q) (hv.Ur q) hn ht (M _ (PT A)) hb V bc
 have b9:XN (∀(n:Nat) (v:n<L.length) (c:XP),aa [] w c->XO prog 108 #[XA (XK ⟨x,0,XJ⟩),Xx XF n] c fun e s=>e=XH (rq L[n])/\aa [] c s):=fun n v c q=>l9 x H f L hc hp n v c (Y.Ur q);have am:XN (∀c,aa [] w c->XO prog 104 #[XA (XK ⟨x,0,XJ⟩)] c fun e s=>e=XH (Xx XF H.length)/\s=c):=fun c q=>pZ x H f L hc hp c (Y.Ur q);have bx:XN (∀c,aa [] w c->XO prog 107 #[XA (XK ⟨x,0,XJ⟩)] c fun e s=>e=XH (Xx XF L.length)/\s=c):=fun c q=>yC x H f L hc hp c (Y.Ur q);have J:XN (∀c,aa [] w c->XI c ⟨S,0,XJ⟩=XK (XA (XK ⟨x,0,XJ⟩))/\XI c ⟨S,2,XJ⟩=XK (Xx XF (l.length+1:Nat))/\S<c.heap.size):=fun c q=>⟨(h.Ur q).cells.1,(h.Ur q).cells.2.2.1,(h.Ur q).lt⟩
 have b8:XN (∀(n:Nat) (v:n<L.length) (A:n<f.length),L[n].np=f[n].body.length/\aZ H f[n].code=XK L[n].code/\f[n].body.length<=100000):=fun n v A=>by
  have q:=Y.each n _ _ (PJ v) (PJ A);exact⟨q.np,q.cod,M _ (PT A)⟩
 have HT:XN _:=bc;have HD:XN _:=hd;have a1:XN _:=Y.len;have cj:H.length<=1000000:=Qk (RU _ (RK _)) hn;have R:XN _:=lW H.length (l.length+1);obtain⟨y,a3⟩:∃y,XN (H.length=y):=⟨_,rfl⟩
 rw[a3.out]at cj am R ⊢;obtain⟨o,HS⟩:∃o,XN (l.length+1=o):=⟨_,rfl⟩
 rw[HS.out]at hb a5 J R ⊢;have hS:o<=101:=by rw[<-HS.out];omega
 have c3:L.length<=100000:=by rw[a1.out];exact co
 obtain⟨C,HC⟩:∃C,XN (CG H G=C):=⟨_,rfl⟩
 rw[HC.out]at a5 HT ⊢;clear h Y hv V bc hn ht M hd;obtain⟨c0,c2,X⟩:=J.out w (aa.refl _ _);go_enter func126,ntmps126;go_upto_region 1 with fail
 go_region_held3 (fun s=>XI s ⟨S,0,XJ⟩=XK (XA (XK ⟨x,0,XJ⟩))/\XI s ⟨S,2,XJ⟩=XK (Xx XF o)) (go_keep) (first | (go_at_call 104;refine PU (am.out _ (by exact(aa.refl [] w).drew)) ?_;rintro e1 w1 ⟨rfl,bv⟩;rw[bv];clear bv) | (go_at_call 103;refine PU (R.out _ (by omega) (by omega)) ?_;rintro e1 w1 ⟨g,a,rfl,bp,lg,la,k1⟩;obtain⟨x0,x1,x2⟩:=J.out w1 ((aa.refl [] w).drew.trans k1)));have bm:aa [] w w1:=(aa.refl [] w).drew.trans k1;have a0:XN (w.heap.size<=g/\w.heap.size<=a):=⟨lg,la⟩
 have cf:XN (∀(bd:Nat->Nat->Nat) (a9 e:Nat) (m:Int) (c:XP),bC c g a y o bd->aa [] w c->a9<y->e<o->bd a9 e<=2->-2<=m/\m<=4->XO prog 127 #[XA (XK ⟨g,0,XJ⟩),Xx XF a9,Xx XF e,Xx XF m] c fun e' s=>(∃r,e'=XH (XC r))/\bC s g a y o (iW bd a9 e (qY (bd a9 e) m))/\aa [] w s/\aa [a] c s):=fun bd a9 e m c h1 V h3 h4 h5 h6=>by
  refine(qk g a y o bd a9 e m c h1 (by omega) (by omega) h3 h4 h5 h6).mono ?_;rintro e' s ⟨he,Y,hk⟩;have:=a0.out.2;exact⟨⟨_,he⟩,Y,⟨hk.os.trans V.os,hk.tape.trans V.tape,hk.output.trans V.output,Qk V.size hk.size,fun i hi _=>(hk.block i (PY hi V.size) (by simp;omega)).trans (V.block i hi (by simp))⟩,hk⟩
 have b0:XN (bC w1 g a y o (km l f C H b 0)):=bp.ext (fun r e _ _=>rfl);have b2:XN _:=bm;clear bp lg la k1 bm c0 c2 X x0 x1 x2 am R;go_wp2
 go_loopg [6] L.length (fun gk nv wr=>∃n:Nat,n<=L.length/\gk=L.length-n/\nv=Xx XF n/\XN (bC wr g a y o (km l f C H b n))/\XN (aa [] w wr))
 case atStart=>exact⟨0,by omega,by omega,rfl,b0,b2⟩
 case round =>
  obtain⟨n,c4,c1,rfl,O,F⟩:=hrel;obtain⟨c0,c2,X⟩:=J.out _ F.out;have ai:XN _:=bx.out _ F.out;by_cases Z:n<L.length
  ·have c5:(n:Int)<L.length:=(by omega);have ac:n<f.length:=(by rw[<-a1.out];exact Z);have I:XN _:=b9.out n Z _ F.out;have K:XN _:=a5.out n Z ac;obtain⟨ah,t,M⟩:=b8.out n Z ac;have cn:L[n].code<y:=(by rw[<-a3.out];exact Qe.1 (Qm t));have ad:XN (∀r e,r<y->e<o->tG l f C H b n L[n].code b r e=km l f C H b n r e):=fun r e hr _=>Jy HT.out ac HD.out t (by rw[a3.out];exact hr);have cd:XN (∀E r e,iW (tG l f C H b n L[n].code E) L[n].code E (qY (tG l f C H b n L[n].code E L[n].code E) (cp (jS l C f[n] b E):Nat)) r e=tG l f C H b n L[n].code (E+1) r e):=fun E r e=>Jx ac HD.out t _ rfl;have bk:XN (∀E,xN l C f[n] b f[n].body.length E=cp (jS l C f[n] b E)):=fun E=>by unfold xN jS;rw[QJ]
   unfold rq at I K;generalize L[n]=p at *;generalize f[n]=P at *;rw[ah]at I K;obtain⟨u,b5⟩:∃u,XN (P.body.length=u):=⟨_,rfl⟩
   rw[b5.out]at I K bk M;clear t ah;(go_upto_region 6 with (first | (go_at_call 107;refine PU ai.out ?_;rintro e2 w2 ⟨rfl,N⟩;rw[N];clear N) | (go_at_call 108;refine PU I.out ?_;rintro e3 w3 ⟨rfl,k3⟩)));obtain⟨U,T⟩:∃W,XN (w3.alloc (XE #[Xy p.label,Xx XF p.code,Xz (XK ⟨p.ap,0,XJ⟩) u u,Xz p.ag p.gs.length p.gs.length] 163)=W):=⟨_,rfl⟩
   have B4:U.heap[w3.heap.size]?=XK (XE #[Xy p.label,Xx XF p.code,Xz (XK ⟨p.ap,0,XJ⟩) u u,Xz p.ag p.gs.length p.gs.length] 163):=(by rw[<-T.out];exact PM _ _);have a8:aa [] w3 U:=(by rw[<-T.out];exact(aa.refl [] _).alloc _);have a6:aa [] w U:=(F.out.trans k3).trans a8;have bo:a≠w3.heap.size/\g≠w3.heap.size:=by
    have:=(O.out.Ur k3).lt;omega
   have aq:XN (bC U g a y o (tG l f C H b n p.code b)):=(O.out.Ur (k3.trans a8)).ext (fun r e hr he=>(ad.out r e hr he).symm);obtain⟨D,a4⟩:∃D,XN (w3.heap.size=D):=⟨_,rfl⟩
   rw[a4.out]at B4 bo;have p0:XI U ⟨D,0,XJ⟩=XK (Xy p.label):=by rw[ab B4];rfl
   have p1:XI U ⟨D,1,XJ⟩=XK (Xx XF p.code):=(by rw[ab B4];rfl);have p2:XI U ⟨D,2,XJ⟩=XK (Xz (XK ⟨p.ap,0,XJ⟩) u u):=(by rw[ab B4];rfl);have p3:XI U ⟨D,3,XJ⟩=XK (Xz p.ag p.gs.length p.gs.length):=(by rw[ab B4];rfl);have bs:=ae B4;have bg:XN _:=K.out U a6;have be:XN _:=B4;have b3:XN _:=a6;rw[T.out,a4.out];clear B4 a8 a6 k3 K I O F ai ad c0 c2 X;(go_upto_region 7 with (go_at_call 109;refine PU bg.out ?_;rintro e5 w5 ⟨g2,a2,rfl,bq,cv,cu,k5⟩));have b4:XN (aa [] w w5):=b3.out.trans k5;have b1:XN (bC w5 g a y o (tG l f C H b n p.code b)):=aq.out.Ur k5;have bl:XN _:=bq;have a7:g2≠a/\a2≠a/\D≠a:=(by have:=aq.out.lt;have:=bo.1;omega);have bf:XN (∀c,aa [a] w5 c->XI c ⟨D,1,XJ⟩=XK (Xx XF p.code)/\XI c ⟨D,2,XJ⟩=XK (Xz (XK ⟨p.ap,0,XJ⟩) u u)/\D<c.heap.size):=fun c q=>by
    have B:=q.get (k5.get be.out (by simp)) (by simpa using a7.2.2);exact⟨by rw[ab B];rfl,by rw[ab B];rfl,ae B⟩
   have ch:XN (∀c,aa [a] w5 c->bC c g2 a2 (u+1) o (xN l C P b)):=fun c q=>bl.out.kept q (by simpa using a7.1) (by simpa using a7.2.1);clear bq cv cu k5 aq bg bl be p0 p1 p2 p3 bs T a4;go_wp2
   go_loopg [9] (o-b) (fun g3 ev c=>∃E:Nat,b<=E/\E<=o/\g3=o-E/\ev=Xx XF E/\XN (bC c g a y o (tG l f C H b n p.code E))/\XN (aa [] w c)/\XN (aa [a] w5 c))
   case atStart=>exact⟨b,by omega,by omega,rfl,rfl,b1,b4,aa.refl _ _⟩
   case round =>
    obtain⟨E,cF,cw,cW,rfl,av,az,Q⟩:=hrel;obtain⟨-,c2,X⟩:=J.out _ az.out;by_cases hE:E<o
    ·have cx:(E:Int)<(o:Int):=(by omega);obtain⟨p1,p2,bs⟩:=bf.out _ Q.out;have HA:XN (∀wy,aa [] wr wy->XO prog 106 #[XA (XK ⟨g2,0,XJ⟩),Xx XF u,Xx XF E] wy fun e' s=>e'=XH (Xx XF (cp (jS l C P b E)))/\s=wy):=fun wy q=>by
      have:=uM g2 a2 (u+1) o (xN l C P b) u E wy ((ch.out _ Q.out).Ur q) (by omega) (by omega) (by omega) hE;rw[bk.out]at this;exact this
     have hz:=oM (jS l C P b E);have b6:XN (∀wy,bC wy g a y o (iW (tG l f C H b n p.code E) p.code E (qY (tG l f C H b n p.code E p.code E) (cp (jS l C P b E):Nat)))->bC wy g a y o (tG l f C H b n p.code (E+1))):=fun wy q=>q.ext (fun r e _ _=>cd.out E r e);generalize cp (jS l C P b E)=z at *;have HR:=fun wy (q:aa [] wr wy)=>cf.out _ p.code E (z:Int) wy (av.out.Ur q) (az.out.trans q) cn hE L0 (by omega);have cb:XN _:=HR;clear HR;have b7:XN (∀wy wz,aa [] wr wy->aa [a] wy wz->(XI wz ⟨D,1,XJ⟩=XK (Xx XF p.code)/\XI wz ⟨D,2,XJ⟩=XK (Xz (XK ⟨p.ap,0,XJ⟩) u u)/\D<wz.heap.size)/\aa [a] w5 wz):=fun wy wz q1 q2=>⟨bf.out wz ((Q.out.trans (q1.mono (by simp))).trans q2),(Q.out.trans (q1.mono (by simp))).trans q2⟩
     clear av;(go_upto_region 10 with fail);go_region_held3 (fun s=>XI s ⟨D,1,XJ⟩=XK (Xx XF p.code)/\XI s ⟨D,2,XJ⟩=XK (Xz (XK ⟨p.ap,0,XJ⟩) u u)) (go_keep) (first | (go_at_call 106;refine PU (HA.out _ (by exact(aa.refl [] _).drew)) ?_;rintro e6 w6 ⟨rfl,bw⟩;rw[bw];clear bw) | (go_at_call 127;refine PU (cb.out _ (by exact(aa.refl [] _).drew)) ?_;rintro e7 w7 ⟨⟨r7,rfl⟩,cl,k7,cs⟩;obtain⟨⟨y0,y1,y2⟩,ct⟩:=b7.out _ w7 (by exact(aa.refl [] _).drew) cs));go_wp2;go_roundg (o-(E+1))
     case measure=>omega
     case rel=>exact⟨E+1,by omega,by omega,rfl,by go_num,b6.out _ cl,k7,ct⟩
    ·have cz:¬(E:Int)<(o:Int):=(by omega);have ao:XN (bC wr g a y o (km l f C H b (n+1))):=av.out.ext (fun r e _ he=>NK (by omega));go_wp2;go_roundg (L.length-(n+1))
     case measure=>omega
     case rel=>exact⟨n+1,by omega,rfl,by go_num,ao,az⟩
  ·have c6:¬(n:Int)<L.length:=(by omega);have ao:XN (bC wr g a y o (km l f C H b f.length)):=(by rw[show f.length=n by have:=a1.out;omega];exact O.out);go_wp2_with (go_at_call 107;refine PU ai.out ?_;rintro e2 w2 ⟨rfl,N⟩;rw[N];clear N);go_ret;exact⟨g,a,rfl,ao.out,a0.out.1,a0.out.2,F.out⟩
end Go.Proofs.YtnbalopedcgpcaaGreat
