import Derived.BigQuiet
import Derived.Test.YtnbalopedcgpcaaGreatG12
namespace Go.Proofs.YtnbalopedcgpcaaGreat
open Go.RowKit Tryz
open Value renaming int->Xx,string->Xy,pointer->XA,agg->XB,bool->XC,tuple->XD
open Obj renaming cells->XE
open IntKind renaming i64->XF
open Ending renaming returned->XH
open World renaming cell?->XI
open Option renaming none->XJ,some->XK
open Bool renaming true->XL,false->XM
open Go.RowKit renaming Hid->XN
open Go renaming Calls->XO,World->XP
set_option maxHeartbeats 0
variable{T:XP}{f:Nat}{x:iR}{S:Nat->Hd}(l:Nat)(w:iR)(b:Nat->Hd)(H:Nat)(n:XP)
def iO(c:iR)(d:Nat):iR:=if c.Ut<=c.names.length+c.Uz.length then { c with behind:=XM,Ut:=c.Ut*5+d } else { c with behind:=XM }
theorem dj.digs(h:dj T f x S)(n:Nat):XN (dj (T.setCell ⟨f,3,XJ⟩ (Xx XF n)) f { x with Ut:=n } S/\aj f T S (T.setCell ⟨f,3,XJ⟩ (Xx XF n)) S):=aB.set h 3 (Xx XF n)
theorem dj.beh(h:dj T f x S)(b:Bool):XN (dj (T.setCell ⟨f,4,XJ⟩ (XC b)) f { x with behind:=b } S/\aj f T S (T.setCell ⟨f,4,XJ⟩ (XC b)) S):=aB.set h 4 (XC b)
theorem dj.Ur{a:XP}(h:dj T f x S)(k:aa [] T a):dj a f x S:=aB.Ur h k
set_option maxRecDepth 100000
theorem uC(h:dj n l w b)(s:fB w 10000000)(A:H<=5) :
  XO prog 197 #[XA (XK ⟨l,0,XJ⟩),Xx XF H] n fun e u=>e=XH (XD #[])/\dj u l (iO w H) b/\aj l n b u b:=by
 have x:=s.names;have y:=s.Uz;have z:=s.Ut;obtain⟨g,i,j,k,m⟩:=h.cells;have d:=aB.free h;have c:=h.beh XM;obtain⟨v,f⟩:∃v,v=n.setCell ⟨l,4,XJ⟩ (XC XM):=⟨_,rfl⟩
 have p:XN _:=f.symm;rw[<-f]at c;clear f;by_cases o:w.Ut<=w.names.length+w.Uz.length
 ·have r:XN (iO w H={ w with behind:=XM,Ut:=w.Ut*5+H }):=PZ o;go_enter func197,ntmps197;go_upto_region 1 with fail
  rw[p.out];clear g i j k m d p;obtain⟨g,i,j,k,m⟩:=c.out.1.cells;simp only at g i k;clear j m;have d:=aB.free c.out.1;have t:(w.Ut:Int)<=(w.names.length:Int)+(w.Uz.length:Int):=by omega
  go_quiet (fail);have q:=c.out.1.digs (w.Ut*5+H);rw[show((w.Ut*5+H:Nat):Int)=(w.Ut:Int)*5+(H:Int) by omega]at q;go_wp2;go_end0;exact⟨rfl,by rw[r.out];exact q.out.1.Ur ((aa.refl [] _).drewN nq),aj.trans c.out.2 (aj.Ur q.out.2 ((aa.refl [] _).drewN nq))⟩
 ·have r:XN (iO w H={ w with behind:=XM }):=PV o;go_enter func197,ntmps197;go_upto_region 1 with fail
  rw[p.out];clear g i j k m d p;obtain⟨g,i,j,k,m⟩:=c.out.1.cells;simp only at g i k;clear j m;go_quiet (fail);go_wp2;go_end0;exact⟨rfl,by rw[r.out];exact c.out.1.Ur ((aa.refl [] _).drewN nq),aj.Ur c.out.2 ((aa.refl [] _).drewN nq)⟩
def gC(c:iR)(u:Nat)(p:Pl):Int×iR :=
 if c.Ut*20+u-1<c.names.length then(0,{ dC { c with Ut:=0 } ⟨2,c.names.getD (c.Ut*20+u-1) 0,p⟩ with behind:=XL })
 else if c.Ut*20+u-1-c.names.length<c.Uz.length then(0,{ dC { c with Ut:=0 } ⟨3,c.Uz.getD (c.Ut*20+u-1-c.names.length) 0,p⟩ with behind:=XL })
 else(5,{ c with Ut:=0 })
theorem Oq(l:List Nat)(k:Nat)(h:k<l.length):l.getD k 0=l[k]:=by rw[PK,PJ h];rfl
theorem Ho(f:ByteArray)(l c:Int) :
  ∃W,XN (n.alloc (XE #[Xy f,Xx XF l,Xx XF c] 67)=W)/\aa [] n W/\W.heap[n.heap.size]?=XK (XE #[Xy f,Xx XF l,Xx XF c] 67)/\XI W ⟨n.heap.size,0,XJ⟩=XK (Xy f)/\XI W ⟨n.heap.size,1,XJ⟩=XK (Xx XF l)/\XI W ⟨n.heap.size,2,XJ⟩=XK (Xx XF c):=by
 have B:(n.alloc (XE #[Xy f,Xx XF l,Xx XF c] 67)).heap[n.heap.size]?=XK (XE #[Xy f,Xx XF l,Xx XF c] 67):=PM _ _;refine⟨_,rfl,(aa.refl [] _).alloc _,B,?_,?_,?_⟩ <;> rw[ab B] <;> rfl
theorem sw(f:ByteArray)(i d:Int)(m:XP)(h:dj m l w b)(I:fB w 10000000)(hu:1<=H)(aq:H<=20) :
  XO prog 196 #[XA (XK ⟨l,0,XJ⟩),Xx XF H,XB #[Xy f,Xx XF i,Xx XF d]] m fun e w'=>e=XH (Xx XF (gC w H ⟨f,i,d⟩).1)/\∃H',dj w' l (gC w H ⟨f,i,d⟩).2 H'/\aj l m b w' H':=by
 have h1:=I.names;have h2:=I.Uz;have h3:=I.Ut;obtain⟨W,HW,K,B,p0,p1,p2⟩:=Ho m f i d;have hC:=h.Ur K;have ai:m.heap.size≠l:=by have:=aB.lt h;omega
 have ao:XN (∀k,cD b k->k≠m.heap.size):=fun k hk=>by have:=aB.inlt h hk;omega
 obtain⟨z,A,Q,R,S⟩:=hC.cells;have ah:=aB.free hC;have q:XN (dj (W.setCell ⟨l,3,XJ⟩ (Xx XF 0)) l { w with Ut:=0 } b/\aj l W b (W.setCell ⟨l,3,XJ⟩ (Xx XF 0)) b):=hC.digs 0;obtain⟨p,o⟩:∃p,p=W.setCell ⟨l,3,XJ⟩ (Xx XF 0):=⟨_,rfl⟩
 have C:XN _:=o.symm;rw[<-o]at q;have M:p.heap[m.heap.size]?=XK (XE #[Xy f,Xx XF i,Xx XF d] 67):=by rw[o];exact(P9 _ _ _ _ ai).trans B
 have r0:XI p ⟨m.heap.size,0,XJ⟩=XK (Xy f):=by rw[ab M];rfl
 have r1:XI p ⟨m.heap.size,1,XJ⟩=XK (Xx XF i):=by rw[ab M];rfl
 have r2:XI p ⟨m.heap.size,2,XJ⟩=XK (Xx XF d):=by rw[ab M];rfl
 clear o h;have J:fB { w with Ut:=0 } 10000000:=⟨h1,h2,I.steps,Qx _,I.behind⟩;have ad:XN (w.Ut*20+H-1=w.Ut*20+(H-1)):=by show _=_;omega
 obtain⟨v,hv⟩:∃v,H=v+1:=⟨H-1,by omega⟩
 subst hv;have s:XN (w.Ut*20+(v+1)-1=w.Ut*20+v):=by show _=_;omega
 have G:(w.Ut:Int)*20+((v:Int)+1)-1=((w.Ut*20+v:Nat):Int):=by omega
 obtain⟨a,x⟩:∃a,w.Ut*20+v=a:=⟨_,rfl⟩
 have y:XN (gC w (v+1) ⟨f,i,d⟩=if a<w.names.length then(0,{ dC { w with Ut:=0 } ⟨2,w.names.getD a 0,⟨f,i,d⟩⟩ with behind:=XL }) else if a-w.names.length<w.Uz.length then(0,{ dC { w with Ut:=0 } ⟨3,w.Uz.getD (a-w.names.length) 0,⟨f,i,d⟩⟩ with behind:=XL }) else(5,{ w with Ut:=0 })):=by
  show _=_;unfold gC;rw[s.out,x]
 rw[x]at G;have am:a<=4000000000:=by omega
 go_enter func196,ntmps196;go_upto_region 1 with fail
 rw[HW.out];go_upto_region 3 with fail
 rw[C.out];clear HW C z A Q R S ah p0 p1 p2 G s ad x;obtain⟨z,A,Q,R,S⟩:=q.out.1.cells;simp only at z A;clear Q R S;have O:XN (aj l m b p b):=aj.first K q.out.2;by_cases E:a<w.names.length
 ·have F:=Oq w.names a E;have r:XN (gC w (v+1) ⟨f,i,d⟩=(0,{ dC { w with Ut:=0 } ⟨2,w.names[a],⟨f,i,d⟩⟩ with behind:=XL })):=by show _=_;rw[y.out,PZ E,F]
  have u:aE p (b 0) (bQ w.names):=aB.own q.out.1 0;rcases u.UC with ⟨_,h0,_⟩ | ⟨g,T,s,-,Z,-⟩
  ·have:w.names.length=0:=h0;omega
  ·have pe:=u.cell s a (Xx XF w.names[a]) (gF w.names a E);rw[s]at z;have ac:w.names.length<=(b 0).cap:=Z;generalize w.names[a]=nx at *;clear u y A F;(go_upto_region 4 with fail);go_region_with (go_at_call 198;refine(lD l { w with Ut:=0 } b 2 nx f i d _ (by exact q.out.1.Ur (aa.refl [] _).drew) J).mono ?_;rintro e w9 ⟨rfl,N,t,P,-⟩)
   all_goals
    have D:=t.beh XL;obtain⟨U,V,X,Y,d4⟩:=t.cells;have ag:=aB.free t;clear U V X Y pe z r0 r1 r2;go_wp2;go_ret;exact⟨ay (by rw[r.out]),N,by rw[r.out];exact D.out.1,aj.trans O.out (aj.trans (aj.first (aa.refl [] _).drew P) D.out.2)⟩
 ·have ap:(a:Int)-(w.names.length:Int)=((a-w.names.length:Nat):Int):=by omega
  by_cases L:a-w.names.length<w.Uz.length
  ·have F:=Oq w.Uz (a-w.names.length) L;have r:XN (gC w (v+1) ⟨f,i,d⟩=(0,{ dC { w with Ut:=0 } ⟨3,w.Uz[a-w.names.length],⟨f,i,d⟩⟩ with behind:=XL })):=(by show _=_;rw[y.out,PV E,PZ L,F]);have u:aE p (b 1) (bQ w.Uz):=aB.own q.out.1 1;rcases u.UC with ⟨_,h0,_⟩ | ⟨g,T,s,-,Z,-⟩
   ·have:w.Uz.length=0:=h0;omega
   ·have pe:=u.cell s (a-w.names.length) (Xx XF w.Uz[a-w.names.length]) (gF w.Uz _ L);rw[s]at A;have ac:w.Uz.length<=(b 1).cap:=Z;generalize w.Uz[a-w.names.length]=nx at *;clear u y F;generalize hj:a-w.names.length=j at *;(go_upto_region 9 with fail);go_region_with (go_at_call 198;refine(lD l { w with Ut:=0 } b 3 nx f i d _ (by exact q.out.1.Ur (aa.refl [] _).drew) J).mono ?_;rintro e w9 ⟨rfl,N,t,P,-⟩)
    all_goals
     have D:=t.beh XL;obtain⟨U,V,X,Y,d4⟩:=t.cells;have ag:=aB.free t;clear U V X Y pe z A r0 r1 r2;go_wp2;go_ret;exact⟨ay (by rw[r.out]),N,by rw[r.out];exact D.out.1,aj.trans O.out (aj.trans (aj.first (aa.refl [] _).drew P) D.out.2)⟩
  ·have r:XN (gC w (v+1) ⟨f,i,d⟩=(5,{ w with Ut:=0 })):=(by show _=_;rw[y.out,PV E,PV L]);clear y;generalize hj:a-w.names.length=j at *;go_wp2;go_ret;exact⟨ay (by rw[r.out]),b,by rw[r.out];exact q.out.1,O.out⟩
end Go.Proofs.YtnbalopedcgpcaaGreat
