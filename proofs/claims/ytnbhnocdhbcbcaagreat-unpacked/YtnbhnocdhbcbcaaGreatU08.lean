import Derived.BigQuiet
import Derived.Deep.RegionHeld3
import Derived.Test.YtnbhnocdhbcbcaaGreatU07
namespace Go.Proofs.YtnbhnocdhbcbcaaGreat
open Go.RowKit Tryz
open Value IntKind Ending
set_option maxHeartbeats 0
variable{k z7:World}{y:Nat}{g:lK}{z4:Nat->Hd}{z5:Hd}(x:Nat)(l:lK)(d:Nat->Hd)(z6:Nat)(m:List St)(I:Nat)(n:Xs)(a:Pl)(w:Nat)(b:List St)(D:Nat->Hd)(T:Xs)(S f:Int)(zt:pJ)(i:List (Xs×Pl))(L:Xv)(y0:List jg)(v:Nat)(N:lK)(H:World)(o:Nat)
def jS(c:lK)(d:Nat):lK:=if c.Yj<=c.Yz.length+c.Yp.length then { c with behind:=false,Yj:=c.Yj*5+d } else { c with behind:=false }
theorem eM.digs(h:eM k y g z4)(n:Nat):Xr (eM (k.setCell ⟨y,3,none⟩ (int i64 n)) y { g with Yj:=n } z4/\aw y k z4 (k.setCell ⟨y,3,none⟩ (int i64 n)) z4):=bn.set h 3 (int i64 n)
theorem eM.beh(h:eM k y g z4)(x:Bool):Xr (eM (k.setCell ⟨y,4,none⟩ (bool x)) y { g with behind:=x } z4/\aw y k z4 (k.setCell ⟨y,4,none⟩ (bool x)) z4):=bn.set h 4 (bool x)
theorem eM.Yh(h:eM k y g z4)(a:ae [] k z7):eM z7 y g z4:=bn.Yh h a
set_option maxRecDepth 100000
theorem zQ(h:eM H x l D)(r:ju l 10000000)(A:v<=5) :
  Calls prog 244 #[pointer (some ⟨x,0,none⟩),int i64 v] H fun e t=>e=returned (tuple #[])/\eM t x (jS l v) D/\aw x H D t D:=by
 have w:=r.Yz;have y:=r.Yp;have z:=r.Yj;obtain⟨f,g,i,j,k⟩:=h.cells;have c:=bn.free h;have b:=h.beh false;obtain⟨u,d⟩:∃u,u=H.setCell ⟨x,4,none⟩ (bool false):=⟨_,rfl⟩
 have n:Xr _:=d.symm;rw[<-d]at b;clear d;by_cases m:l.Yj<=l.Yz.length+l.Yp.length
 ·have q:Xr (jS l v={ l with behind:=false,Yj:=l.Yj*5+v }):=Uf m;go_enter func244,ntmps244;go_upto_region 1 with fail
  rw[n.o];clear f g i j k c n;obtain⟨f,g,i,j,k⟩:=b.o.1.cells;simp only at f g j;clear i k;have c:=bn.free b.o.1;have s:(l.Yj:Int)<=(l.Yz.length:Int)+(l.Yp.length:Int):=by omega
  go_quiet (fail);have p:=b.o.1.digs (l.Yj*5+v);rw[show((l.Yj*5+v:Nat):Int)=(l.Yj:Int)*5+(v:Int) by omega]at p;go_wp2;go_end0;exact⟨rfl,by rw[q.o];exact p.o.1.Yh (bM.drewN nq),aw.trans b.o.2 (aw.Yh p.o.2 (bM.drewN nq))⟩
 ·have q:Xr (jS l v={ l with behind:=false }):=Ud m;go_enter func244,ntmps244;go_upto_region 1 with fail
  rw[n.o];clear f g i j k c n;obtain⟨f,g,i,j,k⟩:=b.o.1.cells;simp only at f g j;clear i k;go_quiet (fail);go_wp2;go_end0;exact⟨rfl,by rw[q.o];exact b.o.1.Yh (bM.drewN nq),aw.Yh b.o.2 (bM.drewN nq)⟩
def fn(c:lK)(u:Nat)(p:Pl):Int×lK :=
 if c.Yj*20+u-1<c.Yz.length then(0,{ dO { c with Yj:=0 } ⟨2,c.Yz.getD (c.Yj*20+u-1) 0,p⟩ with behind:=true })
 else if c.Yj*20+u-1-c.Yz.length<c.Yp.length then(0,{ dO { c with Yj:=0 } ⟨3,c.Yp.getD (c.Yj*20+u-1-c.Yz.length) 0,p⟩ with behind:=true })
 else(5,{ c with Yj:=0 })
theorem SQ(h:o<L.length):L.getD o 0=L[o]:=by rw[Uc,Ub h];rfl
theorem MR(f:Xs)(l c:Int) :
  ∃W,Xr (H.alloc (.cells #[string f,int i64 l,int i64 c] 36)=W)/\ae [] H W/\W.heap[H.heap.size]?=some (.cells #[string f,int i64 l,int i64 c] 36)/\W.cell? ⟨H.heap.size,0,none⟩=some (string f)/\W.cell? ⟨H.heap.size,1,none⟩=some (int i64 l)/\W.cell? ⟨H.heap.size,2,none⟩=some (int i64 c):=by
 have B:(H.alloc (.cells #[string f,int i64 l,int i64 c] 36)).heap[H.heap.size]?=some (.cells #[string f,int i64 l,int i64 c] 36):=Ui _ _;refine⟨_,rfl,bM.alloc _,B,?_,?_,?_⟩ <;> rw[ah B] <;> rfl
theorem xH(h:eM H x l d)(F:ju l 10000000)(hu:1<=w)(an:w<=20) :
  Calls prog 243 #[pointer (some ⟨x,0,none⟩),int i64 w,agg #[string T,int i64 S,int i64 f]] H fun e w'=>e=returned (int i64 (fn l w ⟨T,S,f⟩).1)/\∃H',eM w' x (fn l w ⟨T,S,f⟩).2 H'/\aw x H d w' H':=by
 have h1:=F.Yz;have h2:=F.Yp;have h3:=F.Yj;obtain⟨W,HW,K,B,p0,p1,p2⟩:=MR H T S f;have Z:=h.Yh K;have ag:H.heap.size≠x:=by have:=bn.lt h;omega
 obtain⟨t,u,N,O,P⟩:=Z.cells;have af:=bn.free Z;have k:Xr (eM (W.setCell ⟨x,3,none⟩ (int i64 0)) x { l with Yj:=0 } d/\aw x W d (W.setCell ⟨x,3,none⟩ (int i64 0)) d):=Z.digs 0;obtain⟨y,i⟩:∃y,y=W.setCell ⟨x,3,none⟩ (int i64 0):=⟨_,rfl⟩
 have z:Xr _:=i.symm;rw[<-i]at k;have B2:y.heap[H.heap.size]?=some (.cells #[string T,int i64 S,int i64 f] 36):=by rw[i];exact(Ut _ _ _ _ ag).trans B
 obtain⟨r0,r1,r2⟩:=xy B2;clear i h;have G:ju { l with Yj:=0 } 10000000:=⟨h1,h2,F.steps,UF _,F.behind⟩;have ac:Xr (l.Yj*20+w-1=l.Yj*20+(w-1)):=cM (by omega);obtain⟨v,hv⟩:∃v,w=v+1:=⟨w-1,by omega⟩
 subst hv;have n:Xr (l.Yj*20+(v+1)-1=l.Yj*20+v):=cM (by omega);have E:(l.Yj:Int)*20+((v:Int)+1)-1=((l.Yj*20+v:Nat):Int):=by omega
 obtain⟨a,r⟩:∃a,l.Yj*20+v=a:=⟨_,rfl⟩
 have s:Xr (fn l (v+1) ⟨T,S,f⟩=if a<l.Yz.length then(0,{ dO { l with Yj:=0 } ⟨2,l.Yz.getD a 0,⟨T,S,f⟩⟩ with behind:=true }) else if a-l.Yz.length<l.Yp.length then(0,{ dO { l with Yj:=0 } ⟨3,l.Yp.getD (a-l.Yz.length) 0,⟨T,S,f⟩⟩ with behind:=true }) else(5,{ l with Yj:=0 })):=by
  show _=_;unfold fn;rw[n.o,r]
 rw[r]at E;have ai:a<=4000000000:=by omega
 go_enter func243,ntmps243;go_upto_region 1 with fail
 rw[HW.o];go_upto_region 3 with fail
 rw[z.o];clear HW z t u N O P af p0 p1 p2 E n ac r;obtain⟨t,u,N,O,P⟩:=k.o.1.cells;simp only at t u;clear N O P;have L:Xr (aw x H d y d):=aw.first K k.o.2;by_cases C:a<l.Yz.length
 ·have D:=SQ l.Yz a C;have m:Xr (fn l (v+1) ⟨T,S,f⟩=(0,{ dO { l with Yj:=0 } ⟨2,l.Yz[a],⟨T,S,f⟩⟩ with behind:=true })):=cM (by rw[s.o,Uf C,D]);have q:aB y (d 0) (bu l.Yz):=bn.YF k.o.1 0;rcases q.Ys with ⟨_,Y,_⟩ | ⟨g,Q,n,-,e3,-⟩
  ·have:l.Yz.length=0:=Y;omega
  ·have pe:=q.cell n a (int i64 l.Yz[a]) (mx l.Yz a C);rw[n]at t;generalize l.Yz[a]=nx at *;clear q s u D;(go_upto_region 4 with fail);go_region_with (go_at_call 245;refine(qB x { l with Yj:=0 } d 2 nx T S f _ (by exact k.o.1.Yh bM.drew) G).mono ?_;rintro e w9 ⟨rfl,J,p,M,-⟩)
   all_goals
    have A:=p.beh true;obtain⟨R,U,V,X,d4⟩:=p.cells;have ad:=bn.free p;clear R U V X pe t r0 r1 r2;go_wp2;go_ret;exact⟨T0 (by rw[m.o]),J,by rw[m.o];exact A.o.1,aw.trans L.o (aw.trans (aw.first bM.drew M) A.o.2)⟩
 ·have al:(a:Int)-(l.Yz.length:Int)=((a-l.Yz.length:Nat):Int):=by omega
  by_cases I:a-l.Yz.length<l.Yp.length
  ·have D:=SQ l.Yp (a-l.Yz.length) I;have m:Xr (fn l (v+1) ⟨T,S,f⟩=(0,{ dO { l with Yj:=0 } ⟨3,l.Yp[a-l.Yz.length],⟨T,S,f⟩⟩ with behind:=true })):=cM (by rw[s.o,Ud C,Uf I,D]);have q:aB y (d 1) (bu l.Yp):=bn.YF k.o.1 1;rcases q.Ys with ⟨_,Y,_⟩ | ⟨g,Q,n,-,e3,-⟩
   ·have:l.Yp.length=0:=Y;omega
   ·have pe:=q.cell n (a-l.Yz.length) (int i64 l.Yp[a-l.Yz.length]) (mx l.Yp _ I);rw[n]at u;generalize l.Yp[a-l.Yz.length]=nx at *;clear q s D;generalize hj:a-l.Yz.length=j at *;(go_upto_region 9 with fail);go_region_with (go_at_call 245;refine(qB x { l with Yj:=0 } d 3 nx T S f _ (by exact k.o.1.Yh bM.drew) G).mono ?_;rintro e w9 ⟨rfl,J,p,M,-⟩)
    all_goals
     have A:=p.beh true;obtain⟨R,U,V,X,d4⟩:=p.cells;have ad:=bn.free p;clear R U V X pe t u r0 r1 r2;go_wp2;go_ret;exact⟨T0 (by rw[m.o]),J,by rw[m.o];exact A.o.1,aw.trans L.o (aw.trans (aw.first bM.drew M) A.o.2)⟩
  ·have m:Xr (fn l (v+1) ⟨T,S,f⟩=(5,{ l with Yj:=0 })):=(by show _=_;rw[s.o,Ud C,Ud I]);clear s;generalize hj:a-l.Yz.length=j at *;go_wp2;go_ret;exact⟨T0 (by rw[m.o]),d,by rw[m.o];exact k.o.1,L.o⟩
def bF(c:lK)(n:Nat)(p:Pl):Int×lK :=
 if 65<=n/\n<=84 then fn c (n-64) p
 else if 85<=n/\n<=89 then(0,jS c (n-84))
 else if n=90/\c.behind=true then(0,{ c with Yp:=c.Yp++[c.steps.length-1],behind:=false })
 else if n=63/\c.Yj=0 then(0,dO c ⟨1,0,p⟩)
 else(4,c)
theorem zg(h:eM H x l d)(D:ju l 10000000)(hn:w<256) :
  Calls prog 218 #[pointer (some ⟨x,0,none⟩),int u8 w,agg #[string T,int i64 S,int i64 f]] H fun e y=>e=returned (int i64 (bF l w ⟨T,S,f⟩).1)/\∃H',eM y x (bF l w ⟨T,S,f⟩).2 H'/\aw x H d y H':=by
 have ax:=D.steps;have az:=D.Yp;obtain⟨W,t,K,B,p0,p1,p2⟩:=MR H T S f;have p:=h.Yh K;clear h;obtain⟨F,G,I,J,C⟩:=p.cells;have ap:=bn.lt p;by_cases i:65<=w/\w<=84
 ·have a:Xr (bF l w ⟨T,S,f⟩=fn l (w-64) ⟨T,S,f⟩):=Uf i;have EN:=fun(y:World) (Z:eM y x l d)=>xH x l d (w-64) T S f y Z D (by omega) (by omega);have V:Xr _:=EN;obtain⟨a1,a2⟩:=i;have he:(w:Int)-65+1=((w-64:Nat):Int):=by omega
  clear EN F G I J C;generalize hq:w-64=q at *;go_enter func218,ntmps218;go_upto_region 1 with fail
  rw[t.o];go_wp2_with fail;refine(V.o _ p).mono ?_;rintro e w2 ⟨rfl,U,s,E⟩;go_wp2;go_ret;exact⟨T0 (by rw[a.o]),U,by rw[a.o];exact s,aw.first K E⟩
 ·by_cases k:85<=w/\w<=89
  ·have a:Xr (bF l w ⟨T,S,f⟩=(0,jS l (w-84))):=(by show _=_;unfold bF;rw[Ud i,Uf k]);obtain⟨a1,a2⟩:=k;have TD:=fun(y:World) (Z:eM y x l d)=>zQ x l d (w-84) y Z D (by omega);have X:Xr _:=TD;have he:(w:Int)-85+1=((w-84:Nat):Int):=(by omega);clear TD F G I J C i;generalize hq:w-84=q at *;go_enter func218,ntmps218;(go_upto_region 1 with fail);rw[t.o];go_wp2_with fail;refine(X.o _ p).mono ?_;rintro e w2 ⟨rfl,s,E⟩;go_wp2;go_ret;exact⟨T0 (by rw[a.o]),d,by rw[a.o];exact s,aw.first K E⟩
  ·by_cases r:w=90/\l.behind=true
   ·have a:Xr (bF l w ⟨T,S,f⟩=(0,{ l with Yp:=l.Yp++[l.steps.length-1],behind:=false })):=(by show _=_;unfold bF;rw[Ud i,Ud k,Uf r]);obtain⟨rfl,n⟩:=r;have an:=D.behind n;rw[n]at C;obtain⟨b,P⟩:∃b,l.steps.length-1=b:=⟨_,rfl⟩
    have he:(l.steps.length:Int)-1=(b:Int):=(by omega);rw[P]at a;have aS:IntKind.i64.wrap (b:Int)=(b:Int):=by rw[Vv];omega
    obtain⟨i0,hi,af,ag,ai⟩:=UC yb;have hD:Xr (eM (W.alloc (.cells #[int i64 b] 3)).drew x l d):=p.Yh ((ae.refl [] W).alloc _).drew;have s2:Xr (∀j u,([int i64 b]:List Value)[j]?=some u->(W.alloc (.cells #[int i64 b] 3)).drew.cell? ((⟨W.heap.size,0,none⟩:Addr).add j)=some u):=by
     intro j u O;have hk:(W.alloc (.cells #[int i64 b] 3)).drew.heap[W.heap.size]?=some (.cells #[int i64 b] 3):=Ui _ _;rw[bS,ah hk];simpa using O
    have s3:Xr (∀u∈([int i64 b]:List Value),u.oneCell'=true):=(by intro u hu;simp at hu;subst hu;rfl);have s4:Xr ((bu l.Yp).n+1<=maxLen):=(by show _<=_;simp only[bu];unfold maxLen;omega);have s5:Xr (((bu l.Yp).n+1)*8<=140737488355328):=(by show _<=_;simp only[bu];omega);have ad:Xr (∀j,j≠1->yO { l with Yp:=l.Yp++[b] } j=yO l j):=by
     intro j O
     match j,O with
     | 0,_=>rfl
     | 1,O=>exact absurd rfl O
     | 2,_=>rfl
     | m+3,_=>rfl
    clear F J i k p0 p1 p2;go_enter func218,ntmps218;(go_upto_region 1 with fail);rw[t.o];go_wp2_with fail;go_region_law (refine cv rfl (.tmp 44) (.tmp 51) 24 rfl i0 (int i64 0) 8 (d 1) (bu l.Yp) underlying24 hi af ag ai rfl UA (by simp[Act.eval] <;> rfl) (bn.YF hD.o 1) ⟨W.heap.size,0,none⟩ 1 1 [int i64 b] (by simp[Act.eval]) rfl s2.o s3.o UA s4.o s5.o ?_;intro g v w1 Q N c;obtain⟨k5,f5,R⟩:=bn.app hD.o (cs':=mu { l with Yp:=l.Yp++[b] } (ie d 1 ⟨some ⟨g,0,none⟩,v⟩)) (rows':=yO { l with Yp:=l.Yp++[b] }) 1 1 g v ((bu l.Yp).n+1) _ Q (me l.Yp b) N (by simpa using c) ad.o (slice (d 1).ao l.Yp.length (d 1).cap) rfl (by simp[mu,ie,bu]);clear Q N c)
    all_goals
     have s:Xr _:=bn.set R.o.1 4 (bool false);have ac:=(bn.cell R.o.1 4);have ar:=bn.free R.o.1;simp only[mu,List.getElem?_cons_succ,List.getElem?_cons_zero,n]at ac;clear G I C k5 f5;go_wp2;go_ret;exact⟨T0 (by rw[a.o]),_,by rw[a.o];exact s.o.1,((R.o.2.first (bM.alloc _).drew).first K).trans s.o.2⟩
   ·by_cases z:w=63/\l.Yj=0
    ·have a:Xr (bF l w ⟨T,S,f⟩=(0,dO l ⟨1,0,⟨T,S,f⟩⟩)):=(by show _=_;unfold bF;rw[Ud i,Ud k,Ud r,Uf z]);obtain⟨rfl,A⟩:=z;rw[A]at J;clear F G I i k r;go_enter func218,ntmps218;(go_upto_region 1 with fail);rw[t.o];go_wp2_with fail;refine(qB x l d 1 0 T S f _ p D).mono ?_;rintro e w2 ⟨rfl,U,s,E,-⟩;go_wp2;go_ret;exact⟨T0 (by rw[a.o]),U,by rw[a.o];exact s,aw.first K E⟩
    ·have a:Xr (bF l w ⟨T,S,f⟩=(4,l)):=(by show _=_;unfold bF;rw[Ud i,Ud k,Ud r,Ud z]);clear F G I;by_cases M:w=90
     ·have n:l.behind=false:=by
       cases hq:l.behind with
       | false=>rfl
       | true=>exact absurd ⟨M,hq⟩ r
      rw[n]at C;subst M;clear i k r z;go_enter func218,ntmps218;(go_upto_region 1 with fail);rw[t.o];go_wp2;go_ret;exact⟨T0 (by rw[a.o]),d,by rw[a.o];exact p,(aw.refl _ _ _).Yh K⟩
     ·by_cases L:w=63
      ·have A:¬l.Yj=0:=fun hh=>z ⟨L,hh⟩;have al:((l.Yj:Int)==0)=false:=Uz.2 (by omega);subst L;clear i k r z A;go_enter func218,ntmps218;(go_upto_region 1 with fail);rw[t.o];go_wp2;go_ret;exact⟨T0 (by rw[a.o]),d,by rw[a.o];exact p,(aw.refl _ _ _).Yh K⟩
      ·have e1:((w:Int)==90)=false:=Uz.2 (by omega);have e2:((w:Int)==63)=false:=Uz.2 (by omega);clear r z J C;by_cases a1:65<=w
       ·have a2:¬w<=84:=(by omega);have a3:85<=w:=(by omega);have a4:¬w<=89:=(by omega);clear i k;go_enter func218,ntmps218;(go_upto_region 1 with fail);rw[t.o];go_wp2;go_ret;exact⟨T0 (by rw[a.o]),d,by rw[a.o];exact p,(aw.refl _ _ _).Yh K⟩
       ·have a3:¬85<=w:=(by omega);clear i k;go_enter func218,ntmps218;(go_upto_region 1 with fail);rw[t.o];go_wp2;go_ret;exact⟨T0 (by rw[a.o]),d,by rw[a.o];exact p,(aw.refl _ _ _).Yh K⟩
theorem ju.letter(h:ju g y)(n:Nat)(p:Pl):ju (bF g n p).2 (y+1):=by
  have b:=h.Yz;have c:=h.Yp;have d:=h.steps;have e:=h.Yj;have a:=h.behind;unfold bF;split
  · unfold fn dO
    split
    · exact⟨by simp only;omega,by simp only;omega,by simp;omega,by simp,by simp⟩
    · split
      · exact⟨by simp only;omega,by simp only;omega,by simp;omega,by simp,by simp⟩
      · exact⟨by simp only;omega,by simp only;omega,by simp only;omega,by simp,a⟩
  · split
    · next f =>
      unfold jS;split
      all_goals
        exact⟨by simp only;omega,by simp only;omega,by simp only;omega,by simp only;omega,by simp⟩
    · split
      · exact⟨by simp only;omega,by simp;omega,by simp only;omega,by simp only;omega,by simp⟩
      · split
        · exact⟨by simp only[dO];omega,by simp only[dO];omega,by simp[dO];omega,by simp only[dO];omega,by simp[dO]⟩
        · exact⟨by simp only;omega,by simp only;omega,by simp only;omega,by simp only;omega,a⟩
def ic(t:Xs)(p:Pl):Nat->Nat->lK->pJ×lK
  | 0,_,c=>(dh,c)
  | f+1,j,c =>
    if j<t.size then
      (if((bF c (aH t j).toNat { p with YD:=p.YD+j }).1==0)=true then ic t p f (j+1) (bF c (aH t j).toNat { p with YD:=p.YD+j }).2
       else(((bF c (aH t j).toNat { p with YD:=p.YD+j }).1,{ p with YD:=p.YD+j }),(bF c (aH t j).toNat { p with YD:=p.YD+j }).2))
    else(dh,c)
def mq(t:Xs)(p:Pl)(c:lK):pJ×lK:=ic t p (t.size+1) 0 c
theorem Tm(c:v<n.size)(h:((bF N (aH n v).toNat { a with YD:=a.YD+v }).1==0)=true) :
    ic n a (w+1) v N=ic n a w (v+1) (bF N (aH n v).toNat { a with YD:=a.YD+v }).2:=by rw[ic,Uf c,Uf h]
theorem QY(c:v<n.size)(h:((bF N (aH n v).toNat { a with YD:=a.YD+v }).1==0)=false) :
    ic n a (w+1) v N=(((bF N (aH n v).toNat { a with YD:=a.YD+v }).1,{ a with YD:=a.YD+v }),(bF N (aH n v).toNat { a with YD:=a.YD+v }).2):=by rw[ic,Uf c,Ud (by rw[h];simp)]
theorem Ss(b:¬v<n.size):ic n a (w+1) v N=(dh,N):=by rw[ic,Ud b]
theorem dC(h:k.heap[y]?=some (.cells bH 165)) :
    k.cell? ⟨y,0,none⟩=some (int i64 0)/\k.cell? ⟨y,1,none⟩=some (string ⟨#[]⟩)/\k.cell? ⟨y,2,none⟩=some (int i64 0)/\k.cell? ⟨y,3,none⟩=some (int i64 0):=by
  refine⟨?_,?_,?_,?_⟩ <;> (rw[ah h];rfl)
theorem wL{t F:Nat}{i:List Value}{a:Nat->ew}{b:Nat->Hd}(D:bn z7 y t i a b)(T:aw y k z4 z7 b)(c:k.heap.size<=F)(j:y≠F)(l:¬gF b F)(d e f g:Value) :
    bn ((((z7.setCell ⟨F,0,none⟩ d).setCell ⟨F,1,none⟩ e).setCell ⟨F,2,none⟩ f).setCell ⟨F,3,none⟩ g) y t i a b /\
    aw y k z4 ((((z7.setCell ⟨F,0,none⟩ d).setCell ⟨F,1,none⟩ e).setCell ⟨F,2,none⟩ f).setCell ⟨F,3,none⟩ g) b:=by
  refine⟨D.Yu (jY _ _ _ _) (by simpa using j) (fun x m=>by simp;rintro rfl;exact l m),?_,T.2⟩;exact(((T.1.setCell (Uo c) _).setCell (Uo c) _).setCell (Uo c) _).setCell (Uo c) _
theorem Cv(h:eM H x l d)(N:Nat)(ok:ju l N)(hN:N+n.size<=10000000)(al:-1000000000<=f/\f<=1000000000) :
    Calls prog 185 #[pointer (some ⟨x,0,none⟩),agg #[string n,string T,int i64 S,int i64 f]] H fun e c=>e=returned (iz (mq n ⟨T,S,f⟩ l).1)/\∃g,eM c x (mq n ⟨T,S,f⟩ l).2 g/\aw x H d c g:=by
  obtain⟨W,J⟩:∃W,W=(H.alloc (.cells #[string n,string T,int i64 S,int i64 f] 229)).alloc (.cells #[int i64 0,string ⟨#[]⟩,int i64 0,int i64 0] 165):=⟨_,rfl⟩
  have K:ae [] H W:=by rw[J];exact(bM.alloc _).alloc _
  have BW:W.heap[H.heap.size]?=some (.cells #[string n,string T,int i64 S,int i64 f] 229):=by rw[J];exact(bM.alloc _).get (Ui _ _) (by simp)
  have BF:W.heap[H.heap.size+1]?=some (.cells bH 165):=by
    rw[J];have:=Ui (H.alloc (.cells #[string n,string T,int i64 S,int i64 f] 229)) (.cells #[int i64 0,string ⟨#[]⟩,int i64 0,int i64 0] 165);simpa [bH] using this
  have ac:W.heap.size=H.heap.size+2:=by rw[J];simp
  have ai:=bn.lt h;have B:Xr (∀k,H.heap.size<=k->¬gF d k):=fun k hk hm=>by have:=bn.inlt h hm;omega
  have hC:=h.Yh K;have HW:Xr _:=J.symm;obtain⟨u0,u1,u2,u3⟩:=C9 BW;clear J;go_enter func185,ntmps185;go_upto_region 1 with fail
  rw[HW.o];go_wp2
  go_loopg [6] n.size (fun gk i wr=>∃(j:Nat) (s:lK) (g:Nat->Hd) (R:Nat),j<=n.size/\gk=n.size-j/\i=int i64 j/\ju s (N+j)/\n.size-j+1<=R/\Xr (mq n ⟨T,S,f⟩ l=ic n ⟨T,S,f⟩ R j s)/\eM wr x s g/\aw x H d wr g /\
    wr.heap[H.heap.size]?=some (.cells #[string n,string T,int i64 S,int i64 f] 229)/\wr.heap[H.heap.size+1]?=some (.cells bH 165)/\wr.heap[H.heap.size+2]?=some (.cells #[string T,int i64 S,int i64 (f+j)] 36)/\¬gF g H.heap.size/\¬gF g (H.heap.size+1)/\¬gF g (H.heap.size+2))
  case atStart =>
    refine⟨0,l,d,n.size+1,by omega,by omega,rfl,ok,by omega,rfl,hC.Yh (bM.alloc _),(aw.refl _ _ _).Yh (K.alloc _),(bM.alloc _).get BW (by simp),(bM.alloc _).get BF (by simp),?_,B.o _ (by omega),B.o _ (by omega),B.o _ (by omega)⟩;rw[<-ac];have:=Ui W (.cells #[string T,int i64 S,int i64 f] 36);simpa using this
  case round =>
    obtain⟨j,s,g,R,hj,hg,rfl,q,an,I,E,hT,B1,Z,L,n1,n2,n3⟩:=hrel;clear u0 u1 u2 u3 BW BF hC HW;have u0:wr.cell? ⟨H.heap.size,0,none⟩=some (string n):=(by rw[ah B1];rfl);have v0:wr.cell? ⟨H.heap.size+2,0,none⟩=some (string T):=(by rw[ah L];rfl);have v1:wr.cell? ⟨H.heap.size+2,1,none⟩=some (int i64 S):=(by rw[ah L];rfl);have v2:wr.cell? ⟨H.heap.size+2,2,none⟩=some (int i64 (f+j)):=(by rw[ah L];rfl);obtain⟨p,rfl⟩:∃p,R=p+1:=⟨R-1,by omega⟩
    by_cases w:j<n.size
    · have V:(aH n j).toNat=n[j].toNat:=by rw[bZ n j w];rfl
      have L1:=Tm n ⟨T,S,f⟩ p j s w;have L2:=QY n ⟨T,S,f⟩ p j s w;have D:=q.letter n[j].toNat { (⟨T,S,f⟩:Pl) with YD:=f+j };have U:n[j].toNat<256:=UInt8.toNat_lt _;have TL:=fun(c:World) (h':eM c x s g)=>zg x s g n[j].toNat T S (f+j) c h' ⟨by have:=q.Yz;omega,by have:=q.Yp;omega,by have:=q.steps;omega,by have:=q.Yj;omega,q.behind⟩ U;rw[V]at L1 L2;simp only at L1 L2 D;have t:Xr _:=L1;have u:Xr _:=L2;have C:Xr _:=TL;clear L1 L2 TL V;generalize bF s n[j].toNat ⟨T,S,f + ↑j⟩=Q at *;obtain⟨r,c2⟩:=Q;simp only at t u C D;have z:Xr (∀(a:World) (m:Nat->Hd) (_:aw x wr.drew g a m),a.heap[H.heap.size]?=some (.cells #[string n,string T,int i64 S,int i64 f] 229)/\a.heap[H.heap.size+1]?=some (.cells bH 165)/\a.heap[H.heap.size+2]?=some (.cells #[string T,int i64 S,int i64 (f+j)] 36)):=by
        intro a m b;exact⟨b.1.get (by exact B1) (by rintro (e | e);omega;exact n1 e),b.1.get (by exact Z) (by rintro (e | e);omega;exact n2 e),b.1.get (by exact L) (by rintro (e | e);omega;exact n3 e)⟩
      have O:Xr (∀(a:World) (m:Nat->Hd) (_:aw x wr.drew g a m),a.cell? ⟨H.heap.size,0,none⟩=some (string n)/\a.cell? ⟨H.heap.size+2,0,none⟩=some (string T)/\a.cell? ⟨H.heap.size+2,1,none⟩=some (int i64 S)/\a.cell? ⟨H.heap.size+2,2,none⟩=some (int i64 (f+j))):=by
        intro a m b;obtain⟨q1,Y,G⟩:=z.o a m b;refine⟨by rw[ah q1];rfl,by rw[ah G];rfl,by rw[ah G];rfl,by rw[ah G];rfl⟩
      have af:=aj B1;have X:=aj Z;have ag:=aj L;cases hr:(r==0)
      · have ad:(r != 0)=true:=by simp[bne,hr]
        have A:Xr _:=I.o.trans (u.o hr);clear I t u;(go_upto_region 5 with fail);go_region_held3 (fun c=>c.cell? ⟨H.heap.size,0,none⟩=some (string n)/\c.cell? ⟨H.heap.size+2,0,none⟩=some (string T)/\c.cell? ⟨H.heap.size+2,1,none⟩=some (int i64 S)/\c.cell? ⟨H.heap.size+2,2,none⟩=some (int i64 (f+j))) (go_keep) (first | (go_at_call 218;refine(C.o _ (by exact E.Yh bM.drew)).mono ?_;rintro e a ⟨rfl,m,D9,b⟩;obtain⟨x0,x1,x2,x3⟩:=O.o a m b))
        all_goals
          obtain⟨q1,Y,G⟩:=z.o a m b;obtain⟨j0,j1,j2,j3⟩:=dC Y;have y:=am Y;have m2:=b.fresh (H.heap.size+1) (by exact X) n2;have M:Xr _:=(fun a0 a1 a2 a3=>wL D9 (hT.trans (aw.first bM.drew b)) (F:=H.heap.size+1) (by omega) (by omega) m2 a0 a1 a2 a3);go_wp2;exact Um (v:=agg #[int i64 r,string T,int i64 S,int i64 (f+j)]) (by simp[results,results185,go_sem,j0,j1,j2,j3]) rfl
            ⟨by rw[A.o];rfl,m,by rw[A.o];exact(M.o _ _ _ _).1,(M.o _ _ _ _).2⟩
      · have ad:(r != 0)=false:=by simp[bne,hr]
        have A:Xr _:=I.o.trans (t.o hr);clear I t u;(go_upto_region 5 with fail);go_region_held3 (fun c=>c.cell? ⟨H.heap.size,0,none⟩=some (string n)/\c.cell? ⟨H.heap.size+2,0,none⟩=some (string T)/\c.cell? ⟨H.heap.size+2,1,none⟩=some (int i64 S)/\c.cell? ⟨H.heap.size+2,2,none⟩=some (int i64 (f+j))) (go_keep) (first | (go_at_call 218;refine(C.o _ (by exact E.Yh bM.drew)).mono ?_;rintro e a ⟨rfl,m,D9,b⟩;obtain⟨x0,x1,x2,x3⟩:=O.o a m b))
        all_goals
          obtain⟨q1,Y,G⟩:=z.o a m b;have y:=am G;have m1:=b.fresh H.heap.size (by exact af) n1;have m2:=b.fresh (H.heap.size+1) (by exact X) n2;have m3:=b.fresh (H.heap.size+2) (by exact ag) n3;have P:=hT.trans (aw.first bM.drew b);go_wp2;go_roundg (n.size-(j+1))
          · have kk:ae [H.heap.size+2] a (a.setCell ⟨H.heap.size+2,2,none⟩ (int i64 (f + ↑j+1))):=(ae.refl _ _).sl1 _
            refine⟨j+1,c2,m,p,by omega,rfl,by go_num,by rw[<-WC];exact D,by omega,A.o,bn.Yu D9 kk (by simp;omega) (by intro ao hx;simp;rintro rfl;exact m3 hx),⟨P.1.setCell (Uo (by simp)) _,P.2⟩,kk.get q1 (by simp),kk.get Y (by simp),?_,m1,m2,m3⟩;rw[ab G,show f+(↑(j+1):Int)=f + ↑j+1 by omega];rfl
          omega
    · have A:Xr _:=I.o.trans (Ss n ⟨T,S,f⟩ p j s w)
      obtain⟨j0,j1,j2,j3⟩:=dC Z;have y:=am Z;have M:Xr _:=(fun a0 a1 a2 a3=>wL E hT (F:=H.heap.size+1) (by omega) (by omega) n2 a0 a1 a2 a3);clear I;go_wp2;exact Um (v:=agg #[int i64 0,string ⟨#[]⟩,int i64 0,int i64 0]) (by simp[results,results185,go_sem,j0,j1,j2,j3]) rfl
        ⟨by rw[A.o];rfl,g,by rw[A.o];exact(M.o _ _ _ _).1,(M.o _ _ _ _).2⟩
def jD(l:Xv)(x:Nat):Bool:=l.any (fun y=>y==x)
theorem DD(h:o<L.length)(b:jD L v=jD (L.drop o) v)(a:(L[o]==v)=true):jD L v=true:=by
 rw[b,UB h];simp only[jD,List.any_cons,a,Bool.true_or]
theorem Am(h:o<L.length)(b:jD L v=jD (L.drop o) v)(a:(L[o]==v)=false):jD L v=jD (L.drop (o+1)) v:=by
 rw[b,UB h];simp only[jD,List.any_cons,a,Bool.false_or]
theorem An(h:¬o<L.length)(a:jD L v=jD (L.drop o) v):jD L v=false:=by
 rw[a,Vm (by omega)];rfl
theorem pS:((v:Int)==(o:Int))=(v==o):=by
 cases h:(v==o)
 ·exact Uz.2 (by have:=Uz.1 h;omega)
 ·have:=WP h;subst this;simp
set_option maxRecDepth 512
theorem Ef(m:Hd)(l:Xv)(x:Nat)(w:World)(c:aB w m (bu l))(v:l.length<=1073741824) :
  Calls prog 217 #[slice m.ao l.length m.cap,int i64 x] w fun e y=>e=returned (bool (jD l x))/\y=w:=by
 obtain⟨z,s⟩:=m;rcases c.Ys with ⟨u,r,_⟩ | ⟨g,t,q,_⟩
 ·have j:l.length=0:=r;have p:l=[]:=UI j;subst p;clear c r j v u;go_enter func217,ntmps217;go_wp2;refine Wd 1 ?_;rw[Wt];go_wp2;go_ret;exact⟨rfl,rfl⟩
 ·simp only at q;subst q;go_enter func217,ntmps217;go_wp2
  go_loopg [5] l.length (fun g i wr=>∃k:Nat,k<=l.length/\g=l.length-k/\i=int i64 k/\Xr (jD l x=jD (l.drop k) x)/\wr=w)
  ·exact⟨0,by omega,by omega,rfl,rfl,rfl⟩
  obtain⟨k,C,B,rfl,d,rfl⟩:=hrel;by_cases a:k<l.length
  ·have A:=c.cell rfl k (int i64 l[k]) (mx l k a);cases b:(l[k]==x)
   ·have f:Xr (jD l x=jD (l.drop (k+1)) x):=Am l x k a d.o b;have n:=(pS l[k] x).trans b;clear d c b;go_wp2;go_roundg (l.length-(k+1))
    ·exact⟨k+1,by omega,rfl,by go_num,f,rfl⟩
    omega
   ·have f:Xr (jD l x=true):=DD l x k a d.o b;have n:=(pS l[k] x).trans b;clear d c b;go_wp2;go_ret;exact⟨aE f.o.symm,rfl⟩
  ·have f:Xr (jD l x=false):=An l x k a d.o;clear d c;go_wp2;go_ret;exact⟨aE f.o.symm,rfl⟩
def b8(l:List St)(a:Nat)(YA:Pl):Nat->List (Xs×Pl)->Xv->(Nat×pJ)×Xv
 | _,[],ns=>((0,(3,YA)),ns)
 | i,(t,p) :: r,ns =>
  if(t.toList == [41])=true then((i+1,dh),ns)
  else match jM l t a with
   | none=>((0,(2,p)),ns)
   | some n=>if jD ns n=true then((0,(3,p)),ns) else b8 l a YA (i+1) r (ns++[n])
theorem aB.word{l:List (Xs×Pl)}(o:aB k z5 (iC l))(a:Nat)(n:a<l.length) :
  ∃g,z5.ao=some ⟨g,0,none⟩/\l.length<=z5.cap/\z5.cap<=9223372036854775807/\k.cell? ⟨g,a*4,none⟩=some (string l[a].1)/\k.cell? ⟨g,a*4+1,none⟩=some (string l[a].2.YB)/\k.cell? ⟨g,a*4+2,none⟩=some (int i64 l[a].2.YC)/\k.cell? ⟨g,a*4+3,none⟩=some (int i64 l[a].2.YD):=by
 rcases o.Ys with ⟨_,i,_⟩ | ⟨g,e,b,q,f,d,-⟩
 ·have:l.length=0:=i;omega
 ·have c:=fun j (m:j<4) v (p:(sD l[a])[j]?=some v)=>o.cell b (a*4+j) v ((L8 l a n j m).trans p);exact⟨g,b,f,by unfold maxLen at d;exact d,c 0 (by omega) _ rfl,c 1 (by omega) _ rfl,c 2 (by omega) _ rfl,c 3 (by omega) _ rfl⟩
theorem JO(b:w<i.length) :
  b8 m I a w (i.drop w) L=if(i[w].1.toList == [41])=true then((w+1,dh),L)
   else match jM m i[w].1 I with
    | none=>((0,(2,i[w].2)),L)
    | some n=>if jD L n=true then((0,(3,i[w].2)),L) else b8 m I a (w+1) (i.drop (w+1)) (L++[n]):=by
 rw[UB b];rfl
theorem Fu(b:¬w<i.length):b8 m I a w (i.drop w) L=((0,(3,a)),L):=by
 rw[Vm (by omega)];rfl
set_option maxRecDepth 100000
theorem zP(q:World)(h:eM q x l d)(ar:fy H z6 I b D)(an:ae [] H q)(ha:w<b.length)(ok:j6 b)(bf:l.Yz.length<=10000)(hb:H.heap.size<=x)(hc:∀L,gF d L->H.heap.size<=L) :
  Calls prog 184 #[pointer (some ⟨x,0,none⟩),pointer (some ⟨z6,I,none⟩),int i64 w] q fun e w' =>
   e=returned (tuple #[int i64 (b8 b w b[w].YA 1 (b[w].Yn.drop 1) l.Yz).1.1,iz (b8 b w b[w].YA 1 (b[w].Yn.drop 1) l.Yz).1.2])/\∃al,eM w' x { l with Yz:=(b8 b w b[w].YA 1 (b[w].Yn.drop 1) l.Yz).2 } al/\aw x q d w' al:=by
 obtain⟨i0,aS,a4,a5,a6⟩:=UC yb;have be:=bn.lt h;have hr:=ar.Yh an;have bc:=ok.len;have bl:=ok.prfs w ha;have af:Xr (∀k,q.heap.size<=k->¬gF d k):=fun k hk hm=>by have:=bn.inlt h hm;omega
 obtain⟨AO,ad⟩:=bm ((D (11+2*w)).ao);obtain⟨W,hW⟩:∃W,W=q.alloc (.cells #[int i64 0,string ⟨#[]⟩,int i64 0,int i64 0] 165):=⟨_,rfl⟩
 have K:=fg hW.symm;have BF:W.heap[q.heap.size]?=some (.cells bH 165):=by rw[hW];exact Ui _ _
 have HW:Xr _:=hW.symm;clear hW;go_enter func184,ntmps184;go_upto_region 1 with fail
 rw[HW.o];go_wp2_with fail;refine(bC z6 I w b D _ (hr.Yh K) ha).mono ?_;rintro e A ⟨rfl,E⟩;unfold eW;rw[ad.o];obtain⟨W2,y⟩:∃W2,W2=A.alloc (.cells #[int i64 b[w].Yw,string b[w].Yx,slice (D (10+2*w)).ao b[w].Yc.length (D (10+2*w)).cap,slice AO b[w].Yn.length (D (11+2*w)).cap,string b[w].YA.YB,int i64 b[w].YA.YC,int i64 b[w].YA.YD,int i64 b[w].til] 158):=⟨_,rfl⟩
 have ag:Xr _:=y.symm;have K2:ae [] q W2:=by rw[y];exact(K.trans E).alloc _
 have BT:=fE y.symm;have ac:W2.heap[q.heap.size]?=some (.cells bH 165):=by rw[y];exact(bM.alloc _).get (E.get BF (by simp)) (by simp)
 have bo:q.heap.size<A.heap.size:=by have:=aj (E.get BF (by simp));omega
 clear y;go_upto_region 2 with fail
 rw[ag.o];clear HW ag E BF K;obtain⟨TB,S⟩:∃TB:Array Value,TB=#[int i64 b[w].Yw,string b[w].Yx,slice (D (10+2*w)).ao b[w].Yc.length (D (10+2*w)).cap,slice AO b[w].Yn.length (D (11+2*w)).cap,string b[w].YA.YB,int i64 b[w].YA.YC,int i64 b[w].YA.YD,int i64 b[w].til]:=⟨_,rfl⟩
 rw[<-S]at BT;have s:Xr _:=S;clear S;go_wp2
 go_loopg [9] (b[w].Yn.length-1) (fun gk iv wr=>∃(i:Nat) (a:Xv) (g:Nat->Hd),1<=i/\i<=10001/\gk=b[w].Yn.length-i/\iv=int i64 i/\a.length<=10000+i/\Xr (b8 b w b[w].YA 1 (b[w].Yn.drop 1) l.Yz=b8 b w b[w].YA i (b[w].Yn.drop i) a)/\eM wr x { l with Yz:=a } g/\aw x q d wr g /\
  wr.heap[q.heap.size]?=some (.cells bH 165)/\wr.heap[A.heap.size]?=some (.cells TB 158)/\¬gF g q.heap.size/\¬gF g A.heap.size)
 ·exact⟨1,l.Yz,d,by omega,by omega,rfl,rfl,by omega,rfl,h.Yh K2,(aw.refl _ _ _).Yh K2,ac,BT,af.o _ (by omega),af.o _ (by omega)⟩
 obtain⟨i,a,g,bg,bj,hg,rfl,bk,hR,hC,hT,B1,M,n1,n2⟩:=hrel;clear BT ac K2;have hP:∀L,(L=x∨gF d L)->H.heap.size<=L:=by
  rintro L (e | e)
  ·omega
  ·exact hc L e
 have ap:fy wr z6 I b D:=ar.Yh (an.ofP hT.1 hP);have R:=ap.Yt.prfs w b[w] (Ub ha);have ba:=aj M;obtain⟨V,X,Y,Z⟩:=dC B1;have yz:=am B1;by_cases T:i<b[w].Yn.length
 ·obtain⟨gp,ep,a7,az,d0,d1,d2,d3⟩:=R.word i T;obtain rfl:AO=some ⟨gp,0,none⟩:=ad.o.symm.trans ep;have bd:Xr _:=ep;have t3:wr.cell? ⟨A.heap.size,3,none⟩=some (slice (some ⟨gp,0,none⟩) b[w].Yn.length (D (11+2*w)).cap):=by rw[ah M,s.o];rfl
  clear ep;have BL:=JO b w b[w].YA i b[w].Yn a T;have f:Xr _:=hR.o.trans BL;clear BL hR R;generalize hwd:b[w].Yn[i]=wd at *;obtain⟨t,pf,pl,pc⟩:=wd;simp only at d0 d1 d2 d3 f;obtain⟨O,C⟩:∃O,O=wr.alloc (.cells #[string t,string pf,int i64 pl,int i64 pc] 229):=⟨_,rfl⟩
  have N:=fg C.symm;have B5:=fE C.symm;have ai:Xr _:=C.symm;clear C;go_upto_region 6 with fail
  rw[ai.o];clear ai d0 d1 d2 d3 t3 V X Y Z yz;obtain⟨v0,v1,v2,v3⟩:=C9 B5;have C5:=hC.Yh N;have T5:=hT.Yh N;have R5:=ap.Yh N;have F5:=N.get B1 (by simp);have S5:=N.get M (by simp);obtain⟨V,X,Y,Z⟩:=dC F5;have yz:=am F5;have B:Xr _:=fun a0 a1 a2 a3=>wL C5 T5 (F:=q.heap.size) (Ue _) (by omega) n1 a0 a1 a2 a3;cases ht:(t.toList == [41])
  ·rcases hf:jM b t w with _ | n
   ·have r:Xr (b8 b w b[w].YA 1 (b[w].Yn.drop 1) l.Yz=((0,(2,⟨pf,pl,pc⟩)),a)):=(by show _=_;rw[f.o,ht,hf];simp);clear f;(go_upto_region 10 with (go_at_call 186;refine(jc z6 I w t b D _ (by exact R5) (by omega)).mono ?_;rintro e w6 ⟨rfl,z⟩;rw[z,hf];simp only[oM]));go_region
    all_goals go_wp2
    all_goals exact Um (v:=tuple #[int i64 0,agg #[int i64 2,string pf,int i64 pl,int i64 pc]]) (by simp[results,results184,go_sem,V,X,Y,Z]) rfl ⟨by rw[r.o];rfl,g,by rw[r.o];exact(eM.Yh (B.o _ _ _ _).1 bM.drew),aw.Yh (B.o _ _ _ _).2 bM.drew⟩
   ·obtain⟨k0,k1,k2,k3,k4⟩:=C5.cells;simp only at k0;clear k1 k2 k3 k4;have Q:aB O (g 0) (bu a):=bn.YF C5 0;cases hh:jD a n
    ·have r:Xr (b8 b w b[w].YA 1 (b[w].Yn.drop 1) l.Yz=b8 b w b[w].YA (i+1) (b[w].Yn.drop (i+1)) (a++[n])):=(by show _=_;rw[f.o,ht,hf];simp[hh]);have P:=C5.Yh ((ae.refl [] O).alloc (.cells #[int i64 n] 3));have aT:Xr (∀j,j≠0->yO { l with Yz:=a++[n] } j=yO { l with Yz:=a } j):=by
      intro j J
      match j,J with
      | 0,J=>exact absurd rfl J
      | 1,_=>rfl
      | 2,_=>rfl
      | m+3,_=>rfl
     clear f B V X Y Z yz;(go_upto_region 13 with (first | (go_at_call 186;refine(jc z6 I w t b D _ (by exact R5) (by omega)).mono ?_;rintro e w6 ⟨rfl,z⟩;rw[z,hf];simp only[oM]) | (go_at_call 217;refine(Ef (g 0) a n _ (by exact Q) (by omega)).mono ?_;rintro e w7 ⟨rfl,U⟩;rw[U])));go_wp2_with (at_builtin;refine aN _ rfl (.tmp 56) (.tmp 58) 24 rfl i0 (int i64 0) 8 (g 0) (bu a) underlying24 aS a4 a5 a6 rfl UA rfl (by exact bn.YF P 0) ⟨_,0,none⟩ 1 1 [int i64 n] rfl rfl ?e1 ?e2 UA ?e3 ?e4 ?_)
     case e1=>intro j u J;match j,J with | 0,J=>simp at J;subst J;simp[Addr.add]
     case e2=>intro u hu;simp at hu;subst hu;rfl
     case e3=>simp only[bu];unfold maxLen;omega
     case e4=>simp only[bu];omega
     intro g8 c w8 ax G p;obtain⟨k5,f5,HP⟩:=bn.app P (cs':=mu { l with Yz:=a++[n] } (ie g 0 ⟨some ⟨g8,0,none⟩,c⟩)) (rows':=yO { l with Yz:=a++[n] }) 0 0 g8 c ((bu a).n+1) _ ax (me a n) G (by simpa using p) aT.o (slice (g 0).ao a.length (g 0).cap) rfl (by simp[mu,ie,bu]);have T8:Xr _:=(T5.Yh ((ae.refl [] O).alloc (.cells #[int i64 n] 3))).trans HP.o.2;have F8:Xr ((w8.setCell ⟨x,0,none⟩ (slice (some ⟨g8,0,none⟩) ((bu a).n+1) c)).heap[q.heap.size]?=some (.cells bH 165)):=HP.o.2.1.get (((ae.refl [] O).alloc _).get F5 (by simp)) (by rintro (e | e);omega;exact n1 e);have S8:Xr ((w8.setCell ⟨x,0,none⟩ (slice (some ⟨g8,0,none⟩) ((bu a).n+1) c)).heap[A.heap.size]?=some (.cells TB 158)):=HP.o.2.1.get (((ae.refl [] O).alloc _).get S5 (by simp)) (by rintro (e | e);omega;exact n2 e);have m1:Xr (¬gF (ie g 0 ⟨some ⟨g8,0,none⟩,c⟩) q.heap.size):=aw.fresh HP.o.2 _ (by have:=N.size;simp;omega) n1;have m2:Xr (¬gF (ie g 0 ⟨some ⟨g8,0,none⟩,c⟩) A.heap.size):=aw.fresh HP.o.2 _ (by have:=N.size;simp;omega) n2;clear ax G p k0 Q P v0 v1 v2 v3;go_wp2;go_roundg (b[w].Yn.length-(i+1))
     ·exact⟨i+1,a++[n],_,by omega,by omega,rfl,by go_num,by simp;omega,r.o,HP.o.1,T8.o,F8.o,S8.o,m1.o,m2.o⟩
     omega
    ·have r:Xr (b8 b w b[w].YA 1 (b[w].Yn.drop 1) l.Yz=((0,(3,⟨pf,pl,pc⟩)),a)):=(by show _=_;rw[f.o,ht,hf];simp[hh]);clear f;(go_upto_region 12 with (first | (go_at_call 186;refine(jc z6 I w t b D _ (by exact R5) (by omega)).mono ?_;rintro e w6 ⟨rfl,z⟩;rw[z,hf];simp only[oM]) | (go_at_call 217;refine(Ef (g 0) a n _ (by exact Q) (by omega)).mono ?_;rintro e w7 ⟨rfl,U⟩;rw[U])));go_region
     all_goals go_wp2
     all_goals exact Um (v:=tuple #[int i64 0,agg #[int i64 3,string pf,int i64 pl,int i64 pc]]) (by simp[results,results184,go_sem,V,X,Y,Z]) rfl ⟨by rw[r.o];rfl,g,by rw[r.o];exact(eM.Yh (B.o _ _ _ _).1 bM.drew),aw.Yh (B.o _ _ _ _).2 bM.drew⟩
  ·have r:Xr (b8 b w b[w].YA 1 (b[w].Yn.drop 1) l.Yz=((i+1,dh),a)):=(by show _=_;rw[f.o,ht];simp);clear f;go_wp2;exact Um (v:=tuple #[int i64 (i+1),agg #[int i64 0,string ⟨#[]⟩,int i64 0,int i64 0]]) (by simp[results,results184,go_sem,V,X,Y,Z]) rfl
    ⟨by rw[r.o];rfl,g,by rw[r.o];exact(B.o _ _ _ _).1,(B.o _ _ _ _).2⟩
 ·have r:Xr (b8 b w b[w].YA 1 (b[w].Yn.drop 1) l.Yz=((0,(3,b[w].YA)),a)):=hR.o.trans (Fu b w b[w].YA i b[w].Yn a T);have t3:wr.cell? ⟨A.heap.size,3,none⟩=some (slice AO b[w].Yn.length (D (11+2*w)).cap):=by rw[ah M,s.o];rfl
  have t4:wr.cell? ⟨A.heap.size,4,none⟩=some (string b[w].YA.YB):=by rw[ah M,s.o];rfl
  have t5:wr.cell? ⟨A.heap.size,5,none⟩=some (int i64 b[w].YA.YC):=by rw[ah M,s.o];rfl
  have t6:wr.cell? ⟨A.heap.size,6,none⟩=some (int i64 b[w].YA.YD):=by rw[ah M,s.o];rfl
  have B:Xr _:=(fun a0 a1 a2 a3=>wL hC hT (F:=q.heap.size) (Ue _) (by omega) n1 a0 a1 a2 a3);clear hR R;go_upto_region 14 with fail
  go_region
  all_goals go_wp2
  all_goals exact Um (v:=tuple #[int i64 0,agg #[int i64 3,string b[w].YA.YB,int i64 b[w].YA.YC,int i64 b[w].YA.YD]]) (by simp[results,results184,go_sem,V,X,Y,Z]) rfl ⟨by rw[r.o];rfl,g,by rw[r.o];exact(eM.Yh (B.o _ _ _ _).1 bM.drew),aw.Yh (B.o _ _ _ _).2 bM.drew⟩
def ee(l:List St)(a:Nat)(YA:Pl):List (Xs×Pl)->List jg->List jg×pJ
 | [],acc=>if acc.length=0 then([],(1,YA)) else(acc,dh)
 | (t,p) :: r,acc =>
  if(t.toList == [63])=true then ee l a YA r (acc++[⟨1,0,p⟩])
  else match jM l t a with
   | none=>([],(2,p))
   | some n=>ee l a YA r (acc++[⟨2,n,p⟩])
theorem NK(b:w<i.length) :
  ee m I a (i.drop w) y0=if(i[w].1.toList == [63])=true then ee m I a (i.drop (w+1)) (y0++[⟨1,0,i[w].2⟩])
   else match jM m i[w].1 I with
    | none=>([],(2,i[w].2))
    | some n=>ee m I a (i.drop (w+1)) (y0++[⟨2,n,i[w].2⟩]):=by
 rw[UB b];rfl
theorem KM(b:¬w<i.length):ee m I a (i.drop w) y0=if y0.length=0 then([],(1,a)) else(y0,dh):=by
 rw[Vm (by omega)];rfl
theorem lS{F:Nat}(K:ae [] k z7)(a:k.heap.size<=F)(b c d e:Value):ae [] k ((((z7.setCell ⟨F,0,none⟩ b).setCell ⟨F,1,none⟩ c).setCell ⟨F,2,none⟩ d).setCell ⟨F,3,none⟩ e) :=
 (((K.setCell (Uo a) _).setCell (Uo a) _).setCell (Uo a) _).setCell (Uo a) _
theorem SZ(K:ae [] k z7)(a:k.heap.size<=y)(b c d e f:Value):ae [] k (((((z7.setCell ⟨y,0,none⟩ b).setCell ⟨y,1,none⟩ c).setCell ⟨y,2,none⟩ d).setCell ⟨y,3,none⟩ e).setCell ⟨y,4,none⟩ f) :=
 ((((K.setCell (Uo a) _).setCell (Uo a) _).setCell (Uo a) _).setCell (Uo a) _).setCell (Uo a) _
theorem qU(hr:fy H z6 I b D)(ha:w<b.length)(ok:j6 b) :
  Calls prog 140 #[pointer (some ⟨z6,I,none⟩),int i64 w] H fun e w'=>∃l:Hd,
   e=returned (tuple #[slice l.ao (ee b w b[w].YA b[w].Yn []).1.length l.cap,iz (ee b w b[w].YA b[w].Yn []).2])/\aB w' l (gJ (ee b w b[w].YA b[w].Yn []).1)/\(∀x,l.Yv=some x->H.heap.size<=x)/\ae [] H w':=by
 obtain⟨i0,ai,an,O,ap⟩:=UC Rf;have a3:=ok.len;have a5:=ok.prfs w ha;obtain⟨AO,ac⟩:=bm ((D (11+2*w)).ao);obtain⟨W,hW⟩:∃W,W=H.alloc (.cells #[int i64 0,string ⟨#[]⟩,int i64 0,int i64 0] 165):=⟨_,rfl⟩
 have K:=fg hW.symm;have BF:W.heap[H.heap.size]?=some (.cells bH 165):=by rw[hW];exact Ui _ _
 have HW:Xr _:=hW.symm;clear hW;go_enter func140,ntmps140;go_upto_region 1 with fail
 rw[HW.o];go_wp2_with fail;refine(bC z6 I w b D _ (hr.Yh K) ha).mono ?_;rintro e Q ⟨rfl,N⟩;unfold eW;rw[ac.o];obtain⟨q,F⟩:∃q,q=Q.alloc (.cells #[int i64 b[w].Yw,string b[w].Yx,slice (D (10+2*w)).ao b[w].Yc.length (D (10+2*w)).cap,slice AO b[w].Yn.length (D (11+2*w)).cap,string b[w].YA.YB,int i64 b[w].YA.YC,int i64 b[w].YA.YD,int i64 b[w].til] 158):=⟨_,rfl⟩
 have ad:Xr _:=F.symm;have K2:ae [] H q:=by rw[F];exact(K.trans N).alloc _
 obtain⟨TB,X⟩:∃TB:Array Value,TB=#[int i64 b[w].Yw,string b[w].Yx,slice (D (10+2*w)).ao b[w].Yc.length (D (10+2*w)).cap,slice AO b[w].Yn.length (D (11+2*w)).cap,string b[w].YA.YB,int i64 b[w].YA.YC,int i64 b[w].YA.YD,int i64 b[w].til]:=⟨_,rfl⟩
 have BT:q.heap[Q.heap.size]?=some (.cells TB 158):=by rw[F,X];exact Ui _ _
 have ax:q.heap[H.heap.size]?=some (.cells bH 165):=by rw[F];exact(bM.alloc _).get (N.get BF (by simp)) (by simp)
 have a6:H.heap.size<Q.heap.size:=by have:=aj (N.get BF (by simp));omega
 have a7:=aj BT;have A:Xr _:=X;clear F X;go_upto_region 2 with fail
 rw[ad.o];clear HW ad N BF K;go_wp2
 go_loopg [7,8] b[w].Yn.length (fun gk sv iv wr=>∃(i:Nat) (a:List jg) (l:Hd),i<=b[w].Yn.length/\gk=b[w].Yn.length-i/\iv=int i64 i/\sv=slice l.ao a.length l.cap/\a.length<=i/\Xr (ee b w b[w].YA b[w].Yn []=ee b w b[w].YA (b[w].Yn.drop i) a)/\aB wr l (gJ a)/\(∀x,l.Yv=some x->q.heap.size<=x) /\
  ae [] q wr)
 ·exact⟨0,[],⟨none,0⟩,by omega,by omega,rfl,rfl,by simp,rfl,Uj _ _ _ _,by intro x k;simp[Hd.Yv]at k,ae.refl _ _⟩
 obtain⟨i,a,l,hi,hg,rfl,rfl,a4,hR,hO,hN,hK⟩:=hrel;have KW:=K2.trans hK;have al:=hr.Yh KW;have B1:=hK.get ax (by simp);have B2:=hK.get BT (by simp);obtain⟨z0,z1,z2,z3⟩:=dC B1;have yz:=am B1;have V:=al.Yt.prfs w b[w] (Ub ha);have a0:=K2.size;by_cases Y:i<b[w].Yn.length
 ·obtain⟨gp,ep,a2,aS,d0,d1,d2,d3⟩:=V.word i Y;obtain rfl:AO=some ⟨gp,0,none⟩:=ac.o.symm.trans ep;have t3:wr.cell? ⟨Q.heap.size,3,none⟩=some (slice (some ⟨gp,0,none⟩) b[w].Yn.length (D (11+2*w)).cap):=by rw[ah B2,A.o];rfl
  clear ep;have BL:=NK b w b[w].YA i b[w].Yn a Y;have p:Xr _:=hR.o.trans BL;clear BL hR V;generalize hwd:b[w].Yn[i]=wd at *;obtain⟨t,f,g,d⟩:=wd;simp only at d0 d1 d2 d3 p;obtain⟨s,G⟩:∃s,s=(wr.alloc (.cells #[string t,string f,int i64 g,int i64 d] 229)).alloc (.cells #[int i64 1,int i64 0,string f,int i64 g,int i64 d] 174):=⟨_,rfl⟩
  have K5:ae [] wr s:=by rw[G];exact(bM.alloc _).alloc _
  have B5:s.heap[wr.heap.size]?=some (.cells #[string t,string f,int i64 g,int i64 d] 229):=by rw[G];exact(bM.alloc _).get (Ui _ _) (by simp)
  have S5:s.heap[wr.heap.size+1]?=some (.cells #[int i64 1,int i64 0,string f,int i64 g,int i64 d] 174):=by
   rw[G];have:=Ui (wr.alloc (.cells #[string t,string f,int i64 g,int i64 d] 229)) (.cells #[int i64 1,int i64 0,string f,int i64 g,int i64 d] 174);simpa using this
  have af:Xr _:=G.symm;clear G;go_upto_region 8 with fail
  rw[af.o];clear af d0 d1 d2 d3 t3 z0 z1 z2 z3 yz;obtain⟨v0,v1,v2,v3⟩:=C9 B5;obtain⟨u0,u1,u2,u3,u4⟩:=lr S5;have yu:=am S5;have M:aB s l (gJ a):=hO.Ym (fun x k=>K5.block x (hO.lt k) (by simp));have R5:=al.Yh K5;have F5:=K5.get B1 (by simp);obtain⟨z0,z1,z2,z3⟩:=dC F5;have yz:=am F5;have R:Xr (ae [] q s):=hK.trans K5;cases ht:(t.toList == [63])
  ·have a1:(t.toList != [63])=true:=(by simp[bne,ht]);rcases hf:jM b t w with _ | n
   ·have y:Xr (ee b w b[w].YA b[w].Yn []=([],(2,⟨f,g,d⟩))):=(by show _=_;rw[p.o,ht,hf];simp);clear p;(go_upto_region 11 with (go_at_call 186;refine(jc z6 I w t b D _ (by exact R5) (by omega)).mono ?_;rintro e w6 ⟨rfl,Z⟩;rw[Z,hf];simp only[oM]));go_region
    all_goals go_wp2
    all_goals exact Um (v:=tuple #[slice none 0 0,agg #[int i64 2,string f,int i64 g,int i64 d]]) (by simp[results,results140,go_sem,z0,z1,z2,z3]) rfl ⟨⟨none,0⟩,by rw[y.o];rfl,by rw[y.o];exact Uj _ _ _ _,by intro x k;simp[Hd.Yv]at k,(lS (K2.trans R.o) (Ue _) _ _ _ _).drew⟩
   ·have y:Xr (ee b w b[w].YA b[w].Yn []=ee b w b[w].YA (b[w].Yn.drop (i+1)) (a++[⟨2,n,⟨f,g,d⟩⟩])):=(by show _=_;rw[p.o,ht,hf];simp);clear p;obtain⟨B,J⟩:∃B,B=((((s.setCell ⟨wr.heap.size+1,0,none⟩ (int i64 2)).setCell ⟨wr.heap.size+1,1,none⟩ (int i64 n)).setCell ⟨wr.heap.size+1,2,none⟩ (string f)).setCell ⟨wr.heap.size+1,3,none⟩ (int i64 g)).setCell ⟨wr.heap.size+1,4,none⟩ (int i64 d):=⟨_,rfl⟩
    have ar:ae [wr.heap.size+1] s B:=(by rw[J];exact((((((ae.refl _ _).sl1 _).sl1 _).sl1 _).sl1 _).sl1 _));have S6:B.heap[wr.heap.size+1]?=some (.cells #[int i64 2,int i64 n,string f,int i64 g,int i64 d] 174):=by
     rw[J,ab (ab (ab (ab (ab S5 _ _) _ _) _ _) _ _)];rfl
    have az:Xr (ae [] q B):=by
     show ae [] q B;rw[J];exact SZ R.o (by have:=hK.size;omega) _ _ _ _ _
    have P:aB B l (gJ a):=M.Ym (fun x k=>ar.block x (M.lt k) (by simp;rintro rfl;have:=hO.lt k;omega));have ag:Xr _:=J.symm;clear J ar;(go_upto_region 13 with (go_at_call 186;refine(jc z6 I w t b D _ (by exact R5) (by omega)).mono ?_;rintro e w6 ⟨rfl,Z⟩;rw[Z,hf];simp only[oM]));rw[ag.o];clear ag u0 u1 u2 u3 u4 yu;obtain⟨u0,u1,u2,u3,u4⟩:=lr S6;have E:=P.Ym (fun x k=>((ae.refl [] B).alloc (.cells #[int i64 2,int i64 n,string f,int i64 g,int i64 d] 174)).block x (P.lt k) (by simp));have K6:Xr (ae [] q (B.alloc (.cells #[int i64 2,int i64 n,string f,int i64 g,int i64 d] 174))):=ae.alloc az.o _;clear z0 z1 z2 z3 yz v0 v1 v2 v3;go_wp2_with (at_builtin;refine aN _ rfl (.tmp 47) (.tmp 49) 163 rfl i0 (agg #[int i64 0,int i64 0,string ⟨#[]⟩,int i64 0,int i64 0]) 48 l (gJ a) underlying163 ai an O ap rfl (XD 4) rfl (by exact E) ⟨_,0,none⟩ 1 1 (lV ⟨2,n,⟨f,g,d⟩⟩) rfl rfl ?e1 (vG _) UA ?e3 ?e4 ?_)
    case e1 =>
     intro j u hj;have hk:(B.alloc (.cells #[int i64 2,int i64 n,string f,int i64 g,int i64 d] 174)).heap[B.heap.size]?=some (.cells #[int i64 2,int i64 n,string f,int i64 g,int i64 d] 174):=Ui _ _;rw[bS,ah hk];simpa [lV] using hj
    case e3=>simp only[gJ];unfold maxLen;omega
    case e4=>simp only[gJ];omega
    intro S C w8 L m c;rw[vC a ⟨2,n,⟨f,g,d⟩⟩]at L;have U:=(K6.o).grown m hN;have aT:q.heap.size<=S:=by
     rcases c with e | e
     ·exact hN S e
     ·have:=K6.o.size;simp at e this;omega
    have T:Xr ((gJ a).n+1=(a++[(⟨2,n,⟨f,g,d⟩⟩:jg)]).length):=cM (by simp[gJ]);rw[T.o];clear m c E;go_wp2;go_roundg (b[w].Yn.length-(i+1))
    ·exact⟨i+1,a++[⟨2,n,⟨f,g,d⟩⟩],⟨some ⟨S,0,none⟩,C⟩,by omega,rfl,by go_num,rfl,by simp;omega,y,L,by intro x k;simp[Hd.Yv]at k;omega,U⟩
    omega
  ·have a1:(t.toList != [63])=false:=(by simp[bne,ht]);have y:Xr (ee b w b[w].YA b[w].Yn []=ee b w b[w].YA (b[w].Yn.drop (i+1)) (a++[⟨1,0,⟨f,g,d⟩⟩])):=cM (by rw[p.o,ht];simp);clear p;have E:=M.Ym (fun x k=>((ae.refl [] s).alloc (.cells #[int i64 1,int i64 0,string f,int i64 g,int i64 d] 174)).block x (M.lt k) (by simp));have K6:Xr (ae [] q (s.alloc (.cells #[int i64 1,int i64 0,string f,int i64 g,int i64 d] 174))):=ae.alloc R.o _;clear z0 z1 z2 z3 yz;(go_upto_region 13 with fail);clear v0 v1 v2 v3;go_wp2_with (at_builtin;refine aN _ rfl (.tmp 47) (.tmp 49) 163 rfl i0 (agg #[int i64 0,int i64 0,string ⟨#[]⟩,int i64 0,int i64 0]) 48 l (gJ a) underlying163 ai an O ap rfl (XD 4) rfl (by exact E) ⟨_,0,none⟩ 1 1 (lV ⟨1,0,⟨f,g,d⟩⟩) rfl rfl ?e1 (vG _) UA ?e3 ?e4 ?_)
   case e1 =>
    intro j u hj;have hk:(s.alloc (.cells #[int i64 1,int i64 0,string f,int i64 g,int i64 d] 174)).heap[s.heap.size]?=some (.cells #[int i64 1,int i64 0,string f,int i64 g,int i64 d] 174):=Ui _ _;rw[bS,ah hk];simpa [lV] using hj
   case e3=>simp only[gJ];unfold maxLen;omega
   case e4=>simp only[gJ];omega
   intro S C w8 L m c;rw[vC a ⟨1,0,⟨f,g,d⟩⟩]at L;have U:=(K6.o).grown m hN;have aT:q.heap.size<=S:=by
    rcases c with e | e
    ·exact hN S e
    ·have:=K6.o.size;simp at e this;omega
   have T:Xr ((gJ a).n+1=(a++[(⟨1,0,⟨f,g,d⟩⟩:jg)]).length):=cM (by simp[gJ]);rw[T.o];clear m c E;go_wp2;go_roundg (b[w].Yn.length-(i+1))
   ·exact⟨i+1,a++[⟨1,0,⟨f,g,d⟩⟩],⟨some ⟨S,0,none⟩,C⟩,by omega,rfl,by go_num,rfl,by simp;omega,y,L,by intro x k;simp[Hd.Yv]at k;omega,U⟩
   omega
 ·have y:Xr (ee b w b[w].YA b[w].Yn []=if a.length=0 then([],(1,b[w].YA)) else(a,dh)):=hR.o.trans (KM b w b[w].YA i b[w].Yn a Y);have t3:wr.cell? ⟨Q.heap.size,3,none⟩=some (slice AO b[w].Yn.length (D (11+2*w)).cap):=by rw[ah B2,A.o];rfl
  have t4:wr.cell? ⟨Q.heap.size,4,none⟩=some (string b[w].YA.YB):=by rw[ah B2,A.o];rfl
  have t5:wr.cell? ⟨Q.heap.size,5,none⟩=some (int i64 b[w].YA.YC):=by rw[ah B2,A.o];rfl
  have t6:wr.cell? ⟨Q.heap.size,6,none⟩=some (int i64 b[w].YA.YD):=by rw[ah B2,A.o];rfl
  clear hR V;by_cases hz:a.length=0
  ·have O:((a.length:Int)==0)=true:=(by simp[hz]);have z:Xr (ee b w b[w].YA b[w].Yn []=([],(1,b[w].YA))):=cM (by rw[y.o,Uf hz]);clear y hz;(go_upto_region 15 with fail);go_region
   all_goals go_wp2
   all_goals exact Um (v:=tuple #[slice none 0 0,agg #[int i64 1,string b[w].YA.YB,int i64 b[w].YA.YC,int i64 b[w].YA.YD]]) (by simp[results,results140,go_sem,z0,z1,z2,z3]) rfl ⟨⟨none,0⟩,by rw[z.o];rfl,by rw[z.o];exact Uj _ _ _ _,by intro x k;simp[Hd.Yv]at k,(lS KW (Ue _) _ _ _ _).drew⟩
  ·have O:((a.length:Int)==0)=false:=Uz.2 (by omega);have z:Xr (ee b w b[w].YA b[w].Yn []=(a,dh)):=cM (by rw[y.o,Ud hz]);clear y hz;go_wp2;exact Um (v:=tuple #[slice l.ao a.length l.cap,agg #[int i64 0,string ⟨#[]⟩,int i64 0,int i64 0]]) (by simp[results,results140,go_sem,z0,z1,z2,z3]) rfl
    ⟨l,by rw[z.o];rfl,by rw[z.o];exact hO.Ym (fun x k=>(jY (r:=H.heap.size) _ _ _ _).block x (hO.lt k) (by simp;rintro rfl;have:=hN _ k;omega)),fun x k=>Un a0 (hN x k),lS KW (Ue _) _ _ _ _⟩
def qj:List (Xs×Pl)->lK->pJ×lK
 | [],c=>(dh,c)
 | (t,p) :: r,c=>if((mq t p c).1.1==0)=true then qj r (mq t p c).2 else mq t p c
def CP(f:pJ)(ws:List (Xs×Pl))(c:lK):pJ×lK:=if(f.1==0)=true then qj ws c else(f,c)
theorem Sc(a:o<i.length)(h:(zt.1==0)=true):CP zt (i.drop o) N=CP (mq i[o].1 i[o].2 N).1 (i.drop (o+1)) (mq i[o].1 i[o].2 N).2:=by
 unfold CP;rw[Uf h,UB a];rfl
theorem Qo(a:¬o<i.length)(h:(zt.1==0)=true):CP zt (i.drop o) N=(dh,N):=by
 unfold CP;rw[Uf h,Vm (by omega)];rfl
theorem Jb(h:(zt.1==0)=false):CP zt i N=(zt,N):=by
 unfold CP;rw[Ud (by rw[h];simp)]
theorem z8(c:List (Xs×Pl))(i:Nat)(b:Xv):(b8 m I a i c b).1.1<=i+c.length/\(b8 m I a i c b).2.length<=b.length+c.length:=by
 induction c generalizing i b with
 | nil=>simp[b8]
 | cons x r d =>
  obtain⟨t,p⟩:=x;rw[b8];split
  ·simp
  ·split
   ·simp
   ·split
    ·simp
    ·next n _ _=>have:=d (i+1) (b++[n]);simp at this ⊢;omega
theorem ju.mono{M:Nat}(h:ju g y)(k:y<=M):ju g M:=⟨Un h.Yz k,Un h.Yp k,Un h.steps k,by have:=h.Yj;omega,h.behind⟩
theorem Ib(f:Nat):∀(j:Nat) (c:lK) (N:Nat),ju c (N+j)->j<=n.size->ju (ic n a f j c).2 (N+n.size):=by
 induction f with
 | zero=>intro j c N h d;exact h.mono (by omega)
 | succ f g =>
  intro j c N h d;rw[ic];split
  ·next e =>
   have b:=h.letter (aH n j).toNat { a with YD:=a.YD+j };split
   ·exact g (j+1) _ N (by rw[<-WC];exact b) (by omega)
   ·exact b.mono (by omega)
  ·exact h.mono (by omega)
theorem A8(h:ju g y):ju (mq n a g).2 (y+n.size):=Ib n a _ 0 g y h (UF _)
def lh(ws:List (Xs×Pl)):Nat:=(ws.map (fun x=>x.1.size)).sum
theorem GK(a:o<i.length):lh (i.drop o)=i[o].1.size+lh (i.drop (o+1)):=by
 have e:=UB a;simp only[lh];rw[e];rfl
theorem EG(a:List (Xs×Pl))(i:Nat):lh (a.drop i)<=lh a:=by
 induction i generalizing a with
 | zero=>simp
 | succ i b =>
  cases a with
  | nil=>simp
  | cons x r=>have:=b r;simp[lh]at this ⊢;omega
structure vQ(s:St):Prop where
 size:lh s.Yn<=1000000
 YD:∀x∈s.Yn,-1000000000<=x.2.YD/\x.2.YD<=1000000000
def Ab(l:List St)(a:Nat)(s:St):pJ×lK :=
 CP (b8 l a s.YA 1 (s.Yn.drop 1) (aM l a)).1.2 (s.Yn.drop (b8 l a s.YA 1 (s.Yn.drop 1) (aM l a)).1.1) ⟨(b8 l a s.YA 1 (s.Yn.drop 1) (aM l a)).2,[],[],0,false⟩
def nP(YA:Pl)(R:pJ×lK):List jg×pJ :=
 if(R.1.1==0)=true then
  (if R.2.Yj=0 then(if R.2.steps.length=0 then([],(1,YA)) else(R.2.steps,dh)) else([],(4,YA)))
 else([],R.1)
def lu(l:List St)(a:Nat)(s:St):List jg×pJ:=nP s.YA (Ab l a s)
def zJ(hd:Hd):Nat->Hd
 | 0=>hd
 | _+1=>⟨none,0⟩
theorem Pq{cs:List Value}{rows:Nat->ew}(o:aB k z5 (rows 0))(n:∀i,aB (k.alloc (.cells cs.toArray y)) ⟨none,0⟩ (rows (i+1))):bn (k.alloc (.cells cs.toArray y)) k.heap.size y cs rows (zJ z5):=by
 refine⟨Ui _ _,?_,?_,?_⟩
 ·intro i;cases i with
  | zero=>exact o.Ym (fun x c=>((ae.refl [] k).alloc _).block x (o.lt c) (by simp))
  | succ i=>exact n i
 ·intro i j a;cases i with
  | zero =>
   cases j with
   | zero=>exact absurd rfl a
   | succ j =>
    have b:(zJ z5 (j+1)).Yv=none:=rfl;rw[b,show zJ z5 0=z5 from rfl];cases h:z5.Yv with
    | none=>exact Us rfl
    | some x=>right;simp
  | succ i=>left;rfl
 ·intro i;cases i with
  | zero=>intro e;have:=o.lt e;omega
  | succ i=>intro e;simp[zJ,Hd.Yv]at e
theorem Qn(h:gF (zJ z5) y):z5.Yv=some y:=by
 obtain⟨i,a⟩:=h;cases i with
 | zero=>exact a
 | succ i=>simp[zJ,Hd.Yv]at a
end Go.Proofs.YtnbhnocdhbcbcaaGreat
