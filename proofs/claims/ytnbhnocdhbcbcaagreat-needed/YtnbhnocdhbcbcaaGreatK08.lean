import Derived.BigQuiet
import Derived.Deep.RegionHeld3
import Derived.Test.YtnbhnocdhbcbcaaGreatK07
namespace Go.Proofs.YtnbhnocdhbcbcaaGreat
open Go.RowKit Tryz
open Value IntKind Ending
set_option maxHeartbeats 0
variable{k z7:World}{y:Nat}{g:lC}{z4:Nat->Hd}{z5:Hd}(x:Nat)(l:lC)(d:Nat->Hd)(z6:Nat)(m:List St)(I:Nat)(n:Xs)(a:Pl)(w:Nat)(b:List St)(D:Nat->Hd)(T:Xs)(S f:Int)(zt:pu)(i:List (Xs×Pl))(L:Xv)(y0:List kD)(v:Nat)(N:lC)(H:World)(o:Nat)
def jL(c:lC)(d:Nat):lC:=if c.XG<=c.XX.length+c.XM.length then { c with behind:=false,XG:=c.XG*5+d } else { c with behind:=false }
theorem eI.digs(h:eI k y g z4)(n:Nat):Xr (eI (k.setCell ⟨y,3,none⟩ (int i64 n)) y { g with XG:=n } z4/\aD y k z4 (k.setCell ⟨y,3,none⟩ (int i64 n)) z4):=bG.set h 3 (int i64 n)
theorem eI.beh(h:eI k y g z4)(x:Bool):Xr (eI (k.setCell ⟨y,4,none⟩ (bool x)) y { g with behind:=x } z4/\aD y k z4 (k.setCell ⟨y,4,none⟩ (bool x)) z4):=bG.set h 4 (bool x)
theorem eI.XE(h:eI k y g z4)(a:ae [] k z7):eI z7 y g z4:=bG.XE h a
set_option maxRecDepth 100000
theorem zx(h:eI H x l D)(r:jo l 10000000)(A:v<=5) :
  Calls prog 244 #[pointer (some ⟨x,0,none⟩),int i64 v] H fun e t=>e=returned (tuple #[])/\eI t x (jL l v) D/\aD x H D t D:=by
 have w:=r.XX;have y:=r.XM;have z:=r.XG;obtain⟨f,g,i,j,k⟩:=h.cells;have c:=bG.free h;have b:=h.beh false;obtain⟨u,d⟩:∃u,u=H.setCell ⟨x,4,none⟩ (bool false):=⟨_,rfl⟩
 have n:Xr _:=d.symm;rw[<-d]at b;clear d;by_cases m:l.XG<=l.XX.length+l.XM.length
 ·have q:Xr (jL l v={ l with behind:=false,XG:=l.XG*5+v }):=Tr m;go_enter func244,ntmps244;go_upto_region 1 with fail
  rw[n.o];clear f g i j k c n;obtain⟨f,g,i,j,k⟩:=b.o.1.cells;simp only at f g j;clear i k;have c:=bG.free b.o.1;have s:(l.XG:Int)<=(l.XX.length:Int)+(l.XM.length:Int):=by omega
  go_quiet (fail);have p:=b.o.1.digs (l.XG*5+v);rw[show((l.XG*5+v:Nat):Int)=(l.XG:Int)*5+(v:Int) by omega]at p;go_wp2;go_end0;exact⟨rfl,by rw[q.o];exact p.o.1.XE (bR.drewN nq),aD.trans b.o.2 (aD.XE p.o.2 (bR.drewN nq))⟩
 ·have q:Xr (jL l v={ l with behind:=false }):=Tp m;go_enter func244,ntmps244;go_upto_region 1 with fail
  rw[n.o];clear f g i j k c n;obtain⟨f,g,i,j,k⟩:=b.o.1.cells;simp only at f g j;clear i k;go_quiet (fail);go_wp2;go_end0;exact⟨rfl,by rw[q.o];exact b.o.1.XE (bR.drewN nq),aD.XE b.o.2 (bR.drewN nq)⟩
def fm(c:lC)(u:Nat)(p:Pl):Int×lC :=
 if c.XG*20+u-1<c.XX.length then(0,{ dP { c with XG:=0 } ⟨2,c.XX.getD (c.XG*20+u-1) 0,p⟩ with behind:=true })
 else if c.XG*20+u-1-c.XX.length<c.XM.length then(0,{ dP { c with XG:=0 } ⟨3,c.XM.getD (c.XG*20+u-1-c.XX.length) 0,p⟩ with behind:=true })
 else(5,{ c with XG:=0 })
theorem Sb(h:o<L.length):L.getD o 0=L[o]:=by rw[To,Tn h];rfl
theorem Mx(f:Xs)(l c:Int) :
  ∃W,Xr (H.alloc (.cells #[string f,int i64 l,int i64 c] 36)=W)/\ae [] H W/\W.heap[H.heap.size]?=some (.cells #[string f,int i64 l,int i64 c] 36)/\W.cell? ⟨H.heap.size,0,none⟩=some (string f)/\W.cell? ⟨H.heap.size,1,none⟩=some (int i64 l)/\W.cell? ⟨H.heap.size,2,none⟩=some (int i64 c):=by
 have B:(H.alloc (.cells #[string f,int i64 l,int i64 c] 36)).heap[H.heap.size]?=some (.cells #[string f,int i64 l,int i64 c] 36):=Tu _ _;refine⟨_,rfl,bR.alloc _,B,?_,?_,?_⟩ <;> rw[ah B] <;> rfl
theorem xu(h:eI H x l d)(F:jo l 10000000)(hu:1<=w)(an:w<=20) :
  Calls prog 243 #[pointer (some ⟨x,0,none⟩),int i64 w,agg #[string T,int i64 S,int i64 f]] H fun e w'=>e=returned (int i64 (fm l w ⟨T,S,f⟩).1)/\∃H',eI w' x (fm l w ⟨T,S,f⟩).2 H'/\aD x H d w' H':=by
 have h1:=F.XX;have h2:=F.XM;have h3:=F.XG;obtain⟨W,HW,K,B,p0,p1,p2⟩:=Mx H T S f;have Z:=h.XE K;have ag:H.heap.size≠x:=by have:=bG.lt h;omega
 obtain⟨t,u,N,O,P⟩:=Z.cells;have af:=bG.free Z;have k:Xr (eI (W.setCell ⟨x,3,none⟩ (int i64 0)) x { l with XG:=0 } d/\aD x W d (W.setCell ⟨x,3,none⟩ (int i64 0)) d):=Z.digs 0;obtain⟨y,i⟩:∃y,y=W.setCell ⟨x,3,none⟩ (int i64 0):=⟨_,rfl⟩
 have z:Xr _:=i.symm;rw[<-i]at k;have B2:y.heap[H.heap.size]?=some (.cells #[string T,int i64 S,int i64 f] 36):=by rw[i];exact(TM _ _ _ _ ag).trans B
 obtain⟨r0,r1,r2⟩:=wn B2;clear i h;have G:jo { l with XG:=0 } 10000000:=⟨h1,h2,F.steps,Uc _,F.behind⟩;have ac:Xr (l.XG*20+w-1=l.XG*20+(w-1)):=ci (by omega);obtain⟨v,hv⟩:∃v,w=v+1:=⟨w-1,by omega⟩
 subst hv;have n:Xr (l.XG*20+(v+1)-1=l.XG*20+v):=ci (by omega);have E:(l.XG:Int)*20+((v:Int)+1)-1=((l.XG*20+v:Nat):Int):=by omega
 obtain⟨a,r⟩:∃a,l.XG*20+v=a:=⟨_,rfl⟩
 have s:Xr (fm l (v+1) ⟨T,S,f⟩=if a<l.XX.length then(0,{ dP { l with XG:=0 } ⟨2,l.XX.getD a 0,⟨T,S,f⟩⟩ with behind:=true }) else if a-l.XX.length<l.XM.length then(0,{ dP { l with XG:=0 } ⟨3,l.XM.getD (a-l.XX.length) 0,⟨T,S,f⟩⟩ with behind:=true }) else(5,{ l with XG:=0 })):=by
  show _=_;unfold fm;rw[n.o,r]
 rw[r]at E;have ai:a<=4000000000:=by omega
 go_enter func243,ntmps243;go_upto_region 1 with fail
 rw[HW.o];go_upto_region 3 with fail
 rw[z.o];clear HW z t u N O P af p0 p1 p2 E n ac r;obtain⟨t,u,N,O,P⟩:=k.o.1.cells;simp only at t u;clear N O P;have L:Xr (aD x H d y d):=aD.first K k.o.2;by_cases C:a<l.XX.length
 ·have D:=Sb l.XX a C;have m:Xr (fm l (v+1) ⟨T,S,f⟩=(0,{ dP { l with XG:=0 } ⟨2,l.XX[a],⟨T,S,f⟩⟩ with behind:=true })):=ci (by rw[s.o,Tr C,D]);have q:aB y (d 0) (bD l.XX):=bG.X9 k.o.1 0;rcases q.XP with ⟨_,Y,_⟩ | ⟨g,Q,n,-,e3,-⟩
  ·have:l.XX.length=0:=Y;omega
  ·have pe:=q.cell n a (int i64 l.XX[a]) (mm l.XX a C);rw[n]at t;generalize l.XX[a]=nx at *;clear q s u D;(go_upto_region 4 with fail);go_region_with (go_at_call 245;refine(qt x { l with XG:=0 } d 2 nx T S f _ (by exact k.o.1.XE bR.drew) G).mono ?_;rintro e w9 ⟨rfl,J,p,M,-⟩)
   all_goals
    have A:=p.beh true;obtain⟨R,U,V,X,d4⟩:=p.cells;have ad:=bG.free p;clear R U V X pe t r0 r1 r2;go_wp2;go_ret;exact⟨au (by rw[m.o]),J,by rw[m.o];exact A.o.1,aD.trans L.o (aD.trans (aD.first bR.drew M) A.o.2)⟩
 ·have al:(a:Int)-(l.XX.length:Int)=((a-l.XX.length:Nat):Int):=by omega
  by_cases I:a-l.XX.length<l.XM.length
  ·have D:=Sb l.XM (a-l.XX.length) I;have m:Xr (fm l (v+1) ⟨T,S,f⟩=(0,{ dP { l with XG:=0 } ⟨3,l.XM[a-l.XX.length],⟨T,S,f⟩⟩ with behind:=true })):=ci (by rw[s.o,Tp C,Tr I,D]);have q:aB y (d 1) (bD l.XM):=bG.X9 k.o.1 1;rcases q.XP with ⟨_,Y,_⟩ | ⟨g,Q,n,-,e3,-⟩
   ·have:l.XM.length=0:=Y;omega
   ·have pe:=q.cell n (a-l.XX.length) (int i64 l.XM[a-l.XX.length]) (mm l.XM _ I);rw[n]at u;generalize l.XM[a-l.XX.length]=nx at *;clear q s D;generalize hj:a-l.XX.length=j at *;(go_upto_region 9 with fail);go_region_with (go_at_call 245;refine(qt x { l with XG:=0 } d 3 nx T S f _ (by exact k.o.1.XE bR.drew) G).mono ?_;rintro e w9 ⟨rfl,J,p,M,-⟩)
    all_goals
     have A:=p.beh true;obtain⟨R,U,V,X,d4⟩:=p.cells;have ad:=bG.free p;clear R U V X pe t u r0 r1 r2;go_wp2;go_ret;exact⟨au (by rw[m.o]),J,by rw[m.o];exact A.o.1,aD.trans L.o (aD.trans (aD.first bR.drew M) A.o.2)⟩
  ·have m:Xr (fm l (v+1) ⟨T,S,f⟩=(5,{ l with XG:=0 })):=(by show _=_;rw[s.o,Tp C,Tp I]);clear s;generalize hj:a-l.XX.length=j at *;go_wp2;go_ret;exact⟨au (by rw[m.o]),d,by rw[m.o];exact k.o.1,L.o⟩
def bI(c:lC)(n:Nat)(p:Pl):Int×lC :=
 if 65<=n/\n<=84 then fm c (n-64) p
 else if 85<=n/\n<=89 then(0,jL c (n-84))
 else if n=90/\c.behind=true then(0,{ c with XM:=c.XM++[c.steps.length-1],behind:=false })
 else if n=63/\c.XG=0 then(0,dP c ⟨1,0,p⟩)
 else(4,c)
theorem yQ(h:eI H x l d)(D:jo l 10000000)(hn:w<256) :
  Calls prog 218 #[pointer (some ⟨x,0,none⟩),int u8 w,agg #[string T,int i64 S,int i64 f]] H fun e y=>e=returned (int i64 (bI l w ⟨T,S,f⟩).1)/\∃H',eI y x (bI l w ⟨T,S,f⟩).2 H'/\aD x H d y H':=by
 have av:=D.steps;have ax:=D.XM;obtain⟨W,t,K,B,p0,p1,p2⟩:=Mx H T S f;have p:=h.XE K;clear h;obtain⟨F,G,I,J,C⟩:=p.cells;have ap:=bG.lt p;by_cases i:65<=w/\w<=84
 ·have a:Xr (bI l w ⟨T,S,f⟩=fm l (w-64) ⟨T,S,f⟩):=Tr i;have EN:=fun(y:World) (Z:eI y x l d)=>xu x l d (w-64) T S f y Z D (by omega) (by omega);have V:Xr _:=EN;obtain⟨a1,a2⟩:=i;have he:(w:Int)-65+1=((w-64:Nat):Int):=by omega
  clear EN F G I J C;generalize hq:w-64=q at *;go_enter func218,ntmps218;go_upto_region 1 with fail
  rw[t.o];go_wp2_with fail;refine(V.o _ p).mono ?_;rintro e w2 ⟨rfl,U,s,E⟩;go_wp2;go_ret;exact⟨au (by rw[a.o]),U,by rw[a.o];exact s,aD.first K E⟩
 ·by_cases k:85<=w/\w<=89
  ·have a:Xr (bI l w ⟨T,S,f⟩=(0,jL l (w-84))):=(by show _=_;unfold bI;rw[Tp i,Tr k]);obtain⟨a1,a2⟩:=k;have TD:=fun(y:World) (Z:eI y x l d)=>zx x l d (w-84) y Z D (by omega);have X:Xr _:=TD;have he:(w:Int)-85+1=((w-84:Nat):Int):=(by omega);clear TD F G I J C i;generalize hq:w-84=q at *;go_enter func218,ntmps218;(go_upto_region 1 with fail);rw[t.o];go_wp2_with fail;refine(X.o _ p).mono ?_;rintro e w2 ⟨rfl,s,E⟩;go_wp2;go_ret;exact⟨au (by rw[a.o]),d,by rw[a.o];exact s,aD.first K E⟩
  ·by_cases r:w=90/\l.behind=true
   ·have a:Xr (bI l w ⟨T,S,f⟩=(0,{ l with XM:=l.XM++[l.steps.length-1],behind:=false })):=(by show _=_;unfold bI;rw[Tp i,Tp k,Tr r]);obtain⟨rfl,n⟩:=r;have an:=D.behind n;rw[n]at C;obtain⟨b,P⟩:∃b,l.steps.length-1=b:=⟨_,rfl⟩
    have he:(l.steps.length:Int)-1=(b:Int):=(by omega);rw[P]at a;have az:IntKind.i64.wrap (b:Int)=(b:Int):=by rw[UX];omega
    obtain⟨i0,hi,af,ag,ai⟩:=TZ xO;have hD:Xr (eI (W.alloc (.cells #[int i64 b] 3)).drew x l d):=p.XE ((ae.refl [] W).alloc _).drew;have s2:Xr (∀j u,([int i64 b]:List Value)[j]?=some u->(W.alloc (.cells #[int i64 b] 3)).drew.cell? ((⟨W.heap.size,0,none⟩:Addr).add j)=some u):=by
     intro j u O;have hk:(W.alloc (.cells #[int i64 b] 3)).drew.heap[W.heap.size]?=some (.cells #[int i64 b] 3):=Tu _ _;rw[bY,ah hk];simpa using O
    have s3:Xr (∀u∈([int i64 b]:List Value),u.oneCell'=true):=(by intro u hu;simp at hu;subst hu;rfl);have s4:Xr ((bD l.XM).n+1<=maxLen):=(by show _<=_;simp only[bD];unfold maxLen;omega);have s5:Xr (((bD l.XM).n+1)*8<=140737488355328):=(by show _<=_;simp only[bD];omega);have ad:Xr (∀j,j≠1->yw { l with XM:=l.XM++[b] } j=yw l j):=by
     intro j O
     match j,O with
     | 0,_=>rfl
     | 1,O=>exact absurd rfl O
     | 2,_=>rfl
     | m+3,_=>rfl
    clear F J i k p0 p1 p2;go_enter func218,ntmps218;(go_upto_region 1 with fail);rw[t.o];go_wp2_with fail;go_region_law (refine dd rfl (.tmp 44) (.tmp 51) 24 rfl i0 (int i64 0) 8 (d 1) (bD l.XM) underlying24 hi af ag ai rfl TR (by simp[Act.eval] <;> rfl) (bG.X9 hD.o 1) ⟨W.heap.size,0,none⟩ 1 1 [int i64 b] (by simp[Act.eval]) rfl s2.o s3.o TR s4.o s5.o ?_;intro g v w1 Q N c;obtain⟨k5,f5,R⟩:=bG.app hD.o (cs':=md { l with XM:=l.XM++[b] } (iJ d 1 ⟨some ⟨g,0,none⟩,v⟩)) (rows':=yw { l with XM:=l.XM++[b] }) 1 1 g v ((bD l.XM).n+1) _ Q (l4 l.XM b) N (by simpa using c) ad.o (slice (d 1).ao l.XM.length (d 1).cap) rfl (by simp[md,iJ,bD]);clear Q N c)
    all_goals
     have s:Xr _:=bG.set R.o.1 4 (bool false);have ac:=(bG.cell R.o.1 4);have ar:=bG.free R.o.1;simp only[md,List.getElem?_cons_succ,List.getElem?_cons_zero,n]at ac;clear G I C k5 f5;go_wp2;go_ret;exact⟨au (by rw[a.o]),_,by rw[a.o];exact s.o.1,((R.o.2.first (bR.alloc _).drew).first K).trans s.o.2⟩
   ·by_cases z:w=63/\l.XG=0
    ·have a:Xr (bI l w ⟨T,S,f⟩=(0,dP l ⟨1,0,⟨T,S,f⟩⟩)):=(by show _=_;unfold bI;rw[Tp i,Tp k,Tp r,Tr z]);obtain⟨rfl,A⟩:=z;rw[A]at J;clear F G I i k r;go_enter func218,ntmps218;(go_upto_region 1 with fail);rw[t.o];go_wp2_with fail;refine(qt x l d 1 0 T S f _ p D).mono ?_;rintro e w2 ⟨rfl,U,s,E,-⟩;go_wp2;go_ret;exact⟨au (by rw[a.o]),U,by rw[a.o];exact s,aD.first K E⟩
    ·have a:Xr (bI l w ⟨T,S,f⟩=(4,l)):=(by show _=_;unfold bI;rw[Tp i,Tp k,Tp r,Tp z]);clear F G I;by_cases M:w=90
     ·have n:l.behind=false:=by
       cases hq:l.behind with
       | false=>rfl
       | true=>exact absurd ⟨M,hq⟩ r
      rw[n]at C;subst M;clear i k r z;go_enter func218,ntmps218;(go_upto_region 1 with fail);rw[t.o];go_wp2;go_ret;exact⟨au (by rw[a.o]),d,by rw[a.o];exact p,(aD.refl _ _ _).XE K⟩
     ·by_cases L:w=63
      ·have A:¬l.XG=0:=fun hh=>z ⟨L,hh⟩;have al:((l.XG:Int)==0)=false:=TU.2 (by omega);subst L;clear i k r z A;go_enter func218,ntmps218;(go_upto_region 1 with fail);rw[t.o];go_wp2;go_ret;exact⟨au (by rw[a.o]),d,by rw[a.o];exact p,(aD.refl _ _ _).XE K⟩
      ·have e1:((w:Int)==90)=false:=TU.2 (by omega);have e2:((w:Int)==63)=false:=TU.2 (by omega);clear r z J C;by_cases a1:65<=w
       ·have a2:¬w<=84:=(by omega);have a3:85<=w:=(by omega);have a4:¬w<=89:=(by omega);clear i k;go_enter func218,ntmps218;(go_upto_region 1 with fail);rw[t.o];go_wp2;go_ret;exact⟨au (by rw[a.o]),d,by rw[a.o];exact p,(aD.refl _ _ _).XE K⟩
       ·have a3:¬85<=w:=(by omega);clear i k;go_enter func218,ntmps218;(go_upto_region 1 with fail);rw[t.o];go_wp2;go_ret;exact⟨au (by rw[a.o]),d,by rw[a.o];exact p,(aD.refl _ _ _).XE K⟩
theorem jo.letter(h:jo g y)(n:Nat)(p:Pl):jo (bI g n p).2 (y+1):=by
  have b:=h.XX;have c:=h.XM;have d:=h.steps;have e:=h.XG;have a:=h.behind;unfold bI;split
  · unfold fm dP
    split
    · exact⟨by simp only;omega,by simp only;omega,by simp;omega,by simp,by simp⟩
    · split
      · exact⟨by simp only;omega,by simp only;omega,by simp;omega,by simp,by simp⟩
      · exact⟨by simp only;omega,by simp only;omega,by simp only;omega,by simp,a⟩
  · split
    · next f =>
      unfold jL;split
      all_goals
        exact⟨by simp only;omega,by simp only;omega,by simp only;omega,by simp only;omega,by simp⟩
    · split
      · exact⟨by simp only;omega,by simp;omega,by simp only;omega,by simp only;omega,by simp⟩
      · split
        · exact⟨by simp only[dP];omega,by simp only[dP];omega,by simp[dP];omega,by simp only[dP];omega,by simp[dP]⟩
        · exact⟨by simp only;omega,by simp only;omega,by simp only;omega,by simp only;omega,a⟩
def ic(t:Xs)(p:Pl):Nat->Nat->lC->pu×lC
  | 0,_,c=>(cZ,c)
  | f+1,j,c =>
    if j<t.size then
      (if((bI c (aI t j).toNat { p with X3:=p.X3+j }).1==0)=true then ic t p f (j+1) (bI c (aI t j).toNat { p with X3:=p.X3+j }).2
       else(((bI c (aI t j).toNat { p with X3:=p.X3+j }).1,{ p with X3:=p.X3+j }),(bI c (aI t j).toNat { p with X3:=p.X3+j }).2))
    else(cZ,c)
def ma(t:Xs)(p:Pl)(c:lC):pu×lC:=ic t p (t.size+1) 0 c
theorem Su(c:v<n.size)(h:((bI N (aI n v).toNat { a with X3:=a.X3+v }).1==0)=true) :
    ic n a (w+1) v N=ic n a w (v+1) (bI N (aI n v).toNat { a with X3:=a.X3+v }).2:=by rw[ic,Tr c,Tr h]
theorem Qz(c:v<n.size)(h:((bI N (aI n v).toNat { a with X3:=a.X3+v }).1==0)=false) :
    ic n a (w+1) v N=(((bI N (aI n v).toNat { a with X3:=a.X3+v }).1,{ a with X3:=a.X3+v }),(bI N (aI n v).toNat { a with X3:=a.X3+v }).2):=by rw[ic,Tr c,Tp (by rw[h];simp)]
theorem RI(b:¬v<n.size):ic n a (w+1) v N=(cZ,N):=by rw[ic,Tp b]
theorem dA(h:k.heap[y]?=some (.cells bK 165)) :
    k.cell? ⟨y,0,none⟩=some (int i64 0)/\k.cell? ⟨y,1,none⟩=some (string ⟨#[]⟩)/\k.cell? ⟨y,2,none⟩=some (int i64 0)/\k.cell? ⟨y,3,none⟩=some (int i64 0):=by
  refine⟨?_,?_,?_,?_⟩ <;> (rw[ah h];rfl)
theorem wE{t F:Nat}{i:List Value}{a:Nat->eR}{b:Nat->Hd}(D:bG z7 y t i a b)(T:aD y k z4 z7 b)(c:k.heap.size<=F)(j:y≠F)(l:¬ik b F)(d e f g:Value) :
    bG ((((z7.setCell ⟨F,0,none⟩ d).setCell ⟨F,1,none⟩ e).setCell ⟨F,2,none⟩ f).setCell ⟨F,3,none⟩ g) y t i a b /\
    aD y k z4 ((((z7.setCell ⟨F,0,none⟩ d).setCell ⟨F,1,none⟩ e).setCell ⟨F,2,none⟩ f).setCell ⟨F,3,none⟩ g) b:=by
  refine⟨D.XR (jR _ _ _ _) (by simpa using j) (fun x m=>by simp;rintro rfl;exact l m),?_,T.2⟩;exact(((T.1.setCell (TE c) _).setCell (TE c) _).setCell (TE c) _).setCell (TE c) _
theorem Cb(h:eI H x l d)(N:Nat)(ok:jo l N)(hN:N+n.size<=10000000)(al:-1000000000<=f/\f<=1000000000) :
    Calls prog 185 #[pointer (some ⟨x,0,none⟩),agg #[string n,string T,int i64 S,int i64 f]] H fun e c=>e=returned (iw (ma n ⟨T,S,f⟩ l).1)/\∃g,eI c x (ma n ⟨T,S,f⟩ l).2 g/\aD x H d c g:=by
  obtain⟨W,J⟩:∃W,W=(H.alloc (.cells #[string n,string T,int i64 S,int i64 f] 229)).alloc (.cells #[int i64 0,string ⟨#[]⟩,int i64 0,int i64 0] 165):=⟨_,rfl⟩
  have K:ae [] H W:=by rw[J];exact(bR.alloc _).alloc _
  have BW:W.heap[H.heap.size]?=some (.cells #[string n,string T,int i64 S,int i64 f] 229):=by rw[J];exact(bR.alloc _).get (Tu _ _) (by simp)
  have BF:W.heap[H.heap.size+1]?=some (.cells bK 165):=by
    rw[J];have:=Tu (H.alloc (.cells #[string n,string T,int i64 S,int i64 f] 229)) (.cells #[int i64 0,string ⟨#[]⟩,int i64 0,int i64 0] 165);simpa [bK] using this
  have ac:W.heap.size=H.heap.size+2:=by rw[J];simp
  have ai:=bG.lt h;have B:Xr (∀k,H.heap.size<=k->¬ik d k):=fun k hk hm=>by have:=bG.inlt h hm;omega
  have hC:=h.XE K;have HW:Xr _:=J.symm;obtain⟨u0,u1,u2,u3⟩:=CK BW;clear J;go_enter func185,ntmps185;go_upto_region 1 with fail
  rw[HW.o];go_wp2
  go_loopg [6] n.size (fun gk i wr=>∃(j:Nat) (s:lC) (g:Nat->Hd) (R:Nat),j<=n.size/\gk=n.size-j/\i=int i64 j/\jo s (N+j)/\n.size-j+1<=R/\Xr (ma n ⟨T,S,f⟩ l=ic n ⟨T,S,f⟩ R j s)/\eI wr x s g/\aD x H d wr g /\
    wr.heap[H.heap.size]?=some (.cells #[string n,string T,int i64 S,int i64 f] 229)/\wr.heap[H.heap.size+1]?=some (.cells bK 165)/\wr.heap[H.heap.size+2]?=some (.cells #[string T,int i64 S,int i64 (f+j)] 36)/\¬ik g H.heap.size/\¬ik g (H.heap.size+1)/\¬ik g (H.heap.size+2))
  case atStart =>
    refine⟨0,l,d,n.size+1,by omega,by omega,rfl,ok,by omega,rfl,hC.XE (bR.alloc _),(aD.refl _ _ _).XE (K.alloc _),(bR.alloc _).get BW (by simp),(bR.alloc _).get BF (by simp),?_,B.o _ (by omega),B.o _ (by omega),B.o _ (by omega)⟩;rw[<-ac];have:=Tu W (.cells #[string T,int i64 S,int i64 f] 36);simpa using this
  case round =>
    obtain⟨j,s,g,R,hj,hg,rfl,q,an,I,E,hT,B1,Z,L,n1,n2,n3⟩:=hrel;clear u0 u1 u2 u3 BW BF hC HW;have u0:wr.cell? ⟨H.heap.size,0,none⟩=some (string n):=(by rw[ah B1];rfl);have v0:wr.cell? ⟨H.heap.size+2,0,none⟩=some (string T):=(by rw[ah L];rfl);have v1:wr.cell? ⟨H.heap.size+2,1,none⟩=some (int i64 S):=(by rw[ah L];rfl);have v2:wr.cell? ⟨H.heap.size+2,2,none⟩=some (int i64 (f+j)):=(by rw[ah L];rfl);obtain⟨p,rfl⟩:∃p,R=p+1:=⟨R-1,by omega⟩
    by_cases w:j<n.size
    · have V:(aI n j).toNat=n[j].toNat:=by rw[bZ n j w];rfl
      have L1:=Su n ⟨T,S,f⟩ p j s w;have L2:=Qz n ⟨T,S,f⟩ p j s w;have D:=q.letter n[j].toNat { (⟨T,S,f⟩:Pl) with X3:=f+j };have U:n[j].toNat<256:=UInt8.toNat_lt _;have TL:=fun(c:World) (h':eI c x s g)=>yQ x s g n[j].toNat T S (f+j) c h' ⟨by have:=q.XX;omega,by have:=q.XM;omega,by have:=q.steps;omega,by have:=q.XG;omega,q.behind⟩ U;rw[V]at L1 L2;simp only at L1 L2 D;have t:Xr _:=L1;have u:Xr _:=L2;have C:Xr _:=TL;clear L1 L2 TL V;generalize bI s n[j].toNat ⟨T,S,f + ↑j⟩=Q at *;obtain⟨r,c2⟩:=Q;simp only at t u C D;have z:Xr (∀(a:World) (m:Nat->Hd) (_:aD x wr.drew g a m),a.heap[H.heap.size]?=some (.cells #[string n,string T,int i64 S,int i64 f] 229)/\a.heap[H.heap.size+1]?=some (.cells bK 165)/\a.heap[H.heap.size+2]?=some (.cells #[string T,int i64 S,int i64 (f+j)] 36)):=by
        intro a m b;exact⟨b.1.get (by exact B1) (by rintro (e | e);omega;exact n1 e),b.1.get (by exact Z) (by rintro (e | e);omega;exact n2 e),b.1.get (by exact L) (by rintro (e | e);omega;exact n3 e)⟩
      have O:Xr (∀(a:World) (m:Nat->Hd) (_:aD x wr.drew g a m),a.cell? ⟨H.heap.size,0,none⟩=some (string n)/\a.cell? ⟨H.heap.size+2,0,none⟩=some (string T)/\a.cell? ⟨H.heap.size+2,1,none⟩=some (int i64 S)/\a.cell? ⟨H.heap.size+2,2,none⟩=some (int i64 (f+j))):=by
        intro a m b;obtain⟨q1,Y,G⟩:=z.o a m b;refine⟨by rw[ah q1];rfl,by rw[ah G];rfl,by rw[ah G];rfl,by rw[ah G];rfl⟩
      have af:=aj B1;have X:=aj Z;have ag:=aj L;cases hr:(r==0)
      · have ad:(r != 0)=true:=by simp[bne,hr]
        have A:Xr _:=I.o.trans (u.o hr);clear I t u;(go_upto_region 5 with fail);go_region_held3 (fun c=>c.cell? ⟨H.heap.size,0,none⟩=some (string n)/\c.cell? ⟨H.heap.size+2,0,none⟩=some (string T)/\c.cell? ⟨H.heap.size+2,1,none⟩=some (int i64 S)/\c.cell? ⟨H.heap.size+2,2,none⟩=some (int i64 (f+j))) (go_keep) (first | (go_at_call 218;refine(C.o _ (by exact E.XE bR.drew)).mono ?_;rintro e a ⟨rfl,m,D9,b⟩;obtain⟨x0,x1,x2,x3⟩:=O.o a m b))
        all_goals
          obtain⟨q1,Y,G⟩:=z.o a m b;obtain⟨j0,j1,j2,j3⟩:=dA Y;have y:=am Y;have m2:=b.fresh (H.heap.size+1) (by exact X) n2;have M:Xr _:=(fun a0 a1 a2 a3=>wE D9 (hT.trans (aD.first bR.drew b)) (F:=H.heap.size+1) (by omega) (by omega) m2 a0 a1 a2 a3);go_wp2;exact Tz (v:=agg #[int i64 r,string T,int i64 S,int i64 (f+j)]) (by simp[results,results185,go_sem,j0,j1,j2,j3]) rfl
            ⟨by rw[A.o];rfl,m,by rw[A.o];exact(M.o _ _ _ _).1,(M.o _ _ _ _).2⟩
      · have ad:(r != 0)=false:=by simp[bne,hr]
        have A:Xr _:=I.o.trans (t.o hr);clear I t u;(go_upto_region 5 with fail);go_region_held3 (fun c=>c.cell? ⟨H.heap.size,0,none⟩=some (string n)/\c.cell? ⟨H.heap.size+2,0,none⟩=some (string T)/\c.cell? ⟨H.heap.size+2,1,none⟩=some (int i64 S)/\c.cell? ⟨H.heap.size+2,2,none⟩=some (int i64 (f+j))) (go_keep) (first | (go_at_call 218;refine(C.o _ (by exact E.XE bR.drew)).mono ?_;rintro e a ⟨rfl,m,D9,b⟩;obtain⟨x0,x1,x2,x3⟩:=O.o a m b))
        all_goals
          obtain⟨q1,Y,G⟩:=z.o a m b;have y:=am G;have m1:=b.fresh H.heap.size (by exact af) n1;have m2:=b.fresh (H.heap.size+1) (by exact X) n2;have m3:=b.fresh (H.heap.size+2) (by exact ag) n3;have P:=hT.trans (aD.first bR.drew b);go_wp2;go_roundg (n.size-(j+1))
          · have kk:ae [H.heap.size+2] a (a.setCell ⟨H.heap.size+2,2,none⟩ (int i64 (f + ↑j+1))):=(ae.refl _ _).sl1 _
            refine⟨j+1,c2,m,p,by omega,rfl,by go_num,by rw[<-V6];exact D,by omega,A.o,bG.XR D9 kk (by simp;omega) (by intro ao hx;simp;rintro rfl;exact m3 hx),⟨P.1.setCell (TE (by simp)) _,P.2⟩,kk.get q1 (by simp),kk.get Y (by simp),?_,m1,m2,m3⟩;rw[ab G,show f+(↑(j+1):Int)=f + ↑j+1 by omega];rfl
          omega
    · have A:Xr _:=I.o.trans (RI n ⟨T,S,f⟩ p j s w)
      obtain⟨j0,j1,j2,j3⟩:=dA Z;have y:=am Z;have M:Xr _:=(fun a0 a1 a2 a3=>wE E hT (F:=H.heap.size+1) (by omega) (by omega) n2 a0 a1 a2 a3);clear I;go_wp2;exact Tz (v:=agg #[int i64 0,string ⟨#[]⟩,int i64 0,int i64 0]) (by simp[results,results185,go_sem,j0,j1,j2,j3]) rfl
        ⟨by rw[A.o];rfl,g,by rw[A.o];exact(M.o _ _ _ _).1,(M.o _ _ _ _).2⟩
def jy(l:Xv)(x:Nat):Bool:=l.any (fun y=>y==x)
theorem Df(h:o<L.length)(b:jy L v=jy (L.drop o) v)(a:(L[o]==v)=true):jy L v=true:=by
 rw[b,TV h];simp only[jy,List.any_cons,a,Bool.true_or]
theorem zV(h:o<L.length)(b:jy L v=jy (L.drop o) v)(a:(L[o]==v)=false):jy L v=jy (L.drop (o+1)) v:=by
 rw[b,TV h];simp only[jy,List.any_cons,a,Bool.false_or]
theorem zW(h:¬o<L.length)(a:jy L v=jy (L.drop o) v):jy L v=false:=by
 rw[a,US (by omega)];rfl
theorem pJ:((v:Int)==(o:Int))=(v==o):=by
 cases h:(v==o)
 ·exact TU.2 (by have:=TU.1 h;omega)
 ·have:=Wh h;subst this;simp
set_option maxRecDepth 512
theorem DK(m:Hd)(l:Xv)(x:Nat)(w:World)(c:aB w m (bD l))(v:l.length<=1073741824) :
  Calls prog 217 #[slice m.ao l.length m.cap,int i64 x] w fun e y=>e=returned (bool (jy l x))/\y=w:=by
 obtain⟨z,s⟩:=m;rcases c.XP with ⟨u,r,_⟩ | ⟨g,t,q,_⟩
 ·have j:l.length=0:=r;have p:l=[]:=Uf j;subst p;clear c r j v u;go_enter func217,ntmps217;go_wp2;refine VB 1 ?_;rw[VT];go_wp2;go_ret;exact⟨rfl,rfl⟩
 ·simp only at q;subst q;go_enter func217,ntmps217;go_wp2
  go_loopg [5] l.length (fun g i wr=>∃k:Nat,k<=l.length/\g=l.length-k/\i=int i64 k/\Xr (jy l x=jy (l.drop k) x)/\wr=w)
  ·exact⟨0,by omega,by omega,rfl,rfl,rfl⟩
  obtain⟨k,C,B,rfl,d,rfl⟩:=hrel;by_cases a:k<l.length
  ·have A:=c.cell rfl k (int i64 l[k]) (mm l k a);cases b:(l[k]==x)
   ·have f:Xr (jy l x=jy (l.drop (k+1)) x):=zV l x k a d.o b;have n:=(pJ l[k] x).trans b;clear d c b;go_wp2;go_roundg (l.length-(k+1))
    ·exact⟨k+1,by omega,rfl,by go_num,f,rfl⟩
    omega
   ·have f:Xr (jy l x=true):=Df l x k a d.o b;have n:=(pJ l[k] x).trans b;clear d c b;go_wp2;go_ret;exact⟨aF f.o.symm,rfl⟩
  ·have f:Xr (jy l x=false):=zW l x k a d.o;clear d c;go_wp2;go_ret;exact⟨aF f.o.symm,rfl⟩
def b8(l:List St)(a:Nat)(XY:Pl):Nat->List (Xs×Pl)->Xv->(Nat×pu)×Xv
 | _,[],ns=>((0,(3,XY)),ns)
 | i,(t,p) :: r,ns =>
  if(t.toList == [41])=true then((i+1,cZ),ns)
  else match jH l t a with
   | none=>((0,(2,p)),ns)
   | some n=>if jy ns n=true then((0,(3,p)),ns) else b8 l a XY (i+1) r (ns++[n])
theorem aB.word{l:List (Xs×Pl)}(o:aB k z5 (iB l))(a:Nat)(n:a<l.length) :
  ∃g,z5.ao=some ⟨g,0,none⟩/\l.length<=z5.cap/\z5.cap<=9223372036854775807/\k.cell? ⟨g,a*4,none⟩=some (string l[a].1)/\k.cell? ⟨g,a*4+1,none⟩=some (string l[a].2.XZ)/\k.cell? ⟨g,a*4+2,none⟩=some (int i64 l[a].2.X0)/\k.cell? ⟨g,a*4+3,none⟩=some (int i64 l[a].2.X3):=by
 rcases o.XP with ⟨_,i,_⟩ | ⟨g,e,b,q,f,d,-⟩
 ·have:l.length=0:=i;omega
 ·have c:=fun j (m:j<4) v (p:(sx l[a])[j]?=some v)=>o.cell b (a*4+j) v ((LL l a n j m).trans p);exact⟨g,b,f,by unfold maxLen at d;exact d,c 0 (by omega) _ rfl,c 1 (by omega) _ rfl,c 2 (by omega) _ rfl,c 3 (by omega) _ rfl⟩
theorem Js(b:w<i.length) :
  b8 m I a w (i.drop w) L=if(i[w].1.toList == [41])=true then((w+1,cZ),L)
   else match jH m i[w].1 I with
    | none=>((0,(2,i[w].2)),L)
    | some n=>if jy L n=true then((0,(3,i[w].2)),L) else b8 m I a (w+1) (i.drop (w+1)) (L++[n]):=by
 rw[TV b];rfl
theorem E4(b:¬w<i.length):b8 m I a w (i.drop w) L=((0,(3,a)),L):=by
 rw[US (by omega)];rfl
set_option maxRecDepth 100000
theorem zw(q:World)(h:eI q x l d)(ar:fM H z6 I b D)(an:ae [] H q)(ha:w<b.length)(ok:jV b)(be:l.XX.length<=10000)(hb:H.heap.size<=x)(hc:∀L,ik d L->H.heap.size<=L) :
  Calls prog 184 #[pointer (some ⟨x,0,none⟩),pointer (some ⟨z6,I,none⟩),int i64 w] q fun e w' =>
   e=returned (tuple #[int i64 (b8 b w b[w].XY 1 (b[w].XK.drop 1) l.XX).1.1,iw (b8 b w b[w].XY 1 (b[w].XK.drop 1) l.XX).1.2])/\∃al,eI w' x { l with XX:=(b8 b w b[w].XY 1 (b[w].XK.drop 1) l.XX).2 } al/\aD x q d w' al:=by
 obtain⟨i0,az,aT,a4,a5⟩:=TZ xO;have bd:=bG.lt h;have hr:=ar.XE an;have ba:=ok.len;have bk:=ok.prfs w ha;have af:Xr (∀k,q.heap.size<=k->¬ik d k):=fun k hk hm=>by have:=bG.inlt h hm;omega
 obtain⟨AO,ad⟩:=bn ((D (11+2*w)).ao);obtain⟨W,hW⟩:∃W,W=q.alloc (.cells #[int i64 0,string ⟨#[]⟩,int i64 0,int i64 0] 165):=⟨_,rfl⟩
 have K:=fI hW.symm;have BF:W.heap[q.heap.size]?=some (.cells bK 165):=by rw[hW];exact Tu _ _
 have HW:Xr _:=hW.symm;clear hW;go_enter func184,ntmps184;go_upto_region 1 with fail
 rw[HW.o];go_wp2_with fail;refine(bF z6 I w b D _ (hr.XE K) ha).mono ?_;rintro e A ⟨rfl,E⟩;unfold fS;rw[ad.o];obtain⟨W2,y⟩:∃W2,W2=A.alloc (.cells #[int i64 b[w].XU,string b[w].XV,slice (D (10+2*w)).ao b[w].Xz.length (D (10+2*w)).cap,slice AO b[w].XK.length (D (11+2*w)).cap,string b[w].XY.XZ,int i64 b[w].XY.X0,int i64 b[w].XY.X3,int i64 b[w].til] 158):=⟨_,rfl⟩
 have ag:Xr _:=y.symm;have K2:ae [] q W2:=by rw[y];exact(K.trans E).alloc _
 have BT:=f9 y.symm;have ac:W2.heap[q.heap.size]?=some (.cells bK 165):=by rw[y];exact(bR.alloc _).get (E.get BF (by simp)) (by simp)
 have bl:q.heap.size<A.heap.size:=by have:=aj (E.get BF (by simp));omega
 clear y;go_upto_region 2 with fail
 rw[ag.o];clear HW ag E BF K;obtain⟨TB,S⟩:∃TB:Array Value,TB=#[int i64 b[w].XU,string b[w].XV,slice (D (10+2*w)).ao b[w].Xz.length (D (10+2*w)).cap,slice AO b[w].XK.length (D (11+2*w)).cap,string b[w].XY.XZ,int i64 b[w].XY.X0,int i64 b[w].XY.X3,int i64 b[w].til]:=⟨_,rfl⟩
 rw[<-S]at BT;have s:Xr _:=S;clear S;go_wp2
 go_loopg [9] (b[w].XK.length-1) (fun gk iv wr=>∃(i:Nat) (a:Xv) (g:Nat->Hd),1<=i/\i<=10001/\gk=b[w].XK.length-i/\iv=int i64 i/\a.length<=10000+i/\Xr (b8 b w b[w].XY 1 (b[w].XK.drop 1) l.XX=b8 b w b[w].XY i (b[w].XK.drop i) a)/\eI wr x { l with XX:=a } g/\aD x q d wr g /\
  wr.heap[q.heap.size]?=some (.cells bK 165)/\wr.heap[A.heap.size]?=some (.cells TB 158)/\¬ik g q.heap.size/\¬ik g A.heap.size)
 ·exact⟨1,l.XX,d,by omega,by omega,rfl,rfl,by omega,rfl,h.XE K2,(aD.refl _ _ _).XE K2,ac,BT,af.o _ (by omega),af.o _ (by omega)⟩
 obtain⟨i,a,g,bf,bg,hg,rfl,bj,hR,hC,hT,B1,M,n1,n2⟩:=hrel;clear BT ac K2;have hP:∀L,(L=x∨ik d L)->H.heap.size<=L:=by
  rintro L (e | e)
  ·omega
  ·exact hc L e
 have ap:fM wr z6 I b D:=ar.XE (an.ofP hT.1 hP);have R:=ap.XQ.prfs w b[w] (Tn ha);have a7:=aj M;obtain⟨V,X,Y,Z⟩:=dA B1;have yz:=am B1;by_cases T:i<b[w].XK.length
 ·obtain⟨gp,ep,a6,ax,d0,d1,d2,d3⟩:=R.word i T;obtain rfl:AO=some ⟨gp,0,none⟩:=ad.o.symm.trans ep;have bc:Xr _:=ep;have t3:wr.cell? ⟨A.heap.size,3,none⟩=some (slice (some ⟨gp,0,none⟩) b[w].XK.length (D (11+2*w)).cap):=by rw[ah M,s.o];rfl
  clear ep;have BL:=Js b w b[w].XY i b[w].XK a T;have f:Xr _:=hR.o.trans BL;clear BL hR R;generalize hwd:b[w].XK[i]=wd at *;obtain⟨t,pf,pl,pc⟩:=wd;simp only at d0 d1 d2 d3 f;obtain⟨O,C⟩:∃O,O=wr.alloc (.cells #[string t,string pf,int i64 pl,int i64 pc] 229):=⟨_,rfl⟩
  have N:=fI C.symm;have B5:=f9 C.symm;have ai:Xr _:=C.symm;clear C;go_upto_region 6 with fail
  rw[ai.o];clear ai d0 d1 d2 d3 t3 V X Y Z yz;obtain⟨v0,v1,v2,v3⟩:=CK B5;have C5:=hC.XE N;have T5:=hT.XE N;have R5:=ap.XE N;have F5:=N.get B1 (by simp);have S5:=N.get M (by simp);obtain⟨V,X,Y,Z⟩:=dA F5;have yz:=am F5;have B:Xr _:=fun a0 a1 a2 a3=>wE C5 T5 (F:=q.heap.size) (Tq _) (by omega) n1 a0 a1 a2 a3;cases ht:(t.toList == [41])
  ·rcases hf:jH b t w with _ | n
   ·have r:Xr (b8 b w b[w].XY 1 (b[w].XK.drop 1) l.XX=((0,(2,⟨pf,pl,pc⟩)),a)):=(by show _=_;rw[f.o,ht,hf];simp);clear f;(go_upto_region 10 with (go_at_call 186;refine(jb z6 I w t b D _ (by exact R5) (by omega)).mono ?_;rintro e w6 ⟨rfl,z⟩;rw[z,hf];simp only[oD]));go_region
    all_goals go_wp2
    all_goals exact Tz (v:=tuple #[int i64 0,agg #[int i64 2,string pf,int i64 pl,int i64 pc]]) (by simp[results,results184,go_sem,V,X,Y,Z]) rfl ⟨by rw[r.o];rfl,g,by rw[r.o];exact(eI.XE (B.o _ _ _ _).1 bR.drew),aD.XE (B.o _ _ _ _).2 bR.drew⟩
   ·obtain⟨k0,k1,k2,k3,k4⟩:=C5.cells;simp only at k0;clear k1 k2 k3 k4;have Q:aB O (g 0) (bD a):=bG.X9 C5 0;cases hh:jy a n
    ·have r:Xr (b8 b w b[w].XY 1 (b[w].XK.drop 1) l.XX=b8 b w b[w].XY (i+1) (b[w].XK.drop (i+1)) (a++[n])):=(by show _=_;rw[f.o,ht,hf];simp[hh]);have P:=C5.XE ((ae.refl [] O).alloc (.cells #[int i64 n] 3));have aS:Xr (∀j,j≠0->yw { l with XX:=a++[n] } j=yw { l with XX:=a } j):=by
      intro j J
      match j,J with
      | 0,J=>exact absurd rfl J
      | 1,_=>rfl
      | 2,_=>rfl
      | m+3,_=>rfl
     clear f B V X Y Z yz;(go_upto_region 13 with (first | (go_at_call 186;refine(jb z6 I w t b D _ (by exact R5) (by omega)).mono ?_;rintro e w6 ⟨rfl,z⟩;rw[z,hf];simp only[oD]) | (go_at_call 217;refine(DK (g 0) a n _ (by exact Q) (by omega)).mono ?_;rintro e w7 ⟨rfl,U⟩;rw[U])));go_wp2_with (at_builtin;refine aL _ rfl (.tmp 56) (.tmp 58) 24 rfl i0 (int i64 0) 8 (g 0) (bD a) underlying24 az aT a4 a5 rfl TR rfl (by exact bG.X9 P 0) ⟨_,0,none⟩ 1 1 [int i64 n] rfl rfl ?e1 ?e2 TR ?e3 ?e4 ?_)
     case e1=>intro j u J;match j,J with | 0,J=>simp at J;subst J;simp[Addr.add]
     case e2=>intro u hu;simp at hu;subst hu;rfl
     case e3=>simp only[bD];unfold maxLen;omega
     case e4=>simp only[bD];omega
     intro g8 c w8 av G p;obtain⟨k5,f5,HP⟩:=bG.app P (cs':=md { l with XX:=a++[n] } (iJ g 0 ⟨some ⟨g8,0,none⟩,c⟩)) (rows':=yw { l with XX:=a++[n] }) 0 0 g8 c ((bD a).n+1) _ av (l4 a n) G (by simpa using p) aS.o (slice (g 0).ao a.length (g 0).cap) rfl (by simp[md,iJ,bD]);have T8:Xr _:=(T5.XE ((ae.refl [] O).alloc (.cells #[int i64 n] 3))).trans HP.o.2;have F8:Xr ((w8.setCell ⟨x,0,none⟩ (slice (some ⟨g8,0,none⟩) ((bD a).n+1) c)).heap[q.heap.size]?=some (.cells bK 165)):=HP.o.2.1.get (((ae.refl [] O).alloc _).get F5 (by simp)) (by rintro (e | e);omega;exact n1 e);have S8:Xr ((w8.setCell ⟨x,0,none⟩ (slice (some ⟨g8,0,none⟩) ((bD a).n+1) c)).heap[A.heap.size]?=some (.cells TB 158)):=HP.o.2.1.get (((ae.refl [] O).alloc _).get S5 (by simp)) (by rintro (e | e);omega;exact n2 e);have m1:Xr (¬ik (iJ g 0 ⟨some ⟨g8,0,none⟩,c⟩) q.heap.size):=aD.fresh HP.o.2 _ (by have:=N.size;simp;omega) n1;have m2:Xr (¬ik (iJ g 0 ⟨some ⟨g8,0,none⟩,c⟩) A.heap.size):=aD.fresh HP.o.2 _ (by have:=N.size;simp;omega) n2;clear av G p k0 Q P v0 v1 v2 v3;go_wp2;go_roundg (b[w].XK.length-(i+1))
     ·exact⟨i+1,a++[n],_,by omega,by omega,rfl,by go_num,by simp;omega,r.o,HP.o.1,T8.o,F8.o,S8.o,m1.o,m2.o⟩
     omega
    ·have r:Xr (b8 b w b[w].XY 1 (b[w].XK.drop 1) l.XX=((0,(3,⟨pf,pl,pc⟩)),a)):=(by show _=_;rw[f.o,ht,hf];simp[hh]);clear f;(go_upto_region 12 with (first | (go_at_call 186;refine(jb z6 I w t b D _ (by exact R5) (by omega)).mono ?_;rintro e w6 ⟨rfl,z⟩;rw[z,hf];simp only[oD]) | (go_at_call 217;refine(DK (g 0) a n _ (by exact Q) (by omega)).mono ?_;rintro e w7 ⟨rfl,U⟩;rw[U])));go_region
     all_goals go_wp2
     all_goals exact Tz (v:=tuple #[int i64 0,agg #[int i64 3,string pf,int i64 pl,int i64 pc]]) (by simp[results,results184,go_sem,V,X,Y,Z]) rfl ⟨by rw[r.o];rfl,g,by rw[r.o];exact(eI.XE (B.o _ _ _ _).1 bR.drew),aD.XE (B.o _ _ _ _).2 bR.drew⟩
  ·have r:Xr (b8 b w b[w].XY 1 (b[w].XK.drop 1) l.XX=((i+1,cZ),a)):=(by show _=_;rw[f.o,ht];simp);clear f;go_wp2;exact Tz (v:=tuple #[int i64 (i+1),agg #[int i64 0,string ⟨#[]⟩,int i64 0,int i64 0]]) (by simp[results,results184,go_sem,V,X,Y,Z]) rfl
    ⟨by rw[r.o];rfl,g,by rw[r.o];exact(B.o _ _ _ _).1,(B.o _ _ _ _).2⟩
 ·have r:Xr (b8 b w b[w].XY 1 (b[w].XK.drop 1) l.XX=((0,(3,b[w].XY)),a)):=hR.o.trans (E4 b w b[w].XY i b[w].XK a T);have t3:wr.cell? ⟨A.heap.size,3,none⟩=some (slice AO b[w].XK.length (D (11+2*w)).cap):=by rw[ah M,s.o];rfl
  have t4:wr.cell? ⟨A.heap.size,4,none⟩=some (string b[w].XY.XZ):=by rw[ah M,s.o];rfl
  have t5:wr.cell? ⟨A.heap.size,5,none⟩=some (int i64 b[w].XY.X0):=by rw[ah M,s.o];rfl
  have t6:wr.cell? ⟨A.heap.size,6,none⟩=some (int i64 b[w].XY.X3):=by rw[ah M,s.o];rfl
  have B:Xr _:=(fun a0 a1 a2 a3=>wE hC hT (F:=q.heap.size) (Tq _) (by omega) n1 a0 a1 a2 a3);clear hR R;go_upto_region 14 with fail
  go_region
  all_goals go_wp2
  all_goals exact Tz (v:=tuple #[int i64 0,agg #[int i64 3,string b[w].XY.XZ,int i64 b[w].XY.X0,int i64 b[w].XY.X3]]) (by simp[results,results184,go_sem,V,X,Y,Z]) rfl ⟨by rw[r.o];rfl,g,by rw[r.o];exact(eI.XE (B.o _ _ _ _).1 bR.drew),aD.XE (B.o _ _ _ _).2 bR.drew⟩
def dN(l:List St)(a:Nat)(XY:Pl):List (Xs×Pl)->List kD->List kD×pu
 | [],acc=>if acc.length=0 then([],(1,XY)) else(acc,cZ)
 | (t,p) :: r,acc =>
  if(t.toList == [63])=true then dN l a XY r (acc++[⟨1,0,p⟩])
  else match jH l t a with
   | none=>([],(2,p))
   | some n=>dN l a XY r (acc++[⟨2,n,p⟩])
theorem Nr(b:w<i.length) :
  dN m I a (i.drop w) y0=if(i[w].1.toList == [63])=true then dN m I a (i.drop (w+1)) (y0++[⟨1,0,i[w].2⟩])
   else match jH m i[w].1 I with
    | none=>([],(2,i[w].2))
    | some n=>dN m I a (i.drop (w+1)) (y0++[⟨2,n,i[w].2⟩]):=by
 rw[TV b];rfl
theorem Kn(b:¬w<i.length):dN m I a (i.drop w) y0=if y0.length=0 then([],(1,a)) else(y0,cZ):=by
 rw[US (by omega)];rfl
theorem lL{F:Nat}(K:ae [] k z7)(a:k.heap.size<=F)(b c d e:Value):ae [] k ((((z7.setCell ⟨F,0,none⟩ b).setCell ⟨F,1,none⟩ c).setCell ⟨F,2,none⟩ d).setCell ⟨F,3,none⟩ e) :=
 (((K.setCell (TE a) _).setCell (TE a) _).setCell (TE a) _).setCell (TE a) _
theorem Sf(K:ae [] k z7)(a:k.heap.size<=y)(b c d e f:Value):ae [] k (((((z7.setCell ⟨y,0,none⟩ b).setCell ⟨y,1,none⟩ c).setCell ⟨y,2,none⟩ d).setCell ⟨y,3,none⟩ e).setCell ⟨y,4,none⟩ f) :=
 ((((K.setCell (TE a) _).setCell (TE a) _).setCell (TE a) _).setCell (TE a) _).setCell (TE a) _
theorem qQ(hr:fM H z6 I b D)(ha:w<b.length)(ok:jV b) :
  Calls prog 140 #[pointer (some ⟨z6,I,none⟩),int i64 w] H fun e w'=>∃l:Hd,
   e=returned (tuple #[slice l.ao (dN b w b[w].XY b[w].XK []).1.length l.cap,iw (dN b w b[w].XY b[w].XK []).2])/\aB w' l (gu (dN b w b[w].XY b[w].XK []).1)/\(∀x,l.XS=some x->H.heap.size<=x)/\ae [] H w':=by
 obtain⟨i0,ai,an,O,ap⟩:=TZ QJ;have a2:=ok.len;have a4:=ok.prfs w ha;obtain⟨AO,ac⟩:=bn ((D (11+2*w)).ao);obtain⟨W,hW⟩:∃W,W=H.alloc (.cells #[int i64 0,string ⟨#[]⟩,int i64 0,int i64 0] 165):=⟨_,rfl⟩
 have K:=fI hW.symm;have BF:W.heap[H.heap.size]?=some (.cells bK 165):=by rw[hW];exact Tu _ _
 have HW:Xr _:=hW.symm;clear hW;go_enter func140,ntmps140;go_upto_region 1 with fail
 rw[HW.o];go_wp2_with fail;refine(bF z6 I w b D _ (hr.XE K) ha).mono ?_;rintro e Q ⟨rfl,N⟩;unfold fS;rw[ac.o];obtain⟨q,F⟩:∃q,q=Q.alloc (.cells #[int i64 b[w].XU,string b[w].XV,slice (D (10+2*w)).ao b[w].Xz.length (D (10+2*w)).cap,slice AO b[w].XK.length (D (11+2*w)).cap,string b[w].XY.XZ,int i64 b[w].XY.X0,int i64 b[w].XY.X3,int i64 b[w].til] 158):=⟨_,rfl⟩
 have ad:Xr _:=F.symm;have K2:ae [] H q:=by rw[F];exact(K.trans N).alloc _
 obtain⟨TB,X⟩:∃TB:Array Value,TB=#[int i64 b[w].XU,string b[w].XV,slice (D (10+2*w)).ao b[w].Xz.length (D (10+2*w)).cap,slice AO b[w].XK.length (D (11+2*w)).cap,string b[w].XY.XZ,int i64 b[w].XY.X0,int i64 b[w].XY.X3,int i64 b[w].til]:=⟨_,rfl⟩
 have BT:q.heap[Q.heap.size]?=some (.cells TB 158):=by rw[F,X];exact Tu _ _
 have av:q.heap[H.heap.size]?=some (.cells bK 165):=by rw[F];exact(bR.alloc _).get (N.get BF (by simp)) (by simp)
 have a5:H.heap.size<Q.heap.size:=by have:=aj (N.get BF (by simp));omega
 have a6:=aj BT;have A:Xr _:=X;clear F X;go_upto_region 2 with fail
 rw[ad.o];clear HW ad N BF K;go_wp2
 go_loopg [7,8] b[w].XK.length (fun gk sv iv wr=>∃(i:Nat) (a:List kD) (l:Hd),i<=b[w].XK.length/\gk=b[w].XK.length-i/\iv=int i64 i/\sv=slice l.ao a.length l.cap/\a.length<=i/\Xr (dN b w b[w].XY b[w].XK []=dN b w b[w].XY (b[w].XK.drop i) a)/\aB wr l (gu a)/\(∀x,l.XS=some x->q.heap.size<=x) /\
  ae [] q wr)
 ·exact⟨0,[],⟨none,0⟩,by omega,by omega,rfl,rfl,by simp,rfl,Ty _ _ _ _,by intro x k;simp[Hd.XS]at k,ae.refl _ _⟩
 obtain⟨i,a,l,hi,hg,rfl,rfl,a3,hR,hO,hN,hK⟩:=hrel;have KW:=K2.trans hK;have al:=hr.XE KW;have B1:=hK.get av (by simp);have B2:=hK.get BT (by simp);obtain⟨z0,z1,z2,z3⟩:=dA B1;have yz:=am B1;have V:=al.XQ.prfs w b[w] (Tn ha);have aT:=K2.size;by_cases Y:i<b[w].XK.length
 ·obtain⟨gp,ep,a1,az,d0,d1,d2,d3⟩:=V.word i Y;obtain rfl:AO=some ⟨gp,0,none⟩:=ac.o.symm.trans ep;have t3:wr.cell? ⟨Q.heap.size,3,none⟩=some (slice (some ⟨gp,0,none⟩) b[w].XK.length (D (11+2*w)).cap):=by rw[ah B2,A.o];rfl
  clear ep;have BL:=Nr b w b[w].XY i b[w].XK a Y;have p:Xr _:=hR.o.trans BL;clear BL hR V;generalize hwd:b[w].XK[i]=wd at *;obtain⟨t,f,g,d⟩:=wd;simp only at d0 d1 d2 d3 p;obtain⟨s,G⟩:∃s,s=(wr.alloc (.cells #[string t,string f,int i64 g,int i64 d] 229)).alloc (.cells #[int i64 1,int i64 0,string f,int i64 g,int i64 d] 174):=⟨_,rfl⟩
  have K5:ae [] wr s:=by rw[G];exact(bR.alloc _).alloc _
  have B5:s.heap[wr.heap.size]?=some (.cells #[string t,string f,int i64 g,int i64 d] 229):=by rw[G];exact(bR.alloc _).get (Tu _ _) (by simp)
  have S5:s.heap[wr.heap.size+1]?=some (.cells #[int i64 1,int i64 0,string f,int i64 g,int i64 d] 174):=by
   rw[G];have:=Tu (wr.alloc (.cells #[string t,string f,int i64 g,int i64 d] 229)) (.cells #[int i64 1,int i64 0,string f,int i64 g,int i64 d] 174);simpa using this
  have af:Xr _:=G.symm;clear G;go_upto_region 8 with fail
  rw[af.o];clear af d0 d1 d2 d3 t3 z0 z1 z2 z3 yz;obtain⟨v0,v1,v2,v3⟩:=CK B5;obtain⟨u0,u1,u2,u3,u4⟩:=od S5;have yu:=am S5;have M:aB s l (gu a):=hO.XJ (fun x k=>K5.block x (hO.lt k) (by simp));have R5:=al.XE K5;have F5:=K5.get B1 (by simp);obtain⟨z0,z1,z2,z3⟩:=dA F5;have yz:=am F5;have R:Xr (ae [] q s):=hK.trans K5;cases ht:(t.toList == [63])
  ·have a0:(t.toList != [63])=true:=(by simp[bne,ht]);rcases hf:jH b t w with _ | n
   ·have y:Xr (dN b w b[w].XY b[w].XK []=([],(2,⟨f,g,d⟩))):=(by show _=_;rw[p.o,ht,hf];simp);clear p;(go_upto_region 11 with (go_at_call 186;refine(jb z6 I w t b D _ (by exact R5) (by omega)).mono ?_;rintro e w6 ⟨rfl,Z⟩;rw[Z,hf];simp only[oD]));go_region
    all_goals go_wp2
    all_goals exact Tz (v:=tuple #[slice none 0 0,agg #[int i64 2,string f,int i64 g,int i64 d]]) (by simp[results,results140,go_sem,z0,z1,z2,z3]) rfl ⟨⟨none,0⟩,by rw[y.o];rfl,by rw[y.o];exact Ty _ _ _ _,by intro x k;simp[Hd.XS]at k,(lL (K2.trans R.o) (Tq _) _ _ _ _).drew⟩
   ·have y:Xr (dN b w b[w].XY b[w].XK []=dN b w b[w].XY (b[w].XK.drop (i+1)) (a++[⟨2,n,⟨f,g,d⟩⟩])):=(by show _=_;rw[p.o,ht,hf];simp);clear p;obtain⟨B,J⟩:∃B,B=((((s.setCell ⟨wr.heap.size+1,0,none⟩ (int i64 2)).setCell ⟨wr.heap.size+1,1,none⟩ (int i64 n)).setCell ⟨wr.heap.size+1,2,none⟩ (string f)).setCell ⟨wr.heap.size+1,3,none⟩ (int i64 g)).setCell ⟨wr.heap.size+1,4,none⟩ (int i64 d):=⟨_,rfl⟩
    have ar:ae [wr.heap.size+1] s B:=(by rw[J];exact((((((ae.refl _ _).sl1 _).sl1 _).sl1 _).sl1 _).sl1 _));have S6:B.heap[wr.heap.size+1]?=some (.cells #[int i64 2,int i64 n,string f,int i64 g,int i64 d] 174):=by
     rw[J,ab (ab (ab (ab (ab S5 _ _) _ _) _ _) _ _)];rfl
    have ax:Xr (ae [] q B):=by
     show ae [] q B;rw[J];exact Sf R.o (by have:=hK.size;omega) _ _ _ _ _
    have P:aB B l (gu a):=M.XJ (fun x k=>ar.block x (M.lt k) (by simp;rintro rfl;have:=hO.lt k;omega));have ag:Xr _:=J.symm;clear J ar;(go_upto_region 13 with (go_at_call 186;refine(jb z6 I w t b D _ (by exact R5) (by omega)).mono ?_;rintro e w6 ⟨rfl,Z⟩;rw[Z,hf];simp only[oD]));rw[ag.o];clear ag u0 u1 u2 u3 u4 yu;obtain⟨u0,u1,u2,u3,u4⟩:=od S6;have E:=P.XJ (fun x k=>((ae.refl [] B).alloc (.cells #[int i64 2,int i64 n,string f,int i64 g,int i64 d] 174)).block x (P.lt k) (by simp));have K6:Xr (ae [] q (B.alloc (.cells #[int i64 2,int i64 n,string f,int i64 g,int i64 d] 174))):=ae.alloc ax.o _;clear z0 z1 z2 z3 yz v0 v1 v2 v3;go_wp2_with (at_builtin;refine aL _ rfl (.tmp 47) (.tmp 49) 163 rfl i0 (agg #[int i64 0,int i64 0,string ⟨#[]⟩,int i64 0,int i64 0]) 48 l (gu a) underlying163 ai an O ap rfl (WS 4) rfl (by exact E) ⟨_,0,none⟩ 1 1 (lO ⟨2,n,⟨f,g,d⟩⟩) rfl rfl ?e1 (vB _) TR ?e3 ?e4 ?_)
    case e1 =>
     intro j u hj;have hk:(B.alloc (.cells #[int i64 2,int i64 n,string f,int i64 g,int i64 d] 174)).heap[B.heap.size]?=some (.cells #[int i64 2,int i64 n,string f,int i64 g,int i64 d] 174):=Tu _ _;rw[bY,ah hk];simpa [lO] using hj
    case e3=>simp only[gu];unfold maxLen;omega
    case e4=>simp only[gu];omega
    intro S C w8 L m c;rw[vw a ⟨2,n,⟨f,g,d⟩⟩]at L;have U:=(K6.o).grown m hN;have aS:q.heap.size<=S:=by
     rcases c with e | e
     ·exact hN S e
     ·have:=K6.o.size;simp at e this;omega
    have T:Xr ((gu a).n+1=(a++[(⟨2,n,⟨f,g,d⟩⟩:kD)]).length):=ci (by simp[gu]);rw[T.o];clear m c E;go_wp2;go_roundg (b[w].XK.length-(i+1))
    ·exact⟨i+1,a++[⟨2,n,⟨f,g,d⟩⟩],⟨some ⟨S,0,none⟩,C⟩,by omega,rfl,by go_num,rfl,by simp;omega,y,L,by intro x k;simp[Hd.XS]at k;omega,U⟩
    omega
  ·have a0:(t.toList != [63])=false:=(by simp[bne,ht]);have y:Xr (dN b w b[w].XY b[w].XK []=dN b w b[w].XY (b[w].XK.drop (i+1)) (a++[⟨1,0,⟨f,g,d⟩⟩])):=ci (by rw[p.o,ht];simp);clear p;have E:=M.XJ (fun x k=>((ae.refl [] s).alloc (.cells #[int i64 1,int i64 0,string f,int i64 g,int i64 d] 174)).block x (M.lt k) (by simp));have K6:Xr (ae [] q (s.alloc (.cells #[int i64 1,int i64 0,string f,int i64 g,int i64 d] 174))):=ae.alloc R.o _;clear z0 z1 z2 z3 yz;(go_upto_region 13 with fail);clear v0 v1 v2 v3;go_wp2_with (at_builtin;refine aL _ rfl (.tmp 47) (.tmp 49) 163 rfl i0 (agg #[int i64 0,int i64 0,string ⟨#[]⟩,int i64 0,int i64 0]) 48 l (gu a) underlying163 ai an O ap rfl (WS 4) rfl (by exact E) ⟨_,0,none⟩ 1 1 (lO ⟨1,0,⟨f,g,d⟩⟩) rfl rfl ?e1 (vB _) TR ?e3 ?e4 ?_)
   case e1 =>
    intro j u hj;have hk:(s.alloc (.cells #[int i64 1,int i64 0,string f,int i64 g,int i64 d] 174)).heap[s.heap.size]?=some (.cells #[int i64 1,int i64 0,string f,int i64 g,int i64 d] 174):=Tu _ _;rw[bY,ah hk];simpa [lO] using hj
   case e3=>simp only[gu];unfold maxLen;omega
   case e4=>simp only[gu];omega
   intro S C w8 L m c;rw[vw a ⟨1,0,⟨f,g,d⟩⟩]at L;have U:=(K6.o).grown m hN;have aS:q.heap.size<=S:=by
    rcases c with e | e
    ·exact hN S e
    ·have:=K6.o.size;simp at e this;omega
   have T:Xr ((gu a).n+1=(a++[(⟨1,0,⟨f,g,d⟩⟩:kD)]).length):=ci (by simp[gu]);rw[T.o];clear m c E;go_wp2;go_roundg (b[w].XK.length-(i+1))
   ·exact⟨i+1,a++[⟨1,0,⟨f,g,d⟩⟩],⟨some ⟨S,0,none⟩,C⟩,by omega,rfl,by go_num,rfl,by simp;omega,y,L,by intro x k;simp[Hd.XS]at k;omega,U⟩
   omega
 ·have y:Xr (dN b w b[w].XY b[w].XK []=if a.length=0 then([],(1,b[w].XY)) else(a,cZ)):=hR.o.trans (Kn b w b[w].XY i b[w].XK a Y);have t3:wr.cell? ⟨Q.heap.size,3,none⟩=some (slice AO b[w].XK.length (D (11+2*w)).cap):=by rw[ah B2,A.o];rfl
  have t4:wr.cell? ⟨Q.heap.size,4,none⟩=some (string b[w].XY.XZ):=by rw[ah B2,A.o];rfl
  have t5:wr.cell? ⟨Q.heap.size,5,none⟩=some (int i64 b[w].XY.X0):=by rw[ah B2,A.o];rfl
  have t6:wr.cell? ⟨Q.heap.size,6,none⟩=some (int i64 b[w].XY.X3):=by rw[ah B2,A.o];rfl
  clear hR V;by_cases hz:a.length=0
  ·have O:((a.length:Int)==0)=true:=(by simp[hz]);have z:Xr (dN b w b[w].XY b[w].XK []=([],(1,b[w].XY))):=ci (by rw[y.o,Tr hz]);clear y hz;(go_upto_region 15 with fail);go_region
   all_goals go_wp2
   all_goals exact Tz (v:=tuple #[slice none 0 0,agg #[int i64 1,string b[w].XY.XZ,int i64 b[w].XY.X0,int i64 b[w].XY.X3]]) (by simp[results,results140,go_sem,z0,z1,z2,z3]) rfl ⟨⟨none,0⟩,by rw[z.o];rfl,by rw[z.o];exact Ty _ _ _ _,by intro x k;simp[Hd.XS]at k,(lL KW (Tq _) _ _ _ _).drew⟩
  ·have O:((a.length:Int)==0)=false:=TU.2 (by omega);have z:Xr (dN b w b[w].XY b[w].XK []=(a,cZ)):=ci (by rw[y.o,Tp hz]);clear y hz;go_wp2;exact Tz (v:=tuple #[slice l.ao a.length l.cap,agg #[int i64 0,string ⟨#[]⟩,int i64 0,int i64 0]]) (by simp[results,results140,go_sem,z0,z1,z2,z3]) rfl
    ⟨l,by rw[z.o];rfl,by rw[z.o];exact hO.XJ (fun x k=>(jR (r:=H.heap.size) _ _ _ _).block x (hO.lt k) (by simp;rintro rfl;have:=hN _ k;omega)),fun x k=>TF aT (hN x k),lL KW (Tq _) _ _ _ _⟩
def pW:List (Xs×Pl)->lC->pu×lC
 | [],c=>(cZ,c)
 | (t,p) :: r,c=>if((ma t p c).1.1==0)=true then pW r (ma t p c).2 else ma t p c
def Cs(f:pu)(ws:List (Xs×Pl))(c:lC):pu×lC:=if(f.1==0)=true then pW ws c else(f,c)
theorem Rp(a:o<i.length)(h:(zt.1==0)=true):Cs zt (i.drop o) N=Cs (ma i[o].1 i[o].2 N).1 (i.drop (o+1)) (ma i[o].1 i[o].2 N).2:=by
 unfold Cs;rw[Tr h,TV a];rfl
theorem PK(a:¬o<i.length)(h:(zt.1==0)=true):Cs zt (i.drop o) N=(cZ,N):=by
 unfold Cs;rw[Tr h,US (by omega)];rfl
theorem II(h:(zt.1==0)=false):Cs zt i N=(zt,N):=by
 unfold Cs;rw[Tp (by rw[h];simp)]
theorem zH(c:List (Xs×Pl))(i:Nat)(b:Xv):(b8 m I a i c b).1.1<=i+c.length/\(b8 m I a i c b).2.length<=b.length+c.length:=by
 induction c generalizing i b with
 | nil=>simp[b8]
 | cons x r d =>
  obtain⟨t,p⟩:=x;rw[b8];split
  ·simp
  ·split
   ·simp
   ·split
    ·simp
    ·next n _ _=>have:=d (i+1) (b++[n]);simp at this ⊢;omega
theorem jo.mono{M:Nat}(h:jo g y)(k:y<=M):jo g M:=⟨TF h.XX k,TF h.XM k,TF h.steps k,by have:=h.XG;omega,h.behind⟩
theorem GU(f:Nat):∀(j:Nat) (c:lC) (N:Nat),jo c (N+j)->j<=n.size->jo (ic n a f j c).2 (N+n.size):=by
 induction f with
 | zero=>intro j c N h d;exact h.mono (by omega)
 | succ f g =>
  intro j c N h d;rw[ic];split
  ·next e =>
   have b:=h.letter (aI n j).toNat { a with X3:=a.X3+j };split
   ·exact g (j+1) _ N (by rw[<-V6];exact b) (by omega)
   ·exact b.mono (by omega)
  ·exact h.mono (by omega)
theorem AD(h:jo g y):jo (ma n a g).2 (y+n.size):=GU n a _ 0 g y h (Uc _)
def kV(ws:List (Xs×Pl)):Nat:=(ws.map (fun x=>x.1.size)).sum
theorem Gp(a:o<i.length):kV (i.drop o)=i[o].1.size+kV (i.drop (o+1)):=by
 have e:=TV a;simp only[kV];rw[e];rfl
theorem Ei(a:List (Xs×Pl))(i:Nat):kV (a.drop i)<=kV a:=by
 induction i generalizing a with
 | zero=>simp
 | succ i b =>
  cases a with
  | nil=>simp
  | cons x r=>have:=b r;simp[kV]at this ⊢;omega
structure rX(s:St):Prop where
 size:kV s.XK<=1000000
 X3:∀x∈s.XK,-1000000000<=x.2.X3/\x.2.X3<=1000000000
def zL(l:List St)(a:Nat)(s:St):pu×lC :=
 Cs (b8 l a s.XY 1 (s.XK.drop 1) (aP l a)).1.2 (s.XK.drop (b8 l a s.XY 1 (s.XK.drop 1) (aP l a)).1.1) ⟨(b8 l a s.XY 1 (s.XK.drop 1) (aP l a)).2,[],[],0,false⟩
def mZ(XY:Pl)(R:pu×lC):List kD×pu :=
 if(R.1.1==0)=true then
  (if R.2.XG=0 then(if R.2.steps.length=0 then([],(1,XY)) else(R.2.steps,cZ)) else([],(4,XY)))
 else([],R.1)
def kP(l:List St)(a:Nat)(s:St):List kD×pu:=mZ s.XY (zL l a s)
def zp(hd:Hd):Nat->Hd
 | 0=>hd
 | _+1=>⟨none,0⟩
theorem OW{cs:List Value}{rows:Nat->eR}(o:aB k z5 (rows 0))(n:∀i,aB (k.alloc (.cells cs.toArray y)) ⟨none,0⟩ (rows (i+1))):bG (k.alloc (.cells cs.toArray y)) k.heap.size y cs rows (zp z5):=by
 refine⟨Tu _ _,?_,?_,?_⟩
 ·intro i;cases i with
  | zero=>exact o.XJ (fun x c=>((ae.refl [] k).alloc _).block x (o.lt c) (by simp))
  | succ i=>exact n i
 ·intro i j a;cases i with
  | zero =>
   cases j with
   | zero=>exact absurd rfl a
   | succ j =>
    have b:(zp z5 (j+1)).XS=none:=rfl;rw[b,show zp z5 0=z5 from rfl];cases h:z5.XS with
    | none=>exact TH rfl
    | some x=>right;simp
  | succ i=>left;rfl
 ·intro i;cases i with
  | zero=>intro e;have:=o.lt e;omega
  | succ i=>intro e;simp[zp,Hd.XS]at e
theorem PJ(h:ik (zp z5) y):z5.XS=some y:=by
 obtain⟨i,a⟩:=h;cases i with
 | zero=>exact a
 | succ i=>simp[zp,Hd.XS]at a
end Go.Proofs.YtnbhnocdhbcbcaaGreat
