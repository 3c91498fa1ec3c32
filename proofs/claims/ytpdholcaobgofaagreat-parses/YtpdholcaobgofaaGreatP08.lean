import Derived.BigQuiet
import Derived.Deep.RegionHeld3
import Derived.Test.YtpdholcaobgofaaGreatP07
namespace Go.Proofs.YtpdholcaobgofaaGreat
open Go.RowKit Tryz
open Value IntKind Ending
set_option maxHeartbeats 0
variable{d z4:World}{n zt:Nat}{N:nC}{m:Nat->Hd}{z6:Hd}(y:Nat)(l:nC)(k:Nat->Hd)(z7:Nat)(z5:List St)(I:Nat)(T:Xr)(a:Pl)(w:Nat)(b:List St)(D:Nat->Hd)(S:Xr)(x f:Int)(z8:sB)(i:List (Xr×Pl))(L:Xu)(zf:List oI)(v:Nat)(g:nC)(H:World)(o:Nat)
def nX(c:nC)(d:Nat):nC:=if c.Zbl<=c.ZbB.length+c.Zbr.length then { c with behind:=false,Zbl:=c.Zbl*5+d } else { c with behind:=false }
theorem eU.digs(h:eU d n N m)(a:Nat):Xq (eU (d.setCell ⟨n,3,none⟩ (int i64 a)) n { N with Zbl:=a } m/\aw n d m (d.setCell ⟨n,3,none⟩ (int i64 a)) m):=aO.set h 3 (int i64 a)
theorem eU.beh(h:eU d n N m)(x:Bool):Xq (eU (d.setCell ⟨n,4,none⟩ (bool x)) n { N with behind:=x } m/\aw n d m (d.setCell ⟨n,4,none⟩ (bool x)) m):=aO.set h 4 (bool x)
theorem eU.Zbj(h:eU d n N m)(k:aa [] d z4):eU z4 n N m:=aO.Zbj h k
set_option maxRecDepth 100000
theorem Cs(h:eU H y l D)(r:iU l 10000000)(A:v<=5) :
  Calls prog 242 #[pointer (some ⟨y,0,none⟩),int i64 v] H fun e t=>e=returned (tuple #[])/\eU t y (nX l v) D/\aw y H D t D:=by
 have w:=r.ZbB;have x:=r.Zbr;have z:=r.Zbl;obtain⟨f,g,i,j,k⟩:=h.cells;have c:=aO.free h;have b:=h.beh false;obtain⟨u,d⟩:∃u,u=H.setCell ⟨y,4,none⟩ (bool false):=⟨_,rfl⟩
 have n:Xq _:=d.symm;rw[<-d]at b;clear d;by_cases m:l.Zbl<=l.ZbB.length+l.Zbr.length
 ·have q:Xq (nX l v={ l with behind:=false,Zbl:=l.Zbl*5+v }):=XA m;go_enter func242,ntmps242;go_upto_region 1 with fail
  rw[n.o];clear f g i j k c n;obtain⟨f,g,i,j,k⟩:=b.o.1.cells;simp only at f g j;clear i k;have c:=aO.free b.o.1;have s:(l.Zbl:Int)<=(l.ZbB.length:Int)+(l.Zbr.length:Int):=by omega
  go_quiet (fail);have p:=b.o.1.digs (l.Zbl*5+v);rw[show((l.Zbl*5+v:Nat):Int)=(l.Zbl:Int)*5+(v:Int) by omega]at p;go_wp2;go_end0;exact⟨rfl,by rw[q.o];exact p.o.1.Zbj (bH.drewN nq),aw.trans b.o.2 (aw.Zbj p.o.2 (bH.drewN nq))⟩
 ·have q:Xq (nX l v={ l with behind:=false }):=Xz m;go_enter func242,ntmps242;go_upto_region 1 with fail
  rw[n.o];clear f g i j k c n;obtain⟨f,g,i,j,k⟩:=b.o.1.cells;simp only at f g j;clear i k;go_quiet (fail);go_wp2;go_end0;exact⟨rfl,by rw[q.o];exact b.o.1.Zbj (bH.drewN nq),aw.Zbj b.o.2 (bH.drewN nq)⟩
def lB(c:nC)(u:Nat)(p:Pl):Int×nC :=
 if c.Zbl*20+u-1<c.ZbB.length then(0,{ fc { c with Zbl:=0 } ⟨2,c.ZbB.getD (c.Zbl*20+u-1) 0,p⟩ with behind:=true })
 else if c.Zbl*20+u-1-c.ZbB.length<c.Zbr.length then(0,{ fc { c with Zbl:=0 } ⟨3,c.Zbr.getD (c.Zbl*20+u-1-c.ZbB.length) 0,p⟩ with behind:=true })
 else(5,{ c with Zbl:=0 })
theorem zbY(h:o<L.length):L.getD o 0=L[o]:=by rw[Xw,Xv h];rfl
theorem QY(f:Xr)(l c:Int) :
  ∃W,Xq (H.alloc (.cells #[string f,int i64 l,int i64 c] 36)=W)/\aa [] H W/\W.heap[H.heap.size]?=some (.cells #[string f,int i64 l,int i64 c] 36)/\W.cell? ⟨H.heap.size,0,none⟩=some (string f)/\W.cell? ⟨H.heap.size,1,none⟩=some (int i64 l)/\W.cell? ⟨H.heap.size,2,none⟩=some (int i64 c):=by
 have B:(H.alloc (.cells #[string f,int i64 l,int i64 c] 36)).heap[H.heap.size]?=some (.cells #[string f,int i64 l,int i64 c] 36):=XD _ _;refine⟨_,rfl,bH.alloc _,B,?_,?_,?_⟩ <;> rw[ab B] <;> rfl
theorem Ab(h:eU H y l k)(G:iU l 10000000)(hu:1<=w)(am:w<=20) :
  Calls prog 241 #[pointer (some ⟨y,0,none⟩),int i64 w,agg #[string S,int i64 x,int i64 f]] H fun e w'=>e=returned (int i64 (lB l w ⟨S,x,f⟩).1)/\∃H',eU w' y (lB l w ⟨S,x,f⟩).2 H'/\aw y H k w' H':=by
 have h1:=G.ZbB;have h2:=G.Zbr;have h3:=G.Zbl;obtain⟨W,HW,K,B,p0,p1,p2⟩:=QY H S x f;have Z:=h.Zbj K;have ag:H.heap.size≠y:=by have:=aO.lt h;omega
 obtain⟨t,u,O,P,Q⟩:=Z.cells;have af:=aO.free Z;have i:Xq (eU (W.setCell ⟨y,3,none⟩ (int i64 0)) y { l with Zbl:=0 } k/\aw y W k (W.setCell ⟨y,3,none⟩ (int i64 0)) k):=Z.digs 0;obtain⟨z,d⟩:∃z,z=W.setCell ⟨y,3,none⟩ (int i64 0):=⟨_,rfl⟩
 have A:Xq _:=d.symm;rw[<-d]at i;have B2:z.heap[H.heap.size]?=some (.cells #[string S,int i64 x,int i64 f] 36):=by rw[d];exact(XN _ _ _ _ ag).trans B
 obtain⟨r0,r1,r2⟩:=zT B2;clear d h;have I:iU { l with Zbl:=0 } 10000000:=⟨h1,h2,G.steps,XX _,G.behind⟩;have ac:Xq (l.Zbl*20+w-1=l.Zbl*20+(w-1)):=cm (by omega);obtain⟨v,hv⟩:∃v,w=v+1:=⟨w-1,by omega⟩
 subst hv;have n:Xq (l.Zbl*20+(v+1)-1=l.Zbl*20+v):=cm (by omega);have F:(l.Zbl:Int)*20+((v:Int)+1)-1=((l.Zbl*20+v:Nat):Int):=by omega
 obtain⟨a,r⟩:∃a,l.Zbl*20+v=a:=⟨_,rfl⟩
 have s:Xq (lB l (v+1) ⟨S,x,f⟩=if a<l.ZbB.length then(0,{ fc { l with Zbl:=0 } ⟨2,l.ZbB.getD a 0,⟨S,x,f⟩⟩ with behind:=true }) else if a-l.ZbB.length<l.Zbr.length then(0,{ fc { l with Zbl:=0 } ⟨3,l.Zbr.getD (a-l.ZbB.length) 0,⟨S,x,f⟩⟩ with behind:=true }) else(5,{ l with Zbl:=0 })):=by
  show _=_;unfold lB;rw[n.o,r]
 rw[r]at F;have ai:a<=4000000000:=by omega
 go_enter func241,ntmps241;go_upto_region 1 with fail
 rw[HW.o];go_upto_region 3 with fail
 rw[A.o];clear HW A t u O P Q af p0 p1 p2 F n ac r;obtain⟨t,u,O,P,Q⟩:=i.o.1.cells;simp only at t u;clear O P Q;have M:Xq (aw y H k z k):=aw.first K i.o.2;by_cases D:a<l.ZbB.length
 ·have E:=zbY l.ZbB a D;have m:Xq (lB l (v+1) ⟨S,x,f⟩=(0,{ fc { l with Zbl:=0 } ⟨2,l.ZbB[a],⟨S,x,f⟩⟩ with behind:=true })):=cm (by rw[s.o,XA D,E]);have q:aD z (k 0) (bK l.ZbB):=aO.ZbH i.o.1 0;rcases q.Zbu with ⟨_,Y,_⟩ | ⟨g,R,n,-,e3,-⟩
  ·have:l.ZbB.length=0:=Y;omega
  ·have pe:=q.cell n a (int i64 l.ZbB[a]) (mh l.ZbB a D);rw[n]at t;generalize l.ZbB[a]=nx at *;clear q s u E;(go_upto_region 4 with fail);go_region_with (go_at_call 243;refine(sH y { l with Zbl:=0 } k 2 nx S x f _ (by exact i.o.1.Zbj bH.drew) I).mono ?_;rintro e w9 ⟨rfl,L,p,N,-⟩)
   all_goals
    have C:=p.beh true;obtain⟨T,U,V,X,d4⟩:=p.cells;have ad:=aO.free p;clear T U V X pe t r0 r1 r2;go_wp2;go_ret;exact⟨au (by rw[m.o]),L,by rw[m.o];exact C.o.1,aw.trans M.o (aw.trans (aw.first bH.drew N) C.o.2)⟩
 ·have al:(a:Int)-(l.ZbB.length:Int)=((a-l.ZbB.length:Nat):Int):=by omega
  by_cases J:a-l.ZbB.length<l.Zbr.length
  ·have E:=zbY l.Zbr (a-l.ZbB.length) J;have m:Xq (lB l (v+1) ⟨S,x,f⟩=(0,{ fc { l with Zbl:=0 } ⟨3,l.Zbr[a-l.ZbB.length],⟨S,x,f⟩⟩ with behind:=true })):=cm (by rw[s.o,Xz D,XA J,E]);have q:aD z (k 1) (bK l.Zbr):=aO.ZbH i.o.1 1;rcases q.Zbu with ⟨_,Y,_⟩ | ⟨g,R,n,-,e3,-⟩
   ·have:l.Zbr.length=0:=Y;omega
   ·have pe:=q.cell n (a-l.ZbB.length) (int i64 l.Zbr[a-l.ZbB.length]) (mh l.Zbr _ J);rw[n]at u;generalize l.Zbr[a-l.ZbB.length]=nx at *;clear q s E;generalize hj:a-l.ZbB.length=j at *;(go_upto_region 9 with fail);go_region_with (go_at_call 243;refine(sH y { l with Zbl:=0 } k 3 nx S x f _ (by exact i.o.1.Zbj bH.drew) I).mono ?_;rintro e w9 ⟨rfl,L,p,N,-⟩)
    all_goals
     have C:=p.beh true;obtain⟨T,U,V,X,d4⟩:=p.cells;have ad:=aO.free p;clear T U V X pe t u r0 r1 r2;go_wp2;go_ret;exact⟨au (by rw[m.o]),L,by rw[m.o];exact C.o.1,aw.trans M.o (aw.trans (aw.first bH.drew N) C.o.2)⟩
  ·have m:Xq (lB l (v+1) ⟨S,x,f⟩=(5,{ l with Zbl:=0 })):=(by show _=_;rw[s.o,Xz D,Xz J]);clear s;generalize hj:a-l.ZbB.length=j at *;go_wp2;go_ret;exact⟨au (by rw[m.o]),k,by rw[m.o];exact i.o.1,M.o⟩
def cG(c:nC)(n:Nat)(p:Pl):Int×nC :=
 if 65<=n/\n<=84 then lB c (n-64) p
 else if 85<=n/\n<=89 then(0,nX c (n-84))
 else if n=90/\c.behind=true then(0,{ c with Zbr:=c.Zbr++[c.steps.length-1],behind:=false })
 else if n=63/\c.Zbl=0 then(0,fc c ⟨1,0,p⟩)
 else(4,c)
theorem Bv(h:eU H y l k)(F:iU l 10000000)(hn:w<256) :
  Calls prog 216 #[pointer (some ⟨y,0,none⟩),int u8 w,agg #[string S,int i64 x,int i64 f]] H fun e z=>e=returned (int i64 (cG l w ⟨S,x,f⟩).1)/\∃H',eU z y (cG l w ⟨S,x,f⟩).2 H'/\aw y H k z H':=by
 have aq:=F.steps;have ar:=F.Zbr;obtain⟨W,t,K,B,p0,p1,p2⟩:=QY H S x f;have p:=h.Zbj K;clear h;obtain⟨I,J,L,M,E⟩:=p.cells;have an:=aO.lt p;by_cases d:65<=w/\w<=84
 ·have a:Xq (cG l w ⟨S,x,f⟩=lB l (w-64) ⟨S,x,f⟩):=XA d;have EN:=fun(z:World) (Z:eU z y l k)=>Ab y l k (w-64) S x f z Z F (by omega) (by omega);have X:Xq _:=EN;obtain⟨a1,a2⟩:=d;have he:(w:Int)-65+1=((w-64:Nat):Int):=by omega
  clear EN I J L M E;generalize hq:w-64=q at *;go_enter func216,ntmps216;go_upto_region 1 with fail
  rw[t.o];go_wp2_with fail;refine(X.o _ p).mono ?_;rintro e w2 ⟨rfl,V,s,G⟩;go_wp2;go_ret;exact⟨au (by rw[a.o]),V,by rw[a.o];exact s,aw.first K G⟩
 ·by_cases i:85<=w/\w<=89
  ·have a:Xq (cG l w ⟨S,x,f⟩=(0,nX l (w-84))):=(by show _=_;unfold cG;rw[Xz d,XA i]);obtain⟨a1,a2⟩:=i;have TD:=fun(z:World) (Z:eU z y l k)=>Cs y l k (w-84) z Z F (by omega);have Y:Xq _:=TD;have he:(w:Int)-85+1=((w-84:Nat):Int):=(by omega);clear TD I J L M E d;generalize hq:w-84=q at *;go_enter func216,ntmps216;(go_upto_region 1 with fail);rw[t.o];go_wp2_with fail;refine(Y.o _ p).mono ?_;rintro e w2 ⟨rfl,s,G⟩;go_wp2;go_ret;exact⟨au (by rw[a.o]),k,by rw[a.o];exact s,aw.first K G⟩
  ·by_cases r:w=90/\l.behind=true
   ·have a:Xq (cG l w ⟨S,x,f⟩=(0,{ l with Zbr:=l.Zbr++[l.steps.length-1],behind:=false })):=(by show _=_;unfold cG;rw[Xz d,Xz i,XA r]);obtain⟨rfl,n⟩:=r;have am:=F.behind n;rw[n]at E;obtain⟨b,R⟩:∃b,l.steps.length-1=b:=⟨_,rfl⟩
    have he:(l.steps.length:Int)-1=(b:Int):=(by omega);rw[R]at a;have av:IntKind.i64.wrap (b:Int)=(b:Int):=by rw[YS];omega
    obtain⟨i0,hi,af,ag,ai⟩:=XV C3;have hD:Xq (eU (W.alloc (.cells #[int i64 b] 3)).drew y l k):=p.Zbj ((aa.refl [] W).alloc _).drew;have s2:Xq (∀j u,([int i64 b]:List Value)[j]?=some u->(W.alloc (.cells #[int i64 b] 3)).drew.cell? ((⟨W.heap.size,0,none⟩:Addr).add j)=some u):=by
     intro j u Q;have hk:(W.alloc (.cells #[int i64 b] 3)).drew.heap[W.heap.size]?=some (.cells #[int i64 b] 3):=XD _ _;rw[bE,ab hk];simpa using Q
    have s3:Xq (∀u∈([int i64 b]:List Value),u.oneCell'=true):=(by intro u hu;simp at hu;subst hu;rfl);have s4:Xq ((bK l.Zbr).n+1<=maxLen):=(by show _<=_;simp only[bK];unfold maxLen;omega);have s5:Xq (((bK l.Zbr).n+1)*8<=140737488355328):=(by show _<=_;simp only[bK];omega);have ad:Xq (∀j,j≠1->Ba { l with Zbr:=l.Zbr++[b] } j=Ba l j):=by
     intro j Q
     match j,Q with
     | 0,_=>rfl
     | 1,Q=>exact absurd rfl Q
     | 2,_=>rfl
     | m+3,_=>rfl
    clear I M d i p0 p1 p2;go_enter func216,ntmps216;(go_upto_region 1 with fail);rw[t.o];go_wp2_with fail;go_region_law (refine bB rfl (.tmp 44) (.tmp 51) 25 rfl i0 (int i64 0) 8 (k 1) (bK l.Zbr) underlying25 hi af ag ai rfl XR (by simp[Act.eval] <;> rfl) (aO.ZbH hD.o 1) ⟨W.heap.size,0,none⟩ 1 1 [int i64 b] (by simp[Act.eval]) rfl s2.o s3.o XR s4.o s5.o ?_;intro g v w1 T P c;obtain⟨k5,f5,U⟩:=aO.app hD.o (cs':=nE { l with Zbr:=l.Zbr++[b] } (gj k 1 ⟨some ⟨g,0,none⟩,v⟩)) (rows':=Ba { l with Zbr:=l.Zbr++[b] }) 1 1 g v ((bK l.Zbr).n+1) _ T (oQ l.Zbr b) P (by simpa using c) ad.o (slice (k 1).ao l.Zbr.length (k 1).cap) rfl (by simp[nE,gj,bK]);clear T P c)
    all_goals
     have s:Xq _:=aO.set U.o.1 4 (bool false);have ac:=(aO.cell U.o.1 4);have ap:=aO.free U.o.1;simp only[nE,List.getElem?_cons_succ,List.getElem?_cons_zero,n]at ac;clear J L E k5 f5;go_wp2;go_ret;exact⟨au (by rw[a.o]),_,by rw[a.o];exact s.o.1,((U.o.2.first (bH.alloc _).drew).first K).trans s.o.2⟩
   ·by_cases C:w=63/\l.Zbl=0
    ·have a:Xq (cG l w ⟨S,x,f⟩=(0,fc l ⟨1,0,⟨S,x,f⟩⟩)):=(by show _=_;unfold cG;rw[Xz d,Xz i,Xz r,XA C]);obtain⟨rfl,D⟩:=C;rw[D]at M;clear I J L d i r;go_enter func216,ntmps216;(go_upto_region 1 with fail);rw[t.o];go_wp2_with fail;refine(sH y l k 1 0 S x f _ p F).mono ?_;rintro e w2 ⟨rfl,V,s,G,-⟩;go_wp2;go_ret;exact⟨au (by rw[a.o]),V,by rw[a.o];exact s,aw.first K G⟩
    ·have a:Xq (cG l w ⟨S,x,f⟩=(4,l)):=(by show _=_;unfold cG;rw[Xz d,Xz i,Xz r,Xz C]);clear I J L;by_cases O:w=90
     ·have n:l.behind=false:=by
       cases hq:l.behind with
       | false=>rfl
       | true=>exact absurd ⟨O,hq⟩ r
      rw[n]at E;subst O;clear d i r C;go_enter func216,ntmps216;(go_upto_region 1 with fail);rw[t.o];go_wp2;go_ret;exact⟨au (by rw[a.o]),k,by rw[a.o];exact p,(aw.refl _ _ _).Zbj K⟩
     ·by_cases N:w=63
      ·have D:¬l.Zbl=0:=fun hh=>C ⟨N,hh⟩;have al:((l.Zbl:Int)==0)=false:=X6.2 (by omega);subst N;clear d i r C D;go_enter func216,ntmps216;(go_upto_region 1 with fail);rw[t.o];go_wp2;go_ret;exact⟨au (by rw[a.o]),k,by rw[a.o];exact p,(aw.refl _ _ _).Zbj K⟩
      ·have e1:((w:Int)==90)=false:=X6.2 (by omega);have e2:((w:Int)==63)=false:=X6.2 (by omega);clear r C M E;by_cases a1:65<=w
       ·have a2:¬w<=84:=(by omega);have a3:85<=w:=(by omega);have a4:¬w<=89:=(by omega);clear d i;go_enter func216,ntmps216;(go_upto_region 1 with fail);rw[t.o];go_wp2;go_ret;exact⟨au (by rw[a.o]),k,by rw[a.o];exact p,(aw.refl _ _ _).Zbj K⟩
       ·have a3:¬85<=w:=(by omega);clear d i;go_enter func216,ntmps216;(go_upto_region 1 with fail);rw[t.o];go_wp2;go_ret;exact⟨au (by rw[a.o]),k,by rw[a.o];exact p,(aw.refl _ _ _).Zbj K⟩
theorem iU.letter(h:iU N n)(b:Nat)(p:Pl):iU (cG N b p).2 (n+1):=by
  have c:=h.ZbB;have d:=h.Zbr;have e:=h.steps;have f:=h.Zbl;have a:=h.behind;unfold cG;split
  · unfold lB fc
    split
    · exact⟨by simp only;omega,by simp only;omega,by simp;omega,by simp,by simp⟩
    · split
      · exact⟨by simp only;omega,by simp only;omega,by simp;omega,by simp,by simp⟩
      · exact⟨by simp only;omega,by simp only;omega,by simp only;omega,by simp,a⟩
  · split
    · next g =>
      unfold nX;split
      all_goals
        exact⟨by simp only;omega,by simp only;omega,by simp only;omega,by simp only;omega,by simp⟩
    · split
      · exact⟨by simp only;omega,by simp;omega,by simp only;omega,by simp only;omega,by simp⟩
      · split
        · exact⟨by simp only[fc];omega,by simp only[fc];omega,by simp[fc];omega,by simp only[fc];omega,by simp[fc]⟩
        · exact⟨by simp only;omega,by simp only;omega,by simp only;omega,by simp only;omega,a⟩
def iA(t:Xr)(p:Pl):Nat->Nat->nC->sB×nC
  | 0,_,c=>(dJ,c)
  | f+1,j,c =>
    if j<t.size then
      (if((cG c (aL t j).toNat { p with ZbF:=p.ZbF+j }).1==0)=true then iA t p f (j+1) (cG c (aL t j).toNat { p with ZbF:=p.ZbF+j }).2
       else(((cG c (aL t j).toNat { p with ZbF:=p.ZbF+j }).1,{ p with ZbF:=p.ZbF+j }),(cG c (aL t j).toNat { p with ZbF:=p.ZbF+j }).2))
    else(dJ,c)
def nB(t:Xr)(p:Pl)(c:nC):sB×nC:=iA t p (t.size+1) 0 c
theorem zci(c:v<T.size)(h:((cG g (aL T v).toNat { a with ZbF:=a.ZbF+v }).1==0)=true) :
    iA T a (w+1) v g=iA T a w (v+1) (cG g (aL T v).toNat { a with ZbF:=a.ZbF+v }).2:=by rw[iA,XA c,XA h]
theorem WK(c:v<T.size)(h:((cG g (aL T v).toNat { a with ZbF:=a.ZbF+v }).1==0)=false) :
    iA T a (w+1) v g=(((cG g (aL T v).toNat { a with ZbF:=a.ZbF+v }).1,{ a with ZbF:=a.ZbF+v }),(cG g (aL T v).toNat { a with ZbF:=a.ZbF+v }).2):=by rw[iA,XA c,Xz (by rw[h];simp)]
theorem zbq(b:¬v<T.size):iA T a (w+1) v g=(dJ,g):=by rw[iA,Xz b]
theorem dM(h:d.heap[n]?=some (.cells bM 165)) :
    d.cell? ⟨n,0,none⟩=some (int i64 0)/\d.cell? ⟨n,1,none⟩=some (string ⟨#[]⟩)/\d.cell? ⟨n,2,none⟩=some (int i64 0)/\d.cell? ⟨n,3,none⟩=some (int i64 0):=by
  refine⟨?_,?_,?_,?_⟩ <;> (rw[ab h];rfl)
theorem zl{F:Nat}{j:List Value}{a:Nat->eD}{b:Nat->Hd}(D:aO z4 n zt j a b)(T:aw n d m z4 b)(c:d.heap.size<=F)(k:n≠F)(l:¬eG b F)(e f g i:Value) :
    aO ((((z4.setCell ⟨F,0,none⟩ e).setCell ⟨F,1,none⟩ f).setCell ⟨F,2,none⟩ g).setCell ⟨F,3,none⟩ i) n zt j a b /\
    aw n d m ((((z4.setCell ⟨F,0,none⟩ e).setCell ⟨F,1,none⟩ f).setCell ⟨F,2,none⟩ g).setCell ⟨F,3,none⟩ i) b:=by
  refine⟨D.Zbw (kJ _ _ _ _) (by simpa using k) (fun x o=>by simp;rintro rfl;exact l o),?_,T.2⟩;exact(((T.1.setCell (XK c) _).setCell (XK c) _).setCell (XK c) _).setCell (XK c) _
theorem Fh(h:eU H y l k)(N:Nat)(ok:iU l N)(hN:N+T.size<=10000000)(ao:-1000000000<=f/\f<=1000000000) :
    Calls prog 183 #[pointer (some ⟨y,0,none⟩),agg #[string T,string S,int i64 x,int i64 f]] H fun e c=>e=returned (jh (nB T ⟨S,x,f⟩ l).1)/\∃d,eU c y (nB T ⟨S,x,f⟩ l).2 d/\aw y H k c d:=by
  obtain⟨W,G⟩:∃W,W=(H.alloc (.cells #[string T,string S,int i64 x,int i64 f] 229)).alloc (.cells #[int i64 0,string ⟨#[]⟩,int i64 0,int i64 0] 165):=⟨_,rfl⟩
  have K:aa [] H W:=by rw[G];exact(bH.alloc _).alloc _
  have BW:W.heap[H.heap.size]?=some (.cells #[string T,string S,int i64 x,int i64 f] 229):=by rw[G];exact(bH.alloc _).get (XD _ _) (by simp)
  have BF:W.heap[H.heap.size+1]?=some (.cells bM 165):=by
    rw[G];have:=XD (H.alloc (.cells #[string T,string S,int i64 x,int i64 f] 229)) (.cells #[int i64 0,string ⟨#[]⟩,int i64 0,int i64 0] 165);simpa [bM] using this
  have ac:W.heap.size=H.heap.size+2:=by rw[G];simp
  have an:=aO.lt h;have z:Xq (∀ai,H.heap.size<=ai->¬eG k ai):=fun ai hk hm=>by have:=aO.inlt h hm;omega
  have hC:=h.Zbj K;have HW:Xq _:=G.symm;obtain⟨u0,u1,u2,u3⟩:=zU BW;clear G;go_enter func183,ntmps183;go_upto_region 1 with fail
  rw[HW.o];go_wp2
  go_loopg [6] T.size (fun gk i wr=>∃(j:Nat) (p:nC) (d:Nat->Hd) (O:Nat),j<=T.size/\gk=T.size-j/\i=int i64 j/\iU p (N+j)/\T.size-j+1<=O/\Xq (nB T ⟨S,x,f⟩ l=iA T ⟨S,x,f⟩ O j p)/\eU wr y p d/\aw y H k wr d /\
    wr.heap[H.heap.size]?=some (.cells #[string T,string S,int i64 x,int i64 f] 229)/\wr.heap[H.heap.size+1]?=some (.cells bM 165)/\wr.heap[H.heap.size+2]?=some (.cells #[string S,int i64 x,int i64 (f+j)] 36)/\¬eG d H.heap.size/\¬eG d (H.heap.size+1)/\¬eG d (H.heap.size+2))
  case atStart =>
    refine⟨0,l,k,T.size+1,by omega,by omega,rfl,ok,by omega,rfl,hC.Zbj (bH.alloc _),(aw.refl _ _ _).Zbj (K.alloc _),(bH.alloc _).get BW (by simp),(bH.alloc _).get BF (by simp),?_,z.o _ (by omega),z.o _ (by omega),z.o _ (by omega)⟩;rw[<-ac];have:=XD W (.cells #[string S,int i64 x,int i64 f] 36);simpa using this
  case round =>
    obtain⟨j,p,d,O,hj,hg,rfl,n,ap,E,C,hT,B1,X,I,n1,n2,n3⟩:=hrel;clear u0 u1 u2 u3 BW BF hC HW;have u0:wr.cell? ⟨H.heap.size,0,none⟩=some (string T):=(by rw[ab B1];rfl);have v0:wr.cell? ⟨H.heap.size+2,0,none⟩=some (string S):=(by rw[ab I];rfl);have v1:wr.cell? ⟨H.heap.size+2,1,none⟩=some (int i64 x):=(by rw[ab I];rfl);have v2:wr.cell? ⟨H.heap.size+2,2,none⟩=some (int i64 (f+j)):=(by rw[ab I];rfl);obtain⟨m,rfl⟩:∃m,O=m+1:=⟨O-1,by omega⟩
    by_cases t:j<T.size
    · have R:(aL T j).toNat=T[j].toNat:=by rw[cw T j t];rfl
      have Y:=zci T ⟨S,x,f⟩ m j p t;have Z:=WK T ⟨S,x,f⟩ m j p t;have B:=n.letter T[j].toNat { (⟨S,x,f⟩:Pl) with ZbF:=f+j };have P:T[j].toNat<256:=UInt8.toNat_lt _;have TL:=fun(c:World) (h':eU c y p d)=>Bv y p d T[j].toNat S x (f+j) c h' ⟨by have:=n.ZbB;omega,by have:=n.Zbr;omega,by have:=n.steps;omega,by have:=n.Zbl;omega,n.behind⟩ P;rw[R]at Y Z;simp only at Y Z B;have q:Xq _:=Y;have s:Xq _:=Z;have A:Xq _:=TL;clear Y Z TL R;generalize cG p T[j].toNat ⟨S,x,f + ↑j⟩=Q at *;obtain⟨r,c2⟩:=Q;simp only at q s A B;have u:Xq (∀(a:World) (g:Nat->Hd) (_:aw y wr.drew d a g),a.heap[H.heap.size]?=some (.cells #[string T,string S,int i64 x,int i64 f] 229)/\a.heap[H.heap.size+1]?=some (.cells bM 165)/\a.heap[H.heap.size+2]?=some (.cells #[string S,int i64 x,int i64 (f+j)] 36)):=by
        intro a g b;exact⟨b.1.get (by exact B1) (by rintro (e | e);omega;exact n1 e),b.1.get (by exact X) (by rintro (e | e);omega;exact n2 e),b.1.get (by exact I) (by rintro (e | e);omega;exact n3 e)⟩
      have L:Xq (∀(a:World) (g:Nat->Hd) (_:aw y wr.drew d a g),a.cell? ⟨H.heap.size,0,none⟩=some (string T)/\a.cell? ⟨H.heap.size+2,0,none⟩=some (string S)/\a.cell? ⟨H.heap.size+2,1,none⟩=some (int i64 x)/\a.cell? ⟨H.heap.size+2,2,none⟩=some (int i64 (f+j))):=by
        intro a g b;obtain⟨q1,V,D⟩:=u.o a g b;refine⟨by rw[ab q1];rfl,by rw[ab D];rfl,by rw[ab D];rfl,by rw[ab D];rfl⟩
      have af:=ah B1;have U:=ah X;have ag:=ah I;cases hr:(r==0)
      · have ad:(r != 0)=true:=by simp[bne,hr]
        have w:Xq _:=E.o.trans (s.o hr);clear E q s;(go_upto_region 5 with fail);go_region_held3 (fun c=>c.cell? ⟨H.heap.size,0,none⟩=some (string T)/\c.cell? ⟨H.heap.size+2,0,none⟩=some (string S)/\c.cell? ⟨H.heap.size+2,1,none⟩=some (int i64 x)/\c.cell? ⟨H.heap.size+2,2,none⟩=some (int i64 (f+j))) (go_keep) (first | (go_at_call 216;refine(A.o _ (by exact C.Zbj bH.drew)).mono ?_;rintro e a ⟨rfl,g,D9,b⟩;obtain⟨x0,x1,x2,x3⟩:=L.o a g b))
        all_goals
          obtain⟨q1,V,D⟩:=u.o a g b;obtain⟨j0,j1,j2,j3⟩:=dM V;have al:=zcW V;have m2:=b.fresh (H.heap.size+1) (by exact U) n2;have J:Xq _:=(fun a0 a1 a2 a3=>zl D9 (hT.trans (aw.first bH.drew b)) (F:=H.heap.size+1) (by omega) (by omega) m2 a0 a1 a2 a3);go_wp2;exact XG (v:=agg #[int i64 r,string S,int i64 x,int i64 (f+j)]) (by simp[results,results183,go_sem,j0,j1,j2,j3]) rfl
            ⟨by rw[w.o];rfl,g,by rw[w.o];exact(J.o _ _ _ _).1,(J.o _ _ _ _).2⟩
      · have ad:(r != 0)=false:=by simp[bne,hr]
        have w:Xq _:=E.o.trans (q.o hr);clear E q s;(go_upto_region 5 with fail);go_region_held3 (fun c=>c.cell? ⟨H.heap.size,0,none⟩=some (string T)/\c.cell? ⟨H.heap.size+2,0,none⟩=some (string S)/\c.cell? ⟨H.heap.size+2,1,none⟩=some (int i64 x)/\c.cell? ⟨H.heap.size+2,2,none⟩=some (int i64 (f+j))) (go_keep) (first | (go_at_call 216;refine(A.o _ (by exact C.Zbj bH.drew)).mono ?_;rintro e a ⟨rfl,g,D9,b⟩;obtain⟨x0,x1,x2,x3⟩:=L.o a g b))
        all_goals
          obtain⟨q1,V,D⟩:=u.o a g b;have al:=zcW D;have m1:=b.fresh H.heap.size (by exact af) n1;have m2:=b.fresh (H.heap.size+1) (by exact U) n2;have m3:=b.fresh (H.heap.size+2) (by exact ag) n3;have M:=hT.trans (aw.first bH.drew b);go_wp2;go_roundg (T.size-(j+1))
          · have kk:aa [H.heap.size+2] a (a.setCell ⟨H.heap.size+2,2,none⟩ (int i64 (f + ↑j+1))):=(aa.refl _ _).sl1 _
            refine⟨j+1,c2,g,m,by omega,rfl,by go_num,by rw[<-Zbb];exact B,by omega,w.o,aO.Zbw D9 kk (by simp;omega) (by intro aq hx;simp;rintro rfl;exact m3 hx),⟨M.1.sr1 (by simp) _,M.2⟩,kk.get q1 (by simp),kk.get V (by simp),?_,m1,m2,m3⟩;rw[ae D,show f+(↑(j+1):Int)=f + ↑j+1 by omega];rfl
          omega
    · have w:Xq _:=E.o.trans (zbq T ⟨S,x,f⟩ m j p t)
      obtain⟨j0,j1,j2,j3⟩:=dM X;have al:=zcW X;have J:Xq _:=(fun a0 a1 a2 a3=>zl C hT (F:=H.heap.size+1) (by omega) (by omega) n2 a0 a1 a2 a3);clear E;go_wp2;exact XG (v:=agg #[int i64 0,string ⟨#[]⟩,int i64 0,int i64 0]) (by simp[results,results183,go_sem,j0,j1,j2,j3]) rfl
        ⟨by rw[w.o];rfl,d,by rw[w.o];exact(J.o _ _ _ _).1,(J.o _ _ _ _).2⟩
def lp(l:Xu)(x:Nat):Bool:=l.any (fun y=>y==x)
theorem GH(h:o<L.length)(b:lp L v=lp (L.drop o) v)(a:(L[o]==v)=true):lp L v=true:=by
 rw[b,X0 h];simp only[lp,List.any_cons,a,Bool.true_or]
theorem C1(h:o<L.length)(b:lp L v=lp (L.drop o) v)(a:(L[o]==v)=false):lp L v=lp (L.drop (o+1)) v:=by
 rw[b,X0 h];simp only[lp,List.any_cons,a,Bool.false_or]
theorem C2(h:¬o<L.length)(a:lp L v=lp (L.drop o) v):lp L v=false:=by
 rw[a,YQ (by omega)];rfl
theorem rB:((v:Int)==(o:Int))=(v==o):=by
 cases h:(v==o)
 ·exact X6.2 (by have:=X6.1 h;omega)
 ·have:=ZR h;subst this;simp
set_option maxRecDepth 512
theorem If(m:Hd)(l:Xu)(x:Nat)(w:World)(c:aD w m (bK l))(v:l.length<=1073741824) :
  Calls prog 215 #[slice m.ao l.length m.cap,int i64 x] w fun e y=>e=returned (bool (lp l x))/\y=w:=by
 obtain⟨z,s⟩:=m;rcases c.Zbu with ⟨u,r,_⟩ | ⟨g,t,q,_⟩
 ·have j:l.length=0:=r;have p:l=[]:=XY j;subst p;clear c r j v u;go_enter func215,ntmps215;go_wp2;refine Zv 1 ?_;rw[ZT];go_wp2;go_ret;exact⟨rfl,rfl⟩
 ·simp only at q;subst q;go_enter func215,ntmps215;go_wp2
  go_loopg [5] l.length (fun g i wr=>∃k:Nat,k<=l.length/\g=l.length-k/\i=int i64 k/\Xq (lp l x=lp (l.drop k) x)/\wr=w)
  ·exact⟨0,by omega,by omega,rfl,rfl,rfl⟩
  obtain⟨k,C,B,rfl,d,rfl⟩:=hrel;by_cases a:k<l.length
  ·have A:=c.cell rfl k (int i64 l[k]) (mh l k a);cases b:(l[k]==x)
   ·have f:Xq (lp l x=lp (l.drop (k+1)) x):=C1 l x k a d.o b;have n:=(rB l[k] x).trans b;clear d c b;go_wp2;go_roundg (l.length-(k+1))
    ·exact⟨k+1,by omega,rfl,by go_num,f,rfl⟩
    omega
   ·have f:Xq (lp l x=true):=GH l x k a d.o b;have n:=(rB l[k] x).trans b;clear d c b;go_wp2;go_ret;exact⟨aH f.o.symm,rfl⟩
  ·have f:Xq (lp l x=false):=C2 l x k a d.o;clear d c;go_wp2;go_ret;exact⟨aH f.o.symm,rfl⟩
def dN(l:List St)(a:Nat)(ZbC:Pl):Nat->List (Xr×Pl)->Xu->(Nat×sB)×Xu
 | _,[],ns=>((0,(3,ZbC)),ns)
 | i,(t,p) :: r,ns =>
  if(t.toList == [41])=true then((i+1,dJ),ns)
  else match mV l t a with
   | none=>((0,(2,p)),ns)
   | some n=>if lp ns n=true then((0,(3,p)),ns) else dN l a ZbC (i+1) r (ns++[n])
theorem dQ.far{l:List St}{P:Nat->Prop}{M:Nat}(h:dQ d n zt l m)(k:fB P d z4)(b:∀x,P x->M<=x)(g:∀x,eG m x->x<M)(i:n<M):dQ z4 n zt l m:=by
 obtain⟨a,t,c,f⟩:=h.cell;exact⟨⟨a,t,k.get c (fun e=>by have:=b _ e;omega),f⟩,h.Zbv.keptP k (fun x j e=>by have:=b _ e;have:=g _ j;omega)⟩
theorem aD.word{l:List (Xr×Pl)}(o:aD d z6 (jd l))(k:Nat)(n:k<l.length) :
  ∃g,z6.ao=some ⟨g,0,none⟩/\l.length<=z6.cap/\z6.cap<=9223372036854775807/\d.cell? ⟨g,k*4,none⟩=some (string l[k].1)/\d.cell? ⟨g,k*4+1,none⟩=some (string l[k].2.ZbD)/\d.cell? ⟨g,k*4+2,none⟩=some (int i64 l[k].2.ZbE)/\d.cell? ⟨g,k*4+3,none⟩=some (int i64 l[k].2.ZbF):=by
 rcases o.Zbu with ⟨_,i,_⟩ | ⟨g,e,a,q,f,b,-⟩
 ·have:l.length=0:=i;omega
 ·have c:=fun j (m:j<4) v (p:(uQ l[k])[j]?=some v)=>o.cell a (k*4+j) v ((Qj l k n j m).trans p);exact⟨g,a,f,by unfold maxLen at b;exact b,c 0 (by omega) _ rfl,c 1 (by omega) _ rfl,c 2 (by omega) _ rfl,c 3 (by omega) _ rfl⟩
theorem iU.named(h:iU N n)(b:Nat):iU { N with ZbB:=N.ZbB++[b] } (n+1) :=
 ⟨by have:=h.ZbB;simp;omega,by have:=h.Zbr;simp only;omega,by have:=h.steps;simp only;omega,by have:=h.Zbl;simp only;omega,h.behind⟩
theorem NH(b:w<i.length) :
  dN z5 I a w (i.drop w) L=if(i[w].1.toList == [41])=true then((w+1,dJ),L)
   else match mV z5 i[w].1 I with
    | none=>((0,(2,i[w].2)),L)
    | some n=>if lp L n=true then((0,(3,i[w].2)),L) else dN z5 I a (w+1) (i.drop (w+1)) (L++[n]):=by
 rw[X0 b];rfl
theorem JI(b:¬w<i.length):dN z5 I a w (i.drop w) L=((0,(3,a)),L):=by
 rw[YQ (by omega)];rfl
set_option maxRecDepth 100000
theorem Cr(p:World)(h:eU p y l k)(ap:dQ H z7 I b D)(am:aa [] H p)(ha:w<b.length)(ok:iV b)(bd:l.ZbB.length<=10000)(hb:H.heap.size<=y)(hc:∀x,eG k x->H.heap.size<=x) :
  Calls prog 182 #[pointer (some ⟨y,0,none⟩),pointer (some ⟨z7,I,none⟩),int i64 w] p fun e w' =>
   e=returned (tuple #[int i64 (dN b w b[w].ZbC 1 (b[w].Zbp.drop 1) l.ZbB).1.1,jh (dN b w b[w].ZbC 1 (b[w].Zbp.drop 1) l.ZbB).1.2])/\∃al,eU w' y { l with ZbB:=(dN b w b[w].ZbC 1 (b[w].Zbp.drop 1) l.ZbB).2 } al/\aw y p k w' al:=by
 obtain⟨i0,av,az,aS,aT⟩:=XV C3;have bc:=aO.lt h;have hr:=ap.Zbj am;have a7:=ok.len;have bj:=ok.prfs w ha;have af:Xq (∀a4,p.heap.size<=a4->¬eG k a4):=fun a4 hk hm=>by have:=aO.inlt h hm;omega
 obtain⟨AO,ad⟩:=aP ((D (11+2*w)).ao);obtain⟨W,hW⟩:∃W,W=p.alloc (.cells #[int i64 0,string ⟨#[]⟩,int i64 0,int i64 0] 165):=⟨_,rfl⟩
 have K:=dx hW.symm;have BF:W.heap[p.heap.size]?=some (.cells bM 165):=by rw[hW];exact XD _ _
 have HW:Xq _:=hW.symm;clear hW;go_enter func182,ntmps182;go_upto_region 1 with fail
 rw[HW.o];go_wp2_with fail;refine(bu z7 I w b D _ (hr.Zbj K) ha).mono ?_;rintro e B ⟨rfl,G⟩;unfold du;rw[ad.o];obtain⟨W2,z⟩:∃W2,W2=B.alloc (.cells #[int i64 b[w].Zby,string b[w].Zbz,slice (D (10+2*w)).ao b[w].Zbe.length (D (10+2*w)).cap,slice AO b[w].Zbp.length (D (11+2*w)).cap,string b[w].ZbC.ZbD,int i64 b[w].ZbC.ZbE,int i64 b[w].ZbC.ZbF,int i64 b[w].til] 158):=⟨_,rfl⟩
 have ag:Xq _:=z.symm;have K2:aa [] p W2:=by rw[z];exact(K.trans G).alloc _
 have BT:=dC z.symm;have ac:W2.heap[p.heap.size]?=some (.cells bM 165):=by rw[z];exact(bH.alloc _).get (G.get BF (by simp)) (by simp)
 have bk:p.heap.size<B.heap.size:=by have:=ah (G.get BF (by simp));omega
 clear z;go_upto_region 2 with fail
 rw[ag.o];clear HW ag G BF K;obtain⟨TB,S⟩:∃TB:Array Value,TB=#[int i64 b[w].Zby,string b[w].Zbz,slice (D (10+2*w)).ao b[w].Zbe.length (D (10+2*w)).cap,slice AO b[w].Zbp.length (D (11+2*w)).cap,string b[w].ZbC.ZbD,int i64 b[w].ZbC.ZbE,int i64 b[w].ZbC.ZbF,int i64 b[w].til]:=⟨_,rfl⟩
 rw[<-S]at BT;have r:Xq _:=S;clear S;go_wp2
 go_loopg [9] (b[w].Zbp.length-1) (fun gk iv wr=>∃(i:Nat) (a:Xu) (f:Nat->Hd),1<=i/\i<=10001/\gk=b[w].Zbp.length-i/\iv=int i64 i/\a.length<=10000+i/\Xq (dN b w b[w].ZbC 1 (b[w].Zbp.drop 1) l.ZbB=dN b w b[w].ZbC i (b[w].Zbp.drop i) a)/\eU wr y { l with ZbB:=a } f/\aw y p k wr f /\
  wr.heap[p.heap.size]?=some (.cells bM 165)/\wr.heap[B.heap.size]?=some (.cells TB 158)/\¬eG f p.heap.size/\¬eG f B.heap.size)
 ·exact⟨1,l.ZbB,k,by omega,by omega,rfl,rfl,by omega,rfl,h.Zbj K2,(aw.refl _ _ _).Zbj K2,ac,BT,af.o _ (by omega),af.o _ (by omega)⟩
 obtain⟨i,a,f,be,bf,hg,rfl,bg,hR,hC,hT,B1,M,n1,n2⟩:=hrel;clear BT ac K2;have hP:∀x,(x=y∨eG k x)->H.heap.size<=x:=by
  rintro x (e | e)
  ·omega
  ·exact hc x e
 have an:dQ wr z7 I b D:=ap.Zbj (am.ofP hT.1 hP);have R:=an.Zbv.prfs w b[w] (Xv ha);have a6:=ah M;obtain⟨V,X,Y,Z⟩:=dM B1;have yz:=zcW B1;by_cases T:i<b[w].Zbp.length
 ·obtain⟨gp,ep,a5,ar,d0,d1,d2,d3⟩:=R.word i T;obtain rfl:AO=some ⟨gp,0,none⟩:=ad.o.symm.trans ep;have ba:Xq _:=ep;have t3:wr.cell? ⟨B.heap.size,3,none⟩=some (slice (some ⟨gp,0,none⟩) b[w].Zbp.length (D (11+2*w)).cap):=by rw[ab M,r.o];rfl
  clear ep;have BL:=NH b w b[w].ZbC i b[w].Zbp a T;have d:Xq _:=hR.o.trans BL;clear BL hR R;generalize hwd:b[w].Zbp[i]=wd at *;obtain⟨t,pf,pl,pc⟩:=wd;simp only at d0 d1 d2 d3 d;obtain⟨O,E⟩:∃O,O=wr.alloc (.cells #[string t,string pf,int i64 pl,int i64 pc] 229):=⟨_,rfl⟩
  have N:=dx E.symm;have B5:=dC E.symm;have ai:Xq _:=E.symm;clear E;go_upto_region 6 with fail
  rw[ai.o];clear ai d0 d1 d2 d3 t3 V X Y Z yz;obtain⟨v0,v1,v2,v3⟩:=zU B5;have C5:=hC.Zbj N;have T5:=hT.Zbj N;have R5:=an.Zbj N;have F5:=N.get B1 (by simp);have S5:=N.get M (by simp);obtain⟨V,X,Y,Z⟩:=dM F5;have yz:=zcW F5;have C:Xq _:=fun a0 a1 a2 a3=>zl C5 T5 (F:=p.heap.size) (Xy _) (by omega) n1 a0 a1 a2 a3;cases ht:(t.toList == [41])
  ·rcases hf:mV b t w with _ | n
   ·have q:Xq (dN b w b[w].ZbC 1 (b[w].Zbp.drop 1) l.ZbB=((0,(2,⟨pf,pl,pc⟩)),a)):=(by show _=_;rw[d.o,ht,hf];simp);clear d;(go_upto_region 10 with (go_at_call 184;refine(jK z7 I w t b D _ (by exact R5) (by omega)).mono ?_;rintro e w6 ⟨rfl,A⟩;rw[A,hf];simp only[iu]));go_region
    all_goals go_wp2
    all_goals exact XG (v:=tuple #[int i64 0,agg #[int i64 2,string pf,int i64 pl,int i64 pc]]) (by simp[results,results182,go_sem,V,X,Y,Z]) rfl ⟨by rw[q.o];rfl,f,by rw[q.o];exact(eU.Zbj (C.o _ _ _ _).1 bH.drew),aw.Zbj (C.o _ _ _ _).2 bH.drew⟩
   ·obtain⟨k0,k1,k2,k3,k4⟩:=C5.cells;simp only at k0;clear k1 k2 k3 k4;have Q:aD O (f 0) (bK a):=aO.ZbH C5 0;cases hh:lp a n
    ·have q:Xq (dN b w b[w].ZbC 1 (b[w].Zbp.drop 1) l.ZbB=dN b w b[w].ZbC (i+1) (b[w].Zbp.drop (i+1)) (a++[n])):=(by show _=_;rw[d.o,ht,hf];simp[hh]);have P:=C5.Zbj ((aa.refl [] O).alloc (.cells #[int i64 n] 3));have ax:Xq (∀j,j≠0->Ba { l with ZbB:=a++[n] } j=Ba { l with ZbB:=a } j):=by
      intro j L
      match j,L with
      | 0,L=>exact absurd rfl L
      | 1,_=>rfl
      | 2,_=>rfl
      | m+3,_=>rfl
     clear d C V X Y Z yz;(go_upto_region 13 with (first | (go_at_call 184;refine(jK z7 I w t b D _ (by exact R5) (by omega)).mono ?_;rintro e w6 ⟨rfl,A⟩;rw[A,hf];simp only[iu]) | (go_at_call 215;refine(If (f 0) a n _ (by exact Q) (by omega)).mono ?_;rintro e w7 ⟨rfl,U⟩;rw[U])));go_wp2_with (at_builtin;refine aR _ rfl (.tmp 56) (.tmp 58) 25 rfl i0 (int i64 0) 8 (f 0) (bK a) underlying25 av az aS aT rfl XR rfl (by exact aO.ZbH P 0) ⟨_,0,none⟩ 1 1 [int i64 n] rfl rfl ?e1 ?e2 XR ?e3 ?e4 ?_)
     case e1=>intro j u L;match j,L with | 0,L=>simp at L;subst L;simp[Addr.add]
     case e2=>intro u hu;simp at hu;subst hu;rfl
     case e3=>simp only[bK];unfold maxLen;omega
     case e4=>simp only[bK];omega
     intro g8 c w8 aq J g;obtain⟨k5,f5,HP⟩:=aO.app P (cs':=nE { l with ZbB:=a++[n] } (gj f 0 ⟨some ⟨g8,0,none⟩,c⟩)) (rows':=Ba { l with ZbB:=a++[n] }) 0 0 g8 c ((bK a).n+1) _ aq (oQ a n) J (by simpa using g) ax.o (slice (f 0).ao a.length (f 0).cap) rfl (by simp[nE,gj,bK]);have T8:Xq _:=(T5.Zbj ((aa.refl [] O).alloc (.cells #[int i64 n] 3))).trans HP.o.2;have F8:Xq ((w8.setCell ⟨y,0,none⟩ (slice (some ⟨g8,0,none⟩) ((bK a).n+1) c)).heap[p.heap.size]?=some (.cells bM 165)):=HP.o.2.1.get (((aa.refl [] O).alloc _).get F5 (by simp)) (by rintro (e | e);omega;exact n1 e);have S8:Xq ((w8.setCell ⟨y,0,none⟩ (slice (some ⟨g8,0,none⟩) ((bK a).n+1) c)).heap[B.heap.size]?=some (.cells TB 158)):=HP.o.2.1.get (((aa.refl [] O).alloc _).get S5 (by simp)) (by rintro (e | e);omega;exact n2 e);have m1:Xq (¬eG (gj f 0 ⟨some ⟨g8,0,none⟩,c⟩) p.heap.size):=aw.fresh HP.o.2 _ (by have:=N.size;simp;omega) n1;have m2:Xq (¬eG (gj f 0 ⟨some ⟨g8,0,none⟩,c⟩) B.heap.size):=aw.fresh HP.o.2 _ (by have:=N.size;simp;omega) n2;clear aq J g k0 Q P v0 v1 v2 v3;go_wp2;go_roundg (b[w].Zbp.length-(i+1))
     ·exact⟨i+1,a++[n],_,by omega,by omega,rfl,by go_num,by simp;omega,q.o,HP.o.1,T8.o,F8.o,S8.o,m1.o,m2.o⟩
     omega
    ·have q:Xq (dN b w b[w].ZbC 1 (b[w].Zbp.drop 1) l.ZbB=((0,(3,⟨pf,pl,pc⟩)),a)):=(by show _=_;rw[d.o,ht,hf];simp[hh]);clear d;(go_upto_region 12 with (first | (go_at_call 184;refine(jK z7 I w t b D _ (by exact R5) (by omega)).mono ?_;rintro e w6 ⟨rfl,A⟩;rw[A,hf];simp only[iu]) | (go_at_call 215;refine(If (f 0) a n _ (by exact Q) (by omega)).mono ?_;rintro e w7 ⟨rfl,U⟩;rw[U])));go_region
     all_goals go_wp2
     all_goals exact XG (v:=tuple #[int i64 0,agg #[int i64 3,string pf,int i64 pl,int i64 pc]]) (by simp[results,results182,go_sem,V,X,Y,Z]) rfl ⟨by rw[q.o];rfl,f,by rw[q.o];exact(eU.Zbj (C.o _ _ _ _).1 bH.drew),aw.Zbj (C.o _ _ _ _).2 bH.drew⟩
  ·have q:Xq (dN b w b[w].ZbC 1 (b[w].Zbp.drop 1) l.ZbB=((i+1,dJ),a)):=(by show _=_;rw[d.o,ht];simp);clear d;go_wp2;exact XG (v:=tuple #[int i64 (i+1),agg #[int i64 0,string ⟨#[]⟩,int i64 0,int i64 0]]) (by simp[results,results182,go_sem,V,X,Y,Z]) rfl
    ⟨by rw[q.o];rfl,f,by rw[q.o];exact(C.o _ _ _ _).1,(C.o _ _ _ _).2⟩
 ·have q:Xq (dN b w b[w].ZbC 1 (b[w].Zbp.drop 1) l.ZbB=((0,(3,b[w].ZbC)),a)):=hR.o.trans (JI b w b[w].ZbC i b[w].Zbp a T);have t3:wr.cell? ⟨B.heap.size,3,none⟩=some (slice AO b[w].Zbp.length (D (11+2*w)).cap):=by rw[ab M,r.o];rfl
  have t4:wr.cell? ⟨B.heap.size,4,none⟩=some (string b[w].ZbC.ZbD):=by rw[ab M,r.o];rfl
  have t5:wr.cell? ⟨B.heap.size,5,none⟩=some (int i64 b[w].ZbC.ZbE):=by rw[ab M,r.o];rfl
  have t6:wr.cell? ⟨B.heap.size,6,none⟩=some (int i64 b[w].ZbC.ZbF):=by rw[ab M,r.o];rfl
  have C:Xq _:=(fun a0 a1 a2 a3=>zl hC hT (F:=p.heap.size) (Xy _) (by omega) n1 a0 a1 a2 a3);clear hR R;go_upto_region 14 with fail
  go_region
  all_goals go_wp2
  all_goals exact XG (v:=tuple #[int i64 0,agg #[int i64 3,string b[w].ZbC.ZbD,int i64 b[w].ZbC.ZbE,int i64 b[w].ZbC.ZbF]]) (by simp[results,results182,go_sem,V,X,Y,Z]) rfl ⟨by rw[q.o];rfl,f,by rw[q.o];exact(eU.Zbj (C.o _ _ _ _).1 bH.drew),aw.Zbj (C.o _ _ _ _).2 bH.drew⟩
def gy(l:List St)(a:Nat)(ZbC:Pl):List (Xr×Pl)->List oI->List oI×sB
 | [],acc=>if acc.length=0 then([],(1,ZbC)) else(acc,dJ)
 | (t,p) :: r,acc =>
  if(t.toList == [63])=true then gy l a ZbC r (acc++[⟨1,0,p⟩])
  else match mV l t a with
   | none=>([],(2,p))
   | some n=>gy l a ZbC r (acc++[⟨2,n,p⟩])
theorem Sp(b:w<i.length) :
  gy z5 I a (i.drop w) zf=if(i[w].1.toList == [63])=true then gy z5 I a (i.drop (w+1)) (zf++[⟨1,0,i[w].2⟩])
   else match mV z5 i[w].1 I with
    | none=>([],(2,i[w].2))
    | some n=>gy z5 I a (i.drop (w+1)) (zf++[⟨2,n,i[w].2⟩]):=by
 rw[X0 b];rfl
theorem OH(b:¬w<i.length):gy z5 I a (i.drop w) zf=if zf.length=0 then([],(1,a)) else(zf,dJ):=by
 rw[YQ (by omega)];rfl
theorem mN{F:Nat}(K:aa [] d z4)(a:d.heap.size<=F)(b c e f:Value):aa [] d ((((z4.setCell ⟨F,0,none⟩ b).setCell ⟨F,1,none⟩ c).setCell ⟨F,2,none⟩ e).setCell ⟨F,3,none⟩ f) :=
 (((K.setCell (XK a) _).setCell (XK a) _).setCell (XK a) _).setCell (XK a) _
theorem R4(K:aa [] d z4)(a:d.heap.size<=n)(b c e f g:Value):aa [] d (((((z4.setCell ⟨n,0,none⟩ b).setCell ⟨n,1,none⟩ c).setCell ⟨n,2,none⟩ e).setCell ⟨n,3,none⟩ f).setCell ⟨n,4,none⟩ g) :=
 ((((K.setCell (XK a) _).setCell (XK a) _).setCell (XK a) _).setCell (XK a) _).setCell (XK a) _
theorem tC(hr:dQ H z7 I b D)(ha:w<b.length)(ok:iV b) :
  Calls prog 138 #[pointer (some ⟨z7,I,none⟩),int i64 w] H fun e w'=>∃l:Hd,
   e=returned (tuple #[slice l.ao (gy b w b[w].ZbC b[w].Zbp []).1.length l.cap,jh (gy b w b[w].ZbC b[w].Zbp []).2])/\aD w' l (iO (gy b w b[w].ZbC b[w].Zbp []).1)/\(∀x,l.Zbx=some x->H.heap.size<=x)/\aa [] H w':=by
 obtain⟨i0,ai,am,O,an⟩:=XV Xc;have a0:=ok.len;have a2:=ok.prfs w ha;obtain⟨AO,ac⟩:=aP ((D (11+2*w)).ao);obtain⟨W,hW⟩:∃W,W=H.alloc (.cells #[int i64 0,string ⟨#[]⟩,int i64 0,int i64 0] 165):=⟨_,rfl⟩
 have K:=dx hW.symm;have BF:W.heap[H.heap.size]?=some (.cells bM 165):=by rw[hW];exact XD _ _
 have HW:Xq _:=hW.symm;clear hW;go_enter func138,ntmps138;go_upto_region 1 with fail
 rw[HW.o];go_wp2_with fail;refine(bu z7 I w b D _ (hr.Zbj K) ha).mono ?_;rintro e Q ⟨rfl,N⟩;unfold du;rw[ac.o];obtain⟨q,F⟩:∃q,q=Q.alloc (.cells #[int i64 b[w].Zby,string b[w].Zbz,slice (D (10+2*w)).ao b[w].Zbe.length (D (10+2*w)).cap,slice AO b[w].Zbp.length (D (11+2*w)).cap,string b[w].ZbC.ZbD,int i64 b[w].ZbC.ZbE,int i64 b[w].ZbC.ZbF,int i64 b[w].til] 158):=⟨_,rfl⟩
 have ad:Xq _:=F.symm;have K2:aa [] H q:=by rw[F];exact(K.trans N).alloc _
 obtain⟨TB,X⟩:∃TB:Array Value,TB=#[int i64 b[w].Zby,string b[w].Zbz,slice (D (10+2*w)).ao b[w].Zbe.length (D (10+2*w)).cap,slice AO b[w].Zbp.length (D (11+2*w)).cap,string b[w].ZbC.ZbD,int i64 b[w].ZbC.ZbE,int i64 b[w].ZbC.ZbF,int i64 b[w].til]:=⟨_,rfl⟩
 have BT:q.heap[Q.heap.size]?=some (.cells TB 158):=by rw[F,X];exact XD _ _
 have aq:q.heap[H.heap.size]?=some (.cells bM 165):=by rw[F];exact(bH.alloc _).get (N.get BF (by simp)) (by simp)
 have a3:H.heap.size<Q.heap.size:=by have:=ah (N.get BF (by simp));omega
 have a4:=ah BT;have A:Xq _:=X;clear F X;go_upto_region 2 with fail
 rw[ad.o];clear HW ad N BF K;go_wp2
 go_loopg [7,8] b[w].Zbp.length (fun gk sv iv wr=>∃(i:Nat) (a:List oI) (l:Hd),i<=b[w].Zbp.length/\gk=b[w].Zbp.length-i/\iv=int i64 i/\sv=slice l.ao a.length l.cap/\a.length<=i/\Xq (gy b w b[w].ZbC b[w].Zbp []=gy b w b[w].ZbC (b[w].Zbp.drop i) a)/\aD wr l (iO a)/\(∀x,l.Zbx=some x->q.heap.size<=x) /\
  aa [] q wr)
 ·exact⟨0,[],⟨none,0⟩,by omega,by omega,rfl,rfl,by simp,rfl,XE _ _ _ _,by intro x k;simp[Hd.Zbx]at k,aa.refl _ _⟩
 obtain⟨i,a,l,hi,hg,rfl,rfl,a1,hR,hO,hN,hK⟩:=hrel;have KW:=K2.trans hK;have al:=hr.Zbj KW;have B1:=hK.get aq (by simp);have B2:=hK.get BT (by simp);obtain⟨z0,z1,z2,z3⟩:=dM B1;have yz:=zcW B1;have V:=al.Zbv.prfs w b[w] (Xv ha);have az:=K2.size;by_cases Y:i<b[w].Zbp.length
 ·obtain⟨gp,ep,aT,av,d0,d1,d2,d3⟩:=V.word i Y;obtain rfl:AO=some ⟨gp,0,none⟩:=ac.o.symm.trans ep;have t3:wr.cell? ⟨Q.heap.size,3,none⟩=some (slice (some ⟨gp,0,none⟩) b[w].Zbp.length (D (11+2*w)).cap):=by rw[ab B2,A.o];rfl
  clear ep;have BL:=Sp b w b[w].ZbC i b[w].Zbp a Y;have p:Xq _:=hR.o.trans BL;clear BL hR V;generalize hwd:b[w].Zbp[i]=wd at *;obtain⟨t,f,g,d⟩:=wd;simp only at d0 d1 d2 d3 p;obtain⟨s,G⟩:∃s,s=(wr.alloc (.cells #[string t,string f,int i64 g,int i64 d] 229)).alloc (.cells #[int i64 1,int i64 0,string f,int i64 g,int i64 d] 174):=⟨_,rfl⟩
  have K5:aa [] wr s:=by rw[G];exact(bH.alloc _).alloc _
  have B5:s.heap[wr.heap.size]?=some (.cells #[string t,string f,int i64 g,int i64 d] 229):=by rw[G];exact(bH.alloc _).get (XD _ _) (by simp)
  have S5:s.heap[wr.heap.size+1]?=some (.cells #[int i64 1,int i64 0,string f,int i64 g,int i64 d] 174):=by
   rw[G];have:=XD (wr.alloc (.cells #[string t,string f,int i64 g,int i64 d] 229)) (.cells #[int i64 1,int i64 0,string f,int i64 g,int i64 d] 174);simpa using this
  have af:Xq _:=G.symm;clear G;go_upto_region 8 with fail
  rw[af.o];clear af d0 d1 d2 d3 t3 z0 z1 z2 z3 yz;obtain⟨v0,v1,v2,v3⟩:=zU B5;obtain⟨u0,u1,u2,u3,u4⟩:=nJ S5;have yu:=zcW S5;have M:aD s l (iO a):=hO.Zbo (fun x k=>K5.block x (hO.lt k) (by simp));have R5:=al.Zbj K5;have F5:=K5.get B1 (by simp);obtain⟨z0,z1,z2,z3⟩:=dM F5;have yz:=zcW F5;have R:Xq (aa [] q s):=hK.trans K5;cases ht:(t.toList == [63])
  ·have aS:(t.toList != [63])=true:=(by simp[bne,ht]);rcases hf:mV b t w with _ | n
   ·have y:Xq (gy b w b[w].ZbC b[w].Zbp []=([],(2,⟨f,g,d⟩))):=(by show _=_;rw[p.o,ht,hf];simp);clear p;(go_upto_region 11 with (go_at_call 184;refine(jK z7 I w t b D _ (by exact R5) (by omega)).mono ?_;rintro e w6 ⟨rfl,Z⟩;rw[Z,hf];simp only[iu]));go_region
    all_goals go_wp2
    all_goals exact XG (v:=tuple #[slice none 0 0,agg #[int i64 2,string f,int i64 g,int i64 d]]) (by simp[results,results138,go_sem,z0,z1,z2,z3]) rfl ⟨⟨none,0⟩,by rw[y.o];rfl,by rw[y.o];exact XE _ _ _ _,by intro x k;simp[Hd.Zbx]at k,(mN (K2.trans R.o) (Xy _) _ _ _ _).drew⟩
   ·have y:Xq (gy b w b[w].ZbC b[w].Zbp []=gy b w b[w].ZbC (b[w].Zbp.drop (i+1)) (a++[⟨2,n,⟨f,g,d⟩⟩])):=(by show _=_;rw[p.o,ht,hf];simp);clear p;obtain⟨B,J⟩:∃B,B=((((s.setCell ⟨wr.heap.size+1,0,none⟩ (int i64 2)).setCell ⟨wr.heap.size+1,1,none⟩ (int i64 n)).setCell ⟨wr.heap.size+1,2,none⟩ (string f)).setCell ⟨wr.heap.size+1,3,none⟩ (int i64 g)).setCell ⟨wr.heap.size+1,4,none⟩ (int i64 d):=⟨_,rfl⟩
    have ap:aa [wr.heap.size+1] s B:=(by rw[J];exact((((((aa.refl _ _).sl1 _).sl1 _).sl1 _).sl1 _).sl1 _));have S6:B.heap[wr.heap.size+1]?=some (.cells #[int i64 2,int i64 n,string f,int i64 g,int i64 d] 174):=by
     rw[J,ae (ae (ae (ae (ae S5 _ _) _ _) _ _) _ _)];rfl
    have ar:Xq (aa [] q B):=by
     show aa [] q B;rw[J];exact R4 R.o (by have:=hK.size;omega) _ _ _ _ _
    have P:aD B l (iO a):=M.Zbo (fun x k=>ap.block x (M.lt k) (by simp;rintro rfl;have:=hO.lt k;omega));have ag:Xq _:=J.symm;clear J ap;(go_upto_region 13 with (go_at_call 184;refine(jK z7 I w t b D _ (by exact R5) (by omega)).mono ?_;rintro e w6 ⟨rfl,Z⟩;rw[Z,hf];simp only[iu]));rw[ag.o];clear ag u0 u1 u2 u3 u4 yu;obtain⟨u0,u1,u2,u3,u4⟩:=nJ S6;have E:=P.Zbo (fun x k=>((aa.refl [] B).alloc (.cells #[int i64 2,int i64 n,string f,int i64 g,int i64 d] 174)).block x (P.lt k) (by simp));have K6:Xq (aa [] q (B.alloc (.cells #[int i64 2,int i64 n,string f,int i64 g,int i64 d] 174))):=aa.alloc ar.o _;clear z0 z1 z2 z3 yz v0 v1 v2 v3;go_wp2_with (at_builtin;refine aR _ rfl (.tmp 47) (.tmp 49) 163 rfl i0 (agg #[int i64 0,int i64 0,string ⟨#[]⟩,int i64 0,int i64 0]) 48 l (iO a) underlying163 ai am O an rfl (ZD 4) rfl (by exact E) ⟨_,0,none⟩ 1 1 (mO ⟨2,n,⟨f,g,d⟩⟩) rfl rfl ?e1 (xX _) XR ?e3 ?e4 ?_)
    case e1 =>
     intro j u hj;have hk:(B.alloc (.cells #[int i64 2,int i64 n,string f,int i64 g,int i64 d] 174)).heap[B.heap.size]?=some (.cells #[int i64 2,int i64 n,string f,int i64 g,int i64 d] 174):=XD _ _;rw[bE,ab hk];simpa [mO] using hj
    case e3=>simp only[iO];unfold maxLen;omega
    case e4=>simp only[iO];omega
    intro S C w8 L m c;rw[xS a ⟨2,n,⟨f,g,d⟩⟩]at L;have U:=(K6.o).grown m hN;have ax:q.heap.size<=S:=by
     rcases c with e | e
     ·exact hN S e
     ·have:=K6.o.size;simp at e this;omega
    have T:Xq ((iO a).n+1=(a++[(⟨2,n,⟨f,g,d⟩⟩:oI)]).length):=cm (by simp[iO]);rw[T.o];clear m c E;go_wp2;go_roundg (b[w].Zbp.length-(i+1))
    ·exact⟨i+1,a++[⟨2,n,⟨f,g,d⟩⟩],⟨some ⟨S,0,none⟩,C⟩,by omega,rfl,by go_num,rfl,by simp;omega,y,L,by intro x k;simp[Hd.Zbx]at k;omega,U⟩
    omega
  ·have aS:(t.toList != [63])=false:=(by simp[bne,ht]);have y:Xq (gy b w b[w].ZbC b[w].Zbp []=gy b w b[w].ZbC (b[w].Zbp.drop (i+1)) (a++[⟨1,0,⟨f,g,d⟩⟩])):=cm (by rw[p.o,ht];simp);clear p;have E:=M.Zbo (fun x k=>((aa.refl [] s).alloc (.cells #[int i64 1,int i64 0,string f,int i64 g,int i64 d] 174)).block x (M.lt k) (by simp));have K6:Xq (aa [] q (s.alloc (.cells #[int i64 1,int i64 0,string f,int i64 g,int i64 d] 174))):=aa.alloc R.o _;clear z0 z1 z2 z3 yz;(go_upto_region 13 with fail);clear v0 v1 v2 v3;go_wp2_with (at_builtin;refine aR _ rfl (.tmp 47) (.tmp 49) 163 rfl i0 (agg #[int i64 0,int i64 0,string ⟨#[]⟩,int i64 0,int i64 0]) 48 l (iO a) underlying163 ai am O an rfl (ZD 4) rfl (by exact E) ⟨_,0,none⟩ 1 1 (mO ⟨1,0,⟨f,g,d⟩⟩) rfl rfl ?e1 (xX _) XR ?e3 ?e4 ?_)
   case e1 =>
    intro j u hj;have hk:(s.alloc (.cells #[int i64 1,int i64 0,string f,int i64 g,int i64 d] 174)).heap[s.heap.size]?=some (.cells #[int i64 1,int i64 0,string f,int i64 g,int i64 d] 174):=XD _ _;rw[bE,ab hk];simpa [mO] using hj
   case e3=>simp only[iO];unfold maxLen;omega
   case e4=>simp only[iO];omega
   intro S C w8 L m c;rw[xS a ⟨1,0,⟨f,g,d⟩⟩]at L;have U:=(K6.o).grown m hN;have ax:q.heap.size<=S:=by
    rcases c with e | e
    ·exact hN S e
    ·have:=K6.o.size;simp at e this;omega
   have T:Xq ((iO a).n+1=(a++[(⟨1,0,⟨f,g,d⟩⟩:oI)]).length):=cm (by simp[iO]);rw[T.o];clear m c E;go_wp2;go_roundg (b[w].Zbp.length-(i+1))
   ·exact⟨i+1,a++[⟨1,0,⟨f,g,d⟩⟩],⟨some ⟨S,0,none⟩,C⟩,by omega,rfl,by go_num,rfl,by simp;omega,y,L,by intro x k;simp[Hd.Zbx]at k;omega,U⟩
   omega
 ·have y:Xq (gy b w b[w].ZbC b[w].Zbp []=if a.length=0 then([],(1,b[w].ZbC)) else(a,dJ)):=hR.o.trans (OH b w b[w].ZbC i b[w].Zbp a Y);have t3:wr.cell? ⟨Q.heap.size,3,none⟩=some (slice AO b[w].Zbp.length (D (11+2*w)).cap):=by rw[ab B2,A.o];rfl
  have t4:wr.cell? ⟨Q.heap.size,4,none⟩=some (string b[w].ZbC.ZbD):=by rw[ab B2,A.o];rfl
  have t5:wr.cell? ⟨Q.heap.size,5,none⟩=some (int i64 b[w].ZbC.ZbE):=by rw[ab B2,A.o];rfl
  have t6:wr.cell? ⟨Q.heap.size,6,none⟩=some (int i64 b[w].ZbC.ZbF):=by rw[ab B2,A.o];rfl
  clear hR V;by_cases hz:a.length=0
  ·have O:((a.length:Int)==0)=true:=(by simp[hz]);have z:Xq (gy b w b[w].ZbC b[w].Zbp []=([],(1,b[w].ZbC))):=cm (by rw[y.o,XA hz]);clear y hz;(go_upto_region 15 with fail);go_region
   all_goals go_wp2
   all_goals exact XG (v:=tuple #[slice none 0 0,agg #[int i64 1,string b[w].ZbC.ZbD,int i64 b[w].ZbC.ZbE,int i64 b[w].ZbC.ZbF]]) (by simp[results,results138,go_sem,z0,z1,z2,z3]) rfl ⟨⟨none,0⟩,by rw[z.o];rfl,by rw[z.o];exact XE _ _ _ _,by intro x k;simp[Hd.Zbx]at k,(mN KW (Xy _) _ _ _ _).drew⟩
  ·have O:((a.length:Int)==0)=false:=X6.2 (by omega);have z:Xq (gy b w b[w].ZbC b[w].Zbp []=(a,dJ)):=cm (by rw[y.o,Xz hz]);clear y hz;go_wp2;exact XG (v:=tuple #[slice l.ao a.length l.cap,agg #[int i64 0,string ⟨#[]⟩,int i64 0,int i64 0]]) (by simp[results,results138,go_sem,z0,z1,z2,z3]) rfl
    ⟨l,by rw[z.o];rfl,by rw[z.o];exact hO.Zbo (fun x k=>(kJ (r:=H.heap.size) _ _ _ _).block x (hO.lt k) (by simp;rintro rfl;have:=hN _ k;omega)),fun x k=>XF az (hN x k),mN KW (Xy _) _ _ _ _⟩
def rR:List (Xr×Pl)->nC->sB×nC
 | [],c=>(dJ,c)
 | (t,p) :: r,c=>if((nB t p c).1.1==0)=true then rR r (nB t p c).2 else nB t p c
def Kv(f:sB)(ws:List (Xr×Pl))(c:nC):sB×nC:=if(f.1==0)=true then rR ws c else(f,c)
theorem zaZ(a:o<i.length)(h:(z8.1==0)=true):Kv z8 (i.drop o) g=Kv (nB i[o].1 i[o].2 g).1 (i.drop (o+1)) (nB i[o].1 i[o].2 g).2:=by
 unfold Kv;rw[XA h,X0 a];rfl
theorem VX(a:¬o<i.length)(h:(z8.1==0)=true):Kv z8 (i.drop o) g=(dJ,g):=by
 unfold Kv;rw[XA h,YQ (by omega)];rfl
theorem MN(h:(z8.1==0)=false):Kv z8 i g=(z8,g):=by
 unfold Kv;rw[Xz (by rw[h];simp)]
theorem CJ(c:List (Xr×Pl))(i:Nat)(b:Xu):(dN z5 I a i c b).1.1<=i+c.length/\(dN z5 I a i c b).2.length<=b.length+c.length:=by
 induction c generalizing i b with
 | nil=>simp[dN]
 | cons x r d =>
  obtain⟨t,p⟩:=x;rw[dN];split
  ·simp
  ·split
   ·simp
   ·split
    ·simp
    ·next n _ _=>have:=d (i+1) (b++[n]);simp at this ⊢;omega
theorem iU.mono{M:Nat}(h:iU N n)(k:n<=M):iU N M:=⟨XF h.ZbB k,XF h.Zbr k,XF h.steps k,by have:=h.Zbl;omega,h.behind⟩
theorem LM(f:Nat):∀(j:Nat) (c:nC) (N:Nat),iU c (N+j)->j<=T.size->iU (iA T a f j c).2 (N+T.size):=by
 induction f with
 | zero=>intro j c N h e;exact h.mono (by omega)
 | succ f i =>
  intro j c N h e;rw[iA];split
  ·next g =>
   have b:=h.letter (aL T j).toNat { a with ZbF:=a.ZbF+j };split
   ·exact i (j+1) _ N (by rw[<-Zbb];exact b) (by omega)
   ·exact b.mono (by omega)
  ·exact h.mono (by omega)
theorem DJ(h:iU N n):iU (nB T a N).2 (n+T.size):=LM T a _ 0 N n h (XX _)
def lW(ws:List (Xr×Pl)):Nat:=(ws.map (fun x=>x.1.size)).sum
theorem Lc(a:o<i.length):lW (i.drop o)=i[o].1.size+lW (i.drop (o+1)):=by
 have e:=X0 a;simp only[lW];rw[e];rfl
theorem IK(a:List (Xr×Pl))(i:Nat):lW (a.drop i)<=lW a:=by
 induction i generalizing a with
 | zero=>simp
 | succ i b =>
  cases a with
  | nil=>simp
  | cons x r=>have:=b r;simp[lW]at this ⊢;omega
structure CD(s:St):Prop where
 size:lW s.Zbp<=1000000
 ZbF:∀x∈s.Zbp,-1000000000<=x.2.ZbF/\x.2.ZbF<=1000000000
def Gb(l:List St)(a:Nat)(s:St):sB×nC :=
 Kv (dN l a s.ZbC 1 (s.Zbp.drop 1) (aM l a)).1.2 (s.Zbp.drop (dN l a s.ZbC 1 (s.Zbp.drop 1) (aM l a)).1.1) ⟨(dN l a s.ZbC 1 (s.Zbp.drop 1) (aM l a)).2,[],[],0,false⟩
def we(ZbC:Pl)(R:sB×nC):List oI×sB :=
 if(R.1.1==0)=true then
  (if R.2.Zbl=0 then(if R.2.steps.length=0 then([],(1,ZbC)) else(R.2.steps,dJ)) else([],(4,ZbC)))
 else([],R.1)
def mM(l:List St)(a:Nat)(s:St):List oI×sB:=we s.ZbC (Gb l a s)
def Ck(hd:Hd):Nat->Hd
 | 0=>hd
 | _+1=>⟨none,0⟩
theorem UQ{cs:List Value}{rows:Nat->eD}(o:aD d z6 (rows 0))(f:∀i,aD (d.alloc (.cells cs.toArray n)) ⟨none,0⟩ (rows (i+1))):aO (d.alloc (.cells cs.toArray n)) d.heap.size n cs rows (Ck z6):=by
 refine⟨XD _ _,?_,?_,?_⟩
 ·intro i;cases i with
  | zero=>exact o.Zbo (fun x c=>((aa.refl [] d).alloc _).block x (o.lt c) (by simp))
  | succ i=>exact f i
 ·intro i j a;cases i with
  | zero =>
   cases j with
   | zero=>exact absurd rfl a
   | succ j =>
    have b:(Ck z6 (j+1)).Zbx=none:=rfl;rw[b,show Ck z6 0=z6 from rfl];cases h:z6.Zbx with
    | none=>exact XQ rfl
    | some x=>right;simp
  | succ i=>left;rfl
 ·intro i;cases i with
  | zero=>intro e;have:=o.lt e;omega
  | succ i=>intro e;simp[Ck,Hd.Zbx]at e
theorem VW(h:eG (Ck z6) n):z6.Zbx=some n:=by
 obtain⟨i,a⟩:=h;cases i with
 | zero=>exact a
 | succ i=>simp[Ck,Hd.Zbx]at a
end Go.Proofs.YtpdholcaobgofaaGreat
