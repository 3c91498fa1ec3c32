import Derived.Test.YtnbalopedcgpcaaGreatG16
namespace Go.Proofs.YtnbalopedcgpcaaGreat
open Go.RowKit Tryz
open Value renaming int->Xx,string->Xy,slice->Xz,pointer->XA,agg->XB,bool->XC,tuple->XD
open Obj renaming cells->XE
open IntKind renaming i64->XF
open Ending renaming returned->XH
open World renaming cell?->XI
open Option renaming none->XJ,some->XK
open Bool renaming true->XL,false->XM
open Go.RowKit renaming Hid->XN
open Go renaming Calls->XO,World->XP,Value->XQ
set_option maxHeartbeats 0
variable{x I:XP}{T i D L m z5:Nat}{k z8:Nat->Hd}{z7:List St}{z6:Hd}{o s:List Ex}{y2:List ByteArray}(M f:XP)(H n y d:Nat)(a:List St)(l b:Nat)(w:List St)(S:Nat->Hd)(N:List Nat)(z4:List (List ByteArray))
def gB(vs:List ByteArray)(bs:List (List ByteArray))(k n:Nat):List Nat:=if n<k then ik vs (bs.getD n []) else []
theorem fz.congr{F c:Nat->List Nat}(h:fz x T i F k)(e:∀n,n<i->F n=c n):fz x T i c k:=by
 obtain⟨b,d,f,g⟩:=h.arr;exact⟨⟨b,d,f,fun n a=>by rw[<-e n a];exact g n a⟩,fun n a=>by rw[<-e n a];exact h.own n a,h.off⟩
set_option maxRecDepth 100000
theorem Da(c:List ByteArray)(T:List Bool)(Q N o:Hd)(a:List Ex)(w:XP)(hp:ui w H n y d l b)(h:im w b c T Q N)(ai:c.length<=10000)(C:aE w o (dv a))(ad:a.length<=10000)(B:∀e∈a,cE w e.hd e.xs/\e.xs.length<=10000) :
  XO prog 213 #[XA (XK ⟨H,0,XJ⟩),Xz o.ao a.length o.cap] w fun e U=>∃(M:Nat) (K:Nat->Hd),e=XH (Xz (XK ⟨M,0,XJ⟩) a.length a.length)/\fz U M a.length (gB c (a.map Ex.xs) a.length) K/\aa [] w U:=by
 obtain⟨i0,hi,E,F,G⟩:=Qq MR;have S:=fun w=>bR (P:=prog) w 189 46 i0 _ underlying189 hi E a.length 1 F (by rw[G];omega) (by omega);obtain⟨q,g⟩:∃q,q=madeCells (Xz XJ 0 0).cells (a.length*1):=⟨_,rfl⟩
 rw[<-g]at S;have I:XN (fz (w.alloc (XE q 46)) w.heap.size a.length (gB c (a.map Ex.xs) 0) fh):=by
  refine⟨⟨q,PM _ _,by rw[g,QV];omega,?_⟩,?_,fun l _ e=>by simp[fh,Hd.blk]at e⟩
  ·intro l O;have e:gB c (a.map Ex.xs) 0 l=[]:=(by unfold gB;rw[PV (by omega)]);rw[e,g];exact wU _ _ _ (by omega)
  ·intro l O;have e:gB c (a.map Ex.xs) 0 l=[]:=(by unfold gB;rw[PV (by omega)]);rw[e];exact Qj _ _ _ _
 clear g;go_enter func213,ntmps213;go_wp2
 go_loopg [6] a.length (fun gk i wr=>∃(k:Nat) (K:Nat->Hd),k<=a.length/\gk=a.length-k/\i=Xx XF k/\fz wr w.heap.size a.length (gB c (a.map Ex.xs) k) K/\aa [] w wr)
 case atStart=>exact⟨0,fh,by omega,by omega,rfl,I.out,(aa.refl _ _).alloc _⟩
 case round =>
  obtain⟨k,K,hk,hg,rfl,z,m⟩:=hrel;clear I S;by_cases f:k<a.length
  ·rcases C.UC with ⟨_,h0,_⟩ | ⟨gb,J,t,-,u,-⟩
   ·have:a.length=0:=h0;omega
   have p:aE wr o (dv a):=C.Uw (fun x hx=>m.block x (C.lt hx) (by simp));have Y:=p.cell t k (rF a[k]) (oO a k f);have ag:a.length<=o.cap:=u;obtain⟨D,am⟩:=B a[k] (PT f);have V:=s8 H n y d l b c T Q N a[k].hd a[k].xs wr (hp.Ur m) (h.Ur m) (by omega) (D.Ur m) (by omega);have s:XN (∀l,l<a.length->C1 (gB c (a.map Ex.xs) k) k (ik c a[k].xs) l=gB c (a.map Ex.xs) (k+1) l):=by
    intro l O;unfold C1 gB;by_cases e:l=k
    ·subst e;simp[f]
    ·rw[PV e];by_cases L:l<k
     ·rw[PZ L,PZ (by omega)]
     ·rw[PV L,PV (by omega)]
   unfold rF at Y;obtain⟨ao,X⟩:=o;simp only at t;subst t;have ah:=z.lt;clear p;generalize a[k]=Z at *;go_wp2_with fail;refine V.mono ?_;rintro e w2 ⟨hd,rfl,o2,n2,R⟩;have j:=z.Ur R;have c2:=j.cell k f;have f2:=j.free;have W:XN _:=((j.store (k:=k) (ik c Z.xs) hd o2 (fun e=>by have:=n2 _ e;omega)).congr s.out);have ac:=m.size;have A:=(m.trans R);have r:XN (∀v,aa [] w (w2.setCell ⟨w.heap.size,k,XJ⟩ v)):=fun v=>A.setCell (P7 (PQ _)) v;go_wp2;go_roundg (a.length-(k+1))
   case measure=>omega
   case rel=>exact⟨k+1,_,by omega,rfl,by go_num,W.out,r.out _⟩
  ·have e:k=a.length:=(by omega);subst e;go_wp2;go_ret;exact⟨_,K,rfl,z,m⟩
def lm(l:List St)(a:Nat)(S:List ByteArray×List (List ByteArray))(vs:List ByteArray)(ms:List Bool)(i j:Nat):Bool :=
 !(cR S.1.length (cT l a S.1) i j)||ul vs.length ms (ik vs (S.2.getD i [])) (ik vs (S.2.getD j []))
def j9(l:List St)(a:Nat)(S:List ByteArray×List (List ByteArray))(vs:List ByteArray)(ms:List Bool):Bool :=
 decide (∀i,i<S.1.length->∀j,j<S.1.length->i<j->lm l a S vs ms i j=XL)
theorem sR(a sb:Nat)(o:List St)(HR:Nat->Hd)(f:List ByteArray)(r:List Bool)(hv hm:Hd)(m:List ByteArray)(c:List Ex)(D:Nat->Hd)(w:XP)(hp:ui w H n y d l b)(h:im w b f r hv hm)(az:r.length=f.length*f.length)(ag:f.length<=10000)(hr:cK w n y o HR)(ok:dB o)(N:jf w sb m c D)(O:m.length<=10000)(ah:∀e∈c,e.xs.length<=10000) :
  XO prog 210 #[XA (XK ⟨H,0,XJ⟩),Xx XF a,XA (XK ⟨sb,0,XJ⟩)] w fun e J=>e=XH (XC (j9 o a (m,c.map Ex.xs) f r))/\aa [] w J:=by
 obtain⟨p0,p1,p2⟩:=hp.cells;obtain⟨s0,s1⟩:=N.cells;have F:XN (c.length=m.length):=N.len;have aq:c.length<=10000:=by rw[F.out];exact O
 obtain⟨R,V⟩:∃R,XN (R=j9 o a (m,c.map Ex.xs) f r):=⟨_,rfl⟩
 rw[<-V.out];have T:∀t,aa [] w t->aE t (D 0) (au m):=fun t I=>(N.Ur I).bag.own 0;have U:∀t,aa [] w t->aE t (D 1) (dv c):=fun t I=>(N.Ur I).bag.own 1;have P:XN _:=fun t (I:aa [] w t)=>Ba n y a o HR (D 0) m t (hr.Ur I) ok (T t I) O;have HC:XN (∀J,aa [] w.drew J->XI J ⟨H,0,XJ⟩=XK (XA (XK ⟨n,y,XJ⟩))/\XI J ⟨sb,0,XJ⟩=XK (Xz (D 0).ao m.length (D 0).cap)):=by
  intro J k;exact⟨(hp.Ur ((aa.refl [] w).drew.trans k)).cells.1,(N.Ur ((aa.refl [] w).drew.trans k)).cells.1⟩
 have a9:=N.bag.lt;go_enter func210,ntmps210;go_upto_region 1 with fail
 go_region_held3 (fun J=>XI J ⟨H,0,XJ⟩=XK (XA (XK ⟨n,y,XJ⟩))/\XI J ⟨sb,0,XJ⟩=XK (Xz (D 0).ao m.length (D 0).cap)) (go_keep) (first | (go_at_call 148;refine(P.out _ (by exact(aa.refl [] _).drew)).mono ?_;rintro e t ⟨a2,a1,av,rfl,A2,-,-,I⟩;obtain⟨x0,x1⟩:=HC.out t I));have W:=(aa.refl [] w).drew.trans I;have ad:=N.Ur W;obtain⟨y0,y1⟩:=ad.cells;have WI:=Da H n y d l b f r hv hm (D 1) c t (hp.Ur W) (h.Ur W) ag (U t W) aq (fun e he=>⟨(ad.exs e he).view,ah e he⟩);have ac:=gR o a m o.length;go_wp2_with fail;refine WI.mono ?_;rintro e w2 ⟨g2,K,rfl,G2,k2⟩;have ai:=A2.Ur k2;have K2:=W.trans k2;have a0:=hp.Ur K2;have M:=h.Ur K2;have HT:XN (R=XL ↔ ∀i,i<c.length->∀j,j<c.length->i<j->lm o a (m,c.map Ex.xs) f r i j=XL):=by
  show _ ↔ _;rw[V.out,F.out];unfold j9;rw[decide_eq_true_iff]
 have Q:XN (∀l,∀x∈gB f (c.map Ex.xs) c.length l,x<f.length):=by
  intro l x hx;unfold gB at hx;split at hx
  ·exact GL hx
  ·cases hx
 have S:XN (∀l,l<c.length->(gB f (c.map Ex.xs) c.length l).length<=10000):=by
  intro l hn;unfold gB;rw[PZ hn];refine Qk (Dc _ _) ?_;rw[PK];simp[hn];exact ah _ (PT hn)
 have am:XN (∀i j,i<c.length->j<c.length->lm o a (m,c.map Ex.xs) f r i j=(!(cR m.length (cT o a m) i j)||ul f.length r (gB f (c.map Ex.xs) c.length i) (gB f (c.map Ex.xs) c.length j))):=by
  intro i j hi hj;unfold lm gB;rw[PZ hi,PZ hj]
 clear WI T U P HC y0 y1 p0 p1 p2 s0 s1 x0 x1;go_wp2
 go_loopg [9] c.length (fun gk iv wr=>∃(i:Nat),i<=c.length/\gk=c.length-i/\iv=Xx XF i/\XN (∀A,A<i->∀g,g<c.length->A<g->lm o a (m,c.map Ex.xs) f r A g=XL)/\aa [] w2 wr)
 case atStart=>exact⟨0,by omega,by omega,rfl,fun A a5=>by omega,aa.refl _ _⟩
 case round =>
  obtain⟨i,hi,hg,rfl,q,hK⟩:=hrel;by_cases z:i<c.length
  ·go_wp2_with fail
   go_loopg [10] (c.length-(i+1)) (fun ap jv a3=>∃(j:Nat),i+1<=j/\j<=c.length/\ap=c.length-j/\jv=Xx XF j/\XN (∀g,i<g->g<j->lm o a (m,c.map Ex.xs) f r i g=XL)/\aa [] w2 a3)
   case atStart=>exact⟨i+1,by omega,by omega,by omega,by go_num,fun g h1 M=>by omega,hK⟩
   case round =>
    obtain⟨j,a7,hj,a4,rfl,u,p⟩:=hrel;clear hK;by_cases v:j<c.length
    ·have hA:=ai.Ur p;have Z:=G2.Ur p;have d1:=Z.cell i z;have d2:=Z.cell j v;have q1:=S.out i z;have q2:=S.out j v;have a6:(i:Int)<c.length:=(by omega);have a8:(j:Int)<c.length:=(by omega);have AP:=fun nq=>mt a2 m (cT o a m) a1 av i j (wr.drewN nq) (hA.Ur ((aa.refl [] _).drewN nq)) ac O (by rw[<-F.out];exact z) (by rw[<-F.out];exact v);have AR:=fun nq=>wj H n y d l b f r hv hm (K i) (K j) (gB f (c.map Ex.xs) c.length i) (gB f (c.map Ex.xs) c.length j) (wr.drewN nq) ((a0.Ur p).Ur ((aa.refl [] _).drewN nq)) ((M.Ur p).Ur ((aa.refl [] _).drewN nq)) az ag ((Z.Ur ((aa.refl [] _).drewN nq)).own i z) ((Z.Ur ((aa.refl [] _).drewN nq)).own j v) (by omega) (by omega) (Q.out i) (Q.out j);have s:XN _:=am.out i j z v;have C:XN (lm o a (m,c.map Ex.xs) f r i j=XL->∀g,i<g->g<j+1->lm o a (m,c.map Ex.xs) f r i g=XL):=by
      intro hh g h1 M;by_cases e:g=j
      ·subst e;exact hh
      ·exact u.out g h1 (by omega)
     have G:XN (lm o a (m,c.map Ex.xs) f r i j=XM->R=XM):=by
      intro hh;cases e:R
      ·rfl
      ·have:=HT.out.1 e i z j v (by omega);rw[this]at hh;cases hh
     have B:XN _:=AP;have E:XN _:=AR;clear AP AR q u Z hA;generalize gB f (c.map Ex.xs) c.length i=X at *;generalize gB f (c.map Ex.xs) c.length j=Y at *;cases hb:cR m.length (cT o a m) i j
     ·have L:XN _:=C.out (by rw[s.out,hb];rfl);rw[hb]at B;clear G C;(go_upto_region 9 with fail);go_quiet (first | (go_at_call 149;exact QC (B.out _)));go_wp2;go_roundg (c.length-(j+1))
      case measure=>omega
      case rel=>exact⟨j+1,by omega,by omega,rfl,by go_num,L.out,p.drewN _⟩
     ·rw[hb]at B;cases hc:ul f.length r X Y
      ·have L:XN _:=G.out (by rw[s.out,hb,hc];rfl);rw[hc]at E;clear G C;(go_upto_region 9 with fail);go_quiet (first | (go_at_call 149;exact QC (B.out _)) | (go_at_call 214;exact Calls.quiet_of (E.out _)));go_wp2;go_ret;exact⟨aH L.out.symm,K2.trans (p.drewN _)⟩
      ·have L:XN _:=C.out (by rw[s.out,hb,hc];rfl);rw[hc]at E;clear G C;(go_upto_region 9 with fail);go_quiet (first | (go_at_call 149;exact QC (B.out _)) | (go_at_call 214;exact Calls.quiet_of (E.out _)));go_wp2;go_roundg (c.length-(j+1))
       case measure=>omega
       case rel=>exact⟨j+1,by omega,by omega,rfl,by go_num,L.out,p.drewN _⟩
    ·have HN:XN (∀A,A<i+1->∀g,g<c.length->A<g->lm o a (m,c.map Ex.xs) f r A g=XL):=by
      intro A h1 g M h3;by_cases e:A=i
      ·subst e;exact u.out g h3 (by omega)
      ·exact q.out A (by omega) g M h3
     clear u q;go_wp2;go_roundg (c.length-(i+1))
     case measure=>omega
     case rel=>exact⟨i+1,by omega,rfl,by go_num,HN,p⟩
  ·have L:XN (R=XL):=HT.out.2 (fun A h1 g M h3=>q.out A (by omega) g M h3);clear q;go_wp2;go_ret;exact⟨aH L.out.symm,K2.trans hK⟩
def sc(l:List St)(a n:Nat):Option ByteArray:=match l[n]? with
 | some s=>if(s.kind==2)=XL/\bZ l n a=XL then XK (ak s) else XJ
 | none=>XJ
def lF(l:List St)(a k:Nat):List ByteArray:=(List.range k).filterMap (sc l a)
def rC(l:List St)(a:Nat):List ByteArray:=lF l a l.length
theorem G8(h:b<a.length)(c:(a[b].kind==2)=XL)(d:bZ a b l=XL):lF a l (b+1)=lF a l b++[ak a[b]]:=by
 unfold lF;rw[QM,Q0];simp[sc,h,c,d]
theorem KL(h:b<a.length)(c:(a[b].kind==2)=XM∨bZ a b l=XM):lF a l (b+1)=lF a l b:=by
 unfold lF;rw[QM,Q0];have:sc a l b=XJ:=by
  unfold sc;rw[PJ h];simp only;rw[PV];rintro ⟨d,e⟩;rcases c with c | c
  ·rw[c]at d;cases d
  ·rw[c]at e;cases e
 simp[this]
theorem yk:(lF a l b).length<=b:=by
 have:=Se (sc a l) (List.range b);unfold lF;simpa using this
theorem mP(D:XP)(h:cK D d l w S)(ok:dB w) :
  XO prog 157 #[XA (XK ⟨d,l,XJ⟩),Xx XF b] D fun e w'=>∃c:Hd,e=XH (Xz c.ao (rC w b).length c.cap)/\aE w' c (au (rC w b))/\(∀x,c.blk=XK x->D.heap.size<=x)/\aa [] D w':=by
 obtain⟨i0,hi,X,Y,Z⟩:=Qq ey;have ac:=ok.len;go_enter func157,ntmps157;go_wp2
 go_loopg [5,6] w.length (fun gk sv i wr=>∃(k:Nat) (c:Hd),k<=w.length/\gk=w.length-k/\i=Xx XF k/\sv=Xz c.ao (lF w b k).length c.cap/\aE wr c (au (lF w b k))/\(∀x,c.blk=XK x->D.heap.size<=x)/\aa [] D wr)
 case atStart=>exact⟨0,⟨XJ,0⟩,by omega,by omega,rfl,rfl,Qj _ _ _ _,by intro x C;simp[Hd.blk]at C,aa.refl _ _⟩
 case round =>
  obtain⟨k,c,hk,hg,rfl,rfl,U,G,R⟩:=hrel;have M:=h.Ur R;have ad:=yk w b k;by_cases f:k<w.length
  ·have ah:=ok.syms k f;have J:XN _:=G8 w b k f;have m:XN _:=KL w b k f;have O:=fn w[k] (S (10+2*k)) (S (11+2*k));unfold bW at O;have N:XN _:=O;clear O;(go_upto_region 6 with (first | (go_at_call 79;refine(dr d l w S _ (by exact M)).mono ?_;rintro e wc ⟨rfl,A⟩;rw[A]) | (go_at_call 51;refine(aQ d l k w S _ (by exact M) f).mono ?_;rintro e o ⟨rfl,W⟩;unfold bW)));obtain⟨g,q⟩:∃g,g=o.alloc (XE #[Xx XF w[k].kind,Xy w[k].label,Xz (S (10+2*k)).ao w[k].Um.length (S (10+2*k)).cap,Xz (S (11+2*k)).ao w[k].Ux.length (S (11+2*k)).cap,Xy w[k].fin.file,Xx XF w[k].fin.line,Xx XF w[k].fin.col,Xx XF w[k].til] 110):=⟨_,rfl⟩
   have y:aa [] wr g:=(by rw[q];exact W.alloc _);have r:g.heap[o.heap.size]?=XK (XE #[Xx XF w[k].kind,Xy w[k].label,Xz (S (10+2*k)).ao w[k].Um.length (S (10+2*k)).cap,Xz (S (11+2*k)).ao w[k].Ux.length (S (11+2*k)).cap,Xy w[k].fin.file,Xx XF w[k].fin.line,Xx XF w[k].fin.col,Xx XF w[k].til] 110):=(by rw[q];exact PM _ _);rw[<-q];clear q;have u0:XI g ⟨o.heap.size,0,XJ⟩=XK (Xx XF w[k].kind):=by rw[ab r];rfl
   have u1:XI g ⟨o.heap.size,1,XJ⟩=XK (Xy w[k].label):=(by rw[ab r];rfl);have u2:XI g ⟨o.heap.size,2,XJ⟩=XK (Xz (S (10+2*k)).ao w[k].Um.length (S (10+2*k)).cap):=(by rw[ab r];rfl);have u3:XI g ⟨o.heap.size,3,XJ⟩=XK (Xz (S (11+2*k)).ao w[k].Ux.length (S (11+2*k)).cap):=(by rw[ab r];rfl);have u4:XI g ⟨o.heap.size,4,XJ⟩=XK (Xy w[k].fin.file):=(by rw[ab r];rfl);have u5:XI g ⟨o.heap.size,5,XJ⟩=XK (Xx XF w[k].fin.line):=(by rw[ab r];rfl);have u6:XI g ⟨o.heap.size,6,XJ⟩=XK (Xx XF w[k].fin.col):=(by rw[ab r];rfl);have u7:XI g ⟨o.heap.size,7,XJ⟩=XK (Xx XF w[k].til):=(by rw[ab r];rfl);have z:=M.Ur y;have p:aE g c (au (lF w b k)):=U.Uw (fun x C=>y.block x (U.lt C) (by simp));have V:=(z.UD.syms k w[k] (PJ f)).view;have v:=R.trans y;cases h2:(w[k].kind==2)
   ·have s:XN _:=m.out (P0 h2);clear J m;go_wp2;go_roundg (w.length-(k+1))
    case measure=>omega
    case rel=>exact⟨k+1,c,by omega,rfl,by go_num,by rw[s.out],by rw[s.out];exact p,G,v⟩
   ·cases K:bZ w k b
    ·have s:XN _:=m.out (P7 K);clear J m;go_wp2_with (go_at_call 95;refine(eS d l k b w S _ (by exact z) f).mono ?_;rintro e wd ⟨rfl,B⟩;rw[B,K]);go_roundg (w.length-(k+1))
     case measure=>omega
     case rel=>exact⟨k+1,c,by omega,rfl,by go_num,by rw[s.out],by rw[s.out];exact p,G,v⟩
    ·have s:XN _:=J.out h2 K;clear J m;go_wp2_with (first | (go_at_call 95;refine(eS d l k b w S _ (by exact z) f).mono ?_;rintro e wd ⟨rfl,B⟩;rw[B,K]) | (go_at_call 97;refine(N.out _ (by exact V) (by omega)).mono ?_;rintro e w5 ⟨rfl,k5⟩;have H:=p.Uw (fun x C=>(k5.alloc (XE #[Xy (ak w[k])] 9)).block x (p.lt C) (by simp))) | (at_builtin;refine aD _ rfl (.tmp 26) (.tmp 29) 22 rfl i0 (Xy ⟨#[]⟩) 16 c (au (lF w b k)) underlying22 hi X Y Z rfl Qf rfl (by exact H) ⟨_,0,XJ⟩ 1 1 [Xy (ak w[k])] rfl rfl ?d1 ?d2 Qf ?d3 ?d4 ?_))
     case d1=>intro j u L;match j,L with | 0,L=>simp at L;subst L;simp[Addr.add]
     case d2=>intro u hu;simp at hu;subst hu;rfl
     case d3=>simp only[au];unfold maxLen;omega
     case d4=>simp only[au];omega
     intro P E w6 I t a;rw[bJ (lF w b k) (ak w[k]),<-s.out]at I;have F:=(v.trans k5).alloc (XE #[Xy (ak w[k])] 9);have T:=F.grown t G;have ag:D.heap.size<=P:=by
      rcases a with e | e
      ·exact G P e
      ·have:=F.size;simp at e this;omega
     have Q:XN ((au (lF w b k)).n+1=(lF w b (k+1)).length):=(by show _=_;rw[s.out];simp[au]);rw[Q.out];clear t a H;go_wp2;go_roundg (w.length-(k+1))
     case measure=>omega
     case rel=>exact⟨k+1,⟨XK ⟨P,0,XJ⟩,E⟩,by omega,rfl,by go_num,rfl,I,by intro x C;simp[Hd.blk]at C;omega,T⟩
  ·have e:k=w.length:=(by omega);subst e;go_wp2_with (go_at_call 79;refine(dr d l w S _ (by exact M)).mono ?_;rintro e wc ⟨rfl,A⟩;rw[A]);go_ret;exact⟨c,rfl,U,G,R⟩
def dJ:St:=⟨0,⟨#[]⟩,[],[],⟨⟨#[]⟩,0,0⟩,0⟩
abbrev Kt:=List ByteArray×List (List ByteArray)
def fJ(l:List St):List Nat->List (List ByteArray)->Kt->Int×Kt
 | h :: hs,e :: es,S=>if((i6 (l.getD h dJ) e S).1==0)=XL then fJ l hs es (i6 (l.getD h dJ) e S).2 else i6 (l.getD h dJ) e S
 | _,_,S=>(0,S)
def lE(l:List St)(n:Nat)(vs:List ByteArray)(ms:List Bool)(sy:List ByteArray)(R:Int×Kt):Int×List ByteArray :=
 if(R.1==0)=XL then(if j9 l n R.2 vs ms=XL then(0,gS R.2.1 R.2.2 sy) else(9,[])) else(R.1,[])
def eI(l:List St)(n:Nat)(vs:List ByteArray)(ms:List Bool)(th:List (List ByteArray)):Int×List ByteArray :=
 if th.length<(al l n).length then(6,[])
 else lE l n vs ms (l.getD n dJ).Um (fJ l (al l n) (th.drop (th.length-(al l n).length)) ([],[]))
theorem wJ(h:b<a.length):a.getD b dJ=a[b]:=by rw[PK,PJ h];rfl
theorem ET(S:Kt)(i:Nat)(a:i<N.length)(b:i<z4.length)(c:N[i]<w.length) :
  fJ w (N.drop i) (z4.drop i) S=if((i6 w[N[i]] z4[i] S).1==0)=XL then fJ w (N.drop (i+1)) (z4.drop (i+1)) (i6 w[N[i]] z4[i] S).2 else i6 w[N[i]] z4[i] S:=by
 rw[Qr a,Qr b,fJ,wJ w _ c]
theorem Bu(S:Kt)(i:Nat)(a:¬i<N.length):fJ w (N.drop i) z4 S=(0,S):=by
 rw[Q4 (by omega)];cases z4 <;> rfl
structure G1(S:Kt)(N:Nat):Prop where
 one:S.1.length<=N
 two:∀y∈S.2,y.length<=10000
theorem Lj(s:St)(e:List ByteArray)(S:Kt)(N:Nat)(h:G1 S N)(b:e.length<=10000):G1 (i6 s e S).2 (N+1):=by
 have c:=h.one;unfold i6;split
 ·split <;> exact⟨by simp only;omega,h.two⟩
 ·split
  ·exact⟨by simp only;omega,h.two⟩
  ·next x r =>
   split
   ·refine⟨by simp;omega,fun y a=>?_⟩;simp at a;rcases a with a | rfl
    ·exact h.two y a
    ·simp at b;omega
   ·exact⟨by simp only;omega,h.two⟩
theorem Fa(k:Nat):∀x∈cI a b k,x<k:=by
 induction k with
 | zero=>intro x c;simp[cI]at c
 | succ k d =>
  intro x c;cases h:d9 a (bX a b) b k
  ·rw[qb a b k h]at c;have:=d x c;omega
  ·rw[sN a b k h]at c;simp at c;rcases c with c | rfl
   ·have:=d x c;omega
   ·omega
theorem sM(h:i∈al z7 T):i<z7.length:=Fa z7 T z7.length i h
theorem aE.cutE(u:aE x z6 (dv o))(c:Nat)(w:c<=o.length):aE x z6 (dv (o.take c)):=by
 have e:(o.take c).length=c:=by simp;omega
 refine⟨by simp[dv,yN],?_⟩;rcases u.2 with ⟨f,t⟩ | ⟨g,a,b,f,q,r,k,m,n,p⟩
 ·left
  have:o.length=0:=t;have s:o=[]:=Ql this;subst s;simp[dv]at f ⊢;exact f
 ·right
  have l:o.length<=a:=k;refine⟨g,a,b,?_,q,r,?_,m,n,?_⟩
  ·injection f with i v j
   simp only[dv];rw[i,j]
  ·show(o.take c).length<=a
   omega
  ·show b.toList.take ((o.take c).length*1)=yN (o.take c);have d:b.toList.take (o.length*1)=yN o:=p;rw[e];unfold yN at d ⊢;rw[Sx,<-d,Sp];congr 1;omega
def pB(sh th:List Ex):Nat->fe
 | 0=>dv sh
 | 1=>dv th
 | _+2=>dv []
def kI(rb ro g n tb:Nat)(sh th:List Ex)(H:Nat->Hd):List XQ :=
 [XA (XK ⟨rb,ro,XJ⟩),Xz (XK ⟨g,0,XJ⟩) n n,XA (XK ⟨tb,0,XJ⟩),Xz (H 0).ao sh.length (H 0).cap,Xz (H 1).ao th.length (H 1).cap]
structure qH(w:XP)(b rb ro g n tb:Nat)(sh th:List Ex)(H:Nat->Hd):Prop where
 bag:aB w b 247 (kI rb ro g n tb sh th H) (pB sh th) H
 shs:∀e∈sh,nj w b H e.hd e.xs/\e.xs.length<=32
 ths:∀e∈th,nj w b H e.hd e.xs/\e.xs.length<=32
theorem qH.Ur(h:qH x T i D L m z5 o s k)(b:aa [] x I):qH I T i D L m z5 o s k :=
 ⟨h.bag.Ur b,fun e a=>⟨(h.shs e a).1.Ur b,(h.shs e a).2⟩,fun e a=>⟨(h.ths e a).1.Ur b,(h.ths e a).2⟩⟩
theorem qH.ctx(h:qH x T i D L m z5 o s k):ui x T i D L m z5:=⟨_,_,h.bag.blk,rfl,rfl,rfl⟩
theorem qH.cells{g:Nat}(h:qH x T i D g L m o s k) :
  XI x ⟨T,3,XJ⟩=XK (Xz (k 0).ao o.length (k 0).cap)/\XI x ⟨T,4,XJ⟩=XK (Xz (k 1).ao s.length (k 1).cap):=⟨h.bag.cell 3,h.bag.cell 4⟩
structure AZ(w:XP)(rb ro g tb:Nat)(l:List St)(HR K:Nat->Hd)(vs:List ByteArray)(ms:List Bool)(hv hm:Hd):Prop where
 recd:cK w rb ro l HR
 ok:dB l
 all:eZ w g l l.length K
 ap:im w tb vs ms hv hm
 hml:ms.length=vs.length*vs.length
 hvl:vs.length<=10000
theorem AZ.Ur{c:List Bool}{b:Hd}(h:AZ x T i D L z7 k z8 y2 c z6 b)(a:aa [] x I):AZ I T i D L z7 k z8 y2 c z6 b :=
 ⟨h.recd.Ur a,h.ok,h.all.Ur a,h.ap.Ur a,h.hml,h.hvl⟩
structure je(w0 w:XP)(b rb ro g n tb:Nat)(sh th:List Ex)(H:Nat->Hd):Prop where
 ply:qH w b rb ro g n tb sh th H
 kept:aa [] w0 w
 hb:w0.heap.size<=b
 hin:∀x,cD H x->w0.heap.size<=x
theorem je.Ur{b:XP}(h:je x I T i D L m z5 o s k)(a:aa [] I b):je x b T i D L m z5 o s k :=
 ⟨h.ply.Ur a,h.kept.trans a,h.hb,h.hin⟩
section
attribute [local go_sem] sB
theorem nj.turned(f:nj x T k z6 y2)(t:aj T x k I z8):nj I T z8 z6 y2:=by
 refine⟨f.view.keptP t.1 (fun a d=>?_),fun a d=>?_⟩
 ·obtain⟨_,b,c⟩:=f.far a d;rintro (e | e)
  ·exact b e
  ·exact c e
 ·obtain⟨g,b,c⟩:=f.far a d;exact⟨PY g t.1.size,b,t.fresh a g c⟩
theorem aB.reset{d:List XQ}{b rows':Nat->fe}(h:aB x T i d b k)(c:Nat)(u:XQ)(o:∀a,aE x (k a) (rows' a)) :
  aB (x.setCell ⟨T,c,XJ⟩ u) T i (d.set c u) rows' k/\aj T x k (x.setCell ⟨T,c,XJ⟩ u) k:=by
 obtain⟨e,f⟩:=h.set c u;refine⟨⟨e.blk,fun a=>(o a).Uw (fun j g=>P9 _ _ _ _ ?_),h.apart,h.off⟩,f⟩;rintro rfl;exact h.off a g
theorem oR:nj f b S ⟨XJ,0⟩ []:=⟨P0 rfl,fun x a=>by simp[Hd.blk]at a⟩
theorem Ev(K:Nat->Hd)(C:List ByteArray)(B:List Bool)(hv hm:Hd)(sh a:List Ex)(g:Nat->Hd)(E:AZ M n y d l w S K C B hv hm)(P:je M f H n y d w.length l sh a g)(hn:b<w.length)(hA:fE w b=XL)(cx:a.length<=2000000) :
  XO prog 195 #[XA (XK ⟨H,0,XJ⟩),Xx XF b] f fun e t=>∃(a2:List Ex) (z:Ex),
   e=XH (XD #[Xz z.hd.ao z.xs.length z.hd.cap,Xx XF (eI w b C B (a.map Ex.xs)).1])/\z.xs=(eI w b C B (a.map Ex.xs)).2/\je M t H n y d w.length l sh a2 g/\nj t H g z.hd z.xs /\
   (((eI w b C B (a.map Ex.xs)).1==0)=XL->a2=a.take (a.length-(al w b).length))/\a2.length<=a.length:=by
 have Ew:=E.Ur P.kept;have b8:=E.ok.len;obtain⟨p0,p1,p2⟩:=P.ply.ctx.cells;obtain⟨p3,p4⟩:=P.ply.cells;have bq:iF w w.length b=al w b:=by unfold iF;rw[PZ ⟨hn,hA⟩]
 have ca:=Ew.all.cell b hn;have oa:=Ew.all.own b hn;rw[bq]at ca oa;obtain⟨AO,a4⟩:∃AO,XN ((K b).ao=AO):=⟨_,rfl⟩
 rw[a4.out]at ca;have cw:(al w b).length<=w.length:=kC w b w.length;have bo:∀i (hi:i<(al w b).length),(al w b)[i]<w.length:=fun i hi=>sM (PT hi);have cv:(b:Int)<w.length:=by omega
 have b7:¬(b:Int) ≥ w.length:=by omega
 clear bq p2 p3;by_cases hu:a.length<(al w b).length
 ·have HF:XN (eI w b C B (a.map Ex.xs)=(6,[])):=by show _=_;unfold eI;rw[Qh,PZ hu]
  have b9:(a.length:Int)-(al w b).length<0:=by omega
  go_enter func195,ntmps195;go_wp2;exact Qg (v:=XD #[Xz XJ 0 0,Xx XF 6]) (by simp[results,results195,go_sem]) rfl
   ⟨a,⟨⟨XJ,0⟩,[]⟩,by rw[HF.out];rfl,by rw[HF.out],P,oR _ _ _,by rw[HF.out];simp,PQ _⟩
 ·obtain⟨c,hf⟩:∃c,a.length-(al w b).length=c:=⟨_,rfl⟩
  have cs:(a.length:Int)-(al w b).length=(c:Int):=by omega
  have cn:¬(c:Int)<0:=by omega
  obtain⟨RR,a7⟩:∃RR,XN (RR=fJ w (al w b) ((a.map Ex.xs).drop c) ([],[])):=⟨_,rfl⟩
  have HF:XN (eI w b C B (a.map Ex.xs)=lE w b C B w[b].Um RR):=by
   show _=_;unfold eI;rw[Qh,PV hu,wJ w b hn,hf,a7.out]
  rw[hf];have bl:c+(al w b).length=a.length:=by omega
  have a5:XN _:=bl;clear hf bl;obtain⟨W,hW⟩:∃W,W=f.alloc (XE #[Xz XJ 0 0,Xz XJ 0 0] 278):=⟨_,rfl⟩
  have kW:aa [] f W:=by rw[hW];exact(aa.refl [] _).alloc _
  have SI:jf W f.heap.size [] [] fh:=by
   rw[hW];refine⟨⟨PM _ _,?_,fun i j _=>P0 rfl,fun i e=>by simp[fh,Hd.blk]at e⟩,rfl,by simp⟩;intro i
   match i with
   | 0=>exact Qj _ _ _ _
   | 1=>exact Qj _ _ _ _
   | m+2=>exact Qj _ _ _ _
  have HW:XN _:=hW.symm;clear hW;go_enter func195,ntmps195;go_upto_region 8 with fail
  rw[HW.out];have PW:=P.Ur kW;clear HW p0 p1 p4 ca;go_wp2
  go_loopg [9] (al w b).length (fun gk iv wr=>∃(i:Nat) (am:Kt) (u:List Ex) (Hs:Nat->Hd),i<=(al w b).length/\gk=(al w b).length-i/\iv=Xx XF i/\G1 am i/\u.map Ex.xs=am.2/\XN (RR=fJ w ((al w b).drop i) (((a.map Ex.xs).drop c).drop i) am)/\jf wr f.heap.size am.1 u Hs/\(∀x,cD Hs x->f.heap.size<=x)/\(∀e∈u,e.hd.blk≠XK H)/\aa [] f wr)
  case atStart=>exact⟨0,([],[]),[],fh,by omega,by omega,rfl,⟨by simp,by simp⟩,rfl,a7.out,SI,fun x o=>by obtain⟨i,hi⟩:=o;simp[fh,Hd.blk]at hi,by simp,kW⟩
  case round =>
   obtain⟨i,am,u,Hs,hi,hg,rfl,I,ad,hR,hS,ac,bf,Y⟩:=hrel;by_cases T:i<(al w b).length
   ·obtain⟨J,S2⟩:=am;simp only at ad;subst ad;have Pr:=P.Ur Y;have a0:c+i<a.length:=by have:=a5.out;omega
    have oT:aE wr (g 1) (dv a):=Pr.ply.bag.own 1;rcases oT.UC with ⟨_,h0,_⟩ | ⟨gt,bc,et,-,av,-⟩
    ·have:a.length=0:=h0;omega
    have oH:aE wr (K b) (bQ (al w b)):=oa.Uw (fun x o=>Y.block x (oa.lt o) (by simp));rcases oH.UC with ⟨_,h0,_⟩ | ⟨gh,b2,eh,-,bs,-⟩
    ·have:(al w b).length=0:=h0;omega
    have ch:=oH.cell eh i (Xx XF (al w b)[i]) (gF _ i T);have ct:=oT.cell et (c+i) (rF a[c+i]) (oO a (c+i) a0);obtain rfl:AO=XK ⟨gh,0,XJ⟩:=a4.out.symm.trans eh;have bg:a.length<=(g 1).cap:=av;have b3:(al w b).length<=(K b).cap:=bs;have r:=(P.ply.ths a[c+i] (PT a0));have ag:=bo i T;have F:XN _:=(hR.out.trans (ET w (al w b) ((a.map Ex.xs).drop c) (J,u.map Ex.xs) i T (by simp;omega) ag));have e1:((a.map Ex.xs).drop c)[i]'(by simp;omega)=a[c+i].xs:=(by simp);rw[e1]at F;have a3:=Lj w[(al w b)[i]] a[c+i].xs (J,u.map Ex.xs) i I (by omega);have FT:=fun(w3:XP) (A:aa [] wr w3)=>Lk f.heap.size J u Hs w[(al w b)[i]] (S (10+2*(al w b)[i])) (S (11+2*(al w b)[i])) a[c+i].hd a[c+i].xs w3 (hS.Ur A) (by have:=I.one;simp only at this;omega) (fun e s=>I.two _ (RZ s)) ((((E.Ur (Pr.kept.trans A)).recd.UD.syms _ w[(al w b)[i]] (PJ ag)).view)) (E.ok.syms _ ag) ⟨(r.1.Ur (Y.trans A)).view,fun x o=>⟨PY (r.1.far x o).1 (Y.trans A).size,by have:=(r.1.far x o).1;omega,fun hm=>by have:=ac x hm;have:=(r.1.far x o).1;omega⟩⟩ (by omega);have ST:=fun(w3:XP) (A:aa [] wr w3)=>aQ n y (al w b)[i] w S w3 (E.Ur (Pr.kept.trans A)).recd ag;have p4:=Pr.ply.cells.2;have p0:=Pr.ply.ctx.cells.1;rw[et]at p4;have R:XN (∀t,aa [] f t->XI t ⟨H,0,XJ⟩=XK (XA (XK ⟨n,y,XJ⟩))/\XI t ⟨gh,i,XJ⟩=XK (Xx XF (al w b)[i])/\XI t ⟨H,4,XJ⟩=XK (Xz (XK ⟨gt,0,XJ⟩) a.length (g 1).cap)/\XI t ⟨gt,c+i,XJ⟩=XK (rF a[c+i])):=by
     intro t k;have P':=P.Ur k;refine⟨P'.ply.ctx.cells.1,(oa.Uw (fun x o=>k.block x (oa.lt o) (by simp))).cell eh i _ (gF _ i T),?_,(P'.ply.bag.own 1).cell et (c+i) (rF a[c+i]) (oO a (c+i) a0)⟩;rw[<-et];exact P'.ply.cells.2
    have a6:XN (∀x,(x=f.heap.size∨cD Hs x)->f.heap.size<=x):=by
     rintro x (e | e)
     ·omega
     ·exact ac x e
    have O:XN _:=FT;have a8:XN _:=ST;have cd:IntKind.i64.wrap ((c:Int)+i)=(c:Int)+i:=(by rw[Re];omega);have b4:(0:Int)<=(c:Int)+i:=(by omega);have b5:(c:Int)+i<a.length:=(by omega);have cz:((c:Int)+i).toNat=c+i:=(by omega);have az:=r.1.far;clear FT ST hR e1 oT oH r et eh;unfold rF at ct R;generalize a[c+i]=z at *;generalize (al w b)[i]=a1 at *;generalize i6 w[a1] z.xs (J,u.map Ex.xs)=Q at *;obtain⟨q,S9⟩:=Q;simp only at F a3 O;have bx:z.hd.blk≠XK H:=fun e=>(az H e).2.1 rfl;cases hq:(q==0)
    ·have b0:(q != 0)=XL:=(by simp[bne,hq]);have L:XN (eI w b C B (a.map Ex.xs)=(q,[])):=(by show _=_;rw[HF.out,F.out,PV (by rw[hq];simp)];simp[lE,hq]);clear F;(go_upto_region 11 with fail);go_region_held3 (fun t=>XI t ⟨H,0,XJ⟩=XK (XA (XK ⟨n,y,XJ⟩))/\XI t ⟨gh,i,XJ⟩=XK (Xx XF a1)/\XI t ⟨H,4,XJ⟩=XK (Xz (XK ⟨gt,0,XJ⟩) a.length (g 1).cap)/\XI t ⟨gt,c+i,XJ⟩=XK (Xz z.hd.ao z.xs.length z.hd.cap)) (go_keep) (first | (go_at_call 51;refine(a8.out _ (by exact(aa.refl [] _).drew)).mono ?_;rintro e w3 ⟨rfl,A⟩;obtain⟨x0,x1,x2,x3⟩:=R.out w3 (Y.drew.trans A)) | (go_at_call 209;refine(O.out _ (by exact(aa.refl [] _).drew.trans A)).mono ?_;rintro e w9 ⟨aq,H9,rfl,a9,ah,T9,U⟩;have K9:=(Y.drew.trans A).ofP T9.1 a6.out;obtain⟨z0,z1,z2,z3⟩:=R.out w9 K9))
     all_goals
      clear z0 z1 z2 z3 x0 x1 x2 x3;go_wp2;exact Qg (v:=XD #[Xz XJ 0 0,Xx XF q]) (by simp[results,results195,go_sem]) rfl
       ⟨a,⟨⟨XJ,0⟩,[]⟩,by rw[L.out];rfl,by rw[L.out],P.Ur K9,oR _ _ _,fun hh=>by rw[L.out]at hh;exact absurd (hq.symm.trans hh) (by simp),PQ _⟩
    ·have b0:(q != 0)=XM:=(by simp[bne,hq]);have L:XN (RR=fJ w ((al w b).drop (i+1)) (((a.map Ex.xs).drop c).drop (i+1)) S9):=(by show _=_;rw[F.out,PZ hq]);clear F;(go_upto_region 11 with fail);go_region_held3 (fun t=>XI t ⟨H,0,XJ⟩=XK (XA (XK ⟨n,y,XJ⟩))/\XI t ⟨gh,i,XJ⟩=XK (Xx XF a1)/\XI t ⟨H,4,XJ⟩=XK (Xz (XK ⟨gt,0,XJ⟩) a.length (g 1).cap)/\XI t ⟨gt,c+i,XJ⟩=XK (Xz z.hd.ao z.xs.length z.hd.cap)) (go_keep) (first | (go_at_call 51;refine(a8.out _ (by exact(aa.refl [] _).drew)).mono ?_;rintro e w3 ⟨rfl,A⟩;obtain⟨x0,x1,x2,x3⟩:=R.out w3 (Y.drew.trans A)) | (go_at_call 209;refine(O.out _ (by exact(aa.refl [] _).drew.trans A)).mono ?_;rintro e w9 ⟨aq,H9,rfl,a9,ah,T9,U⟩;have K9:=(Y.drew.trans A).ofP T9.1 a6.out;obtain⟨z0,z1,z2,z3⟩:=R.out w9 K9))
     all_goals
      have bv:∀x,cD H9 x->f.heap.size<=x:=fun x o=>by
       rcases T9.2 x o with e | e
       ·exact ac x e
       ·exact Qk (Y.drew.trans A).size e
      have bw:∀e∈aq,e.hd.blk≠XK H:=fun e s=>by
       rcases U e s with q | q
       ·exact bf e q
       ·rw[q];exact bx
      clear z0 z1 z2 z3 x0 x1 x2 x3;go_wp2;go_roundg ((al w b).length-(i+1))
      case measure=>omega
      case rel=>exact⟨i+1,S9,aq,H9,by omega,rfl,by go_num,a3,ah,L.out,a9,bv,bw,K9⟩
   ·obtain⟨J,S2⟩:=am;simp only at ad;subst ad;have Z:XN (eI w b C B (a.map Ex.xs)=lE w b C B w[b].Um (0,(J,u.map Ex.xs))):=by
     show _=_;rw[HF.out,hR.out,Bu _ _ _ _ _ T]
    have Pr:=P.Ur Y;have Er:=E.Ur Pr.kept;have b1:=I.one;simp only at b1;have KA:=sR H n y d w.length l b f.heap.size w S C B hv hm J u Hs wr Pr.ply.ctx Er.ap E.hml E.hvl Er.recd E.ok hS (by omega) (fun e s=>I.two _ (RZ s));clear hR;cases hk:j9 w b (J,u.map Ex.xs) C B
    ·have L:XN (eI w b C B (a.map Ex.xs)=(9,[])):=(by show _=_;rw[Z.out];simp[lE,hk]);rw[hk]at KA;clear Z;(go_upto_region 15 with (go_at_call 210;refine KA.mono ?_;rintro e w2 ⟨rfl,k2⟩));go_wp2;exact Qg (v:=XD #[Xz XJ 0 0,Xx XF 9]) (by simp[results,results195,go_sem]) rfl
      ⟨a,⟨⟨XJ,0⟩,[]⟩,by rw[L.out];rfl,by rw[L.out],Pr.Ur k2,oR _ _ _,by rw[L.out];simp,PQ _⟩
    ·have L:XN (eI w b C B (a.map Ex.xs)=(0,gS J (u.map Ex.xs) w[b].Um)):=(by show _=_;rw[Z.out];simp[lE,hk]);rw[hk]at KA;clear Z;(go_upto_region 16 with (go_at_call 210;refine KA.mono ?_;rintro e w2 ⟨rfl,k2⟩));have N:=Pr.Ur k2;have G:=hS.Ur k2;have p4:=N.ply.cells.2;have y4:=N.ply.bag.free;have cj:=N.ply.bag.lt;have oT:aE w2 (g 1) (dv a):=N.ply.bag.own 1;have bm:c<=a.length:=(by have:=a5.out;omega);have b6:(c:Int)<=a.length:=(by omega);have cg:f.heap.size > H:=P.ply.bag.lt;have GO:∀V,V=Xz (g 1).ao (a.take c).length (g 1).cap->∃X,X=w2.setCell ⟨H,4,XJ⟩ V/\aa [] M X/\je M X H n y d w.length l sh (a.take c) g/\jf X f.heap.size J u Hs:=by
      rintro V rfl
      obtain⟨D,D2⟩:=N.ply.bag.reset (rows':=pB sh (a.take c)) 4 (Xz (g 1).ao (a.take c).length (g 1).cap) (by
       intro j
       match j with
       | 0=>exact N.ply.bag.own 0
       | 1=>exact oT.cutE c bm
       | m+2=>exact N.ply.bag.own (m+2))
      have kX:=N.kept.setCell (p:=⟨H,4,XJ⟩) (P7 P.hb) (Xz (g 1).ao (a.take c).length (g 1).cap);have kb:=(dA.refl (fun x=>x=H) w2).setCell (p:=⟨H,4,XJ⟩) (P0 rfl) (Xz (g 1).ao (a.take c).length (g 1).cap);exact⟨_,rfl,kX,⟨⟨D,fun e s=>⟨(N.ply.shs e s).1.turned D2,(N.ply.shs e s).2⟩,fun e s=>⟨(N.ply.ths e (Sb s)).1.turned D2,(N.ply.ths e (Sb s)).2⟩⟩,kX,P.hb,P.hin⟩,⟨G.bag.keptP kb (by omega) (fun x o=>by have:=ac x o;omega),G.len,fun e s=>⟨(G.exs e s).view.keptP kb (fun x o e2=>bf e s (e2 ▸ o)),(G.exs e s).adr,fun x o=>⟨PY ((G.exs e s).far x o).1 kb.size,((G.exs e s).far x o).2⟩⟩⟩⟩
     have GO:XN _:=GO;rcases oT.UC with ⟨e0,h0,-⟩ | ⟨gt,bc,et,-,av,-⟩
     focus
      have bd:a.length=0:=h0;have bk:c=0:=(by omega);have ai:XN (Xz XJ 0 0=Xz (g 1).ao (a.take c).length (g 1).cap):=(by show _=_;rw[e0,bk];rfl);have cf:XN _:=e0;rw[e0,bd]at p4;have cu:(c:Int)=0:=(by omega);clear e0 h0 bd;(go_upto_region 17 with fail);obtain⟨X,hX,kX,PX,SX⟩:=GO.out _ ai.out;rw[<-hX]
     rotate_left
     focus
      have ai:XN (Xz (XK ⟨gt,0,XJ⟩) c (g 1).cap=Xz (g 1).ao (a.take c).length (g 1).cap):=(by show _=_;rw[et];simp;omega);have bg:a.length<=(g 1).cap:=av;have co:(c:Int)<=(g 1).cap:=(by omega);rw[et]at p4;clear et;(go_upto_region 17 with fail);obtain⟨X,hX,kX,PX,SX⟩:=GO.out _ ai.out;rw[<-hX]
     all_goals
      have p0:=PX.ply.ctx.cells.1;have cl:=PX.ply.bag.lt;have bp:=fun x (o:cD g x)=>PX.ply.bag.inlt o;have cb:=E.ok.syms b hn;have EX:=E.Ur kX;clear hX p4 y4 KA GO;go_wp2_with (first | (go_at_call 51;refine(aQ n y b w S _ (by exact EX.recd) hn).mono ?_;rintro e w6 ⟨rfl,k6⟩;unfold bW) | (go_at_call 211;refine(qU f.heap.size J u Hs (S (10+2*b)) w[b].Um _ (by exact SX.Ur k6) (by omega) (fun e s=>I.two _ (RZ s)) (((EX.Ur k6).recd.UD.syms b w[b] (PJ hn)).view) (by omega)).mono ?_;rintro e w7 ⟨hd,rfl,o7,n7,k7⟩));have cF:=k6.size;exact Qg (v:=XD #[Xz hd.ao (gS J (u.map Ex.xs) w[b].Um).length hd.cap,Xx XF 0]) (by simp[results,results195,go_sem]) rfl
       ⟨a.take c,⟨hd,gS J (u.map Ex.xs) w[b].Um⟩,by rw[L.out],by rw[L.out],PX.Ur (k6.trans k7),⟨o7.view,fun x o=>⟨o7.lt o,by have:=n7 x o;omega,fun hm=>by have:=n7 x o;have:=bp x hm;omega⟩⟩,fun _=>rfl,by simp;omega⟩
end
def eW(l:List St)(vs:List ByteArray)(ms:List Bool)(sh th:List (List ByteArray))(s:gY):(Int×List ByteArray)×List (List ByteArray) :=
 if(s.kind==3)=XL then(if s.Un<sh.length then((0,sh.getD s.Un []),th) else((5,[]),th))
 else if fE l s.Un=XL then(eI l s.Un vs ms th,th.take (th.length-(al l s.Un).length))
 else((0,(l.getD s.Un dJ).Um),th)
theorem JP(s:gY)(a:List St)(c K:Nat->Hd)(p:List ByteArray)(o:List Bool)(hv hm:Hd)(i g:List Ex)(H:Nat->Hd)(E:AZ M y d l b a c K p o hv hm)(P:je M f n y d l a.length b i g H)(hn:(s.kind==3)=XM->s.Un<a.length)(bc:s.Un<=2000000)(aq:g.length<=2000000) :
  XO prog 177 #[XA (XK ⟨n,0,XJ⟩),XB #[Xx XF s.kind,Xx XF s.Un,Xy s.at_.file,Xx XF s.at_.line,Xx XF s.at_.col]] f fun e C=>∃(L:List Ex) (w:Ex),
   e=XH (XD #[Xz w.hd.ao w.xs.length w.hd.cap,Xx XF (eW a p o (i.map Ex.xs) (g.map Ex.xs) s).1.1])/\w.xs=(eW a p o (i.map Ex.xs) (g.map Ex.xs) s).1.2/\je M C n y d l a.length b i L H/\nj C n H w.hd w.xs /\
   (((eW a p o (i.map Ex.xs) (g.map Ex.xs) s).1.1==0)=XL->L.map Ex.xs=(eW a p o (i.map Ex.xs) (g.map Ex.xs) s).2)/\L.length<=g.length:=by
 obtain⟨W,hW⟩:∃W,W=f.alloc (XE #[Xx XF s.kind,Xx XF s.Un,Xy s.at_.file,Xx XF s.at_.line,Xx XF s.at_.col] 205):=⟨_,rfl⟩
 have kW:aa [] f W:=by rw[hW];exact(aa.refl [] _).alloc _
 have B:W.heap[f.heap.size]?=XK (XE #[Xx XF s.kind,Xx XF s.Un,Xy s.at_.file,Xx XF s.at_.line,Xx XF s.at_.col] 205):=by rw[hW];exact PM _ _
 have HW:XN _:=hW.symm;have u0:XI W ⟨f.heap.size,0,XJ⟩=XK (Xx XF s.kind):=by rw[ab B];rfl
 have u1:XI W ⟨f.heap.size,1,XJ⟩=XK (Xx XF s.Un):=by rw[ab B];rfl
 have u:=P.Ur kW;have EW:=E.Ur u.kept;obtain⟨p0,p1,p2⟩:=u.ply.ctx.cells;obtain⟨p3,p4⟩:=u.ply.cells;have a6:=u.ply.bag.lt;have bd:=ae B;clear hW;cases hk:(s.kind==3)
 ·have A:=hn hk;have Z:XN (eW a p o (i.map Ex.xs) (g.map Ex.xs) s=if fE a s.Un=XL then(eI a s.Un p o (g.map Ex.xs),(g.map Ex.xs).take (g.length-(al a s.Un).length)) else((0,a[s.Un].Um),g.map Ex.xs)):=by
   show _=_;unfold eW;rw[hk,Qh,Qh,wJ a _ A];rfl
  have Y:XN (∀C,aa [] W C->XI C ⟨n,0,XJ⟩=XK (XA (XK ⟨y,d,XJ⟩))/\XI C ⟨f.heap.size,1,XJ⟩=XK (Xx XF s.Un)):=by
   intro C k;refine⟨(u.Ur k).ply.ctx.cells.1,?_⟩;rw[ab (k.get B (by simp))];rfl
  have N:XN _:=fun(j:XP) (I:aa [] W j)=>aQ y d s.Un a c j (EW.Ur I).recd A;have HZ:XN (∀j,aa [] (W.alloc (XE #[Xx XF 0,Xy ⟨#[]⟩,Xz XJ 0 0,Xz XJ 0 0,Xy ⟨#[]⟩,Xx XF 0,Xx XF 0,Xx XF 0] 110)).drew j->XI j ⟨W.heap.size,0,XJ⟩=XK (Xx XF 0)/\XI j ⟨W.heap.size,1,XJ⟩=XK (Xy ⟨#[]⟩)/\XI j ⟨W.heap.size,2,XJ⟩=XK (Xz XJ 0 0)/\XI j ⟨W.heap.size,3,XJ⟩=XK (Xz XJ 0 0)/\XI j ⟨W.heap.size,4,XJ⟩=XK (Xy ⟨#[]⟩)/\XI j ⟨W.heap.size,5,XJ⟩=XK (Xx XF 0)/\XI j ⟨W.heap.size,6,XJ⟩=XK (Xx XF 0)/\XI j ⟨W.heap.size,7,XJ⟩=XK (Xx XF 0)/\∀av,j.frozen? ⟨W.heap.size,av,XJ⟩=XM):=by
   intro j k;have q:=k.get (show(W.alloc (XE #[Xx XF 0,Xy ⟨#[]⟩,Xz XJ 0 0,Xz XJ 0 0,Xy ⟨#[]⟩,Xx XF 0,Xx XF 0,Xx XF 0] 110)).drew.heap[W.heap.size]?=_ from PM _ _) (by simp);refine⟨?_,?_,?_,?_,?_,?_,?_,?_,fun av=>aw q av⟩ <;> (rw[ab q];rfl)
  have a2:W.heap.size≠n:=by omega
  have a3:n≠W.heap.size:=by omega
  have a4:W.heap.size≠f.heap.size:=by omega
  have a5:f.heap.size≠W.heap.size:=by omega
  clear p1 p2 p3 p4;go_enter func177,ntmps177;go_upto_region 1 with fail
  rw[HW.out];go_upto_region 5 with fail
  go_region_held3 (fun C=>XI C ⟨n,0,XJ⟩=XK (XA (XK ⟨y,d,XJ⟩))/\XI C ⟨f.heap.size,1,XJ⟩=XK (Xx XF s.Un)) (go_keep) (first | (go_at_call 51;refine(N.out _ (by exact(aa.refl [] W).drew)).mono ?_;rintro e j ⟨rfl,I⟩;obtain⟨x0,x1⟩:=Y.out j ((aa.refl [] _).drew.trans I);unfold bW) | (go_at_call 51;refine(N.out _ (by exact((aa.refl [] W).alloc _).drew)).mono ?_;rintro e j ⟨rfl,I⟩;obtain⟨x0,x1⟩:=Y.out j (((aa.refl [] W).alloc _).drew.trans I);obtain⟨q0,q1,q2,q3,q4,q5,q6,q7,qf⟩:=HZ.out j I;unfold bW))
  focus
   obtain⟨X,G⟩:∃X,X=j.alloc (XE #[Xx XF a[s.Un].kind,Xy a[s.Un].label,Xz (c (10+2*s.Un)).ao a[s.Un].Um.length (c (10+2*s.Un)).cap,Xz (c (11+2*s.Un)).ao a[s.Un].Ux.length (c (11+2*s.Un)).cap,Xy a[s.Un].fin.file,Xx XF a[s.Un].fin.line,Xx XF a[s.Un].fin.col,Xx XF a[s.Un].til] 110):=⟨_,rfl⟩
   have U:aa [] W X:=(by rw[G];exact((aa.refl [] _).drew.trans I).alloc _);have r:X.heap[j.heap.size]?=XK (XE #[Xx XF a[s.Un].kind,Xy a[s.Un].label,Xz (c (10+2*s.Un)).ao a[s.Un].Um.length (c (10+2*s.Un)).cap,Xz (c (11+2*s.Un)).ao a[s.Un].Ux.length (c (11+2*s.Un)).cap,Xy a[s.Un].fin.file,Xx XF a[s.Un].fin.line,Xx XF a[s.Un].fin.col,Xx XF a[s.Un].til] 110):=(by rw[G];exact PM _ _);rw[<-G];clear G x0 x1 u0 u1 p0;generalize j.heap.size=D at r ⊢
  rotate_left
  focus
   obtain⟨X,G⟩:∃X,X=(((((((j.setCell ⟨W.heap.size,0,XJ⟩ (Xx XF a[s.Un].kind)).setCell ⟨W.heap.size,1,XJ⟩ (Xy a[s.Un].label)).setCell ⟨W.heap.size,2,XJ⟩ (Xz (c (10+2*s.Un)).ao a[s.Un].Um.length (c (10+2*s.Un)).cap)).setCell ⟨W.heap.size,3,XJ⟩ (Xz (c (11+2*s.Un)).ao a[s.Un].Ux.length (c (11+2*s.Un)).cap)).setCell ⟨W.heap.size,4,XJ⟩ (Xy a[s.Un].fin.file)).setCell ⟨W.heap.size,5,XJ⟩ (Xx XF a[s.Un].fin.line)).setCell ⟨W.heap.size,6,XJ⟩ (Xx XF a[s.Un].fin.col)).setCell ⟨W.heap.size,7,XJ⟩ (Xx XF a[s.Un].til):=⟨_,rfl⟩
   have S:=(((aa.refl [] W).alloc _).drew.trans I);have V:=I.get (show(W.alloc (XE #[Xx XF 0,Xy ⟨#[]⟩,Xz XJ 0 0,Xz XJ 0 0,Xy ⟨#[]⟩,Xx XF 0,Xx XF 0,Xx XF 0] 110)).drew.heap[W.heap.size]?=_ from PM _ _) (by simp);have U:aa [] W X:=(by rw[G];exact(((((((S.setCell (P7 (PQ _)) _).setCell (P7 (PQ _)) _).setCell (P7 (PQ _)) _).setCell (P7 (PQ _)) _).setCell (P7 (PQ _)) _).setCell (P7 (PQ _)) _).setCell (P7 (PQ _)) _).setCell (P7 (PQ _)) _);have r:X.heap[W.heap.size]?=XK (XE #[Xx XF a[s.Un].kind,Xy a[s.Un].label,Xz (c (10+2*s.Un)).ao a[s.Un].Um.length (c (10+2*s.Un)).cap,Xz (c (11+2*s.Un)).ao a[s.Un].Ux.length (c (11+2*s.Un)).cap,Xy a[s.Un].fin.file,Xx XF a[s.Un].fin.line,Xx XF a[s.Un].fin.col,Xx XF a[s.Un].til] 110):=by
    rw[G,af (af (af (af (af (af (af (af V _ _) _ _) _ _) _ _) _ _) _ _) _ _)];rfl
   rw[<-G];clear G x0 x1 u0 u1 p0 q0 q1 q2 q3 q4 q5 q6 q7 qf S V;generalize W.heap.size=D at r ⊢
  all_goals
   have m0:XI X ⟨D,0,XJ⟩=XK (Xx XF a[s.Un].kind):=(by rw[ab r];rfl);have m1:XI X ⟨D,1,XJ⟩=XK (Xy a[s.Un].label):=(by rw[ab r];rfl);have m2:XI X ⟨D,2,XJ⟩=XK (Xz (c (10+2*s.Un)).ao a[s.Un].Um.length (c (10+2*s.Un)).cap):=(by rw[ab r];rfl);have m3:XI X ⟨D,3,XJ⟩=XK (Xz (c (11+2*s.Un)).ao a[s.Un].Ux.length (c (11+2*s.Un)).cap):=(by rw[ab r];rfl);have m4:XI X ⟨D,4,XJ⟩=XK (Xy a[s.Un].fin.file):=(by rw[ab r];rfl);have m5:XI X ⟨D,5,XJ⟩=XK (Xx XF a[s.Un].fin.line):=(by rw[ab r];rfl);have m6:XI X ⟨D,6,XJ⟩=XK (Xx XF a[s.Un].fin.col):=(by rw[ab r];rfl);have m7:XI X ⟨D,7,XJ⟩=XK (Xx XF a[s.Un].til):=(by rw[ab r];rfl);have PX:=u.Ur U;have a9:=ae r;obtain⟨x0,x1⟩:=Y.out X U;have t:XN _:=DK a s.Un A;cases J:jl a[s.Un].kind
   ·have m:XN (eW a p o (i.map Ex.xs) (g.map Ex.xs) s=((0,a[s.Un].Um),g.map Ex.xs)):=(by show _=_;rw[Z.out,t.out,J];rfl);clear Z t;(go_upto_region 8 with (go_at_call 93;refine(dl a[s.Un].kind _ _ _ _ _ _ _ _).mono ?_;rintro e w5 ⟨rfl,T⟩;have ac:=T.get r (by simp)));have be:XI w5 ⟨D,2,XJ⟩=XK (Xz (c (10+2*s.Un)).ao a[s.Un].Um.length (c (10+2*s.Un)).cap):=(by rw[ab ac];rfl);have o0:=E.recd.UD.syms s.Un a[s.Un] (PJ A);have kk:=(U.trans T);have O:=u.Ur kk;clear m0 m1 m2 m3 m4 m5 m6 m7;go_wp2;exact Qg (v:=XD #[Xz (c (10+2*s.Un)).ao a[s.Un].Um.length (c (10+2*s.Un)).cap,Xx XF 0]) (by simp[results,results177,go_sem]) rfl
     ⟨g,⟨c (10+2*s.Un),a[s.Un].Um⟩,by rw[m.out],by rw[m.out],O,⟨o0.view.Ur O.kept,fun x hx=>⟨PY (o0.lt hx) O.kept.size,by have:=o0.lt hx;have:=P.hb;omega,fun hm=>by have:=P.hin x hm;have:=o0.lt hx;omega⟩⟩,fun _=>by rw[m.out],PQ _⟩
   ·have m:XN (eW a p o (i.map Ex.xs) (g.map Ex.xs) s=(eI a s.Un p o (g.map Ex.xs),(g.map Ex.xs).take (g.length-(al a s.Un).length))):=(by show _=_;rw[Z.out,t.out,J];rfl);have ah:fE a s.Un=XL:=(by rw[t.out,J]);clear Z t;(go_upto_region 7 with (go_at_call 93;refine(dl a[s.Un].kind _ _ _ _ _ _ _ _).mono ?_;rintro e w5 ⟨rfl,T⟩));obtain⟨y0,y1⟩:=Y.out w5 (U.trans T);have O:=PX.Ur T;clear m0 m1 m2 m3 m4 m5 m6 m7;go_wp2_with fail;refine(Ev M w5 n y d l b s.Un a c K p o hv hm i g H E O A ah aq).mono ?_;rintro e w6 ⟨az,F,rfl,R,P6,F6,ap,am⟩;have ad:XN _:=R;clear R;go_wp2;exact Qg (v:=XD #[Xz F.hd.ao F.xs.length F.hd.cap,Xx XF (eI a s.Un p o (g.map Ex.xs)).1]) (by simp[results,results177,go_sem]) rfl
     ⟨az,F,by rw[m.out],by rw[m.out];exact ad.out,P6,F6,fun hh=>by rw[m.out]at hh ⊢;rw[ap hh,Sx],am⟩
 ·have a8:decide ((s.Un:Int)<0)=XM:=by simp
  by_cases z:s.Un<i.length
  ·have m:XN (eW a p o (i.map Ex.xs) (g.map Ex.xs) s=((0,i[s.Un].xs),g.map Ex.xs)):=by
    show _=_;unfold eW;rw[hk,PZ rfl,Qh,PZ z,PK];simp[z]
   have ai:decide ((s.Un:Int) ≥ i.length)=XM:=(by simp;omega);have a1:(s.Un:Int)<i.length:=(by omega);have oS:aE W (H 0) (dv i):=u.ply.bag.own 0;rcases oS.UC with ⟨_,h0,_⟩ | ⟨gs,a0,es,-,ag,-⟩
   ·have:i.length=0:=h0;omega
   have cs:=oS.cell es s.Un (rF i[s.Un]) (oO i s.Un z);have a7:i.length<=(H 0).cap:=ag;have Q:=(u.ply.shs i[s.Un] (PT z)).1;rw[es]at p3;unfold rF at cs;generalize i[s.Un]=w at *;clear p0 p1 p2 p4 oS es;go_enter func177,ntmps177;(go_upto_region 1 with fail);rw[HW.out];(go_upto_region 2 with fail);go_quiet (fail);(go_upto_region 4 with fail);go_quiet (fail);go_wp2;exact Qg (v:=XD #[Xz w.hd.ao w.xs.length w.hd.cap,Xx XF 0]) (by simp[results,results177,go_sem]) rfl
    ⟨g,w,by rw[m.out],by rw[m.out],u.Ur (((aa.refl [] _).drewN _).drewN _),Q.Ur (((aa.refl [] _).drewN _).drewN _),fun _=>by rw[m.out],PQ _⟩
  ·have m:XN (eW a p o (i.map Ex.xs) (g.map Ex.xs) s=((5,[]),g.map Ex.xs)):=by
    show _=_;unfold eW;rw[hk,PZ rfl,Qh,PV z]
   have ai:decide ((s.Un:Int) ≥ i.length)=XL:=(by simp;omega);clear p0 p1 p2 p4;go_enter func177,ntmps177;(go_upto_region 1 with fail);rw[HW.out];(go_upto_region 2 with fail);go_quiet (fail);go_wp2;exact Qg (v:=XD #[Xz XJ 0 0,Xx XF 5]) (by simp[results,results177,go_sem]) rfl
    ⟨g,⟨⟨XJ,0⟩,[]⟩,by rw[m.out];rfl,by rw[m.out],u.Ur ((aa.refl [] _).drewN _),oR _ _ _,by rw[m.out];simp,PQ _⟩
end Go.Proofs.YtnbalopedcgpcaaGreat
