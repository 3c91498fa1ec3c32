import Derived.BigQuiet
import Derived.Test.YtnbalopedcgpcaaGreatG11
namespace Go.Proofs.YtnbalopedcgpcaaGreat
open Go.RowKit Tryz
open Value renaming int->Xx,string->Xy,slice->Xz,pointer->XA,agg->XB,bool->XC,tuple->XD
open Obj renaming cells->XE
open IntKind renaming i64->XF
open Ending renaming returned->XH
open World renaming cell?->XI
open Option renaming none->XJ,some->XK
open Bool renaming true->XL,false->XM
open Go.RowKit renaming Hid->XN
open Go renaming Calls->XO,World->XP,Value->XQ
set_option maxHeartbeats 0
variable{H d:XP}{l v g:Nat}{s:List ByteArray}{m:List Bool}{z2 N:Hd}{z7:Nat->Prop}{o:List XQ}{I:Nat->fe}{n:Nat->Hd}{z8:List Rw}(a:Nat)(w:List ByteArray)(k:List Bool)(z5 M:Hd)(z0:List ByteArray)(D:List Nat)(z3:List Bool)(z6:List St)(y f:Nat)(z4:Hd)(x:List ByteArray)(T:List Rw)(L:XP)(b:Nat)
def aZ(vs:List ByteArray)(x:ByteArray):Option Nat:=(List.range vs.length).find? (fun i=>(vs.getD i ⟨#[]⟩).toList==x.toList)
def oB(l:List Bool):List XQ:=l.map XC
def me(l:List Bool):fe:=⟨4,1,l.length,oB l⟩
structure im(w:XP)(tb:Nat)(vs:List ByteArray)(ms:List Bool)(hv hm:Hd):Prop where
 blk:w.heap[tb]?=XK (XE #[Xz hv.ao vs.length hv.cap,Xz hm.ao ms.length hm.cap] 258)
 vars:aE w hv (au vs)
 marks:aE w hm (me ms)
 o1:hv.blk≠XK tb
 o2:hm.blk≠XK tb
 o3:hv.blk=XJ∨hv.blk≠hm.blk
theorem im.cells(h:im H l s m z2 N):XI H ⟨l,0,XJ⟩=XK (Xz z2.ao s.length z2.cap)/\XI H ⟨l,1,XJ⟩=XK (Xz N.ao m.length N.cap):=by
 refine⟨?_,?_⟩ <;> (rw[ab h.blk];rfl)
theorem im.lt(h:im H l s m z2 N):l<H.heap.size:=ae h.blk
theorem im.kept{S:List Nat}(h:im H l s m z2 N)(k:aa S H d)(c:l∉S)(b:∀x,z2.blk=XK x∨N.blk=XK x->x∉S):im d l s m z2 N :=
 ⟨k.get h.blk c,h.vars.Uw (fun x a=>k.block x (h.vars.lt a) (b x (P0 a))),h.marks.Uw (fun x a=>k.block x (h.marks.lt a) (b x (P7 a))),h.o1,h.o2,h.o3⟩
theorem im.Ur(h:im H l s m z2 N)(k:aa [] H d):im d l s m z2 N:=h.kept k (by simp) (by simp)
theorem pq(x:ByteArray)(j:XP)(h:im j a w k M z4)(D:w.length<=1073741824) :
  XO prog 180 #[XA (XK ⟨a,0,XJ⟩),Xy x] j fun e v=>e=XH (Xx XF (eT (aZ w x)))/\v=j:=by
 obtain⟨q,z⟩:=h.cells;go_enter func180,ntmps180;go_wp2
 go_loopg [5] w.length (fun g i wr=>∃b:Nat,b<=w.length/\g=w.length-b/\i=Xx XF b/\XN (∀i,i<b->((w.getD i ⟨#[]⟩).toList==x.toList)=XM)/\wr=j)
 case atStart=>exact⟨0,by omega,by omega,rfl,fun i o=>by omega,rfl⟩
 case round =>
  obtain⟨b,C,B,rfl,c,rfl⟩:=hrel;by_cases d:b<w.length
  ·rcases h.vars.UC with ⟨_,t,_⟩ | ⟨g,r,m,-,s,-⟩
   ·have:w.length=0:=t;omega
   ·have A:=h.vars.cell m b (Xy w[b]) (mL w b d);rw[m]at q;have f:XN _:=i7 w b d;have u:w.length<=M.cap:=s;generalize w[b]=y at *;cases n:(y.toList==x.toList)
    ·have p:XN (∀i,i<b+1->((w.getD i ⟨#[]⟩).toList==x.toList)=XM):=by
      intro i o;by_cases e:i=b
      ·subst e;rw[f.out];exact n
      ·exact c.out i (by omega)
     clear f h;go_wp2;go_roundg (w.length-(b+1))
     case measure=>omega
     case rel=>exact⟨b+1,by omega,rfl,by go_num,p,rfl⟩
    ·have l:XN (aZ w x=XK b):=dN d (by rw[f.out];exact n) c.out;clear f h;go_wp2;go_ret;exact⟨ay (by rw[l.out];rfl),rfl⟩
  ·have l:XN (aZ w x=XJ):=eJ (fun i o=>c.out i (by omega));clear h;go_wp2;go_ret;exact⟨ay (by rw[l.out];rfl),rfl⟩
def aG(vs ws:List ByteArray):List Nat:=ws.filterMap (aZ vs)
theorem tC(h:f<z0.length)(a:aZ w z0[f]=XK b):aG w (z0.take (f+1))=aG w (z0.take f)++[b]:=by
 unfold aG;rw[d7 z0 f h,Q0];simp[a]
theorem tB(h:b<x.length)(a:aZ z0 x[b]=XJ):aG z0 (x.take (b+1))=aG z0 (x.take b):=by
 unfold aG;rw[d7 x b h,Q0];simp[a]
theorem mZ:(aG z0 x).length<=x.length:=Se _ _
set_option maxRecDepth 100000
theorem uw(h:im L a w k z5 M)(hl:w.length<=1073741824)(N:cE L z4 x)(P:x.length<=1000000) :
  XO prog 165 #[XA (XK ⟨a,0,XJ⟩),Xz z4.ao x.length z4.cap] L fun e w'=>∃f:Hd,e=XH (Xz f.ao (aG w x).length f.cap)/\aE w' f (bQ (aG w x))/\(∀l,f.blk=XK l->L.heap.size<=l)/\aa [] L w':=by
 obtain⟨i0,hi,Q,R,S⟩:=Qq mX;obtain⟨ao,ac⟩:=z4;rcases N with rfl | ⟨g,F,ad,t,W,e2,X,e4,e5⟩
 ·clear P;go_enter func165,ntmps165;go_wp2;refine Rg 1 ?_;rw[RM];go_wp2;go_ret;exact⟨⟨XJ,0⟩,rfl,Qj _ _ _ _,by intro l s;simp[Hd.blk]at s,aa.refl _ _⟩
 simp only at W;subst W;go_enter func165,ntmps165;go_wp2
 go_loopg [5,6] x.length (fun gk sv i wr=>∃(b:Nat) (f:Hd),b<=x.length/\gk=x.length-b/\i=Xx XF b/\sv=Xz f.ao (aG w (x.take b)).length f.cap/\aE wr f (bQ (aG w (x.take b)))/\(∀l,f.blk=XK l->L.heap.size<=l)/\aa [] L wr)
 case atStart=>exact⟨0,⟨XJ,0⟩,by omega,by omega,rfl,rfl,Qj _ _ _ _,by intro l s;simp[Hd.blk]at s,aa.refl _ _⟩
 case round =>
  obtain⟨b,f,hk,hg,rfl,rfl,C,G,A⟩:=hrel;have hr:=h.Ur A;have ah:=mZ w (x.take b);have Y:(x.take b).length<=b:=by simp;omega
  by_cases r:b<x.length
  ·have c2:XI wr ⟨g,F+b,XJ⟩=XK (Xy x[b]):=(ab (A.get e2 (by simp)) (F+b)).trans (X b x[b] (PJ r))
   ·skip
    have V:=fun p=>tC w x b p r;have U:=tB w x b r;have q:XN _:=V;have o:XN _:=U;have T:=pq a w k z5 M x[b] wr hr hl;have d:XN _:=T;clear V U T X;generalize x[b]=y at *;rcases hp:aZ w y with _ | p
    ·have v:XN _:=o.out hp;rw[hp]at d;simp only[eT]at d;clear q o;go_wp2_with (go_at_call 180;refine PU d.out ?_;rintro e w3 ⟨rfl,rfl⟩);go_roundg (x.length-(b+1))
     case measure=>omega
     case rel=>exact⟨b+1,f,by omega,rfl,by go_num,by rw[v.out],by rw[v.out];exact C,G,A⟩
    ·have v:XN _:=q.out p hp;rw[hp]at d;simp only[eT]at d;have D:=C.Uw (fun l s=>((aa.refl [] wr).alloc (XE #[Xx XF p] 3)).block l (C.lt s) (by simp));clear q o;go_wp2_with (first | (go_at_call 180;refine PU d.out ?_;rintro e w3 ⟨rfl,O⟩;rw[O]) | (at_builtin;refine aD _ rfl (.tmp 22) (.tmp 24) 46 rfl i0 (Xx XF 0) 8 f (bQ (aG w (x.take b))) underlying46 hi Q R S rfl Qf rfl (by exact D) ⟨_,0,XJ⟩ 1 1 [Xx XF p] rfl rfl ?d1 ?d2 Qf ?d3 ?d4 ?_))
     case d1=>intro j u H;match j,H with | 0,H=>simp at H;subst H;simp[Addr.add]
     case d2=>intro u Z;simp at Z;subst Z;rfl
     case d3=>simp only[bQ];unfold maxLen;omega
     case d4=>simp only[bQ];omega
     intro I z w5 E m c;rw[jc (aG w (x.take b)) p,<-v.out]at E;have B:=A.alloc (XE #[Xx XF p] 3);have K:=B.grown m G;have ag:L.heap.size<=I:=by
      rcases c with e | e
      ·exact G I e
      ·have:=B.size;simp at e this;omega
     have J:XN ((bQ (aG w (x.take b))).n+1=(aG w (x.take (b+1))).length):=(by show _=_;rw[v.out];simp[bQ]);rw[J.out];clear m c D;go_wp2;go_roundg (x.length-(b+1))
     case measure=>omega
     case rel=>exact⟨b+1,⟨XK ⟨I,0,XJ⟩,z⟩,by omega,rfl,by go_num,rfl,E,by intro l s;simp[Hd.blk]at s;omega,K⟩
  ·have e:b=x.length:=(by omega);subst e;rw[QJ]at C ⊢;go_wp2;go_ret;exact⟨f,rfl,C,G,A⟩
def ie(side mi:Nat)(mem:List Nat)(ms:List Bool):List Bool:=mem.foldl (fun ms mj=>ms.set (mi*side+mj) XL) ms
def iI(side:Nat)(mem:List Nat)(ms:List Bool):List Bool:=mem.foldl (fun ms mi=>ie side mi mem ms) ms
def gn(side:Nat)(mem:List Nat)(ms:List Bool)(i j:Nat):List Bool:=ie side (mem.getD i 0) (mem.take j) ((mem.take i).foldl (fun ms mi=>ie side mi mem ms) ms)
theorem lV(c:List Nat)(d:List Bool):(ie f b c d).length=d.length:=by
 unfold ie
 induction c generalizing d with
 | nil=>rfl
 | cons a r e=>rw[Q7,e];simp
theorem pa(r:List Nat)(b:List Bool):(r.foldl (fun b d=>ie a d D b) b).length=b.length:=by
 induction r generalizing b with
 | nil=>rfl
 | cons e r c=>rw[Q7,c,lV]
theorem gJ:(gn a D z3 f b).length=z3.length:=by
 unfold gn;rw[lV,pa]
theorem zC(c:b<D.length):gn a D z3 f (b+1)=(gn a D z3 f b).set (D.getD f 0*a+D[b]) XL:=by
 unfold gn ie;rw[d7 D b c,Rb];rfl
theorem B7(c:b<D.length):gn a D z3 b D.length=gn a D z3 (b+1) 0:=by
 have e:D.getD b 0=D[b]:=by rw[PK,PJ c];rfl
 unfold gn;rw[QJ,d7 D b c,Rb,e];rfl
theorem B0:gn a D z3 D.length 0=iI a D z3:=by
 unfold gn iI;rw[QJ];rfl
theorem uP:(oB z3).length=z3.length*1:=by simp[oB]
theorem im.mark(h:im H l s m z2 N)(d:Nat)(e:N.ao=XK ⟨d,0,XJ⟩)(i:Nat)(u:i<m.length) :
  im (H.setCell ⟨d,i,XJ⟩ (XC XL)) l s (m.set i XL) z2 N:=by
 have k:N.blk=XK d:=by unfold Hd.blk;rw[e];rfl
 refine⟨?_,?_,?_,h.o1,h.o2,h.o3⟩
 ·rw[P9 _ _ _ _ (by rintro rfl;exact h.o2 k),h.blk];simp
 ·refine h.vars.Uw (fun x j=>P9 _ _ _ _ ?_);rintro rfl;rcases h.o3 with a | a
  ·rw[a]at j;cases j
  ·exact a (j.trans k.symm)
 ·rcases h.marks.UC with ⟨_,t,_⟩ | ⟨g,c,b,n,o,p,q,r⟩
  ·have:m.length=0:=t;omega
  ·have:g=d:=(by rw[e]at b;injection b with b;injection b with b;exact b.symm);subst this;refine⟨by simp only[me];rw[uP],P7 ⟨g,N.cap,c.setIfInBounds i (XC XL),?_,Qx _,af n _ _,?_,p,?_,?_⟩⟩
   ·simp[me,e]
   ·simpa [me] using o
   ·simpa [me] using q
   ·have f:c.toList.take (m.length*1)=oB m:=r;simp only[me,List.length_set,Array.toList_setIfInBounds,List.take_set,f];simp[oB,List.map_set]
theorem gF(h:b<D.length):(fV D)[b]?=XK (Xx XF D[b]):=by simp[fV,h]
theorem zz(b:List Nat)(u:XP)(h:im u a w k z5 M)(Q:k.length=w.length*w.length)(S:w.length<=10000)(G:aE u z4 (bQ b))(R:b.length<=1000000)(r:∀i (hi:i<b.length),b[i]<w.length)(t:∀x,z4.blk=XK x->M.blk≠XK x) :
  XO prog 164 #[XA (XK ⟨a,0,XJ⟩),Xz z4.ao b.length z4.cap] u fun e w'=>e=XH (XD #[])/\im w' a w (iI w.length b k) z5 M/\dA (fun c=>M.blk=XK c) u w':=by
 obtain⟨ao,m⟩:=z4;rcases G.UC with ⟨e0,E,_⟩ | ⟨g,ac,W,e2,X,J,-⟩
 ·have B:b.length=0:=E;have P:b=[]:=Ql B;subst P;clear G E B e0 R r t;go_enter func164,ntmps164;go_wp2;refine Rg 1 ?_;rw[RM];go_wp2;go_end0;exact⟨rfl,h,dA.refl _ _⟩
 simp only at W X J;have ag:b.length<=m:=X;have ad:m<=9223372036854775807:=by unfold maxLen at J;exact J
 subst W;have am:M.blk≠XK g:=t g rfl;go_enter func164,ntmps164;go_wp2
 go_loopg [4] b.length (fun gk i wr=>∃c:Nat,c<=b.length/\gk=b.length-c/\i=Xx XF c/\im wr a w (gn w.length b k c 0) z5 M/\dA (fun c=>M.blk=XK c) u wr)
 case atStart=>exact⟨0,by omega,by omega,rfl,h,dA.refl _ _⟩
 case round =>
  obtain⟨c,hk,hg,rfl,F,N⟩:=hrel;by_cases l:c<b.length
  ·have HR:XN _:=B7 w.length b k c l;go_wp2_with fail
   go_loopg [5] b.length (fun K i2 C=>∃j:Nat,j<=b.length/\K=b.length-j/\i2=Xx XF j/\im C a w (gn w.length b k c j) z5 M/\dA (fun c=>M.blk=XK c) u C)
   case atStart=>exact⟨0,by omega,by omega,rfl,F,N⟩
   case round =>
    obtain⟨j,hj,ai,rfl,d,o⟩:=hrel;clear F N;by_cases s:j<b.length
    ·have T:=r c l;have av:=r j s;have p:aE wr ⟨XK ⟨g,0,XJ⟩,m⟩ (bQ b):=G.Uw (fun x H=>o.block x (G.lt H) (fun e=>t x H e));have p1:=p.cell rfl c (Xx XF b[c]) (gF b c l);have p2:=p.cell rfl j (Xx XF b[j]) (gF b j s);obtain⟨c0,U⟩:=d.cells;rw[gJ]at U;have I:=zC w.length b k c j s;have Y:b.getD c 0=b[c]:=(by rw[PK,PJ l];rfl);rw[Y]at I;have f:b[c]*w.length+b[j]<k.length:=by
      rw[Q];have:(b[c]+1)*w.length<=w.length*w.length:=RS _ T;rw[SL]at this;omega
     have O:b[c]*w.length<=10000*10000:=Q3 (by omega) S;have v:XN _:=(fun L e=>d.mark L e (b[c]*w.length+b[j]) (by rw[gJ];exact f));have z:XN _:=I;rcases d.marks.UC with ⟨_,E,_⟩ | ⟨L,V,D,n,A,-⟩
     ·have:(gn w.length b k c j).length=0:=E;rw[gJ]at this;omega
     ·have Z:k.length<=M.cap:=(by have:(gn w.length b k c j).length<=M.cap:=A;rw[gJ]at this;exact this);have ah:=aw n;have ap:=ae n;have p3:=d.marks.cell D (b[c]*w.length+b[j]) (XC ((gn w.length b k c j)[b[c]*w.length+b[j]]'(by rw[gJ];exact f))) (by simp[me,oB,gJ,f]);rw[D]at U;clear I n A p;generalize (gn w.length b k c j)[b[c]*w.length+b[j]]'(by rw[gJ];exact f)=old at *;generalize H:b[c]=x at *;generalize hy:b[j]=y at *;obtain⟨q,hq⟩:∃q,x*w.length=q:=⟨_,rfl⟩
      have aq:(x:Int)*(w.length:Int)=(q:Int):=(by rw[<-hq];simp);rw[hq]at f O p3 v z;clear H hy Y;go_wp2_with fail;go_quiet (fail);go_wp2;go_roundg (b.length-(j+1))
      case measure=>omega
      case rel=>exact⟨j+1,by omega,rfl,by go_num,by rw[z.out];exact(v.out L D).Ur ((aa.refl [] _).drewN nq),(o.Ur ((aa.refl [] _).drewN nq)).setCell (P0 (by unfold Hd.blk;rw[D];rfl)) _⟩
    ·have e:j=b.length:=(by omega);subst e;rw[HR.out]at d;go_wp2;go_roundg (b.length-(c+1))
     case measure=>omega
     case rel=>exact⟨c+1,by omega,rfl,by go_num,d,o⟩
  ·have e:c=b.length:=(by omega);subst e;rw[B0]at F;go_wp2;go_end0;exact⟨rfl,F,N⟩
def cR(side:Nat)(ms:List Bool)(i j:Nat):Bool:=!(i==j)&&ms.getD (i*side+j) XM
theorem vO(a:l<g)(b:v<g):l*g+v<g*g:=by
 have:(l+1)*g<=g*g:=RS _ a;rw[SL]at this;omega
set_option maxRecDepth 512
theorem mt(h:im L a w k z5 M)(m:k.length=w.length*w.length)(n:w.length<=10000)(A:y<w.length)(B:f<w.length) :
  XO prog 149 #[XA (XK ⟨a,0,XJ⟩),Xx XF y,Xx XF f] L fun e E=>e=XH (XC (cR w.length k y f))/\E=L:=by
 obtain⟨F,v⟩:=h.cells;have b:y*w.length+f<k.length:=by rw[m];exact vO A B
 have l:y*w.length<=10000*10000:=Q3 (by omega) n;rcases h.marks.UC with ⟨_,x,_⟩ | ⟨G,p,s,j,d,-⟩
 ·have:k.length=0:=x;omega
 ·have t:k.length<=M.cap:=d;have D:=h.marks.cell s (y*w.length+f) (XC k[y*w.length+f]) (by simp[me,oB,b]);have r:k.getD (y*w.length+f) XM=k[y*w.length+f]:=by rw[PK,PJ b];rfl
  have g:XN (cR w.length k y f=(!(y==f)&&k[y*w.length+f])):=by show _=_;unfold cR;rw[r]
  rw[s]at v;generalize k[y*w.length+f]=o at *;obtain⟨q,u⟩:∃q,y*w.length=q:=⟨_,rfl⟩
  have C:(y:Int)*(w.length:Int)=(q:Int):=by rw[<-u];simp
  rw[u]at b l D;clear r j d h;by_cases c:y=f
  ·have z:((y:Int) != (f:Int))=XM:=(by simp[c]);have i:XN (cR w.length k y f=XM):=(by show _=_;rw[g.out];simp[c]);clear g;go_enter func149,ntmps149;go_wp2;go_ret;exact⟨aH i.out.symm,rfl⟩
  ·have z:((y:Int) != (f:Int))=XL:=(by simp;omega);have i:XN (cR w.length k y f=o):=(by show _=_;rw[g.out];simp[c]);clear g;go_enter func149,ntmps149;go_wp2;go_ret;exact⟨aH i.out.symm,rfl⟩
def hZ(l:List St)(a n:Nat):Bool:=match l[n]? with | some s=>(s.kind==1)&&bZ l n a | none=>XM
theorem Ld(h:b<z6.length):hZ z6 f b=((z6[b].kind==1)&&bZ z6 b f):=by
 unfold hZ;rw[PJ h]
def bE(l:List St)(a:Nat)(vs:List ByteArray):Nat->List Bool
 | 0=>List.replicate (vs.length*vs.length) XM
 | k+1=>if hZ l a k=XL then iI vs.length (aG vs (symsAt l k)) (bE l a vs k) else bE l a vs k
def cT(l:List St)(a:Nat)(vs:List ByteArray):List Bool:=bE l a vs l.length
theorem gR(k:Nat):(bE z6 f x k).length=x.length*x.length:=by
 induction k with
 | zero=>simp[bE]
 | succ k a =>
  rw[bE];split
  ·unfold iI;rw[pa,a]
  ·exact a
theorem mE{x:ByteArray}(h:aZ s x=XK l):l<s.length:=by
 have:=Qm h;simpa using this
theorem kJ(h:b<(aG z0 x).length):(aG z0 x)[b]<z0.length:=by
 have a:=PT h;unfold aG at a;rw[Rq]at a;obtain⟨d,_,c⟩:=a;exact mE c
theorem Nu:(prog.info? 4).map (fun i=>(i.zero,i.size,i.bytes))=XK (XK (XC XM),1,1):=by kernel_rfl
theorem zy(v:XQ)(n:Nat):madeCells #[v] n=(List.replicate n v).toArray:=by
 apply Array.ext
 ·rw[QV];simp
 ·intro i a b;have h:i<n:=by rw[QV]at a;exact a
  have:=wU v n i h;rw[Rn a]at this;simp at this ⊢;exact this
theorem aa.ofP{b:XP}(K:aa [] H d)(g:dA z7 d b)(c:∀k,z7 k->H.heap.size<=k):aa [] H b :=
 ⟨g.os.trans K.os,g.tape.trans K.tape,g.output.trans K.output,Qk K.size g.size,fun k a _=>(g.block k (PY a K.size) (fun e=>by have:=c k e;omega)).trans (K.block k a (by simp))⟩
set_option maxRecDepth 100000
theorem Ba(l:List St)(H:Nat->Hd)(hw:Hd)(a:List ByteArray)(w:XP)(h:cK w y f l H)(ok:dB l)(hO:aE w hw (au a))(L:a.length<=10000) :
  XO prog 148 #[XA (XK ⟨y,f,XJ⟩),Xx XF b,Xz hw.ao a.length hw.cap] w fun e w'=>∃(tb:Nat) (t s:Hd),e=XH (XA (XK ⟨tb,0,XJ⟩))/\im w' tb a (cT l b a) t s/\w.heap.size<=tb/\(∀x,t.blk=XK x∨s.blk=XK x->w.heap.size<=x)/\aa [] w w':=by
 obtain⟨i0,hi,a4,Z,a5⟩:=Qq ey;obtain⟨i1,aq,a1,a2,a3⟩:=Qq Nu;have a6:=ok.len;have a8:=h.lt;obtain⟨q,hq⟩:∃q,a.length*a.length=q:=⟨_,rfl⟩
 have bd:(a.length:Int)*(a.length:Int)=(q:Int):=by rw[<-hq];simp
 have be:q<=10000*10000:=by rw[<-hq];exact Q3 L L
 have m1:=fun w=>bR (P:=prog) w 22 9 i0 _ underlying22 hi a4 a.length 1 Z (by rw[a5];omega) (by omega);have m2:=fun w=>bR (P:=prog) w 232 4 i1 _ underlying232 aq a1 q 1 a2 (by rw[a3];omega) (by omega);obtain⟨A,m⟩:∃mc,mc=madeCells (Xy ⟨#[]⟩).cells (a.length*1):=⟨_,rfl⟩
 obtain⟨p,o⟩:∃mc,mc=madeCells (XC XM).cells (q*1):=⟨_,rfl⟩
 have z1:A.size=a.length*1:=by rw[m,QV]
 have Q:XN (p=(oB (bE l b a 0)).toArray):=by
  show _=_;rw[o,Th,<-hq];have:(XC XM).cells=#[XC XM]:=rfl;rw[this,zy];simp[bE,oB]
 rw[<-m]at m1;rw[<-o]at m2;clear m o;have K2:aa [] w (w.alloc (XE A 9)):=(aa.refl [] _).alloc _;have B:XN ((prog.info? (au a).e).map (·.size)=XK (au a).size):=by show _=_;simp[au,hi,Z]
 obtain⟨g,S,E,W,ac⟩:=jT (P:=prog) (w.alloc (XE A 9)) 22 22 3 w.heap.size a.length hw (au a) A 9 underlying22 B.out (PM _ _) (hO.Uw (fun x u=>K2.block x (hO.lt u) (by simp))) z1 (ij _);simp only[au]at S E;have C:g.heap.size=w.heap.size+1:=by rw[ac];simp
 have K3:aa [] w g:=((K2.mono (S':=[w.heap.size]) (by simp)).trans W).mono (by simp);obtain⟨W4,d⟩:∃W4,W4=(g.alloc (XE p 4)).alloc (XE #[Xz (XK ⟨w.heap.size,0,XJ⟩) a.length a.length,Xz (XK ⟨g.heap.size,0,XJ⟩) q q] 258):=⟨_,rfl⟩
 have K4:aa [] w W4:=by rw[d];exact(K3.alloc _).alloc _
 have I:XN (q=(bE l b a 0).length):=by show _=_;rw[gR,hq]
 have A4:im W4 (g.heap.size+1) a (bE l b a 0) ⟨XK ⟨w.heap.size,0,XJ⟩,a.length⟩ ⟨XK ⟨g.heap.size,0,XJ⟩,q⟩:=by
  refine⟨?_,?_,?_,?_,?_,?_⟩
  ·rw[d,<-I.out];have:=PM (g.alloc (XE p 4)) (XE #[Xz (XK ⟨w.heap.size,0,XJ⟩) a.length a.length,Xz (XK ⟨g.heap.size,0,XJ⟩) q q] 258);simpa using this
  ·refine aE.made (r:=au a) ?_ (Ar _) (by simp only[au];unfold maxLen;omega);rw[d];exact(((aa.refl [] _).alloc _).alloc _).get E (by simp)
  ·have e:(⟨XK ⟨g.heap.size,0,XJ⟩,q⟩:Hd)=⟨XK ⟨g.heap.size,0,XJ⟩,(me (bE l b a 0)).n⟩:=(by rw[I.out];rfl);rw[e];refine aE.made (r:=me (bE l b a 0)) ?_ (uP _) (by simp only[me];rw[<-I.out];unfold maxLen;omega);rw[d];have:=((aa.refl [] (g.alloc (XE p 4))).alloc (XE #[Xz (XK ⟨w.heap.size,0,XJ⟩) a.length a.length,Xz (XK ⟨g.heap.size,0,XJ⟩) q q] 258)).get (PM g (XE p 4)) (by simp);rw[this,Q.out];rfl
  ·intro e;simp[Hd.blk]at e;omega
  ·intro e;simp[Hd.blk]at e
  ·right;intro e;simp[Hd.blk]at e;omega
 have D:XN _:=d.symm;rw[C]at D A4;clear d W E Q K2 hO B z1 ac;obtain⟨t,G⟩:∃t:Hd,t=⟨XK ⟨w.heap.size,0,XJ⟩,a.length⟩:=⟨_,rfl⟩
 obtain⟨s,F⟩:∃s:Hd,s=⟨XK ⟨w.heap.size+1,0,XJ⟩,q⟩:=⟨_,rfl⟩
 rw[<-G,<-F]at A4;have HB:XN (∀x,t.blk=XK x∨s.blk=XK x->w.heap.size<=x/\x<=w.heap.size+1):=by
  intro x u;rw[G,F]at u;simp[Hd.blk]at u;omega
 clear G F;go_enter func148,ntmps148;go_upto_region 4 with fail
 rw[D.out];clear D m1 m2 S K3 C;go_wp2
 go_loopg [9] l.length (fun gk i wr=>∃k:Nat,k<=l.length/\gk=l.length-k/\i=Xx XF k/\im wr (w.heap.size+1+1) a (bE l b a k) t s/\aa [] w wr)
 case atStart=>exact⟨0,by omega,by omega,rfl,A4,K4⟩
 case round =>
  obtain⟨k,hk,hg,rfl,T,U⟩:=hrel;have J:=h.Ur U;have a7:=T.lt;clear A4 K4;by_cases c:k<l.length
  ·have M:XN _:=Ld l b k c;have bf:=ok.syms k c;have a9:=ok.pos k c;have SY:XN (symsAt l k=l[k].Um):=ki l k c;have N:XN (bE l b a (k+1)=if hZ l b k=XL then iI a.length (aG a (symsAt l k)) (bE l b a k) else bE l b a k):=rfl;cases Y:(l[k].kind==1)
   ·have O:XN (bE l b a (k+1)=bE l b a k):=(by show _=_;rw[N.out,M.out,Y];simp);clear M N SY;go_wp2_with (first | (go_at_call 79;refine(dr y f l H _ (by exact J)).mono ?_;rintro e wc ⟨rfl,rfl⟩) | (go_at_call 51;refine(aQ y f k l H _ (by exact J) c).mono ?_;rintro e w5 ⟨rfl,j⟩;unfold bW));go_roundg (l.length-(k+1))
    case measure=>omega
    case rel=>exact⟨k+1,by omega,rfl,by go_num,by rw[O.out];exact(T.Ur j).Ur ((aa.refl [] _).alloc _),(U.trans j).alloc _⟩
   ·go_wp2_with (first | (go_at_call 79;refine(dr y f l H _ (by exact J)).mono ?_;rintro e wc ⟨rfl,a0⟩;rw[a0]) | (go_at_call 51;refine(aQ y f k l H _ (by exact J) c).mono ?_;rintro e w5 ⟨rfl,j⟩;unfold bW));obtain⟨R,z⟩:∃R,R=w5.alloc (XE #[Xx XF l[k].kind,Xy l[k].label,Xz (H (10+2*k)).ao l[k].Um.length (H (10+2*k)).cap,Xz (H (11+2*k)).ao l[k].Ux.length (H (11+2*k)).cap,Xy l[k].fin.file,Xx XF l[k].fin.line,Xx XF l[k].fin.col,Xx XF l[k].til] 110):=⟨_,rfl⟩
    rw[<-z];have k6:aa [] wr R:=by rw[z];exact j.alloc _
    have B6:R.heap[w5.heap.size]?=XK (XE #[Xx XF l[k].kind,Xy l[k].label,Xz (H (10+2*k)).ao l[k].Um.length (H (10+2*k)).cap,Xz (H (11+2*k)).ao l[k].Ux.length (H (11+2*k)).cap,Xy l[k].fin.file,Xx XF l[k].fin.line,Xx XF l[k].fin.col,Xx XF l[k].til] 110):=(by rw[z];exact PM _ _);have q2:XI R ⟨w5.heap.size,2,XJ⟩=XK (Xz (H (10+2*k)).ao l[k].Um.length (H (10+2*k)).cap):=(by rw[ab B6];rfl);have K:=J.Ur k6;have v:=T.Ur k6;have V:=U.trans k6;have ap:=(K.UD.syms k l[k] (PJ c)).view;clear z j k6 B6 J T U;cases hh:bZ l k b
    ·have O:XN (bE l b a (k+1)=bE l b a k):=(by show _=_;rw[N.out,M.out,hh];simp);clear M N SY;go_wp2_with (go_at_call 95;refine(eS y f k b l H _ (by exact K) c).mono ?_;rintro e w7 ⟨rfl,rfl⟩);go_roundg (l.length-(k+1))
     case measure=>omega
     case rel=>exact⟨k+1,by omega,rfl,by go_num,by rw[O.out];exact v,V⟩
    ·have O:XN (bE l b a (k+1)=iI a.length (aG a l[k].Um) (bE l b a k)):=(by show _=_;rw[N.out,M.out,Y,hh,SY.out];simp);clear M N SY;go_wp2_with (first | (go_at_call 95;refine(eS y f k b l H _ (by exact K) c).mono ?_;rintro e w7 ⟨rfl,az⟩;rw[az]) | (go_at_call 165;refine(uw (w.heap.size+1+1) a (bE l b a k) t s (H (10+2*k)) l[k].Um _ (by exact v) (by omega) (by exact ap) (by omega)).mono ?_;rintro e w8 ⟨hd,rfl,am,ai,X⟩));have ad:=v.Ur X;have bc:=mZ a l[k].Um
     refine(zz (w.heap.size+1+1) a (bE l b a k) t s hd (aG a l[k].Um) _ ad (gR _ _ _ _) L am (by omega) (fun i hi=>kJ a l[k].Um i hi) (by
      intro x u e;have h1:=ai x u;have h2:=HB.out x (P7 e);have h3:=v.lt
      omega)).mono ?_
     rintro e w9 ⟨rfl,ag,av⟩;have ah:=(V.trans X).ofP av (fun x u=>(HB.out x (P7 u)).1);go_wp2;go_roundg (l.length-(k+1))
     case measure=>omega
     case rel=>exact⟨k+1,by omega,rfl,by go_num,by rw[O.out];exact ag,ah⟩
  ·have e:k=l.length:=(by omega);subst e;go_wp2_with (go_at_call 79;refine(dr y f l H _ (by exact J)).mono ?_;rintro e wc ⟨rfl,rfl⟩);go_ret;exact⟨w.heap.size+1+1,t,s,rfl,T,by omega,fun x u=>(HB.out x u).1,U⟩
structure aB(w:XP)(b t:Nat)(cs:List XQ)(rows:Nat->fe)(H:Nat->Hd):Prop where
 blk:w.heap[b]?=XK (XE cs.toArray t)
 own:∀i,aE w (H i) (rows i)
 apart:∀i j,i≠j->(H i).blk=XJ∨(H i).blk≠(H j).blk
 off:∀i,(H i).blk≠XK b
theorem aB.lt(h:aB H l v o I n):l<H.heap.size:=ae h.blk
theorem aB.inlt(h:aB H l v o I n)(b:cD n g):g<H.heap.size:=by
 obtain⟨i,a⟩:=b;exact(h.own i).lt a
theorem aB.free(h:aB H l v o I n)(i:Nat):H.frozen? ⟨l,i,XJ⟩=XM:=aw h.blk i
theorem aB.cell(h:aB H l v o I n)(i:Nat):XI H ⟨l,i,XJ⟩=o[i]?:=by rw[ab h.blk];simp
theorem aB.keptP(h:aB H l v o I n)(b:dA z7 H d)(c:¬z7 l)(e:∀k,cD n k->¬z7 k):aB d l v o I n :=
 ⟨b.get h.blk c,fun i=>(h.own i).Uw (fun k a=>b.block k ((h.own i).lt a) (e k ⟨i,a⟩)),h.apart,h.off⟩
theorem aB.kept{S:List Nat}(h:aB H l v o I n)(b:aa S H d)(a:l∉S)(e:∀k,cD n k->k∉S):aB d l v o I n :=
 h.keptP (b.toP (P:=(·∈S)) (fun _ c _=>c)) a e
theorem aB.Ur(h:aB H l v o I n)(a:aa [] H d):aB d l v o I n:=h.kept a (by simp) (by simp)
theorem aB.put{rows':Nat->fe}(h:aB H l v o I n)(c i:Nat)(r:Hd)(F:aE d r (rows' i))(t:H.grownBy d (n i).blk)(b:r.blk=XJ∨r.blk=(n i).blk∨∃g,r.blk=XK g/\H.heap.size<=g)(y:∀j,j≠i->rows' j=I j)(u:XQ) :
  aB (d.setCell ⟨l,c,XJ⟩ u) l v (o.set c u) rows' (cX n i r)/\aj l H n (d.setCell ⟨l,c,XJ⟩ u) (cX n i r):=by
 have E:=h.lt;have A:d.heap[l]?=XK (XE o.toArray v):=(t.block l E (fun e=>h.off i e.symm)).trans h.blk;have s:∀j,(cX n i r j).blk≠XK l:=by
  intro j;by_cases e:j=i
  ·subst e;rw[cG];intro w;rcases b with b | b | ⟨g,b,m⟩
   ·rw[b]at w;cases w
   ·exact h.off j (b ▸ w)
   ·rw[b]at w;cases w;omega
  ·rw[bD _ _ _ _ e];exact h.off j
 refine⟨⟨?_,?_,?_,s⟩,⟨t.os,t.tape,t.output,by have:=t.size;simp[World.setCell];omega,?_⟩,?_⟩
 ·rw[af A,QQ]
 ·intro j;have q:aE d (cX n i r j) (rows' j):=by
   by_cases e:j=i
   ·subst e;rw[cG];exact F
   ·rw[bD _ _ _ _ e,y j e];refine(h.own j).Uw (fun k f=>t.block k ((h.own j).lt f) ?_);intro x;rcases h.apart j i e with a | a
    ·rw[a]at f;cases f
    ·exact a (f.trans x)
  refine q.Uw (fun k f=>P9 _ _ _ _ ?_);rintro rfl;exact s j f
 ·intro j z p;by_cases e:j=i
  ·subst e;rw[cG,bD _ _ _ _ (fun e=>p e.symm)];rcases b with b | b | ⟨g,b,m⟩
   ·exact P0 b
   ·rw[b];exact h.apart j z p
   ·right;rw[b];intro x;have:=(h.own z).lt x.symm;omega
  ·rw[bD _ _ _ _ e];by_cases B:z=i
   ·subst B;rw[cG];rcases b with b | b | ⟨g,b,m⟩
    ·rw[b];cases (n j).blk <;> simp
    ·rw[b];exact h.apart j z p
    ·cases w:(n j).blk with
     | none=>exact P0 rfl
     | some k=>right;rw[b];intro x;cases x;have:=(h.own j).lt w;omega
   ·rw[bD _ _ _ _ B];exact h.apart j z p
 ·intro k f D;rw[P9 _ _ _ _ (fun e=>D (P0 e))];exact t.block k f (fun e=>D (P7 ⟨i,e.symm⟩))
 ·intro k f;obtain⟨j,e⟩:=f;by_cases C:j=i
  ·subst C;rw[cG]at e;rcases b with b | b | ⟨g,b,m⟩
   ·rw[b]at e;cases e
   ·exact P0 ⟨j,b ▸ e⟩
   ·rw[b]at e;cases e;exact P7 m
  ·rw[bD _ _ _ _ C]at e;exact P0 ⟨j,e⟩
theorem aB.set(h:aB H l v o I n)(c:Nat)(u:XQ) :
  aB (H.setCell ⟨l,c,XJ⟩ u) l v (o.set c u) I n/\aj l H n (H.setCell ⟨l,c,XJ⟩ u) n:=by
 refine⟨⟨?_,?_,h.apart,h.off⟩,(dA.refl _ _).setCell (P0 (P0 rfl)) _,fun _ a=>P0 a⟩
 ·rw[af h.blk,QQ]
 ·intro j;refine(h.own j).Uw (fun k a=>P9 _ _ _ _ ?_);rintro rfl;exact h.off j a
theorem aB.app{cs':List XQ}{rows':Nat->fe}(h:aB H l v o I n)(c i g a m:Nat)(r:fe)(p:aE d ⟨XK ⟨g,0,XJ⟩,a⟩ r)(u:r=rows' i)(f:H.grownBy d (n i).blk)(b:(n i).blk=XK g∨H.heap.size<=g)(k:∀j,j≠i->rows' j=I j)(s:XQ)(w:o[c]?=XK s)(t:o.set c (Xz (XK ⟨g,0,XJ⟩) m a)=cs') :
  XI d ⟨l,c,XJ⟩=XK s/\d.frozen? ⟨l,c,XJ⟩=XM /\
  XN (aB (d.setCell ⟨l,c,XJ⟩ (Xz (XK ⟨g,0,XJ⟩) m a)) l v cs' rows' (cX n i ⟨XK ⟨g,0,XJ⟩,a⟩) /\
   aj l H n (d.setCell ⟨l,c,XJ⟩ (Xz (XK ⟨g,0,XJ⟩) m a)) (cX n i ⟨XK ⟨g,0,XJ⟩,a⟩)):=by
 have q:=(f.block l h.lt (fun e=>h.off i e.symm)).trans h.blk;subst u;subst t;refine⟨by rw[ab q];simpa using w,aw q _,?_⟩;exact h.put (rows':=rows') c i ⟨XK ⟨g,0,XJ⟩,a⟩ p f
  (by
    rcases b with e | e
    ·exact P7 (P0 e.symm)
    ·exact P7 (P7 ⟨g,rfl,by simpa using e⟩)) k _
structure ny(w:XP)(b o g:Nat)(L:List Rw):Prop where
 cell:∃arr t,w.heap[b]?=XK (XE arr t)/\arr[o+2]?=XK (Xz (XK ⟨g,0,XJ⟩) L.length L.length)
 arr:w.heap[g]?=XK (XE (ft L).toArray 69)
theorem ny.Ur(h:ny H l v g z8)(k:aa [] H d):ny d l v g z8:=by
 obtain⟨a,t,b,c⟩:=h.cell;exact⟨⟨a,t,k.get b (by simp),c⟩,k.get h.arr (by simp)⟩
theorem ny.at2(h:ny H l v g z8):XI H ⟨l,v+2,XJ⟩=XK (Xz (XK ⟨g,0,XJ⟩) z8.length z8.length):=by
 obtain⟨a,t,b,c⟩:=h.cell;rw[ab b];exact c
def qR(r:Rw):Bool:=!(r.Us==0)
def gu(L:List Rw)(k:Nat):List Rw:=(L.take k).filter qR
theorem CC(h:T.length<=10000):(gu T b).length<=10000:=by
 have a:=Q6 qR (T.take b);have c:(T.take b).length<=T.length:=by simp;omega
 unfold gu;omega
theorem CD(a:b<T.length)(h:(T[b].Us==0)=XM):gu T (b+1)=gu T b++[T[b]]:=by
 unfold gu;rw[d7 T b a,QD];simp[qR,h]
theorem Gf(a:b<T.length)(h:(T[b].Us==0)=XL):gu T (b+1)=gu T b:=by
 unfold gu;rw[d7 T b a,QD];simp[qR,h]
theorem CB:gu T T.length=T.filter qR:=by unfold gu;rw[QJ]
theorem JL:∀u∈ft T,u.oneCell'=XL:=by
 intro u a;unfold ft at a;rw[RI]at a;obtain⟨r,_,b⟩:=a;exact D0 r u b
theorem Gj(h:ny L a y f T)(hL:T.length<=10000) :
  XO prog 65 #[XA (XK ⟨a,y,XJ⟩)] L fun e w'=>∃ob:Option Nat,e=XH (eV ob (T.filter qR).length)/\dq w' ob (T.filter qR)/\(∀x,ob=XK x->L.heap.size<=x)/\aa [] L w':=by
 obtain⟨i0,X,H,s,I⟩:=Qq MT;go_enter func65,ntmps65;go_wp2
 go_loopg [3,4] T.length (fun gk sv i wr=>∃(k:Nat) (m:Hd),k<=T.length/\gk=T.length-k/\i=Xx XF k/\sv=Xz m.ao (gu T k).length m.cap/\aE wr m (mf (gu T k))/\(∀x,m.blk=XK x->L.heap.size<=x)/\aa [] L wr)
 case atStart=>exact⟨0,⟨XJ,0⟩,by omega,by omega,rfl,rfl,Qj _ _ _ _,by intro x g;simp[Hd.blk]at g,aa.refl _ _⟩
 case round =>
  obtain⟨k,m,hk,hg,rfl,rfl,w,V,t⟩:=hrel;have hT:=h.Ur t;have c2:=hT.at2;have W:=CC T k hL;by_cases q:k<T.length
  ·obtain⟨a0,a1,a2,a3,a4,a5⟩:=Ag hT.arr (fun j v b=>by simpa using b) k q;have N:XN _:=CD T k q;have p:XN _:=Gf T k q;have ag:(k:Int)<T.length:=(by omega);generalize T[k]=r at *;cases J:(r.Us==0)
   ·have Z:(r.Us != 0)=XL:=(by simp[bne,J]);have z:XN _:=N.out J;have D:=w.Uw (fun x g=>((aa.refl [] wr).alloc (XE #[Xy r.label,Xx XF r.Us,Xx XF r.why,Xy r.at_.file,Xx XF r.at_.line,Xx XF r.at_.col] 69)).block x (w.lt g) (by simp));clear N p;(go_upto_region 6 with fail);go_wp2_with (at_builtin;refine aD _ rfl (.tmp 24) (.tmp 32) 49 rfl i0 (XB #[Xy ⟨#[]⟩,Xx XF 0,Xx XF 0,Xy ⟨#[]⟩,Xx XF 0,Xx XF 0]) 64 m (mf (gu T k)) underlying49 X H s I rfl (RK 5) rfl (by exact D) ⟨_,0,XJ⟩ 1 1 (ii r) rfl rfl ?d1 ?d2 Qf ?d3 ?d4 ?_)
    case d1 =>
     intro j u b
     match j,b with
     | 0,b=>simp[ii]at b;subst b;simp[Addr.add]
     | 1,b=>simp[ii]at b;subst b;simp[Addr.add]
     | 2,b=>simp[ii]at b;subst b;simp[Addr.add]
     | 3,b=>simp[ii]at b;subst b;simp[Addr.add]
     | 4,b=>simp[ii]at b;subst b;simp[Addr.add]
     | 5,b=>simp[ii]at b;subst b;simp[Addr.add]
     | j+6,b=>simp[ii]at b
    case d2=>exact D0 r
    case d3=>simp only[mf];unfold maxLen;omega
    case d4=>simp only[mf];omega
    intro R B w5 G o c;rw[Gb (gu T k) r,<-z.out]at G;have C:=t.alloc (XE #[Xy r.label,Xx XF r.Us,Xx XF r.why,Xy r.at_.file,Xx XF r.at_.line,Xx XF r.at_.col] 69);have U:=C.grown o V;have ad:L.heap.size<=R:=by
     rcases c with e | e
     ·exact V R e
     ·have:=C.size;simp at e this;omega
    have S:XN ((mf (gu T k)).n+1=(gu T (k+1)).length):=(by show _=_;rw[z.out];simp[mf]);rw[S.out];clear o c D;go_wp2;go_roundg (T.length-(k+1))
    case measure=>omega
    case rel=>exact⟨k+1,⟨XK ⟨R,0,XJ⟩,B⟩,by omega,rfl,by go_num,rfl,G,by intro x g;simp[Hd.blk]at g;omega,U⟩
   ·have Z:(r.Us != 0)=XM:=(by simp[bne,J]);have z:XN _:=p.out J;clear N p;go_wp2;go_roundg (T.length-(k+1))
    case measure=>omega
    case rel=>exact⟨k+1,m,by omega,rfl,by go_num,by rw[z.out],by rw[z.out];exact w,V,t⟩
  ·have e:k=T.length:=(by omega);subst e;obtain⟨M,K⟩:∃M,XN (T.filter qR=M):=⟨_,rfl⟩
   rw[CB,K.out]at W w ⊢;by_cases hm:M.length=0
   ·have Y:((M.length:Int)==0)=XL:=(by simp[hm]);have hM:M=[]:=Ql hm;go_wp2;go_ret;rw[K.out];exact⟨XJ,rfl,hM,by simp,t⟩
   ·have Y:((M.length:Int)==0)=XM:=(by rw[Qi];omega);have m1:=fun L=>bR (P:=prog) L 49 69 i0 _ underlying49 X H M.length 6 s (by rw[I];omega) (by omega);obtain⟨l,d⟩:∃mc,mc=madeCells (XB #[Xy ⟨#[]⟩,Xx XF 0,Xx XF 0,Xy ⟨#[]⟩,Xx XF 0,Xx XF 0]).cells (M.length*6):=⟨_,rfl⟩
    have z1:l.size=M.length*6:=(by rw[d,QV]);rw[<-d]at m1;clear d;have O:aa [] wr (wr.alloc (XE l 69)):=(aa.refl [] _).alloc _;have A:XN ((prog.info? (mf M).e).map (·.size)=XK (mf M).size):=by show _=_;simp[mf,X,s]
    obtain⟨w3,Q,E,F,ac⟩:=jT (P:=prog) (wr.alloc (XE l 69)) 49 49 3 wr.heap.size M.length m (mf M) l 69 underlying49 A.out (PM _ _) (w.Uw (fun x g=>O.block x (w.lt g) (by simp))) z1 (JL _);simp only[mf]at Q E;have K3:aa [] wr w3:=((O.mono (S':=[wr.heap.size]) (by simp)).trans F).mono (by simp);have hs:=t.size;clear F ac O;go_wp2;go_ret;rw[K.out];exact⟨XK wr.heap.size,rfl,⟨by omega,E⟩,fun x g=>by cases g;exact hs,t.trans K3⟩
set_option maxRecDepth 512
theorem Gk(h:XI L ⟨y,f+2,XJ⟩=XK (Xz XJ 0 0)) :
  XO prog 65 #[XA (XK ⟨y,f,XJ⟩)] L fun e a=>e=XH (Xz XJ 0 0)/\a=L:=by
 go_enter func65,ntmps65;go_wp2;refine Rg 1 ?_;rw[RM];go_wp2;go_ret;exact⟨rfl,rfl⟩
structure gY where
 kind:Int
 Un:Nat
 at_:Pl
def it(s:gY):List XQ:=[Xx XF s.kind,Xx XF s.Un,Xy s.at_.file,Xx XF s.at_.line,Xx XF s.at_.col]
def tS(l:List gY):List XQ:=l.flatMap it
def eO(l:List gY):fe:=⟨205,5,l.length,tS l⟩
theorem qs(l:List gY)(s:gY):(⟨(eO l).e,(eO l).size,(eO l).n+1,(eO l).xs++it s⟩:fe)=eO (l++[s]):=by simp[eO,tS]
theorem qz(s:gY):∀u∈it s,u.oneCell'=XL:=by
 intro u a;simp only[it,List.mem_cons,List.not_mem_nil,or_false]at a;rcases a with rfl | rfl | rfl | rfl | rfl <;> rfl
theorem MS:(prog.info? 205).map (fun i=>(i.zero,i.size,i.bytes))=XK (XK (XB #[Xx XF 0,Xx XF 0,Xy ⟨#[]⟩,Xx XF 0,Xx XF 0]),5,48):=by kernel_rfl
structure iR where
 names:List Nat
 Uz:List Nat
 steps:List gY
 Ut:Nat
 behind:Bool
def tH(c:iR):Nat->fe
 | 0=>bQ c.names
 | 1=>bQ c.Uz
 | 2=>eO c.steps
 | _+3=>bQ []
def iz(c:iR)(H:Nat->Hd):List XQ :=
 [Xz (H 0).ao c.names.length (H 0).cap,Xz (H 1).ao c.Uz.length (H 1).cap,Xz (H 2).ao c.steps.length (H 2).cap,Xx XF c.Ut,XC c.behind]
def dj(w:XP)(b:Nat)(c:iR)(H:Nat->Hd):Prop:=aB w b 252 (iz c H) (tH c) H
theorem dj.cells{c:iR}(h:dj H l c n) :
  XI H ⟨l,0,XJ⟩=XK (Xz (n 0).ao c.names.length (n 0).cap)/\XI H ⟨l,1,XJ⟩=XK (Xz (n 1).ao c.Uz.length (n 1).cap)/\XI H ⟨l,2,XJ⟩=XK (Xz (n 2).ao c.steps.length (n 2).cap) /\
  XI H ⟨l,3,XJ⟩=XK (Xx XF c.Ut)/\XI H ⟨l,4,XJ⟩=XK (XC c.behind) :=
 ⟨aB.cell h 0,aB.cell h 1,aB.cell h 2,aB.cell h 3,aB.cell h 4⟩
structure fB(c:iR)(N:Nat):Prop where
 names:c.names.length<=N
 Uz:c.Uz.length<=N
 steps:c.steps.length<=N
 Ut:c.Ut<=10*N+5
 behind:c.behind=XL->0<c.steps.length
def dC(c:iR)(s:gY):iR:={ c with steps:=c.steps++[s],behind:=XM }
set_option maxRecDepth 100000
theorem lD(c:iR)(H:Nat->Hd)(k:Int)(n:Nat)(f:ByteArray)(l a:Int)(w:XP)(h:dj w b c H)(ok:fB c 10000000) :
  XO prog 198 #[XA (XK ⟨b,0,XJ⟩),XB #[Xx XF k,Xx XF n,Xy f,Xx XF l,Xx XF a]] w fun e I=>e=XH (XD #[])/\∃x,dj I b (dC c ⟨k,n,⟨f,l,a⟩⟩) x/\aj b w H I x/\∀j,j≠2->x j=H j:=by
 obtain⟨Y,T,C,D,E⟩:=Qq MS;have V:=ok.steps;obtain⟨W,v⟩:∃W,W=w.alloc (XE #[Xx XF k,Xx XF n,Xy f,Xx XF l,Xx XF a] 205):=⟨_,rfl⟩
 have K:aa [] w W:=by rw[v];exact(aa.refl [] _).alloc _
 have t:dj W b c H:=aB.Ur h K;have B:W.heap[w.heap.size]?=XK (XE #[Xx XF k,Xx XF n,Xy f,Xx XF l,Xx XF a] 205):=by rw[v];exact PM _ _
 have y0:XI W ⟨w.heap.size,0,XJ⟩=XK (Xx XF k):=by rw[ab B];rfl
 have y1:XI W ⟨w.heap.size,1,XJ⟩=XK (Xx XF n):=by rw[ab B];rfl
 have y2:XI W ⟨w.heap.size,2,XJ⟩=XK (Xy f):=by rw[ab B];rfl
 have y3:XI W ⟨w.heap.size,3,XJ⟩=XK (Xx XF l):=by rw[ab B];rfl
 have y4:XI W ⟨w.heap.size,4,XJ⟩=XK (Xx XF a):=by rw[ab B];rfl
 obtain⟨L,M,N,O,P⟩:=t.cells;clear L M O;have z:=aB.free t;have R:=aB.lt t;have X:=ae B;have G:XN (dj (W.alloc (XE #[Xx XF k,Xx XF n,Xy f,Xx XF l,Xx XF a] 205)).drew b c H):=aB.Ur t ((aa.refl [] W).alloc _).drew;have s2:XN (∀j u,(it ⟨k,n,⟨f,l,a⟩⟩)[j]?=XK u->(W.alloc (XE #[Xx XF k,Xx XF n,Xy f,Xx XF l,Xx XF a] 205)).drew.cell? ((⟨W.heap.size,0,XJ⟩:Addr).add j)=XK u):=by
  intro j u p;have U:(W.alloc (XE #[Xx XF k,Xx XF n,Xy f,Xx XF l,Xx XF a] 205)).drew.heap[W.heap.size]?=XK (XE #[Xx XF k,Xx XF n,Xy f,Xx XF l,Xx XF a] 205):=PM _ _;rw[ba,ab U];simpa [it] using p
 have s4:XN ((eO c.steps).n+1<=maxLen):=by show _<=_;simp only[eO];unfold maxLen;omega
 have s5:XN (((eO c.steps).n+1)*48<=140737488355328):=by show _<=_;simp only[eO];omega
 have J:XN _:=v.symm;have A:XN (∀j,j≠2->tH { c with steps:=c.steps++[⟨k,n,⟨f,l,a⟩⟩] } j=tH c j):=by
  intro j p
  match j,p with
  | 0,_=>rfl
  | 1,_=>rfl
  | 2,p=>exact absurd rfl p
  | m+3,_=>rfl
 clear v B h;go_enter func198,ntmps198;go_upto_region 1 with fail
 rw[J.out];go_region_law (refine aP rfl (.tmp 8) (.tmp 10) 194 rfl Y (XB #[Xx XF 0,Xx XF 0,Xy ⟨#[]⟩,Xx XF 0,Xx XF 0]) 48 (H 2) (eO c.steps) underlying194 T C D E rfl (RK 4) (by simp[Act.eval] <;> rfl) (aB.own G.out 2) ⟨W.heap.size,0,XJ⟩ 1 1 (it ⟨k,n,⟨f,l,a⟩⟩) (by simp[Act.eval]) rfl s2.out (qz _) Qf s4.out s5.out ?_;intro g o w1 r q d;obtain⟨Z,Q,s⟩:=aB.app G.out (cs':=iz { c with steps:=c.steps++[⟨k,n,⟨f,l,a⟩⟩] } (cX H 2 ⟨XK ⟨g,0,XJ⟩,o⟩)) (rows':=tH { c with steps:=c.steps++[⟨k,n,⟨f,l,a⟩⟩] }) 2 2 g o ((eO c.steps).n+1) _ r (qs c.steps ⟨k,n,⟨f,l,a⟩⟩) q (by simpa using d) A.out (Xz (H 2).ao c.steps.length (H 2).cap) rfl (by simp[iz,cX,eO]);clear r q d)
 all_goals
  have F:XN _:=aB.set s.out.1 4 (XC XM);have y:=(aB.cell s.out.1 4);have S:=aB.free s.out.1;simp only[iz,List.getElem?_cons_succ,List.getElem?_cons_zero]at y;clear N P z y0 y1 y2 y3 y4 Z Q;go_wp2;go_end0;exact⟨rfl,_,F.out.1,((s.out.2.first ((aa.refl [] _).alloc _).drew).first K).trans F.out.2,fun j p=>bD _ _ _ _ p⟩
end Go.Proofs.YtnbalopedcgpcaaGreat
