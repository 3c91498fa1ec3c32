import Derived.Deep.CutRange
import Derived.Deep.CutBlock
import Derived.Test.YtnbalopedcgpcaaGreatJ01
namespace Go.Proofs.YtnbalopedcgpcaaGreat
open Go.RowKit Tryz
open Value IntKind Ending
set_option linter.all false
set_option maxHeartbeats 0
variable{H k zn:World}{l a z8:Nat}{s N:Vq}{y1:Vu}{zo:Nat->Bool}{y4:uz}{y2:Obj}{g:Nat->Prop}{D L:List Value}{n zz:Nat->Hd}{z9:Hd}{z6:Vs}(y0 zK y3:List Value)(M:Hd)(I:Vs)(f T:Nat)(i:Vq)(x:Vs)(w:Vq)(d:World)(zc:Vu)(b:Nat)(y o:List Value)(m:List (Nat×Nat))(z7:Nat×Nat)
def l9:Array Value:=#[dx,Y 0,bool false,dx,Y 0,Y 0]
theorem iD(h:H.heap[l]?=some (aK l9 223)) :
  bY H l 0 (dx)/\bY H l 1 (Y 0)/\bY H l 2 (bool false) /\
  bY H l 3 (dx)/\bY H l 4 (Y 0)/\bY H l 5 (Y 0):=by refine⟨?_,?_,?_,?_,?_,?_⟩ <;> exact iY h rfl
theorem im(h:cB H l s N z8)(b:l≠a)(c d e f g i:Value) :
  cB ((((((H.setCell (aD a) c).setCell (X a 1) d).setCell (X a 2) e).setCell (X a 3) f).setCell (X a 4) g).setCell (X a 5) i) l s N z8:=by unfold cB;rw[VB _ _ _ _ b,VB _ _ _ _ b,VB _ _ _ _ b,VB _ _ _ _ b,VB _ _ _ _ b,VB _ _ _ _ b];exact h
theorem iV(h:ab y1 H k)(a:H.heap.size<=l)(b c d e f g:Value) :
  ab y1 H ((((((k.setCell (aD l) b).setCell (X l 1) c).setCell (X l 2) d).setCell (X l 3) e).setCell (X l 4) f).setCell (X l 5) g) :=
 (((((h.setCell (VO a) _).setCell (VO a) _).setCell (VO a) _).setCell (VO a) _).setCell (VO a) _).setCell (VO a) _
set_option maxRecDepth 100000
theorem yW(hd:w.size<=1024)(hk:T<=w.size)(h:cB d f i w T) :
  br 152 #[bB f] d λe w'=>e=cA (f9 i w (bC w T).1)/\cB w' f i w (bC w T).2/\ab [f] d w':=by
 have an:=ak h;go_enter func152,ntmps152;go_upto_block 0 with fail;go_cut [] from 5 (λwc=>∃j,T<=j/\j<=w.size/\Z (j=skip w T)/\cB wc f i w j/\wc.heap[d.heap.size]?=some (aK l9 223)/\ab [f] d wc);(case first => go_wp2_with fail;go_loopg [] (w.size-T) (λg wr=>∃j,T<=j/\j<=w.size/\g=w.size-j/\Z (skip w j=skip w T)/\cB wr f i w j/\wr.heap[d.heap.size]?=some (aK l9 223)/\ab [f] d wr);{exact⟨T,Vw _,hk,rfl,rfl,cB.ZE h ((ab.refl [] d).alloc _) (by simp),Vx _ _,(ab.refl _ _).alloc _⟩};(obtain⟨j,C,U,hg,s,m,p,c⟩:=hrel;obtain⟨c0,c1,c2,c3,c4⟩:=m.cells;have r:d.heap.size∉[f]:=by simp;omega);by_cases S:j<w.size/\de (aB w j)=true;{obtain⟨a,q⟩:=S;have b:=q;rw[bA w j a]at b;have ag:Z (skip w (j+1)=skip w T):=(nW w j a q).symm.trans s;go_wp2_with fail;go_quiet ((go_at_call 166;exact V9 (kj _ _)));go_wp2_with fail;refine(Jt f j i w _ hd a (by exact m)).mono ?_;rintro e w1 ⟨rfl,x,n⟩;go_wp2;go_roundg (w.size-(j+1));{exact⟨j+1,by omega,by omega,rfl,ag,x,n.get (by exact p) r,(c.drewN nq).trans n⟩};omega};{(have V:Z (j=skip w T):=(s.o.symm.trans (na w j S)).symm;have B:(j<w.size/\∃h:j<w.size,de ((w[j]'h).toNat:Int)=false)∨(¬j<w.size/\decide ((j:Int)<(w.size:Int))=false):=by by_cases a:j<w.size;{refine VS ⟨a,a,?_⟩;rw[<-bA w j a];simpa using λh=>S ⟨a,h⟩};{exact VO ⟨a,by simp;omega⟩});rcases B with ⟨a,ai,b⟩ | ⟨a,b⟩;all_goals(go_wp2_with fail;go_quiet ((go_at_call 166;exact V9 (kj _ _)));go_wp2_with fail;go_meet;case rel=>exact⟨j,C,U,V,by exact m,by exact p,c.drewN _⟩)})
 case rest =>
  (obtain⟨j,C,U,P,m,p,c⟩:=hcut;have r:d.heap.size∉[f]:=by simp;omega);go_wp2_with fail;refine(Dr f j i w _ (by exact m)).mono ?_;rintro e t ⟨rfl,n⟩;have x:cB t f i w j:=cB.ZE (by exact m) n (by simp);have af:=n.gt (by exact p);have D:=c.trans (n.mono (by simp));have am:=ak x;obtain⟨c0,c1,c2,c3,c4⟩:=x.cells;go_wp2;go_loopg [] (w.size-j) (λg wr=>∃z,j<=z/\z<=w.size/\g=w.size-z/\Z (bO w z=bO w j)/\cB wr f i w z/\wr.heap[d.heap.size]?=some (aK l9 223) /\ wr.heap[t.heap.size]?=some (aK #[J i,Y (ba w j),Y (cm w j)] 67)/\ab [f] d wr);{exact⟨j,Vw _,U,rfl,rfl,x.ZE ((ab.refl [] t).alloc _) (by simp),((ab.refl [] t).alloc _).gt af,Vx _ _,D.alloc _⟩};obtain⟨z,ao,hz,hg,s,m,p,H,c⟩:=hrel;obtain⟨c0,c1,c2,c3,c4⟩:=m.cells;have e0:bY wr t.heap.size 0 (J i):=iY H rfl;have e1:bY wr t.heap.size 1 (Y (ba w j)):=iY H rfl;have e2:bY wr t.heap.size 2 (Y (cm w j)):=iY H rfl;rcases QS w z with ⟨l,b,F,ah⟩ | ⟨l,b,F⟩ | ⟨l,b⟩ | ⟨l,b⟩;{have HS:Z _:=ah.trans s;go_wp2_with fail;go_quiet ((go_at_call 166;exact V9 (kj _ _)));go_wp2_with fail;go_quiet ((go_at_call 169;exact m9 (qj _ _)));go_wp2_with fail;refine(Jt f z i w _ hd l (by exact m)).mono ?_;rintro e w3 ⟨rfl,R,k⟩;go_wp2;go_roundg (w.size-(z+1));{exact⟨z+1,by omega,by omega,rfl,HS,R,k.get (by exact p) r,k.get (by exact H) (by grind),((c.drewN _).trans k)⟩};omega}
  ·have u:Z _:=UM w T j z P s l (by rw[bA w z l];exact b) (by rw[bA w z l];exact F);go_wp2_with fail;go_quiet ((go_at_call 166;exact V9 (kj _ _)));go_wp2_with fail;go_quiet ((go_at_call 169;exact m9 (qj _ _)));go_wp2_with fail;refine(Dr f z i w _ (by exact m)).mono ?_;rintro e w3 ⟨rfl,k⟩;have R:cB w3 f i w z:=cB.ZE (by exact m) k (by simp);have G:=k.gt (by exact p);have E:=(c.drewN _).trans (k.mono (by simp));obtain⟨I,K,L,M,N,O⟩:=iD G;have y:=aE G;go_wp2;exact VQ (v:=f9 i w ⟨⟨#[]⟩,1,false,z⟩) (by simp[results,results152,go_sem,f9,I,K,L,M,N,O]) rfl
    (by rw[u.o];exact⟨rfl,im R (by omega) _ _ _ _ _ _,iV E (Vw _) _ _ _ _ _ _⟩)
  all_goals
   have HZ:¬(z<w.size/\de (aB w z)=false):=by
    rintro ⟨ad,A⟩
    first
     | (rw[bA w z ad,b]at A;cases A)
     | omega
   obtain⟨I,K,L,M,N,O⟩:=iD p;have y:=aE p;by_cases W:j<z
   ·have u:Z _:=DF w T j z P s HZ W;go_wp2_with fail;go_quiet ((go_at_call 166;exact V9 (kj _ _)));go_wp2_with fail;go_quiet (fail);go_wp2_with fail;go_region;(all_goals go_wp2)
    exact VQ (v:=f9 i w ⟨w.extract j z,0,false,j⟩) (by simp[results,results152,go_sem,f9,I,K,L,M,N,O]) rfl
     (by rw[u.o];exact⟨rfl,im (by exact m) (by omega) _ _ _ _ _ _,iV (c.drewN _) (Vw _) _ _ _ _ _ _⟩)
   ·have u:Z _:=UN w T j z P s HZ (by omega);go_wp2_with fail;go_quiet ((go_at_call 166;exact V9 (kj _ _)));go_wp2_with fail;go_quiet (fail);go_wp2;exact VQ (v:=f9 i w ⟨⟨#[]⟩,0,true,j⟩) (by simp[results,results152,go_sem,f9,I,K,L,M,N,O]) rfl
     (by rw[u.o];exact⟨rfl,im (by exact m) (by omega) _ _ _ _ _ _,iV (c.drewN _) (Vw _) _ _ _ _ _ _⟩)
def aN(i:uz):Bool:=i.ZO==0 && !i.ZK
set_option maxRecDepth 512
theorem dL(r l c:Int)(f:Bool)(a:World) :
    br 135 #[agg #[J i,Y r,bool f,J w,Y l,Y c]] a (mu (bool (r==0 && !f)) a):=by cases b:(r==0);all_goals(go_enter func135,ntmps135;go_wp2;go_ret;exact⟨aT (by simp),(ab.refl _ _).alloc _⟩)
def eX(s:Vq):Bool:=(List.range s.size).any (λi=>aB s i==36)
def mR(s:Vq):Bool:=(List.range s.size).any (λi=>decide (1<=i)&&(aB s (i-1)==36)&&((aB s i==40)||(aB s i==41)))
theorem uD{p:Nat->Bool}(h:b<l)(a:p b=true):(List.range l).any p=true:=by grind
theorem zk(h:∀i,i<l->zo i=false):(List.range l).any zo=false:=by grind
theorem fo(n:w.size<=1073741824) :
    br 171 #[J w] d (gG (bool (eX w)) d):=by go_enter func171,ntmps171;go_wp2;go_loopg [3] w.size (λg i wr=>∃k:Nat,k<=w.size/\g=w.size-k/\i=Y k/\Z (∀i,i<k->(aB w i==36)=false)/\wr=d);{exact⟨0,by omega,by omega,rfl,λi h=>by omega,rfl⟩};obtain⟨k,m,l,rfl,a,rfl⟩:=hrel;by_cases b:k<w.size;{cases f:((w[k].toNat:Int)==36);{go_wp2;go_roundg (w.size-(k+1));{refine⟨k+1,by omega,rfl,by go_num,?_,rfl⟩;intro i j;by_cases e:i=k;{grind [bA]};{exact a i (by omega)}};omega};{have c:Z (eX w=true):=uD k b (by rw[bA w k b];exact f);go_wp2;go_ret;exact⟨aT c.o.symm,rfl⟩}};{have c:Z (eX w=false):=zk (λi j=>a i (by omega));go_wp2;go_ret;exact⟨aT c.o.symm,rfl⟩}
theorem xx(v:w.size<=1073741824) :
    br 170 #[J w] d (gG (bool (mR w)) d):=by
  go_enter func170,ntmps170;go_wp2;go_loopg [3] (w.size-1) (λg i wr=>∃k:Nat,1<=k/\(k<=w.size∨k=1)/\g=w.size-k/\i=Y k/\Z (∀i,i<k->1<=i->((aB w (i-1)==36)&&((aB w i==40)||(aB w i==41)))=false)/\wr=d);{exact⟨1,by omega,by omega,rfl,rfl,λi h s=>by omega,rfl⟩};obtain⟨k,f,u,t,rfl,a,rfl⟩:=hrel;by_cases j:k<w.size
  · (have m:k-1<w.size:=by omega)
    have n:∀b:Bool,(((w[k-1].toNat:Int)==36)&&(((w[k].toNat:Int)==40)||((w[k].toNat:Int)==41)))=b->((aB w (k-1)==36)&&((aB w k==40)||(aB w k==41)))=b :=
      by grind [bA]
    have l:Z (∀b:Bool,(((w[k-1].toNat:Int)==36)&&(((w[k].toNat:Int)==40)||((w[k].toNat:Int)==41)))=b->((aB w (k-1)==36)&&((aB w k==40)||(aB w k==41)))=b):=n;clear n;go_wp2
    all_goals first
      | (go_ret
         refine⟨aT ?_,rfl⟩;refine(uD (p:=λi=>decide (1<=i)&&(aB w (i-1)==36)&&((aB w i==40)||(aB w i==41))) k j ?_).symm;have:=l.o true (by simp_all);simp only[Bool.and_assoc,this];simp[f])
      | (go_roundg (w.size-(k+1))
         case measure=>omega
         case rel =>
           refine⟨k+1,by omega,by omega,rfl,by go_num,?_,rfl⟩;intro i r c;by_cases e:i=k
           · subst e;exact l.o false (by simp_all)
           · exact a.o i (by omega) c)
  · have q:Z (mR w=false):=zk (λi r=>by
      by_cases c:1<=i
      · have:=a.o i (by omega) c;grind
      grind)
    go_wp2;go_ret;exact⟨aT q.o.symm,rfl⟩
theorem gE(h:b<=w.size):b<=(bC w b).2/\(bC w b).2<=w.size/\(aN (bC w b).1=true->b<(bC w b).2):=by grind [lH,js,skip,bC,aN]
def ck(d:Vq):Nat->Nat->uz×Nat
 | 0,k=>(⟨⟨#[]⟩,3,false,k⟩,k)
 | f+1,k =>
  if aN (bC d k).1=true/\¬(bC d k).1.text.toList=[36,41] then
   if mR (bC d k).1.text=true then(⟨⟨#[]⟩,2,false,(bC d k).1.pos⟩,(bC d k).2) else ck d f (bC d k).2
  else if(bC d k).1.ZK=true then(⟨⟨#[]⟩,3,false,(bC d k).1.pos⟩,(bC d k).2) else bC d k
def bz(d:Vq)(k:Nat):uz×Nat:=ck d (d.size-k+1) k
theorem zx(f k:Nat)(b:k<=w.size)(a:w.size-k+1<=f):ck w f k=bz w k:=by unfold bz;(suffices h:∀f g k,k<=w.size->w.size-k+1<=f->w.size-k+1<=g->ck w f k=ck w g k from h _ _ _ b a (Vw _));intro f;induction f with|zero=>simp|succ f d=>{intro g k b a c;cases g with|zero=>omega|succ g=>grind [ck,gE,bC]}
theorem zy(e:b<=w.size)(a:aN (bC w b).1=true)(c:((bC w b).1.text.toList == [36,41])=false)(d:mR (bC w b).1.text=false):bz w b=bz w (bC w b).2:=by grind [gE,bz,ck,zx]
theorem uL(a:aN (bC w b).1=true)(c:((bC w b).1.text.toList == [36,41])=false)(d:mR (bC w b).1.text=true):bz w b=(⟨⟨#[]⟩,2,false,(bC w b).1.pos⟩,(bC w b).2):=by grind [bz,ck]
theorem pJ(a:aN (bC w b).1=false)(c:(bC w b).1.ZK=true):bz w b=(⟨⟨#[]⟩,3,false,(bC w b).1.pos⟩,(bC w b).2):=by grind [bz,ck]
theorem xy(a:aN (bC w b).1=false)(c:(bC w b).1.ZK=false):bz w b=bC w b:=by grind [bz,ck]
theorem s9(a:aN (bC w b).1=true)(c:((bC w b).1.text.toList == [36,41])=true):bz w b=bC w b:=by grind [bz,ck,aN]
theorem fZ(a:b<=w.size):b<=(bz w b).2/\(bz w b).2<=w.size:=by unfold bz;(suffices h:∀f b,b<=w.size->b<=(ck w f b).2/\(ck w f b).2<=w.size from h _ _ a);intro f;induction f with|zero=>grind [ck]|succ f c=>grind [gE,ck,bC]
def cZ(d:Vq):Nat->Nat->uz×Nat
 | 0,k=>(⟨⟨#[]⟩,0,true,k⟩,k)
 | f+1,k =>
  if aN (bC d k).1=true/\(bC d k).1.text.toList=[36,40] then
   if aN (bz d (bC d k).2).1=true then cZ d f (bz d (bC d k).2).2 else bz d (bC d k).2
  else bC d k
def aA(d:Vq)(k:Nat):uz×Nat:=cZ d (d.size-k+1) k
theorem rm(f k:Nat)(b:k<=w.size)(a:w.size-k+1<=f):cZ w f k=aA w k:=by unfold aA;(suffices h:∀f g k,k<=w.size->w.size-k+1<=f->w.size-k+1<=g->cZ w f k=cZ w g k from h _ _ _ b a (Vw _));intro f;induction f with|zero=>simp|succ f d=>{intro g k b a c;cases g with|zero=>omega|succ g=>grind [cZ,gE,fZ,bC]}
theorem Fb(e:b<=w.size)(a:aN (bC w b).1=true)(c:((bC w b).1.text.toList == [36,40])=true)(d:aN (bz w (bC w b).2).1=true) :
  aA w b=aA w (bz w (bC w b).2).2:=by grind [gE,fZ,bC,aA,cZ,rm]
theorem xN(a:aN (bC w b).1=true)(c:((bC w b).1.text.toList == [36,40])=true)(d:aN (bz w (bC w b).2).1=false) :
  aA w b=bz w (bC w b).2:=by grind [aA,cZ]
theorem j9(h:aN (bC w b).1=false∨((bC w b).1.text.toList == [36,40])=false):aA w b=bC w b:=by grind [aA,cZ]
theorem fG(a:b<=w.size):b<=(aA w b).2/\(aA w b).2<=w.size/\(aN (aA w b).1=true->b<(aA w b).2):=by unfold aA;(suffices h:∀f b,b<=w.size->b<=(cZ w f b).2/\(cZ w f b).2<=w.size/\(aN (cZ w f b).1=true->b<(cZ w f b).2) from h _ _ a);intro f;induction f with|zero=>grind [cZ,aN]|succ f c=>grind [gE,fZ,bC,cZ,bz]
def jW(w:World)(r:Nat)(n d:Vq)(i:uz):Prop :=
 w.heap[r]?=some (aK #[J i.text,Y i.ZO,bool i.ZK,J n,Y (ba d i.pos),Y (cm d i.pos)] 223)
theorem jW.cells{t:Vq}{u:Int}{f:Bool}(h:jW H l s N ⟨t,u,f,a⟩) :
  bY H l 0 (J t)/\bY H l 1 (Y u)/\bY H l 2 (bool f) /\
  bY H l 3 (J s)/\bY H l 4 (Y (ba N a))/\bY H l 5 (Y (cm N a)):=by refine⟨?_,?_,?_,?_,?_,?_⟩ <;> exact iY h rfl
theorem jW.ZE{S:Vu}(h:jW H l s N y4)(b:ab S H k)(a:l∉S):jW k l s N y4:=b.get h a
theorem qW(h:jW H l s N y4)(j:uz) :
  jW ((((((H.setCell (aD l) (J j.text)).setCell (X l 1) (Y j.ZO)).setCell (X l 2) (bool j.ZK)).setCell (X l 3) (J s)).setCell (X l 4) (Y (ba N j.pos))).setCell (X l 5) (Y (cm N j.pos))) l s N j:=by have:=ac (ac (ac (ac (ac (ac h 0 (J j.text)) 1 (Y j.ZO)) 2 (bool j.ZK)) 3 (J s)) 4 (Y (ba N j.pos))) 5 (Y (cm N j.pos));unfold jW;simp_all
theorem xc(h:H.heap[l]?=some y2)(b:l≠a)(c d e f g i:Value) :
  ((((((H.setCell (aD a) c).setCell (X a 1) d).setCell (X a 2) e).setCell (X a 3) f).setCell (X a 4) g).setCell (X a 5) i).heap[l]?=some y2:=by rw[VB _ _ _ _ b,VB _ _ _ _ b,VB _ _ _ _ b,VB _ _ _ _ b,VB _ _ _ _ b,VB _ _ _ _ b];exact h
theorem sB(a:w.size<=1024):(bC w b).1.text.size<=1024:=by unfold bC;simp only;split;{simp[ByteArray.size]};{split;{simp[ByteArray.size]};{simp;omega}}
set_option maxRecDepth 100000
theorem GB(hd:w.size<=1024)(hk:T<=w.size)(h:cB d f i w T) :
  br 153 #[bB f] d λe w'=>e=cA (f9 i w (bz w T).1)/\cB w' f i w (bz w T).2/\ab [f] d w':=by
 have an:=ak h;go_enter func153,ntmps153;go_wp2_with fail;refine(yW f T i w _ hd hk (by exact h.ZE (bH.alloc _) (by simp))).mono ?_;rintro e w1 ⟨rfl,h1,S⟩;have V:w1.heap[d.heap.size]?=some (aK l9 223):=S.get (Vx ..) (by grind);have af:ab [f] d w1:=((ab.refl ..).alloc _).trans S;have am:=ak h1;have ai:=ak V;simp[f9];go_wp2;go_loopg [] (w.size-T) (λg wr=>∃j,j<=w.size/\g=w.size-j/\Z (bz w T=bz w j)/\cB wr f i w (bC w j).2/\jW wr w1.heap.size i w (bC w j).1/\wr.heap[d.heap.size]?=some (aK l9 223)/\ab [f] d wr);{exact⟨T,hk,rfl,rfl,h1.ZE (bH.alloc _) (by simp),Vx ..,(bH.alloc _).gt V,af.alloc _⟩};have⟨j,hj,hg,W,I,x,U,m⟩:=hrel;have q:=gE w j hj;have ag:=sB w j hd;have L1:Z _:=zy w j hj;have L2:Z _:=uL w j;have L3:Z _:=pJ w j;have L4:Z _:=xy w j;have L5:Z _:=s9 w j;generalize hrr:bC w j=r at *;have⟨⟨t,u,ad,p⟩,z⟩:=r;have HR:Z (bC w j=(⟨t,u,ad,p⟩,z)):=hrr;simp only at I x q ag;have⟨L,M,N,O,P,R⟩:=x.cells;cases K:(u==0 && !ad)
 ·cases s:ad
  ·(have n:Z (bz w j=(⟨t,u,false,p⟩,z)):=(by have:=L4 (by simpa [aN] using K) s;rw[s]at this;exact this);subst s;have ah:(u==0)=false:=by grind)
   go_wp2_with fail;refine(dL t i u (ba w p) (cm w p) _ _).mono ?_;rintro e w2 ⟨rfl,a⟩;have k:=x.ZE a (by simp);have l:=I.ZE a (by simp);have b:=a.gt U;have c:=m.trans (a.mono (by simp));have⟨L,M,N,O,P,R⟩:=k.cells;have⟨C,D,E,F,G,H⟩:=iD b;have y:=aE b;go_wp2;exact VQ (v:=f9 i w ⟨t,u,false,p⟩) (by simp[results,results153,go_sem,f9,C,D,E,F,G,H]) rfl
    (by rw[W.o,n.o];exact⟨rfl,im l (by omega) ..,iV c (Vw _) ..⟩)
  ·have n:Z (bz w j=(⟨⟨#[]⟩,3,false,p⟩,z)):=L3 (by simpa [aN] using K) s;subst s;go_wp2_with fail;refine(dL t i u (ba w p) (cm w p) _ _).mono ?_;rintro e w2 ⟨rfl,a⟩;have k:=x.ZE a (by simp);have l:=I.ZE a (by simp);have b:=a.gt U;have c:=m.trans (a.mono (by simp));have⟨L,M,N,O,P,R⟩:=k.cells;have⟨C,D,E,F,G,H⟩:=iD b;have y:=aE b;go_wp2;exact VQ (v:=f9 i w ⟨⟨#[]⟩,3,false,p⟩) (by simp[results,results153,go_sem,f9,C,D,E,F,G,H]) rfl
    (by rw[W.o,n.o];exact⟨rfl,im l (by omega) ..,iV c (Vw _) ..⟩)
 ·cases hx:(t.toList == [36,41])
  ·cases hy:mR t;{have n:Z _:=L1 K hx hy;go_wp2_with fail;refine(dL t i u (ba w p) (cm w p) _ _).mono ?_;rintro e w2 ⟨rfl,a⟩;have k:=x.ZE a (by simp);have l:=I.ZE a (by simp);have b:=a.gt U;have c:=m.trans (a.mono (by simp));have⟨L,M,N,O,P,R⟩:=k.cells;go_wp2_with fail;refine(xx t _ (by omega)).mono ?_;rintro e w3 ⟨rfl,rfl⟩;go_wp2_with fail;refine(yW f z i w _ hd q.2.1 l).mono ?_;rintro e w4 ⟨rfl,h4,B⟩;have A:=k.ZE B (by grind);have yy:=aE A;have⟨L,M,N,O,P,R⟩:=A.cells;simp[f9];go_wp2;go_roundg (w.size-z);(case measure=>have:=q.2.2 K;omega);case rel=>exact⟨z,q.2.1,rfl,W.o.trans n,im h4 (by omega) ..,qW A _,xc (B.get b (by grind)) (by omega) ..,iV (c.trans B) (by omega) ..⟩}
   ·have n:Z _:=L2 K hx hy;go_wp2_with fail;refine(dL t i u (ba w p) (cm w p) _ _).mono ?_;rintro e w2 ⟨rfl,a⟩;have k:=x.ZE a (by simp);have l:=I.ZE a (by simp);have b:=a.gt U;have c:=m.trans (a.mono (by simp));have⟨L,M,N,O,P,R⟩:=k.cells;go_wp2_with fail;refine(xx t _ (by omega)).mono ?_;rintro e w3 ⟨rfl,rfl⟩;obtain⟨C,D,E,F,G,H⟩:=iD b;have y:=aE b;go_wp2;exact VQ (v:=f9 i w ⟨⟨#[]⟩,2,false,p⟩) (by simp[results,results153,go_sem,f9,C,D,E,F,G,H]) rfl
     (by rw[W.o,n.o];exact⟨rfl,im l (by omega) _ _ _ _ _ _,iV c (Vw _) _ _ _ _ _ _⟩)
  ·(have n:Z _:=L5 K hx;have s:ad=false:=(by grind);subst s;have ah:(u==0)=true:=by grind)
   go_wp2_with fail;refine(dL t i u (ba w p) (cm w p) _ _).mono ?_;rintro e w2 ⟨rfl,a⟩;have b:=a.gt U;have⟨L,M,N,O,P,R⟩:=(x.ZE a (by simp)).cells;obtain⟨C,D,E,F,G,H⟩:=iD b;have y:=aE b;go_wp2;exact VQ (v:=f9 i w ⟨t,u,false,p⟩) (by simp[results,results153,go_sem,f9,C,D,E,F,G,H]) rfl
    (by rw[W.o,n.o];exact⟨rfl,im (I.ZE a (by simp)) (by omega) ..,iV (m.trans (a.mono (by simp))) (Vw _) ..⟩)
theorem vA(hd:w.size<=1024)(hk:T<=w.size)(h:cB d f i w T) :
  br 134 #[bB f] d λe w'=>e=cA (f9 i w (aA w T).1)/\cB w' f i w (aA w T).2/\ab [f] d w':=by
 have ap:=ak h;go_enter func134,ntmps134;go_wp2_with fail;refine(yW f T i w _ hd hk (by exact h.ZE (bH.alloc _) (by simp))).mono ?_;rintro e w1 ⟨rfl,h1,K⟩;have M:w1.heap[d.heap.size]?=some (aK l9 223):=K.get (Vx ..) (by grind);have ag:ab [f] d w1:=((ab.refl ..).alloc _).trans K;have ao:=ak h1;have an:=ak M;simp[f9];go_wp2;go_loopg [4] (w.size-T) (λg _ wr=>∃j,j<=w.size/\g=w.size-j/\Z (aA w T=aA w j)/\cB wr f i w (bC w j).2/\jW wr w1.heap.size i w (bC w j).1/\wr.heap[d.heap.size]?=some (aK l9 223)/\ab [f] d wr);{exact⟨T,hk,rfl,rfl,h1.ZE (bH.alloc _) (by simp),Vx ..,(bH.alloc _).gt M,ag.alloc _⟩};have⟨j,hj,hg,hs,h2,I,hr,E⟩:=hrel;have n:=gE w j hj;have am:=sB w j hd;have L1:Z _:=Fb w j hj;have L2:Z _:=xN w j;have L3:Z _:=j9 w j;generalize hrr:bC w j=r at *;have⟨⟨t,u,ad,p⟩,z⟩:=r;simp only at h2 I n am;have⟨q0,q1,q2,q3,q4,q5⟩:=I.cells;cases hw:(u==0 && !ad)
 ·have s:Z _:=L3 (VS hw);go_wp2_with fail;refine(dL t i u (ba w p) (cm w p) _ _).mono ?_;rintro e w2 ⟨rfl,a⟩;have b:=I.ZE a (by simp);have x:=h2.ZE a (by simp);have m:=a.gt hr;have l:=E.trans (a.mono (by simp));have⟨q0,q1,q2,q3,q4,q5⟩:=b.cells;have⟨N,O,P,R,S,U⟩:=iD m;have y:=aE m;go_wp2;exact VQ (v:=f9 i w ⟨t,u,ad,p⟩) (by simp[results,results134,go_sem,f9,N,O,P,R,S,U]) rfl
   (by rw[hs.o,s.o];exact⟨rfl,im x (by omega) ..,iV l (Vw _) ..⟩)
 ·cases hx:(t.toList == [36,40])
  ·have s:Z _:=L3 (VO hx);go_wp2_with fail;refine(dL t i u (ba w p) (cm w p) _ _).mono ?_;rintro e w2 ⟨rfl,a⟩;have b:=I.ZE a (by simp);have x:=h2.ZE a (by simp);have m:=a.gt hr;have l:=E.trans (a.mono (by simp));have⟨q0,q1,q2,q3,q4,q5⟩:=b.cells;obtain⟨N,O,P,R,S,U⟩:=iD m;have y:=aE m;go_wp2;exact VQ (v:=f9 i w ⟨t,u,ad,p⟩) (by simp[results,results134,go_sem,f9,N,O,P,R,S,U]) rfl
    (by rw[hs.o,s.o];exact⟨rfl,im x (by omega) _ _ _ _ _ _,iV l (Vw _) _ _ _ _ _ _⟩)
  ·have A:=fZ w z n.2.1;have L4:Z _:=λ(h:_)=>L1 hw hx h;have L5:Z _:=λ(h:_)=>L2 hw hx h;generalize hcc:bz w z=c at *;have⟨⟨W,G,V,cp⟩,cz⟩:=c;have HC:Z (bz w z=(⟨W,G,V,cp⟩,cz)):=hcc;simp only at A;go_wp2_with fail;refine(dL t i u (ba w p) (cm w p) _ _).mono ?_;rintro e w2 ⟨rfl,a⟩;have b:=I.ZE a (by simp);have⟨q0,q1,q2,q3,q4,q5⟩:=b.cells;go_wp2_with fail;refine(GB f z i w _ hd n.2.1 (h2.ZE a (by simp))).mono ?_;rintro e w3 ⟨rfl,h3,C⟩;have ai:=C.get (a.gt hr) (by grind);have L:=(E.trans (a.mono (by simp))).trans C;simp only[f9];rw[HC.o];simp only;go_wp2_with fail;refine(dL W i G (ba w cp) (cm w cp) _ _).mono ?_;rintro e w4 ⟨rfl,k⟩;have ah:jW w4 w3.heap.size i w ⟨W,G,V,cp⟩:=k.gt (Vx _ _);have af:=((b.ZE C (by grind)).ZE (bH.alloc _) (by simp)).ZE k (by simp);have h4:=(h3.ZE (bH.alloc _) (by simp)).ZE k (by simp);have F:=k.get ((bH.alloc _).gt ai) (by simp);have q:=(L.alloc _).trans (k.mono (by simp));rw[HC.o]at h4;simp only at h4;have⟨p0,p1,p2,p3,p4,p5⟩:=ah.cells;cases H:(G==0 && !V)
   ·have s:Z _:=L5 H;have⟨N,O,P,R,S,U⟩:=iD F;have y:=aE F;go_wp2;exact VQ (v:=f9 i w ⟨W,G,V,cp⟩) (by simp[results,results134,go_sem,f9,N,O,P,R,S,U]) rfl
     (by rw[hs.o,s.o];exact⟨rfl,im h4 (by omega) ..,iV q (Vw _) ..⟩)
   {have s:Z _:=L4 H;go_wp2_with fail;refine(yW f cz i w _ hd A.2 h4).mono ?_;rintro e w5 ⟨rfl,h5,D⟩;have B:=af.ZE D (by grind);have yy:=aE B;have⟨q0,q1,q2,q3,q4,q5⟩:=B.cells;simp[f9];go_wp2;go_roundg (w.size-cz);(case measure=>have:=n.2.2 hw;omega);case rel=>exact⟨cz,A.2,rfl,hs.o.trans s,im h5 (by omega) ..,qW B _,xc (D.get F (by grind)) (by omega) ..,iV (q.trans D) (by omega) ..⟩}
structure Pl where
  ZL:Vq
  ZM:Int
  ZN:Int
structure St where
  ZG:Int
  ZH:Vq
  Zm:Vs
  Zx:List (Vq×Pl)
  ZK:Pl
  til:Nat
structure Db where
  Zu:Vs
  Zo:Vs
  Zp:Vs
  Zv:Vs
  Zy:Vs
  ZI:List (Nat×Nat)
  ZD:List St
  rbl:Vu
  ZG:Int
  ZH:Vq
  Zm:Vs
  Zq:Bool
  Zx:List (Vq×Pl)
def strs(l:Vs):List Value:=l.map string
def rq(l:List (Nat×Nat)):List Value:=l.flatMap (λp=>[Y p.1,Y p.2])
def iG(l:Vu):List Value:=l.map (λ(n:Nat)=>Y n)
def tE(p:Vq×Pl):List Value:=[J p.1,J p.2.ZL,Y p.2.ZM,Y p.2.ZN]
def xm(l:List (Vq×Pl)):List Value:=l.flatMap tE
def Qu(s:St)(a b:Hd):List Value :=
  [Y s.ZG,J s.ZH,Q a.ao s.Zm.length a.cap,Q b.ao s.Zx.length b.cap,J s.ZK.ZL,Y s.ZK.ZM,Y s.ZK.ZN,Y s.til]
def mG(l:List St)(H:Nat->Hd):List Value:=l.zipIdx.flatMap (λp=>Qu p.1 (H (10+2*p.2)) (H (11+2*p.2)))
def aw(l:Vs):gY:=⟨9,1,l.length,strs l⟩
def pA(l:List (Nat×Nat)):gY:=⟨273,2,l.length,rq l⟩
def rowN(l:Vu):gY:=⟨3,1,l.length,iG l⟩
def jB(l:List (Vq×Pl)):gY:=⟨235,4,l.length,xm l⟩
def jA(l:List St)(H:Nat->Hd):gY:=⟨110,8,l.length,mG l H⟩
def symsAt(l:List St)(i:Nat):Vs:=match l[i]? with | some s=>s.Zm | none=>[]
def xO(l:List St)(i:Nat):List (Vq×Pl):=match l[i]? with | some s=>s.Zx | none=>[]
def inner(l:List St)(n:Nat):gY:=if n % 2=0 then aw (symsAt l (n / 2)) else jB (xO l (n / 2))
def bG(d:Db)(H:Nat->Hd):Nat->gY
  | 0=>aw d.Zu
  | 1=>aw d.Zo
  | 2=>aw d.Zp
  | 3=>aw d.Zv
  | 4=>aw d.Zy
  | 5=>pA d.ZI
  | 6=>jA d.ZD H
  | 7=>rowN d.rbl
  | 8=>aw d.Zm
  | 9=>jB d.Zx
  | n+10=>inner d.ZD n
def df(d:Db)(H:Nat->Hd):List Value :=
  [Q (H 0).ao d.Zu.length (H 0).cap,Q (H 1).ao d.Zo.length (H 1).cap,Q (H 2).ao d.Zp.length (H 2).cap,Q (H 3).ao d.Zv.length (H 3).cap,
   Q (H 4).ao d.Zy.length (H 4).cap,Q (H 5).ao d.ZI.length (H 5).cap,Q (H 6).ao d.ZD.length (H 6).cap,Q (H 7).ao d.rbl.length (H 7).cap,
   Y d.ZG,J d.ZH,Q (H 8).ao d.Zm.length (H 8).cap,bool d.Zq,Q (H 9).ao d.Zx.length (H 9).cap]
def dD{α:Type}(H:Nat->α)(i:Nat)(h:α):Nat->α:=λj=>if j=i then h else H j
theorem cS{α:Type}(H:Nat->α)(i:Nat)(h:α):dD H i h i=h:=by simp[dD]
theorem bL{α:Type}(H:Nat->α)(i j:Nat)(h:α)(a:j≠i):dD H i h j=H j:=by simp[dD,a]
theorem zac{α:Type}(H:Nat->α)(i:Nat):dD H i (H i)=H:=by grind [dD]
theorem Bn(l:List St)(H a:Nat->Hd)(h:∀j,10<=j->a j=H j):mG l a=mG l H:=by grind [mG]
theorem UL(d:Db)(H:Nat->Hd)(i:Nat)(h:Hd)(a:i<10)(j:Nat):bG d (dD H i h) j=bG d H j:=by (have e:mG d.ZD (dD H i h)=mG d.ZD H:=by grind [Bn,bL]);unfold bG;grind [jA]
def dw(H:Nat->Hd)(k:Nat):Prop:=∃i,(H i).ZF=some k
structure eR(P:Nat->Prop)(w w':World):Prop where
  os:w'.os=w.os
  tape:w'.tape=w.tape
  output:w'.output=w.output
  size:w.heap.size<=w'.heap.size
  block:∀k,k<w.heap.size->¬P k->w'.heap[k]?=w.heap[k]?
theorem eR.refl(P:Nat->Prop)(w:World):eR P w w:=⟨rfl,rfl,rfl,Vw _,λ_ _ _=>rfl⟩
theorem ab.toP(h:ab y1 H k){P:Nat->Prop}(c:∀a,a∈y1->a<H.heap.size->P a):eR P H k :=
  ⟨h.os,h.tape,h.output,h.size,λa b d=>h.block a b (by grind)⟩
theorem eR.get(h:eR g H k)(a:H.heap[l]?=some y2)(b:¬g l):k.heap[l]?=some y2:=(h.block l (ak a) b).trans a
theorem eR.Zr(h:eR g H k)(a:aJ k zn):eR g H zn :=
  ⟨a.os.trans h.os,a.tape.trans h.tape,a.output.trans h.output,VU h.size a.size,λi b c=>(a.block i (VD b h.size) (by simp)).trans (h.block i b c)⟩
theorem eR.setCell(h:eR g H k){p:Addr}(d:g p.block∨H.heap.size<=p.block)(u:Value):eR g H (k.setCell p u) :=
  ⟨h.os,h.tape,h.output,by have:=h.size;simp_all,λc a b=>by
    rw[VB _ _ _ _ (by grind)];exact h.block c a b⟩
structure bt(w:World)(b t:Nat)(pre post:List Value)(d:Db)(H:Nat->Hd):Prop where
  ZF:w.heap[b]?=some (aK (pre++(df d H++post)).toArray t)
  ZP:∀i,aO w (H i) (bG d H i)
  apart:∀i j,i≠j->(H i).ZF=none∨(H i).ZF≠(H j).ZF
  off:∀i,(H i).ZF≠some b
theorem eR.sr1(h:eR g H k)(b:H.heap.size<=l)(v:Value):eR g H (k.setCell (X l a) v):=h.setCell (VO b) v
theorem bt.lt{d:Db}(h:bt H l a D L d n):l<H.heap.size:=ak h.ZF
theorem bt.free{d:Db}(h:bt H l a D L d n)(i:Nat):H.frozen? (X l i)=false:=aE h.ZF i
theorem bt.inlt{d:Db}(h:bt H l a D L d n)(c:dw n z8):z8<H.heap.size:=by have⟨i,b⟩:=c;exact(h.ZP i).lt b
theorem bt.keptP{d:Db}(h:bt H l a D L d n)(e:eR g H k)(f:¬g l)(j:∀c,dw n c->¬g c):bt k l a D L d n :=
  ⟨e.get h.ZF f,λi=>(h.ZP i).Zw (λc b=>e.block c ((h.ZP i).lt b) (j c ⟨i,b⟩)),h.apart,h.off⟩
theorem bt.ZE{d:Db}{S:Vu}(h:bt H l a D L d n)(e:ab S H k)(c:l∉S)(g:∀b,dw n b->b∉S):bt k l a D L d n :=
  h.keptP (e.toP (P:=(·∈S)) (λ_ f _=>f)) c g
theorem bt.Zr{d:Db}(h:bt H l a D L d n)(b:aJ H k):bt k l a D L d n:=h.ZE b (by simp) (by simp)
theorem Ns(c:y0.length=T)(a:b<zK.length):(y0++(zK++y3)).toArray[T+b]?=zK[b]?:=by grind
theorem Nt(u:Value)(c:y0.length=T)(a:b<zK.length):(y0++(zK++y3)).set (T+b) u=y0++(zK.set b u++y3):=by grind
theorem bt.cellAt{d:Db}(h:bt H l a D L d n)(o:Nat)(c:D.length=o)(i:Nat)(b:i<13):H.cell? (X l (o+i))=(df d n)[i]? :=
  (ay h.ZF (o+i)).trans (Ns D (df d n) L o i c b)
theorem bt.cells{d:Db}(h:bt H l a D L d n)(o:Nat)(b:D.length=o) :
    bY H l o (Q (n 0).ao d.Zu.length (n 0).cap)/\bY H l (o+1) (Q (n 1).ao d.Zo.length (n 1).cap) /\
    bY H l (o+2) (Q (n 2).ao d.Zp.length (n 2).cap)/\bY H l (o+3) (Q (n 3).ao d.Zv.length (n 3).cap) /\
    bY H l (o+4) (Q (n 4).ao d.Zy.length (n 4).cap)/\bY H l (o+5) (Q (n 5).ao d.ZI.length (n 5).cap) /\
    bY H l (o+6) (Q (n 6).ao d.ZD.length (n 6).cap)/\bY H l (o+7) (Q (n 7).ao d.rbl.length (n 7).cap) /\
    bY H l (o+8) (Y d.ZG)/\bY H l (o+9) (J d.ZH)/\bY H l (o+10) (Q (n 8).ao d.Zm.length (n 8).cap) /\
    bY H l (o+11) (bool d.Zq)/\bY H l (o+12) (Q (n 9).ao d.Zx.length (n 9).cap):=by have m:=h.cellAt o b;exact⟨m 0 (by omega),m 1 (by omega),m 2 (by omega),m 3 (by omega),m 4 (by omega),m 5 (by omega),m 6 (by omega),m 7 (by omega),m 8 (by omega),m 9 (by omega),m 10 (by omega),m 11 (by omega),m 12 (by omega)⟩
def aj(b:Nat)(w:World)(H:Nat->Hd)(w':World)(H':Nat->Hd):Prop :=
  eR (λk=>k=b∨dw H k) w w'/\∀k,dw H' k->dw H k∨w.heap.size<=k
theorem aj.refl(H:Nat->Hd):aj T d H d H:=⟨eR.refl ..,λ_ a=>VS a⟩
theorem aj.trans{w1:World}{f:Nat->Hd}(a:aj l H n w1 zz)(c:aj l w1 zz k f):aj l H n k f:=by refine⟨⟨c.1.os.trans a.1.os,c.1.tape.trans a.1.tape,c.1.output.trans a.1.output,VU a.1.size c.1.size,?_⟩,?_⟩;{intro b d i;rw[<-a.1.block b d i];refine c.1.block b (VD d a.1.size) ?_;rintro (e | g);{omega};{rcases a.2 b g with h | h;{grind};{omega}}};{intro b d;rcases c.2 b d with h | h;{exact a.2 b h};{exact VO (VU a.1.size h)}}
theorem aj.Zr(a:aj l H n k zz)(c:aJ k zn):aj l H n zn zz :=
  a.trans ⟨c.toP (by simp),by grind⟩
theorem aj.first(c:aJ H k)(a:aj l k n zn zz):aj l H n zn zz :=
  aj.trans ⟨c.toP (by simp),by grind⟩ a
theorem bt.putG{d d':Db}(h:bt H l a D L d n)(o c:Nat)(N:D.length=o)(i:Nat)(I:i<10)(f:Hd)(O:aO k f (bG d' n i))(m:H.grownBy k (n i).ZF)(b:f.ZF=none∨f.ZF=(n i).ZF∨∃g,f.ZF=some g/\H.heap.size<=g)(w:∀j,j≠i->aO H (n j) (bG d' n j))(u:Value)(G:c<13)(K:(df d n).set c u=df d' (dD n i f)) :
    bt (k.setCell (X l (o+c)) u) l a D L d' (dD n i f)/\aj l H n (k.setCell (X l (o+c)) u) (dD n i f):=by (have F:=h.lt;have z:k.heap[l]?=some (aK (D++(df d n++L)).toArray a):=(m.block l F (λe=>h.off i e.symm)).trans h.ZF;have v:∀j,(dD n i f j).ZF≠some l:=by intro j;by_cases e:j=i;{subst e;rw[cS];intro A;rcases b with b | b | ⟨g,b,p⟩;{grind};{exact h.off j (b ▸ A)};grind};{rw[bL _ _ _ _ e];exact h.off j});refine⟨⟨?_,?_,?_,v⟩,⟨m.os,m.tape,m.output,by have:=m.size;simp_all,?_⟩,?_⟩;{rw[ac z,WL,Nt D (df d n) L o c u N G,K]};{intro j;(have q:aO k (dD n i f j) (bG d' (dD n i f) j):=by rw[UL d' n i f I j];by_cases e:j=i;{subst e;rwa [cS]};{rw[bL _ _ _ _ e];refine(w j e).Zw (λt s=>m.block t ((h.ZP j).lt s) ?_);intro y;rcases h.apart j i e with E | E;{grind};grind});refine q.Zw (λt s=>VB _ _ _ _ ?_);grind};{intro j x r;by_cases e:j=i;{subst e;rw[cS,bL _ _ _ _ (by omega)];rcases b with b | b | ⟨g,b,p⟩;{grind};{rw[b];exact h.apart j x r};{right;rw[b];intro y;have:=(h.ZP x).lt y.symm;omega}};{rw[bL _ _ _ _ e];by_cases B:x=i;{subst B;rw[cS];rcases b with b | b | ⟨g,b,p⟩;{grind};{rw[b];exact h.apart j x r};{cases A:(n j).ZF with|none=>simp|some t=>right;rw[b];intro y;cases y;have:=(h.ZP j).lt A;omega}};{rw[bL _ _ _ _ B];exact h.apart j x r}}};{intro t s M;rw[VB _ _ _ _ (by grind)];exact m.block t s (λe=>M (VO ⟨i,e.symm⟩))};{intro t s;have⟨j,e⟩:=s;by_cases C:j=i;{subst C;rw[cS]at e;rcases b with b | b | ⟨g,b,p⟩;{grind};{exact VS ⟨j,b ▸ e⟩};grind};{rw[bL _ _ _ _ C]at e;exact VS ⟨j,e⟩}}
theorem bt.put{d d':Db}(h:bt H l a D L d n)(o c:Nat)(t:D.length=o)(i:Nat)(q:i<10)(b:Hd)(v:aO k b (bG d' n i))(p:H.grownBy k (n i).ZF)(m:b.ZF=none∨b.ZF=(n i).ZF∨∃g,b.ZF=some g/\H.heap.size<=g)(e:∀j,j≠i->bG d' n j=bG d n j)(u:Value)(f:c<13)(s:(df d n).set c u=df d' (dD n i b)) :
    bt (k.setCell (X l (o+c)) u) l a D L d' (dD n i b)/\aj l H n (k.setCell (X l (o+c)) u) (dD n i b) :=
  h.putG o c t i q b v p m (λj r=>by rw[e j r];exact h.ZP j) u f s
theorem bt.set{d d':Db}(h:bt H l a D L d n)(o c:Nat)(i:D.length=o)(b:∀j,bG d' n j=bG d n j)(u:Value)(e:c<13)(g:(df d n).set c u=df d' n) :
    bt (H.setCell (X l (o+c)) u) l a D L d' n/\aj l H n (H.setCell (X l (o+c)) u) n:=by refine⟨⟨?_,?_,h.apart,h.off⟩,(eR.refl ..).setCell (by simp) _,by grind⟩;{rw[ac h.ZF,WL,Nt D (df d n) L o c u i e,g]};{intro j;rw[b j];refine(h.ZP j).Zw (λk f=>VB _ _ _ _ ?_);rintro rfl;exact h.off j f}
theorem bt.app{d d':Db}(h:bt H l a D L d n)(o c:Nat)(y:D.length=o)(i:Nat)(w:i<10)(g b m:Nat)(r:gY)(s:aO k ⟨some (aD g),b⟩ r)(z:r=bG d' n i)(p:H.grownBy k (n i).ZF)(f:(n i).ZF=some g∨H.heap.size<=g)(q:∀j,j≠i->bG d' n j=bG d n j)(v:c<13)(u:Value)(A:(df d n)[c]?=some u)(x:(df d n).set c (Q (some (aD g)) m b)=df d' (dD n i ⟨some (aD g),b⟩)) :
    bY k l (o+c) u/\k.frozen? (X l (o+c))=false /\
    Z (bt (k.setCell (X l (o+c)) (Q (some (aD g)) m b)) l a D L d' (dD n i ⟨some (aD g),b⟩) /\
      aj l H n (k.setCell (X l (o+c)) (Q (some (aD g)) m b)) (dD n i ⟨some (aD g),b⟩)):=by
  have t:=(p.block l h.lt (λe=>h.off i e.symm)).trans h.ZF;subst z;refine⟨((ay t (o+c)).trans (by grind)).trans A,aE t _,?_⟩;exact h.put (d':=d') o c y i w ⟨some (aD g),b⟩ s p
    (by rcases f with e | e
        · exact VO (VS e.symm)
        · exact VO (VO ⟨g,rfl,by omega⟩)) q _ v x
theorem Jf(d:Db)(H:Nat->Hd)(l:Vs):∀j,j≠0->bG { d with Zu:=l } H j=bG d H j:=by
  intro j a
  match j with
  | 0=>omega
  | 1=>rfl
  | 2=>rfl
  | 3=>rfl
  | 4=>rfl
  | 5=>rfl
  | 6=>rfl
  | 7=>rfl
  | 8=>rfl
  | 9=>rfl
  | n+10=>rfl
theorem A8(d:Db)(H:Nat->Hd)(l:Vs):∀j,j≠1->bG { d with Zo:=l } H j=bG d H j:=by
  intro j a
  match j with
  | 0=>rfl
  | 1=>omega
  | 2=>rfl
  | 3=>rfl
  | 4=>rfl
  | 5=>rfl
  | 6=>rfl
  | 7=>rfl
  | 8=>rfl
  | 9=>rfl
  | n+10=>rfl
theorem Bb(d:Db)(H:Nat->Hd)(l:Vs):∀j,j≠2->bG { d with Zp:=l } H j=bG d H j:=by
  intro j a
  match j with
  | 0=>rfl
  | 1=>rfl
  | 2=>omega
  | 3=>rfl
  | 4=>rfl
  | 5=>rfl
  | 6=>rfl
  | 7=>rfl
  | 8=>rfl
  | 9=>rfl
  | n+10=>rfl
theorem xR(d:Db)(H:Nat->Hd)(l:Vs):∀j,j≠3->bG { d with Zv:=l } H j=bG d H j:=by
  intro j a
  match j with
  | 0=>rfl
  | 1=>rfl
  | 2=>rfl
  | 3=>omega
  | 4=>rfl
  | 5=>rfl
  | 6=>rfl
  | 7=>rfl
  | 8=>rfl
  | 9=>rfl
  | n+10=>rfl
theorem Ba(d:Db)(H:Nat->Hd)(l:Vs):∀j,j≠4->bG { d with Zy:=l } H j=bG d H j:=by
  intro j a
  match j with
  | 0=>rfl
  | 1=>rfl
  | 2=>rfl
  | 3=>rfl
  | 4=>omega
  | 5=>rfl
  | 6=>rfl
  | 7=>rfl
  | 8=>rfl
  | 9=>rfl
  | n+10=>rfl
theorem xS(d:Db)(H:Nat->Hd)(l:List (Nat×Nat)):∀j,j≠5->bG { d with ZI:=l } H j=bG d H j:=by
  intro j a
  match j with
  | 0=>rfl
  | 1=>rfl
  | 2=>rfl
  | 3=>rfl
  | 4=>rfl
  | 5=>omega
  | 6=>rfl
  | 7=>rfl
  | 8=>rfl
  | 9=>rfl
  | n+10=>rfl
theorem Jg(d:Db)(H:Nat->Hd)(l:Vu):∀j,j≠7->bG { d with rbl:=l } H j=bG d H j:=by
  intro j a
  match j with
  | 0=>rfl
  | 1=>rfl
  | 2=>rfl
  | 3=>rfl
  | 4=>rfl
  | 5=>rfl
  | 6=>rfl
  | 7=>omega
  | 8=>rfl
  | 9=>rfl
  | n+10=>rfl
theorem vO(d:Db)(H:Nat->Hd)(l:Vs):∀j,j≠8->bG { d with Zm:=l } H j=bG d H j:=by
  intro j a
  match j with
  | 0=>rfl
  | 1=>rfl
  | 2=>rfl
  | 3=>rfl
  | 4=>rfl
  | 5=>rfl
  | 6=>rfl
  | 7=>rfl
  | 8=>omega
  | 9=>rfl
  | n+10=>rfl
theorem A9(d:Db)(H:Nat->Hd)(l:List (Vq×Pl)):∀j,j≠9->bG { d with Zx:=l } H j=bG d H j:=by
  intro j a
  match j with
  | 0=>rfl
  | 1=>rfl
  | 2=>rfl
  | 3=>rfl
  | 4=>rfl
  | 5=>rfl
  | 6=>rfl
  | 7=>rfl
  | 8=>rfl
  | 9=>omega
  | n+10=>rfl
theorem Qi(d:Db)(H:Nat->Hd)(l:Int):∀j,bG { d with ZG:=l } H j=bG d H j:=by intro j;rfl
theorem L8(d:Db)(H:Nat->Hd)(l:Vq):∀j,bG { d with ZH:=l } H j=bG d H j:=by intro j;rfl
theorem Fx(d:Db)(H:Nat->Hd)(l:Bool):∀j,bG { d with Zq:=l } H j=bG d H j:=by intro j;rfl
def bu(l:Vs)(x:Vq):Bool:=l.any (λy=>y.toList==x.toList)
theorem Nn(h:b<x.length)(c:bu x w=bu (x.drop b) w)(a:((x[b]).toList==w.toList)=true):bu x w=true:=by grind [bu]
theorem Ho(h:b<x.length)(a:bu x w=bu (x.drop b) w)(c:((x[b]).toList==w.toList)=false):bu x w=bu (x.drop (b+1)) w:=by rw[a,Wg h];grind [bu]
theorem Ht(h:¬b<x.length)(a:bu x w=bu (x.drop b) w):bu x w=false:=by rw[a,WJ (by omega)];rfl
theorem sD(h:b<x.length):(strs x)[b]?=some (J x[b]):=by simp[strs,h]
set_option maxRecDepth 512
theorem fL(n:aO d M (aw x))(z:x.length<=1073741824) :
  br 188 #[Q M.ao x.length M.cap,J w] d (gG (bool (bu x w)) d):=by have⟨s,p⟩:=M;rcases n.ZC with ⟨c,r,_⟩ | ⟨g,q,l,_⟩;{have e:x.length=0:=r;have f:=Wb e;subst f;injection c with c u;subst c;go_enter func188,ntmps188;go_wp2;refine Xe 1 ?_;rw[XB];go_wp2;go_ret;exact⟨rfl,rfl⟩};{simp only at l;subst l;go_enter func188,ntmps188;go_wp2;go_loopg [5] x.length (λg i wr=>∃k:Nat,k<=x.length/\g=x.length-k/\i=Y k/\Z (bu x w=bu (x.drop k) w)/\wr=d);{exact⟨0,by omega,by omega,rfl,rfl,rfl⟩};obtain⟨k,y,v,rfl,j,rfl⟩:=hrel;by_cases a:k<x.length;{have t:=n.cell rfl k (J x[k]) (sD x k a);cases m:((x[k]).toList==w.toList);{have b:Z _:=Ho x w k a j m;go_wp2;go_roundg (x.length-(k+1));{grind};omega};{have b:Z _:=Nn x w k a j m;go_wp2;go_ret;exact⟨aT b.o.symm,rfl⟩}};{have b:Z _:=Ht x w k a j;go_wp2;go_ret;exact⟨aT b.o.symm,rfl⟩}}
theorem eU:(prog.info? 9).map (λi=>(i.zero,i.size,i.bytes))=some (some (dx),1,16):=by kernel_rfl
theorem Qz:strs (x++[w])=strs x++[J w]:=by simp[strs]
theorem bK:(⟨(aw x).e,(aw x).size,(aw x).n+1,(aw x).xs++[J w]⟩:gY)=aw (x++[w]):=by simp[aw,Qz]
set_option maxRecDepth 100000
theorem Ed(d:Db)(H:Nat->Hd)(x:Vq)(w:World)(h:bt w f T y o d H)(v:y.length=b)(L:d.Zu.length<=1073741824) :
  br 201 #[pointer (some (X f b)),J x] w λe A=>e=cA (tuple #[])/\∃s,bt A f T y o { d with Zu:=d.Zu++[x] } s/\aj f w H A s:=by have⟨E,D,p,q,r⟩:=VZ eU;have⟨M,N,O,P,R,S,U,V,W,q9,G,I,K⟩:=h.cells b v;have t:=h.Zr ((ab.refl [] w).alloc (aK #[J x] 9));go_enter func201,ntmps201;go_wp2_with (at_builtin;refine aF _ rfl (.tmp 8) (.tmp 10) 22 rfl E (dx) 16 (H 0) (aw d.Zu) underlying22 D p q r rfl VG rfl (t.ZP 0) (aD w.heap.size) 1 1 [J x] rfl rfl ?c1 ?c2 VG ?c3 ?c4 ?_);(case c1=>intro j u i;match j,i with | 0,i=>simp at i;subst i;simp[Addr.add]);(case c2=>intro u z;simp at z;subst z;rfl);(case c3=>simp[aw];unfold maxLen;omega);(case c4=>simp[aw];omega);{intro g c w1 m l a;have⟨F,C,k⟩:=t.app (d':={ d with Zu:=d.Zu++[x] }) b 0 v 0 (by omega) g c ((aw d.Zu).n+1) _ m (bK d.Zu x) l (by simpa using a) (Jf d H _) (by omega) _ rfl (by simp[df,dD,aw]);simp[Nat.add_zero]at F C k;go_wp2;go_end0;exact⟨rfl,_,k.1,k.2.first ((ab.refl [] w).alloc _)⟩}
theorem Ee(d:Db)(H:Nat->Hd)(x:Vq)(w:World)(h:bt w f T y o d H)(v:y.length=b)(K:d.Zy.length<=1073741824) :
  br 204 #[pointer (some (X f b)),J x] w λe A=>e=cA (tuple #[])/\∃r,bt A f T y o { d with Zy:=d.Zy++[x] } r/\aj f w H A r:=by have⟨D,C,m,p,q⟩:=VZ eU;have⟨M,N,O,P,R,S,U,V,W,q9,E,F,G⟩:=h.cells b v;have t:=h.Zr ((ab.refl [] w).alloc (aK #[J x] 9));go_enter func204,ntmps204;go_wp2_with (at_builtin;refine aF _ rfl (.tmp 8) (.tmp 10) 22 rfl D (dx) 16 (H 4) (aw d.Zy) underlying22 C m p q rfl VG rfl (t.ZP 4) (aD w.heap.size) 1 1 [J x] rfl rfl ?c1 ?c2 VG ?c3 ?c4 ?_);(case c1=>intro j u i;match j,i with | 0,i=>simp at i;subst i;simp[Addr.add]);(case c2=>intro u z;simp at z;subst z;rfl);(case c3=>simp[aw];unfold maxLen;omega);(case c4=>simp[aw];omega);{intro g c w1 l k a;have⟨L,I,s⟩:=t.app (d':={ d with Zy:=d.Zy++[x] }) b 4 v 4 (by omega) g c ((aw d.Zy).n+1) _ l (bK d.Zy x) k (by simpa using a) (Ba d H _) (by omega) _ rfl (by simp[df,dD,aw]);(skip);go_wp2;go_end0;exact⟨rfl,_,s.1,s.2.first ((ab.refl [] w).alloc _)⟩}
structure gK(d:Db)(N:Nat):Prop where
 Zu:d.Zu.length<=N
 Zo:d.Zo.length<=N
 Zp:d.Zp.length<=N
 Zv:d.Zv.length<=N
 Zy:d.Zy.length<=N
 ZI:d.ZI.length<=N
 ZD:d.ZD.length<=N
 rbl:d.rbl.length<=N
 Zm:d.Zm.length<=N
 Zx:d.Zx.length<=N
theorem sA:(⟨(aw I).e,(aw I).size,(aw I).n+x.length,(aw I).xs++strs x⟩:gY)=aw (I++x):=by simp[aw,strs]
theorem lY:∀u∈strs x,u.oneCell'=true:=by intro u a;simp[strs,List.mem_map]at a;obtain⟨b,_,rfl⟩:=a;rfl
theorem wE(d:Db)(H:Nat->Hd)(w:World)(h:bt w f T y o d H)(A:y.length=b)(L:0<d.Zm.length)(B:gK d 100000000) :
  br 202 #[pointer (some (X f b)),Q (H 8).ao d.Zm.length (H 8).cap] w λe C=>e=cA (tuple #[])/\∃s,bt C f T y o { d with Zo:=d.Zo++d.Zm } s/\aj f w H C s:=by have⟨M,F,p,q,r⟩:=VZ eU;have⟨U,V,W,q3,q4,q5,q6,q7,q8,q9,N,O,P⟩:=h.cells b A;have k:=h.ZP 8;have I:=B.Zo;have K:=B.Zm;rcases k.ZC with ⟨_,E,_⟩ | ⟨z,v,x,_⟩;{have:d.Zm.length=0:=E;omega};{(rw[x];have i:Z (∀j u,(strs d.Zm)[j]?=some u->w.cell? (((aD z):Addr).add j)=some u):=λj u G=>by rw[bD];exact k.cell x j u G);go_enter func202,ntmps202;go_wp2_with (at_builtin;refine aF _ rfl (.tmp 8) (.tmp 9) 22 rfl M (dx) 16 (H 1) (aw d.Zo) underlying22 F p q r rfl VG rfl (h.ZP 1) (aD z) d.Zm.length (H 8).cap (strs d.Zm) rfl ?c0 i (lY _) L ?c3 ?c4 ?_);(case c0=>simp[strs,aw]);(case c3=>simp[aw];unfold maxLen;omega);(case c4=>simp[aw];omega);{intro g c w1 m l a;have⟨S,R,t⟩:=h.app (d':={ d with Zo:=d.Zo++d.Zm }) b 1 A 1 (by omega) g c ((aw d.Zo).n+d.Zm.length) _ m (sA d.Zo d.Zm) l a (A8 d H _) (by omega) _ rfl (by simp[df,dD,aw]);go_wp2;go_end0;exact⟨rfl,_,t.1,t.2⟩}}
def cP(v l:Vs):Vs:=l.foldl (λv x=>if bu v x=true then v else v++[x]) v
def fw(d:Db)(k:Nat):Db:={ d with Zv:=d.Zv++d.Zm,Zp:=cP d.Zp (d.Zm.take k) }
theorem QO:cP I (x++[w])=if bu (cP I x) w=true then cP I x else cP I x++[w]:=by grind [cP]
theorem JF(v l:Vs):(cP v l).length<=v.length+l.length:=by induction l generalizing v with|nil=>simp[cP]|cons x l a=>(have:=a (if bu v x=true then v else v++[x]);have e:cP v (x :: l)=cP (if bu v x=true then v else v++[x]) l:=rfl;rw[e];have b:(if bu v x=true then v else v++[x]).length<=v.length+1:=by split <;> simp);simp[List.length_cons];omega
theorem gj{α:Type}(l:List α)(k:Nat)(h:k<l.length):l.take (k+1)=l.take k++[l[k]]:=by simp
theorem wF(d:Db)(H:Nat->Hd)(w:World)(h:bt w f T y o d H)(G:y.length=b)(hm:0<d.Zm.length)(hs:gK d 100000000) :
  br 203 #[pointer (some (X f b)),Q (H 8).ao d.Zm.length (H 8).cap] w λe w'=>e=cA (tuple #[])/\∃H',bt w' f T y o (fw d d.Zm.length) H'/\aj f w H w' H':=by have⟨i0,hi,K,L,M⟩:=VZ eU;have⟨N,O,q2,P,R,S,U,V,W,q9,v,z,A⟩:=h.cells b G;have B:=h.ZP 3;have m:=h.ZP 8;have ai:=hs.Zv;have am:=hs.Zm;have an:=hs.Zp;rcases m.ZC with ⟨_,h0,_⟩ | ⟨g8,af,e8,_⟩;{have:d.Zm.length=0:=h0;omega};{(rw[e8];have C:Z (∀j u,(strs d.Zm)[j]?=some u->w.cell? (((aD g8):Addr).add j)=some u):=λj u hj=>by rw[bD];exact m.cell e8 j u hj);clear m;go_enter func203,ntmps203;go_wp2_with (at_builtin;refine aF _ rfl (.tmp 9) (.tmp 10) 22 rfl i0 (dx) 16 (H 3) (aw d.Zv) underlying22 hi K L M rfl VG rfl B (aD g8) d.Zm.length (H 8).cap (strs d.Zm) rfl ?c0 C (lY _) hm ?c3 ?c4 ?_);(case c0=>simp[strs,aw]);(case c3=>simp[aw];unfold maxLen;omega);(case c4=>simp[aw];omega);{intro g q w1 s r a;have⟨k0,f0,E⟩:=h.app (d':=fw d 0) b 3 G 3 (by omega) g q ((aw d.Zv).n+d.Zm.length) _ s (sA d.Zv d.Zm) r a (xR d H _) (by omega) _ rfl (by simp[df,dD,aw,fw,cP]);clear B N O q2 P R S U V W q9 v z A s r a C;go_wp2;go_loopg [4] d.Zm.length (λg i wr=>∃(k:Nat) (l:Nat->Hd),k<=d.Zm.length/\g=d.Zm.length-k/\i=Y k/\l 8=H 8/\bt wr f T y o (fw d k) l/\aj f w H wr l);{exact⟨0,_,by omega,by omega,rfl,by rfl,E.1,E.2⟩};obtain⟨k,l,hk,hg,rfl,h8,D,ad⟩:=hrel;clear E k0 f0;by_cases F:k<d.Zm.length;{(have⟨N,O,q2,P,R,S,U,V,W,q9,v,z,A⟩:=D.cells b G;have m:aO wr (H 8) (aw d.Zm):=(by have:=D.ZP 8;rw[h8]at this;exact this);have c1:=m.cell e8 k (J d.Zm[k]) (sD d.Zm k F);have I:(fw d k).Zp.length<=1073741824:=by have:=JF d.Zp (d.Zm.take k);simp[List.length_take]at this;(show(cP d.Zp (d.Zm.take k)).length<=_);omega);(have HS:Z (fw d (k+1)=if bu (fw d k).Zp d.Zm[k]=true then fw d k else { fw d k with Zp:=(fw d k).Zp++[d.Zm[k]] }):=by show fw d (k+1)=_;unfold fw;rw[gj d.Zm k F,QO];simp only;split <;> rfl);generalize fw d k=c at *;generalize d.Zm[k]=x at *;clear N O P R S U V W q9 v z A m;cases hb:bu c.Zp x;{have HT:Z (fw d (k+1)={ c with Zp:=c.Zp++[x] }):=(by show fw d (k+1)=_;rw[HS.o];simp[hb]);clear HS;go_wp2_with fail;go_quiet ((go_at_call 188;exact V9 (fL (l 2) c.Zp x _ (D.Zr (bH.drewN _) |>.ZP 2) I)));have⟨p,t⟩:∃p,p=wr.drewN nq:=⟨_,rfl⟩;(rw[<-t];have D2:bt p f T y o c l:=by rw[t];exact D.Zr (bH.drewN _));(have T2:aj f w H p l:=(by rw[t];exact ad.Zr (bH.drewN _));have ag:bY p g8 k (J x):=(by rwa [t]);clear t c1 D ad q2;have⟨N,O,q2,P,R,S,U,V,W,q9,v,z,A⟩:=D2.cells b G;have ah:=D2.lt;clear N O P R S U V W q9 v z A;have hD:Z (bt (p.alloc (aK #[J x] 9)).drew f T y o c l):=D2.Zr ((ab.refl [] p).alloc _).drew;have s2:Z (∀j u,([J x]:List Value)[j]?=some u->(p.alloc (aK #[J x] 9)).drew.cell? (((aD p.heap.size):Addr).add j)=some u):=by intro j u hj;have hk:(p.alloc (aK #[J x] 9)).drew.heap[p.heap.size]?=some (aK #[J x] 9):=Vx p _;rw[bD,ay hk];simpa using hj);have s3:Z (∀u∈([J x]:List Value),u.oneCell'=true):=(by intro u hu;simp at hu;subst hu;rfl);have s4:Z ((aw c.Zp).n+1<=maxLen):=(by show _<=_;simp[aw];unfold maxLen;omega);have s5:Z (((aw c.Zp).n+1)*16<=140737488355328):=(by show _<=_;simp[aw];omega);go_wp2_with fail;go_region_law (refine aW rfl (.tmp 34) (.tmp 39) 22 rfl i0 (dx) 16 (l 2) (aw c.Zp) underlying22 hi K L M rfl VG (by rfl) (hD.o.ZP 2) (aD p.heap.size) 1 1 [J x] (by rfl) rfl s2 s3 VG s4 s5 ?_;intro g q w1 s r a;have⟨k5,f5,E⟩:=hD.o.app (d':={ c with Zp:=c.Zp++[x] }) b 2 G 2 (by omega) g q ((aw c.Zp).n+1) _ s (bK c.Zp x) r (by omega) (Bb c l _) (by omega) _ rfl (by simp[df,dD,aw]);clear s r a);(all_goals go_wp2);all_goals(go_roundg (d.Zm.length-(k+1));{exact⟨k+1,_,by omega,rfl,by go_num,by simp[dD,h8],by rw[HT.o];exact E.1,T2.trans (E.2.first (bH.alloc _).drew)⟩};omega)};{have HT:Z (fw d (k+1)=c):=(by show fw d (k+1)=_;rw[HS.o];simp[hb]);clear HS;go_wp2_with fail;go_quiet ((go_at_call 188;exact V9 (fL (l 2) c.Zp x _ (D.Zr (bH.drewN _) |>.ZP 2) I)));go_wp2;go_roundg (d.Zm.length-(k+1));{exact⟨k+1,l,by omega,rfl,by go_num,h8,by rw[HT.o];exact D.Zr (bH.drewN _),ad.Zr (bH.drewN _)⟩};omega}};{have e:k=d.Zm.length:=(by omega);subst e;go_wp2;go_end0;exact⟨rfl,l,D,ad⟩}}}
def j6(n:Int):Bool:=(decide (97<=n)&&decide (n<=122))||(decide (65<=n)&&decide (n<=90))||(decide (48<=n)&&decide (n<=57))||n==45||n==95||n==46
def dZ(s:Vq):Bool:=(List.range s.size).all (λi=>j6 (aB s i))
set_option maxRecDepth 512
theorem qi(n:Int)(w:World) :
  br 212 #[int u8 n] w (gG (bool (j6 n)) w):=by by_cases b:(97<=n/\n<=122)∨(65<=n/\n<=90)∨(48<=n/\n<=57);{(have a:Z (j6 n=true):=by show j6 n=true;grind [j6]);rcases b with b | b | b;all_goals(go_enter func212,ntmps212;go_wp2;go_ret;exact⟨aT a.o.symm,rfl⟩)};{(have a:Z (j6 n=(n==45||n==95||n==46)):=by show j6 n=_;grind [j6]);go_enter func212,ntmps212;go_wp2;(all_goals go_ret);all_goals (refine⟨aT ?_,rfl⟩;first | rfl | (rw[a.o];done) | (rw[a.o];simp[*];done))}
theorem zdQ(h:b<l)(a:zo b=false):(List.range l).all zo=false:=by grind
theorem zaS(h:∀i,i<l->zo i=true):(List.range l).all zo=true:=by grind
theorem nO(p:w.size<=1073741824) :
  br 200 #[J w] d (gG (bool (dZ w)) d):=by go_enter func200,ntmps200;go_wp2;go_loopg [3] w.size (λg i wr=>∃k:Nat,k<=w.size/\g=w.size-k/\i=Y k/\Z (∀i,i<k->j6 (aB w i)=true)/\wr=d);{exact⟨0,by omega,by omega,rfl,λi h=>by omega,rfl⟩};obtain⟨k,n,m,rfl,a,rfl⟩:=hrel;by_cases b:k<w.size;{cases f:j6 (w[k].toNat:Int);{have c:Z (dZ w=false):=zdQ k b (by rw[bA w k b];exact f);go_wp2_with fail;refine(qi _ _).mono ?_;rintro e l ⟨rfl,rfl⟩;go_wp2;go_ret;exact⟨aT c.o.symm,rfl⟩};{go_wp2_with fail;refine(qi _ _).mono ?_;rintro e l ⟨rfl,rfl⟩;go_wp2;go_roundg (w.size-(k+1));{refine⟨k+1,by omega,rfl,by go_num,?_,rfl⟩;intro i j;by_cases e:i=k;{grind [bA]};{exact a i (by omega)}};omega}};{have c:Z (dZ w=true):=zaS (λi j=>a i (by omega));go_wp2;go_ret;exact⟨aT c.o.symm,rfl⟩}
theorem kD(d:Db)(H:Nat->Hd)(x:Vq)(w:World)(h:bt w f T y o d H)(c:y.length=b)(a:d.Zv.length<=1073741824) :
  br 206 #[pointer (some (X f b)),J x] w (gG (bool (bu d.Zv x)) w):=by obtain⟨k,l,m,n,p,q,r,s,t,u,g,i,j⟩:=h.cells b c;go_enter func206,ntmps206;go_wp2_with fail;refine(fL (H 3) d.Zv x _ (by exact h.ZP 3) a).mono ?_;rintro e v ⟨rfl,rfl⟩;go_wp2;go_ret;exact⟨rfl,rfl⟩
theorem mV(d:Db)(H:Nat->Hd)(x:Vq)(w:World)(h:bt w f T y o d H)(c:y.length=b)(a:d.Zo.length<=1073741824) :
  br 207 #[pointer (some (X f b)),J x] w (gG (bool (bu d.Zo x)) w):=by obtain⟨k,l,m,n,p,q,r,s,t,u,g,i,j⟩:=h.cells b c;go_enter func207,ntmps207;go_wp2_with fail;refine(fL (H 1) d.Zo x _ (by exact h.ZP 1) a).mono ?_;rintro e v ⟨rfl,rfl⟩;go_wp2;go_ret;exact⟨rfl,rfl⟩
theorem nQ(d:Db)(H:Nat->Hd)(x:Vq)(w:World)(h:bt w f T y o d H)(c:y.length=b)(a:d.Zy.length<=1073741824) :
  br 208 #[pointer (some (X f b)),J x] w (gG (bool (bu d.Zy x)) w):=by obtain⟨k,l,m,n,p,q,r,s,t,u,g,i,j⟩:=h.cells b c;go_enter func208,ntmps208;go_wp2_with fail;refine(fL (H 4) d.Zy x _ (by exact h.ZP 4) a).mono ?_;rintro e v ⟨rfl,rfl⟩;go_wp2;go_ret;exact⟨rfl,rfl⟩
def dq(d:Db)(x:Vq):Bool:=bu d.Zu x||bu d.Zo x||bu d.Zp x
def eP(d:Db)(x:Vq):Bool:=bu d.Zu x||bu d.Zo x||bu d.Zv x
theorem lR(d:Db)(H:Nat->Hd)(x:Vq)(w:World)(h:bt w f T y o d H)(k:y.length=b)(a:gK d 1073741824) :
  br 189 #[pointer (some (X f b)),J x] w (gG (bool (dq d x)) w):=by obtain⟨p,q,r,s,t,u,v,z,A,B,l,m,n⟩:=h.cells b k;cases i:bu d.Zu x;{cases j:bu d.Zo x;{have c:Z (dq d x=bu d.Zp x):=(by show dq d x=_;simp[dq,i,j]);go_enter func189,ntmps189;go_wp2_with fail;refine(fL (H 0) d.Zu x _ (by exact h.ZP 0) a.Zu).mono ?_;rintro e g ⟨rfl,rfl⟩;go_wp2_with fail;refine(fL (H 1) d.Zo x _ (by exact h.ZP 1) a.Zo).mono ?_;rintro e g ⟨rfl,rfl⟩;go_wp2_with fail;refine(fL (H 2) d.Zp x _ (by exact h.ZP 2) a.Zp).mono ?_;rintro e g ⟨rfl,rfl⟩;go_wp2;go_ret;exact⟨aT (by rw[c.o]),rfl⟩};{have c:Z (dq d x=true):=(by show dq d x=_;simp[dq,i,j]);go_enter func189,ntmps189;go_wp2_with fail;refine(fL (H 0) d.Zu x _ (by exact h.ZP 0) a.Zu).mono ?_;rintro e g ⟨rfl,rfl⟩;go_wp2_with fail;refine(fL (H 1) d.Zo x _ (by exact h.ZP 1) a.Zo).mono ?_;rintro e g ⟨rfl,rfl⟩;go_wp2;go_ret;exact⟨aT (by rw[c.o]),rfl⟩}};{(have c:Z (dq d x=true):=by show dq d x=_;simp[dq,i]);go_enter func189,ntmps189;go_wp2_with fail;refine(fL (H 0) d.Zu x _ (by exact h.ZP 0) a.Zu).mono ?_;rintro e g ⟨rfl,rfl⟩;go_wp2;go_ret;exact⟨aT (by rw[c.o]),rfl⟩}
theorem ET(d:Db)(H:Nat->Hd)(x:Vq)(w:World)(h:bt w f T y o d H)(k:y.length=b)(a:gK d 1073741824) :
  br 190 #[pointer (some (X f b)),J x] w (gG (bool (eP d x)) w):=by obtain⟨p,q,r,s,t,u,v,z,A,B,l,m,n⟩:=h.cells b k;cases i:bu d.Zu x;{cases j:bu d.Zo x;{have c:Z (eP d x=bu d.Zv x):=(by show eP d x=_;simp[eP,i,j]);go_enter func190,ntmps190;go_wp2_with fail;refine(fL (H 0) d.Zu x _ (by exact h.ZP 0) a.Zu).mono ?_;rintro e g ⟨rfl,rfl⟩;go_wp2_with fail;refine(fL (H 1) d.Zo x _ (by exact h.ZP 1) a.Zo).mono ?_;rintro e g ⟨rfl,rfl⟩;go_wp2_with fail;refine(fL (H 3) d.Zv x _ (by exact h.ZP 3) a.Zv).mono ?_;rintro e g ⟨rfl,rfl⟩;go_wp2;go_ret;exact⟨aT (by rw[c.o]),rfl⟩};{have c:Z (eP d x=true):=(by show eP d x=_;simp[eP,i,j]);go_enter func190,ntmps190;go_wp2_with fail;refine(fL (H 0) d.Zu x _ (by exact h.ZP 0) a.Zu).mono ?_;rintro e g ⟨rfl,rfl⟩;go_wp2_with fail;refine(fL (H 1) d.Zo x _ (by exact h.ZP 1) a.Zo).mono ?_;rintro e g ⟨rfl,rfl⟩;go_wp2;go_ret;exact⟨aT (by rw[c.o]),rfl⟩}};{(have c:Z (eP d x=true):=by show eP d x=_;simp[eP,i]);go_enter func190,ntmps190;go_wp2_with fail;refine(fL (H 0) d.Zu x _ (by exact h.ZP 0) a.Zu).mono ?_;rintro e g ⟨rfl,rfl⟩;go_wp2;go_ret;exact⟨aT (by rw[c.o]),rfl⟩}
theorem lQ(d:Db)(H:Nat->Hd)(w:World)(h:bt w f T y o d H)(a:y.length=b) :
  br 156 #[pointer (some (X f b))] w (gG (bool (decide (0<d.ZI.length))) w):=by obtain⟨i,j,k,l,m,n,p,q,r,s,c,e,g⟩:=h.cells b a;go_enter func156,ntmps156;go_wp2;go_ret;exact⟨rfl,rfl⟩
def eH(d:Db):Bool:=d.ZG != 0||decide (0<d.ZI.length)
theorem vE(d:Db)(H:Nat->Hd)(w:World)(h:bt w f T y o d H)(c:y.length=b) :
  br 137 #[pointer (some (X f b))] w (gG (bool (eH d)) w):=by obtain⟨l,m,n,p,q,r,s,t,u,v,g,i,j⟩:=h.cells b c;cases k:(d.ZG != 0);{(have a:Z (eH d=decide (0<d.ZI.length)):=by show eH d=_;grind [eH]);go_enter func137,ntmps137;go_wp2_with fail;refine(lQ f T b y o d H _ h c).mono ?_;rintro e x ⟨rfl,rfl⟩;go_wp2;go_ret;exact⟨aT (by rw[a.o]),rfl⟩};{(have a:Z (eH d=true):=by show eH d=_;grind [eH]);go_enter func137,ntmps137;go_wp2_with fail;go_ret;exact⟨aT (by rw[a.o]),rfl⟩}
def fM(d:Db):Int:=if(d.ZG==1)=true∨(d.ZG==2)=true then 2 else 1
theorem wP(d:Db)(H:Nat->Hd)(w:World)(h:bt w f T y o d H)(g:y.length=b) :
  br 186 #[pointer (some (X f b))] w (gG (Y (fM d)) w):=by obtain⟨l,m,n,p,q,r,s,t,u,v,i,j,k⟩:=h.cells b g;cases c:(d.ZG==1);{cases e:(d.ZG==2);all_goals(have a:Z (fM d=if(d.ZG==1)=true∨(d.ZG==2)=true then 2 else 1):=rfl;go_enter func186,ntmps186;go_wp2;go_ret;exact⟨aH (by rw[a.o,c,e];simp),rfl⟩)};{(have a:Z (fM d=2):=by show fM d=_;grind [fM]);go_enter func186,ntmps186;go_wp2;go_ret;exact⟨aH (by rw[a.o]),rfl⟩}
theorem OH(n:aO d M (aw I))(q:T<=1073741824) :
  br 199 #[Q M.ao I.length M.cap,Y T] d (gG (Q M.ao (if T<=I.length then T else I.length) M.cap) d):=by obtain⟨r,c⟩:=M;by_cases a:T<=I.length;{rcases n.ZC with ⟨e,m,_⟩ | ⟨g,o,i,j,k,l,_⟩;{have b:I.length=0:=m;have f:T=0:=(by omega);subst f;injection e with e j;subst e j;simp only[if_pos a];rw[b];clear n m a b q;go_enter func199,ntmps199;go_wp2;go_ret;exact⟨rfl,rfl⟩};{simp only at i k l;have p:I.length<=c:=k;unfold maxLen at l;subst i;simp only[if_pos a];go_enter func199,ntmps199;go_wp2;go_ret;exact⟨rfl,rfl⟩}};{simp only[if_neg a];go_enter func199,ntmps199;go_wp2;go_ret;exact⟨rfl,rfl⟩}
theorem aO.cut(o:aO H z9 (aw z6))(c:Nat)(s:c<=z6.length):aO H z9 (aw (z6.take c)):=by (have b:(z6.take c).length=c:=by grind);rcases o.ZC with ⟨j,p,_⟩ | ⟨g,a,e,k,l,f,i,m⟩;{(have q:z6.length=0:=p;have:c=0:=by omega);subst this;subst j;exact⟨by rfl,by grind⟩};{obtain⟨r,d⟩:=z9;simp only at e l f i;subst e;refine⟨by simp[aw,strs],VO ⟨g,d,a,rfl,Wp _,k,?_,f,i,?_⟩⟩;{grind [aw]};{(have n:a.toList.take (z6.length*1)=strs z6:=m;simp only[aw,b];have:strs (z6.take c)=(strs z6).take c:=by simp[strs]);grind}}
theorem zfK:(prog.info? 273).map (λi=>(i.zero,i.size,i.bytes))=some (some (agg #[Y 0,Y 0]),2,16):=by kernel_rfl
theorem ua:rq (m++[z7])=rq m++[Y z7.1,Y z7.2]:=by simp[rq]
theorem Qc:(⟨(pA m).e,(pA m).size,(pA m).n+1,(pA m).xs++[Y z7.1,Y z7.2]⟩:gY)=pA (m++[z7]):=by simp[pA,ua]
set_option maxRecDepth 100000
theorem zr(d:Db)(H:Nat->Hd)(w:World)(h:bt w f T y o d H)(t:y.length=b)(P:d.ZI.length<=1073741824) :
  br 181 #[pointer (some (X f b))] w λe x=>e=cA (tuple #[])/\∃q,bt x f T y o { d with ZI:=d.ZI++[(d.Zv.length,d.Zy.length)] } q/\aj f w H x q:=by (obtain⟨D,B,l,m,p⟩:=VZ zfK;obtain⟨S,U,V,W,q4,q5,q6,q7,q8,q9,E,F,G⟩:=h.cells b t;have A:=h.lt;have s:Z (bt (w.alloc (aK #[Y d.Zv.length,Y d.Zy.length] 273)).drew f T y o d H):=h.Zr ((ab.refl [] w).alloc _).drew;have I:Z (∀j u,([Y d.Zv.length,Y d.Zy.length]:List Value)[j]?=some u->(w.alloc (aK #[Y d.Zv.length,Y d.Zy.length] 273)).drew.cell? (((aD w.heap.size):Addr).add j)=some u):=by intro j u O;rw[bD];have C:(w.alloc (aK #[Y d.Zv.length,Y d.Zy.length] 273)).drew.heap[w.heap.size]?=some (aK #[Y d.Zv.length,Y d.Zy.length] 273):=Vx _ _;rw[ay C];grind);(have K:Z (∀u∈([Y d.Zv.length,Y d.Zy.length]:List Value),u.oneCell'=true):=by intro u v;simp at v;rcases v with rfl | rfl <;> rfl);(have L:Z ((pA d.ZI).n+1<=maxLen):=by show _<=_;simp only[pA];unfold maxLen;omega);(have M:Z (((pA d.ZI).n+1)*16<=140737488355328):=by show _<=_;simp only[pA];omega);go_enter func181,ntmps181;go_wp2_with fail;go_region_law (refine aW rfl (.tmp 6) (.tmp 18) 180 rfl D (agg #[Y 0,Y 0]) 16 (H 5) (pA d.ZI) underlying180 B l m p rfl Nat.two_pos (by rfl) (s.o.ZP 5) (aD w.heap.size) 1 1 [Y d.Zv.length,Y d.Zy.length] (by rfl) rfl I K VG L M ?_;intro g a w1 k i c;obtain⟨R,N,r⟩:=s.o.app (d':={ d with ZI:=d.ZI++[(d.Zv.length,d.Zy.length)] }) b 5 t 5 (by omega) g a ((pA d.ZI).n+1) _ k (Qc d.ZI (d.Zv.length,d.Zy.length)) i (by omega) (xS d H _) (by omega) _ rfl (by simp[df,dD,pA]));(all_goals go_wp2);(all_goals go_end0);all_goals exact⟨rfl,_,r.1,r.2.first ((ab.refl [] w).alloc _).drew⟩
theorem pR(l:List (Nat×Nat)):(rq l).length=l.length*2:=by induction l with|nil=>rfl|cons a r b=>grind [rq]
theorem Ax:(rq (m++[z7]))[m.length*2]?=some (Y z7.1)/\(rq (m++[z7]))[m.length*2+1]?=some (Y z7.2):=by grind [ua,pR]
theorem aO.pop{l:List (Nat×Nat)}{x:Nat×Nat}(o:aO H z9 (pA (l++[x]))):aO H z9 (pA l):=by rcases o.ZC with ⟨r,p,_⟩ | ⟨g,b,e,k,f,i,j,m⟩;{have d:(l++[x]).length=0:=p;simp at d};{obtain⟨q,a⟩:=z9;simp only at e f i j;subst e;have c:(l++[x]).length<=a:=f;simp at c;refine⟨by grind [pA,pR],VO ⟨g,a,b,rfl,Wp _,k,?_,i,j,?_⟩⟩;{simp only[pA];omega};{(have n:b.toList.take ((l++[x]).length*2)=rq (l++[x]):=m;simp only[pA];have s:rq l=(rq (l++[x])).take (l.length*2):=by grind [ua,pR]);grind}}
def dN(d:Db)(bl:List (Nat×Nat))(x:Nat×Nat):Db:={ d with ZI:=bl,Zv:=d.Zv.take x.1,Zy:=d.Zy.take x.2 }
theorem Vf:(x.take b).length=if b<=x.length then b else x.length:=by grind
theorem aO.taken(o:aO H z9 (aw z6))(c:Nat):aO H z9 (aw (z6.take c)):=by by_cases a:c<=z6.length;{exact o.cut c a};{rw[Xr (by omega)];exact o}
theorem zL(b:Z ((I.take f).length=T))(c:aO d M (aw I))(a:f<=1073741824) :
  br 199 #[Q M.ao I.length M.cap,Y f] d (gG (Q M.ao T M.cap) d):=by (have e:T=if f<=I.length then f else I.length:=by rw[<-b.o,Vf]);rw[e];exact OH M I f d c a
theorem rY{d d':Db}(h:bt H l a D L d n)(i:D.length=z8)(f:T<10)(k:aO H (n T) (bG d' n T))(c:∀j,j≠T->bG d' n j=bG d n j)(u:Value)(e:b<13)(g:(df d n).set b u=df d' (dD n T (n T))) :
  bt (H.setCell (X l (z8+b)) u) l a D L d' n/\aj l H n (H.setCell (X l (z8+b)) u) n:=by have m:=zac n T;have:=h.put (d':=d') z8 b i T f (n T) k (YT _ _) (by simp) c u e g;grind
theorem Eq(d:Db)(H:Nat->Hd)(a:List (Nat×Nat))(x:Nat×Nat)(w:World)(h:bt w f T y o d H)(A:y.length=b)(F:d.ZI=a++[x])(hs:gK d 1073741824)(hx:x.1<=1073741824/\x.2<=1073741824) :
  br 183 #[pointer (some (X f b))] w λe w'=>e=cA (tuple #[])/\bt w' f T y o (dN d a x) H/\aj f w H w' H:=by (obtain⟨N,O,P,R,S,v,U,V,W,q9,p,q,r⟩:=h.cells b A;obtain⟨c,j⟩:=x;simp only at hx;have n:=h.free;have ai:=h.lt;have K:=h.ZP 5;have i:aO w (H 5) (pA (a++[(c,j)])):=by have:=K;simp only[bG,F]at this;exact this);have u:=hs.ZI;rw[F]at u v;simp only[List.length_append,List.length_cons,List.length_nil]at u v;rcases i.ZC with ⟨e0,h0,_⟩ | ⟨g,ah,M,e2,e3,e4,e5,e6⟩;{have ad:(a++[(c,j)]).length=0:=h0;simp at ad};{(have p1:=i.cell M (a.length*2) _ (Ax a (c,j)).1;have p2:=i.cell M (a.length*2+1) _ (Ax a (c,j)).2;have ag:a.length+1<=(H 5).cap:=by have:(a++[(c,j)]).length<=(H 5).cap:=e3;grind);have P1:=rY 5 5 (d':={ d with ZI:=a }) h A (by omega) i.pop (xS d H a) (Q (some (aD g)) a.length (H 5).cap) (by omega) (by simp[df,dD,M]);obtain⟨s,k⟩:∃s,s=(w.setCell (X f (b+5)) (Q (some (aD g)) a.length (H 5).cap)).alloc (aK #[Y c,Y j] 273):=⟨_,rfl⟩;(have z:bt s f T y o { d with ZI:=a } H:=by rw[k];exact P1.1.Zr (bH.alloc _));(have T2:aj f w H s H:=by rw[k];exact P1.2.Zr (bH.alloc _));(have B2:s.heap[w.heap.size]?=some (aK #[Y c,Y j] 273):=by rw[k];have:=Vx (w.setCell (X f (b+5)) (Q (some (aD g)) a.length (H 5).cap)) (aK #[Y c,Y j] 273);simpa [World.setCell] using this);have HW:Z ((w.setCell (X f (b+5)) (Q (some (aD g)) a.length (H 5).cap)).alloc (aK #[Y c,Y j] 273)=s):=k.symm;rw[M]at v;simp only at p1 p2;clear K i e3 e4 e5 e6 e2 h P1 k;go_enter func183,ntmps183;go_upto_region 4 with fail;(rw[HW.o];obtain⟨c0,c1⟩:=sL B2;have af:w.heap.size≠f:=by omega);clear HW N O P R S v U V W q9 p q r p1 p2 n;obtain⟨N,O,P,R,S,v,U,V,W,q9,p,q,r⟩:=z.cells b A;have n:=z.free;obtain⟨L,G⟩:∃m,Z ((d.Zv.take c).length=m):=⟨_,rfl⟩;obtain⟨m2,I⟩:∃m,Z ((d.Zy.take j).length=m):=⟨_,rfl⟩;have P3:=rY 3 3 (d':={ d with ZI:=a,Zv:=d.Zv.take c }) z A (by omega) ((z.ZP 3).taken c) (xR { d with ZI:=a } H (d.Zv.take c)) (Q (H 3).ao L (H 3).cap) (by omega) (by simp only[df,cS,<-G.o];rfl);obtain⟨t,l⟩:∃t,t=(s.setCell (X f (b+3)) (Q (H 3).ao L (H 3).cap)).drew:=⟨_,rfl⟩;(have B:Z (bt t f T y o { d with ZI:=a,Zv:=d.Zv.take c } H):=by rw[l];exact P3.1.Zr bH.drew);(have T3:Z (aj f w H t H):=by rw[l];exact T2.trans (P3.2.Zr bH.drew));(have B3:Z (t.heap[w.heap.size]?=some (aK #[Y c,Y j] 273)):=by show t.heap[w.heap.size]?=_;rw[l];exact(VB s (X f (b+3)) (Q (H 3).ao L (H 3).cap) w.heap.size af).trans B2);have D:Z ((s.setCell (X f (b+3)) (Q (H 3).ao L (H 3).cap)).drew=t):=l.symm;clear l P3;go_region_with (go_at_call 199;refine(zL (H 3) d.Zv c L _ G (by exact z.ZP 3) hx.1).mono ?_;rintro e t ⟨rfl,rfl⟩);(all_goals go_upto_region 5 with fail);(all_goals rw[D.o]);all_goals(clear D N O P R S v U V W q9 p q r n z T2 B2 c0 c1;obtain⟨c0,c1⟩:=sL B3;obtain⟨N,O,P,R,S,v,U,V,W,q9,p,q,r⟩:=B.o.cells b A;have n:=B.o.free;have P4:=rY 4 4 (d':=dN d a (c,j)) B A (by omega) ((B.o.ZP 4).taken j) (Ba { d with ZI:=a,Zv:=d.Zv.take c } H (d.Zy.take j)) (Q (H 4).ao m2 (H 4).cap) (by omega) (by simp only[df,dN,cS,<-I.o];rfl);have C:Z _:=P4;clear P4;go_region_with (go_at_call 199;refine(zL (H 4) d.Zy j m2 _ I (by exact B.o.ZP 4) hx.2).mono ?_;rintro e t ⟨rfl,rfl⟩);(all_goals go_wp2);(all_goals go_end0);all_goals exact⟨rfl,C.1.Zr bH.drew,T3.o.trans (C.2.Zr bH.drew)⟩)}
theorem G8{α:Type}(f:α->List Value)(n:Nat)(b:∀a,(f a).length=n)(l:List α):(l.flatMap f).length=l.length*n:=by induction l with|nil=>simp|cons a l c=>grind
theorem G7{α:Type}(f:α->List Value)(n:Nat)(b:∀a,(f a).length=n)(l:List α)(i j:Nat)(c:i<l.length)(d:j<n):(l.flatMap f)[i*n+j]?=(f l[i])[j]?:=by induction l generalizing i with|nil=>grind|cons a l e=>{rw[WM];cases i with|zero=>grind|succ i=>grind}
theorem Su{α:Type}(f:α->List Value)(n:Nat)(d:∀a,(f a).length=n)(l:List α)(i j:Nat)(e:i<l.length)(g:j<n)(b:α)(v:Value)(c:f b=(f l[i]).set j v) :
  (l.flatMap f).set (i*n+j) v=(l.set i b).flatMap f:=by induction l generalizing i with|nil=>rfl|cons a l k=>{cases i with|zero=>grind|succ i=>grind}
theorem U9(l:List St)(H:Nat->Hd):(mG l H).length=l.length*8:=by unfold mG;rw[G8 _ 8 (λ_=>rfl)];simp
theorem MM(l:List (Vq×Pl)):(xm l).length=l.length*4:=G8 _ 4 (λ_=>rfl) l
theorem NY(l:List St)(H:Nat->Hd)(i:Nat)(b:i<l.length)(j:Nat)(a:j<8):(mG l H)[i*8+j]?=(Qu l[i] (H (10+2*i)) (H (11+2*i)))[j]?:=by unfold mG;rw[G7 _ 8 (λ_=>rfl) _ i j (by simp_all) a];simp
theorem QU(l:List (Vq×Pl))(i:Nat)(a:i<l.length)(j:Nat)(b:j<4):(xm l)[i*4+j]?=(tE l[i])[j]?:=G7 _ 4 (λ_=>rfl) l i j a b
theorem QA(l:List St)(s:St)(H:Nat->Hd):mG (l++[s]) H=mG l H++Qu s (H (10+2*l.length)) (H (11+2*l.length)):=by grind [mG]
theorem MP(l:List St)(i:Nat)(s:St):(l.set i s).zipIdx=l.zipIdx.set i (s,i):=by apply WW;intro j;simp only[List.getElem?_zipIdx,List.getElem?_set,List.length_zipIdx];grind
theorem Va(l:List St)(H:Nat->Hd)(i:Nat)(b:i<l.length)(N:Nat):(mG l H).set (i*8+7) (Y N)=mG (l.set i { l[i] with til:=N }) H:=by unfold mG;rw[MP];exact Su _ 8 (λ_=>rfl) _ i 7 (by simp_all) (by omega) _ _ (by simp[Qu])
theorem Jw:(strs x).length=x.length*1:=by simp[strs]
theorem Dp:iG (zc++[b])=iG zc++[Y b]:=by simp[iG]
theorem ko:(⟨(rowN zc).e,(rowN zc).size,(rowN zc).n+1,(rowN zc).xs++[Y b]⟩:gY)=rowN (zc++[b]):=by simp[rowN,Dp]
theorem oU:(prog.info? 3).map (λi=>(i.zero,i.size,i.bytes))=some (some (Y 0),1,8):=by kernel_rfl
def iZ(k:Int):Bool:=k==4||k==5
set_option maxRecDepth 512
theorem di(k:Int)(b c d e f g i:Value)(w:World) :
  br 93 #[agg #[Y k,b,c,d,e,f,g,i]] w (mu (bool (iZ k)) w):=by cases j:(k==4);{(have a:Z (iZ k=(k==5)):=by show iZ k=_;grind [iZ]);go_enter func93,ntmps93;go_wp2;go_ret;exact⟨aT (by rw[a.o]),(ab.refl _ _).alloc _⟩};{(have a:Z (iZ k=true):=by show iZ k=_;grind [iZ]);go_enter func93,ntmps93;go_wp2;go_ret;exact⟨aT (by rw[a.o]),(ab.refl _ _).alloc _⟩}
set_option maxRecDepth 100000
theorem Ft(d:Db)(H:Nat->Hd)(w:World)(h:bt w f T y o d H)(v:y.length=b)(E:gK d 100000000) :
  br 182 #[pointer (some (X f (b+6)))] w λe z=>e=cA (tuple #[])/\∃r,bt z f T y o { d with rbl:=d.rbl++[d.ZD.length] } r/\aj f w H z r:=by (obtain⟨F,B,l,m,p⟩:=VZ oU;obtain⟨U,V,W,q3,q4,q5,q6,q7,q8,q9,G,I,K⟩:=h.cells b v;have A:=h.lt;have D:=E.rbl;have t:Z (bt (w.alloc (aK #[Y d.ZD.length] 3)).drew f T y o d H):=h.Zr ((ab.refl [] w).alloc _).drew;have L:Z (∀j u,([Y d.ZD.length]:List Value)[j]?=some u->(w.alloc (aK #[Y d.ZD.length] 3)).drew.cell? (((aD w.heap.size):Addr).add j)=some u):=by intro j u R;have C:(w.alloc (aK #[Y d.ZD.length] 3)).drew.heap[w.heap.size]?=some (aK #[Y d.ZD.length] 3):=Vx _ _;rw[bD,ay C];grind);(have M:Z (∀u∈([Y d.ZD.length]:List Value),u.oneCell'=true):=by intro u x;simp at x;subst x;rfl);(have N:Z ((rowN d.rbl).n+1<=maxLen):=by show _<=_;simp only[rowN];unfold maxLen;omega);(have O:Z (((rowN d.rbl).n+1)*8<=140737488355328):=by show _<=_;simp only[rowN];omega);go_enter func182,ntmps182;go_wp2_with fail;go_region_law (refine aW rfl (.tmp 6) (.tmp 12) 46 rfl F (Y 0) 8 (H 7) (rowN d.rbl) underlying46 B l m p rfl VG (by rfl) (t.o.ZP 7) (aD w.heap.size) 1 1 [Y d.ZD.length] (by rfl) rfl L M VG N O ?_;intro g a w1 k i c;obtain⟨S,P,s⟩:=t.o.app (d':={ d with rbl:=d.rbl++[d.ZD.length] }) b 7 v 7 (by omega) g a ((rowN d.rbl).n+1) _ k (ko d.rbl _) i (by omega) (Jg d H _) (by omega) _ rfl (by simp[df,dD,rowN]));(all_goals go_wp2);(all_goals go_end0);all_goals exact⟨rfl,_,s.1,s.2.first ((ab.refl [] w).alloc _).drew⟩
end Go.Proofs.YtnbalopedcgpcaaGreat
