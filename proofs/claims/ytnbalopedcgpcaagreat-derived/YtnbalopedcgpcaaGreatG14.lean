import Derived.Deep.RegionHeld3
import Derived.Test.YtnbalopedcgpcaaGreatG13
namespace Go.Proofs.YtnbalopedcgpcaaGreat
open Go.RowKit Tryz
open Value renaming int->Xx,string->Xy,slice->Xz,pointer->XA,agg->XB,bool->XC,tuple->XD
open Obj renaming cells->XE
open IntKind renaming i64->XF,u8->XG
open Ending renaming returned->XH
open World renaming cell?->XI
open Option renaming none->XJ,some->XK
open Bool renaming true->XL,false->XM
open Go.RowKit renaming Hid->XN
open Go renaming Calls->XO,World->XP,Value->XQ
set_option maxHeartbeats 0
variable{I:Nat}{L z4:XP}(y:Nat)(H:iR)(k:Nat->Hd)(N:Nat)(g:List St)(o:Nat)(f:ByteArray)(a:Pl)(w:Nat)(b:List St)(d:Nat->Hd)(T:ByteArray)(S n:Int)(D:List (ByteArray×Pl))(i:List Nat)(z5:List gY)(x:Nat)(m:iR)(l:XP)(M:Nat)
def bU(c:iR)(n:Nat)(p:Pl):Int×iR :=
 if 65<=n/\n<=84 then gC c (n-64) p
 else if 85<=n/\n<=89 then(0,iO c (n-84))
 else if n=90/\c.behind=XL then(0,{ c with Uz:=c.Uz++[c.steps.length-1],behind:=XM })
 else if n=63/\c.Ut=0 then(0,dC c ⟨1,0,p⟩)
 else(4,c)
set_option maxRecDepth 100000
theorem tY(h:dj l y H k)(C:fB H 10000000)(hn:w<256) :
  XO prog 179 #[XA (XK ⟨y,0,XJ⟩),Xx XG w,XB #[Xy T,Xx XF S,Xx XF n]] l fun e v=>e=XH (Xx XF (bU H w ⟨T,S,n⟩).1)/\∃H',dj v y (bU H w ⟨T,S,n⟩).2 H'/\aj y l k v H':=by
 have a0:=C.steps;have a5:=C.Uz;obtain⟨W,s,K,B,p0,p1,p2⟩:=Ho l T S n;have i:=h.Ur K;clear h;obtain⟨E,F,G,I,A⟩:=i.cells;have ac:=aB.free i;have av:=aB.lt i;by_cases d:65<=w/\w<=84
 ·have a:XN (bU H w ⟨T,S,n⟩=gC H (w-64) ⟨T,S,n⟩):=PZ d;have EN:=fun(v:XP) (Y:dj v y H k)=>sw y H k (w-64) T S n v Y C (by omega) (by omega);have U:XN _:=EN;obtain⟨a1,a2⟩:=d;have he:(w:Int)-65+1=((w-64:Nat):Int):=by omega
  clear EN E F G I A;generalize hq:w-64=q at *;go_enter func179,ntmps179;go_upto_region 1 with fail
  rw[s.out];go_wp2_with fail;refine(U.out _ i).mono ?_;rintro e w2 ⟨rfl,R,r,D⟩;go_wp2;go_ret;exact⟨ay (by rw[a.out]),R,by rw[a.out];exact r,aj.first K D⟩
 ·by_cases f:85<=w/\w<=89
  ·have a:XN (bU H w ⟨T,S,n⟩=(0,iO H (w-84))):=(by show _=_;unfold bU;rw[PV d,PZ f]);obtain⟨a1,a2⟩:=f;have TD:=fun(v:XP) (Y:dj v y H k)=>uC y H k (w-84) v Y C (by omega);have V:XN _:=TD;have he:(w:Int)-85+1=((w-84:Nat):Int):=(by omega);have aq:¬w<=84:=(by omega);clear TD E F G I A d;generalize hq:w-84=q at *;go_enter func179,ntmps179;(go_upto_region 1 with fail);rw[s.out];go_wp2_with fail;refine(V.out _ i).mono ?_;rintro e w2 ⟨rfl,r,D⟩;go_wp2;go_ret;exact⟨ay (by rw[a.out]),k,by rw[a.out];exact r,aj.first K D⟩
  ·by_cases p:w=90/\H.behind=XL
   ·have a:XN (bU H w ⟨T,S,n⟩=(0,{ H with Uz:=H.Uz++[H.steps.length-1],behind:=XM })):=(by show _=_;unfold bU;rw[PV d,PV f,PZ p]);obtain⟨rfl,o⟩:=p;have ap:=C.behind o;rw[o]at A;obtain⟨b,O⟩:∃b,H.steps.length-1=b:=⟨_,rfl⟩
    have he:(H.steps.length:Int)-1=(b:Int):=(by omega);rw[O]at a;have a6:IntKind.i64.wrap (b:Int)=(b:Int):=by rw[Re];omega
    obtain⟨i0,hi,ag,ah,ai⟩:=Qq mX;have hD:XN (dj (W.alloc (XE #[Xx XF b] 3)).drew y H k):=i.Ur ((aa.refl [] W).alloc _).drew;have s2:XN (∀j u,([Xx XF b]:List XQ)[j]?=XK u->(W.alloc (XE #[Xx XF b] 3)).drew.cell? ((⟨W.heap.size,0,XJ⟩:Addr).add j)=XK u):=by
     intro j u N;have hk:(W.alloc (XE #[Xx XF b] 3)).drew.heap[W.heap.size]?=XK (XE #[Xx XF b] 3):=PM _ _;rw[ba,ab hk];simpa using N
    have s3:XN (∀u∈([Xx XF b]:List XQ),u.oneCell'=XL):=(by intro u hu;simp at hu;subst hu;rfl);have s4:XN ((bQ H.Uz).n+1<=maxLen):=(by show _<=_;simp only[bQ];unfold maxLen;omega);have s5:XN (((bQ H.Uz).n+1)*8<=140737488355328):=(by show _<=_;simp only[bQ];omega);have ad:XN (∀j,j≠1->tH { H with Uz:=H.Uz++[b] } j=tH H j):=by
     intro j N
     match j,N with
     | 0,_=>rfl
     | 1,N=>exact absurd rfl N
     | 2,_=>rfl
     | m+3,_=>rfl
    clear E I d f p0 p1 p2;go_enter func179,ntmps179;(go_upto_region 1 with fail);rw[s.out];go_wp2_with fail;go_region_law (refine aP rfl (.tmp 44) (.tmp 51) 46 rfl i0 (Xx XF 0) 8 (k 1) (bQ H.Uz) underlying46 hi ag ah ai rfl Qf (by simp[Act.eval] <;> rfl) (aB.own hD.out 1) ⟨W.heap.size,0,XJ⟩ 1 1 [Xx XF b] (by simp[Act.eval]) rfl s2.out s3.out Qf s4.out s5.out ?_;intro g t w1 P M c;obtain⟨k5,f5,Q⟩:=aB.app hD.out (cs':=iz { H with Uz:=H.Uz++[b] } (cX k 1 ⟨XK ⟨g,0,XJ⟩,t⟩)) (rows':=tH { H with Uz:=H.Uz++[b] }) 1 1 g t ((bQ H.Uz).n+1) _ P (jc H.Uz b) M (by simpa using c) ad.out (Xz (k 1).ao H.Uz.length (k 1).cap) rfl (by simp[iz,cX,bQ]);clear P M c)
    all_goals
     have r:XN _:=aB.set Q.out.1 4 (XC XM);have Z:=(aB.cell Q.out.1 4);have az:=aB.free Q.out.1;simp only[iz,List.getElem?_cons_succ,List.getElem?_cons_zero,o]at Z;clear F G A ac k5 f5;go_wp2;go_ret;exact⟨ay (by rw[a.out]),_,by rw[a.out];exact r.out.1,((Q.out.2.first ((aa.refl [] _).alloc _).drew).first K).trans r.out.2⟩
   ·by_cases x:w=63/\H.Ut=0
    ·have a:XN (bU H w ⟨T,S,n⟩=(0,dC H ⟨1,0,⟨T,S,n⟩⟩)):=(by show _=_;unfold bU;rw[PV d,PV f,PV p,PZ x]);obtain⟨rfl,z⟩:=x;rw[z]at I;clear E F G d f p;go_enter func179,ntmps179;(go_upto_region 1 with fail);rw[s.out];go_wp2_with fail;refine(lD y H k 1 0 T S n _ i C).mono ?_;rintro e w2 ⟨rfl,R,r,D,-⟩;go_wp2;go_ret;exact⟨ay (by rw[a.out]),R,by rw[a.out];exact r,aj.first K D⟩
    ·have a:XN (bU H w ⟨T,S,n⟩=(4,H)):=(by show _=_;unfold bU;rw[PV d,PV f,PV p,PV x]);clear E F G;by_cases L:w=90
     ·have o:H.behind=XM:=by
       cases hq:H.behind with
       | false=>rfl
       | true=>exact absurd ⟨L,hq⟩ p
      rw[o]at A;subst L;clear d f p x;go_enter func179,ntmps179;(go_upto_region 1 with fail);rw[s.out];go_wp2;go_ret;exact⟨ay (by rw[a.out]),k,by rw[a.out];exact i,(aj.refl _ _ _).Ur K⟩
     ·by_cases J:w=63
      ·have z:¬H.Ut=0:=fun hh=>x ⟨J,hh⟩;have am:((H.Ut:Int)==0)=XM:=Qi.2 (by omega);subst J;clear d f p x z;go_enter func179,ntmps179;(go_upto_region 1 with fail);rw[s.out];go_wp2;go_ret;exact⟨ay (by rw[a.out]),k,by rw[a.out];exact i,(aj.refl _ _ _).Ur K⟩
      ·have e1:((w:Int)==90)=XM:=Qi.2 (by omega);have e2:((w:Int)==63)=XM:=Qi.2 (by omega);clear p x I A;by_cases a1:65<=w
       ·have a2:¬w<=84:=(by omega);have a3:85<=w:=(by omega);have a4:¬w<=89:=(by omega);clear d f;go_enter func179,ntmps179;(go_upto_region 1 with fail);rw[s.out];go_wp2;go_ret;exact⟨ay (by rw[a.out]),k,by rw[a.out];exact i,(aj.refl _ _ _).Ur K⟩
       ·have a3:¬85<=w:=(by omega);clear d f;go_enter func179,ntmps179;(go_upto_region 1 with fail);rw[s.out];go_wp2;go_ret;exact⟨ay (by rw[a.out]),k,by rw[a.out];exact i,(aj.refl _ _ _).Ur K⟩
theorem fB.letter{c:iR}(h:fB c I)(n:Nat)(p:Pl):fB (bU c n p).2 (I+1):=by
  have b:=h.names;have d:=h.Uz;have e:=h.steps;have f:=h.Ut;have a:=h.behind;unfold bU;split
  · unfold gC dC
    split
    · exact⟨by simp only;omega,by simp only;omega,by simp;omega,by simp,by simp⟩
    · split
      · exact⟨by simp only;omega,by simp only;omega,by simp;omega,by simp,by simp⟩
      · exact⟨by simp only;omega,by simp only;omega,by simp only;omega,by simp,a⟩
  · split
    · next g =>
      unfold iO;split
      · exact⟨by simp only;omega,by simp only;omega,by simp only;omega,by simp only;omega,by simp⟩
      · exact⟨by simp only;omega,by simp only;omega,by simp only;omega,by simp only;omega,by simp⟩
    · split
      · exact⟨by simp only;omega,by simp;omega,by simp only;omega,by simp only;omega,by simp⟩
      · split
        · exact⟨by simp only[dC];omega,by simp only[dC];omega,by simp[dC];omega,by simp only[dC];omega,by simp[dC]⟩
        · exact⟨by simp only;omega,by simp only;omega,by simp only;omega,by simp only;omega,a⟩
def eH(t:ByteArray)(p:Pl):Nat->Nat->iR->on×iR
  | 0,_,c=>(cy,c)
  | f+1,j,c =>
    if j<t.size then
      (if((bU c (ar t j).toNat { p with col:=p.col+j }).1==0)=XL then eH t p f (j+1) (bU c (ar t j).toNat { p with col:=p.col+j }).2
       else(((bU c (ar t j).toNat { p with col:=p.col+j }).1,{ p with col:=p.col+j }),(bU c (ar t j).toNat { p with col:=p.col+j }).2))
    else(cy,c)
def js(t:ByteArray)(p:Pl)(c:iR):on×iR:=eH t p (t.size+1) 0 c
theorem OT(c:x<f.size)(h:((bU m (ar f x).toNat { a with col:=a.col+x }).1==0)=XL) :
    eH f a (w+1) x m=eH f a w (x+1) (bU m (ar f x).toNat { a with col:=a.col+x }).2:=by rw[eH,PZ c,PZ h]
theorem My(c:x<f.size)(h:((bU m (ar f x).toNat { a with col:=a.col+x }).1==0)=XM) :
    eH f a (w+1) x m=(((bU m (ar f x).toNat { a with col:=a.col+x }).1,{ a with col:=a.col+x }),(bU m (ar f x).toNat { a with col:=a.col+x }).2):=by rw[eH,PZ c,PV (by rw[h];simp)]
theorem NX(b:¬x<f.size):eH f a (w+1) x m=(cy,m):=by rw[eH,PV b]
theorem cC(h:L.heap[I]?=XK (XE bb 196)) :
    XI L ⟨I,0,XJ⟩=XK (Xx XF 0)/\XI L ⟨I,1,XJ⟩=XK (Xy ⟨#[]⟩)/\XI L ⟨I,2,XJ⟩=XK (Xx XF 0)/\XI L ⟨I,3,XJ⟩=XK (Xx XF 0):=by
  refine⟨?_,?_,?_,?_⟩ <;> (rw[ab h];rfl)
theorem rD{t F:Nat}{i:List XQ}{a:Nat->fe}{H b:Nat->Hd}(D:aB z4 I t i a b)(T:aj I L H z4 b)(c:L.heap.size<=F)(j:I≠F)(k:¬cD b F)(d e f g:XQ) :
    aB ((((z4.setCell ⟨F,0,XJ⟩ d).setCell ⟨F,1,XJ⟩ e).setCell ⟨F,2,XJ⟩ f).setCell ⟨F,3,XJ⟩ g) I t i a b /\
    aj I L H ((((z4.setCell ⟨F,0,XJ⟩ d).setCell ⟨F,1,XJ⟩ e).setCell ⟨F,2,XJ⟩ f).setCell ⟨F,3,XJ⟩ g) b:=by
  refine⟨D.kept (fS _ _ _ _) (by simpa using j) (fun x l=>by simp;rintro rfl;exact k l),?_,T.2⟩;exact(((T.1.setCell (P7 c) _).setCell (P7 c) _).setCell (P7 c) _).setCell (P7 c) _
theorem xE(h:dj l y H k)(N:Nat)(ok:fB H N)(hN:N+f.size<=10000000)(aq:-1000000000<=n/\n<=1000000000) :
    XO prog 162 #[XA (XK ⟨y,0,XJ⟩),XB #[Xy f,Xy T,Xx XF S,Xx XF n]] l fun e c=>e=XH (fD (js f ⟨T,S,n⟩ H).1)/\∃d,dj c y (js f ⟨T,S,n⟩ H).2 d/\aj y l k c d:=by
  obtain⟨W,I⟩:∃W,W=(l.alloc (XE #[Xy f,Xy T,Xx XF S,Xx XF n] 235)).alloc (XE #[Xx XF 0,Xy ⟨#[]⟩,Xx XF 0,Xx XF 0] 196):=⟨_,rfl⟩
  have K:aa [] l W:=by rw[I];exact((aa.refl [] _).alloc _).alloc _
  have E:W.heap[l.heap.size]?=XK (XE #[Xy f,Xy T,Xx XF S,Xx XF n] 235):=by rw[I];exact((aa.refl [] _).alloc _).get (PM _ _) (by simp)
  have BF:W.heap[l.heap.size+1]?=XK (XE bb 196):=by
    rw[I];have:=PM (l.alloc (XE #[Xy f,Xy T,Xx XF S,Xx XF n] 235)) (XE #[Xx XF 0,Xy ⟨#[]⟩,Xx XF 0,Xx XF 0] 196);simpa [bb] using this
  have ac:W.heap.size=l.heap.size+2:=by rw[I];simp
  have ap:=aB.lt h;have z:XN (∀ai,l.heap.size<=ai->¬cD k ai):=fun ai hk hm=>by have:=aB.inlt h hm;omega
  have hC:=h.Ur K;have HW:XN _:=I.symm;have u0:XI W ⟨l.heap.size,0,XJ⟩=XK (Xy f):=by rw[ab E];rfl
  have u1:XI W ⟨l.heap.size,1,XJ⟩=XK (Xy T):=by rw[ab E];rfl
  have u2:XI W ⟨l.heap.size,2,XJ⟩=XK (Xx XF S):=by rw[ab E];rfl
  have u3:XI W ⟨l.heap.size,3,XJ⟩=XK (Xx XF n):=by rw[ab E];rfl
  clear I;go_enter func162,ntmps162;go_upto_region 1 with fail
  rw[HW.out];go_wp2
  go_loopg [6] f.size (fun gk i wr=>∃(j:Nat) (p:iR) (d:Nat->Hd) (P:Nat),j<=f.size/\gk=f.size-j/\i=Xx XF j/\fB p (N+j)/\f.size-j+1<=P/\XN (js f ⟨T,S,n⟩ H=eH f ⟨T,S,n⟩ P j p)/\dj wr y p d/\aj y l k wr d /\
    wr.heap[l.heap.size]?=XK (XE #[Xy f,Xy T,Xx XF S,Xx XF n] 235)/\wr.heap[l.heap.size+1]?=XK (XE bb 196)/\wr.heap[l.heap.size+2]?=XK (XE #[Xy T,Xx XF S,Xx XF (n+j)] 67)/\¬cD d l.heap.size/\¬cD d (l.heap.size+1)/\¬cD d (l.heap.size+2))
  case atStart =>
    refine⟨0,H,k,f.size+1,by omega,by omega,rfl,ok,by omega,rfl,hC.Ur ((aa.refl [] _).alloc _),(aj.refl _ _ _).Ur (K.alloc _),((aa.refl [] _).alloc _).get E (by simp),((aa.refl [] _).alloc _).get BF (by simp),?_,z.out _ (by omega),z.out _ (by omega),z.out _ (by omega)⟩;rw[<-ac];have:=PM W (XE #[Xy T,Xx XF S,Xx XF n] 67);simpa using this
  case round =>
    obtain⟨j,p,d,P,hj,hg,rfl,o,av,G,C,hT,B1,Y,J,n1,n2,n3⟩:=hrel;clear u0 u1 u2 u3 E BF hC HW;have u0:XI wr ⟨l.heap.size,0,XJ⟩=XK (Xy f):=(by rw[ab B1];rfl);have v0:XI wr ⟨l.heap.size+2,0,XJ⟩=XK (Xy T):=(by rw[ab J];rfl);have v1:XI wr ⟨l.heap.size+2,1,XJ⟩=XK (Xx XF S):=(by rw[ab J];rfl);have v2:XI wr ⟨l.heap.size+2,2,XJ⟩=XK (Xx XF (n+j)):=(by rw[ab J];rfl);obtain⟨m,rfl⟩:∃m,P=m+1:=⟨P-1,by omega⟩
    by_cases t:j<f.size
    · have U:(ar f j).toNat=f[j].toNat:=by rw[aY f j t];rfl
      have Z:=OT f ⟨T,S,n⟩ m j p t;have L2:=My f ⟨T,S,n⟩ m j p t;have B:=o.letter f[j].toNat { (⟨T,S,n⟩:Pl) with col:=n+j };have R:f[j].toNat<256:=UInt8.toNat_lt _;have TL:=fun(c:XP) (h':dj c y p d)=>tY y p d f[j].toNat T S (n+j) c h' ⟨by have:=o.names;omega,by have:=o.Uz;omega,by have:=o.steps;omega,by have:=o.Ut;omega,o.behind⟩ R;rw[U]at Z L2;simp only at Z L2 B;have q:XN _:=Z;have s:XN _:=L2;have A:XN _:=TL;clear Z L2 TL U;generalize bU p f[j].toNat ⟨T,S,n + ↑j⟩=Q at *;obtain⟨r,c2⟩:=Q;simp only at q s A B;have u:XN (∀(a:XP) (g:Nat->Hd) (_:aj y wr.drew d a g),a.heap[l.heap.size]?=XK (XE #[Xy f,Xy T,Xx XF S,Xx XF n] 235)/\a.heap[l.heap.size+1]?=XK (XE bb 196)/\a.heap[l.heap.size+2]?=XK (XE #[Xy T,Xx XF S,Xx XF (n+j)] 67)):=by
        intro a g b;exact⟨b.1.get (by exact B1) (by rintro (e | e);omega;exact n1 e),b.1.get (by exact Y) (by rintro (e | e);omega;exact n2 e),b.1.get (by exact J) (by rintro (e | e);omega;exact n3 e)⟩
      have M:XN (∀(a:XP) (g:Nat->Hd) (_:aj y wr.drew d a g),XI a ⟨l.heap.size,0,XJ⟩=XK (Xy f)/\XI a ⟨l.heap.size+2,0,XJ⟩=XK (Xy T)/\XI a ⟨l.heap.size+2,1,XJ⟩=XK (Xx XF S)/\XI a ⟨l.heap.size+2,2,XJ⟩=XK (Xx XF (n+j))):=by
        intro a g b;obtain⟨q1,X,D⟩:=u.out a g b;refine⟨by rw[ab q1];rfl,by rw[ab D];rfl,by rw[ab D];rfl,by rw[ab D];rfl⟩
      have ag:=ae B1;have V:=ae Y;have ah:=ae J;cases hr:(r==0)
      · have ad:(r != 0)=XL:=by simp[bne,hr]
        have w:XN _:=G.out.trans (s.out hr);clear G q s;(go_upto_region 5 with fail);go_region_held3 (fun c=>XI c ⟨l.heap.size,0,XJ⟩=XK (Xy f)/\XI c ⟨l.heap.size+2,0,XJ⟩=XK (Xy T)/\XI c ⟨l.heap.size+2,1,XJ⟩=XK (Xx XF S)/\XI c ⟨l.heap.size+2,2,XJ⟩=XK (Xx XF (n+j))) (go_keep) (first | (go_at_call 179;refine(A.out _ (by exact C.Ur (aa.refl [] _).drew)).mono ?_;rintro e a ⟨rfl,g,D9,b⟩;obtain⟨x0,x1,x2,x3⟩:=M.out a g b))
        all_goals
          obtain⟨q1,X,D⟩:=u.out a g b;obtain⟨j0,j1,j2,j3⟩:=cC X;have am:=aw X;have m2:=b.fresh (l.heap.size+1) (by exact V) n2;have L:XN _:=(fun a0 a1 a2 a3=>rD D9 (hT.trans (aj.first (aa.refl [] _).drew b)) (F:=l.heap.size+1) (by omega) (by omega) m2 a0 a1 a2 a3);go_wp2;exact Qg (v:=XB #[Xx XF r,Xy T,Xx XF S,Xx XF (n+j)]) (by simp[results,results162,go_sem,j0,j1,j2,j3]) rfl
            ⟨by rw[w.out];rfl,g,by rw[w.out];exact(L.out _ _ _ _).1,(L.out _ _ _ _).2⟩
      · have ad:(r != 0)=XM:=by simp[bne,hr]
        have w:XN _:=G.out.trans (q.out hr);clear G q s;(go_upto_region 5 with fail);go_region_held3 (fun c=>XI c ⟨l.heap.size,0,XJ⟩=XK (Xy f)/\XI c ⟨l.heap.size+2,0,XJ⟩=XK (Xy T)/\XI c ⟨l.heap.size+2,1,XJ⟩=XK (Xx XF S)/\XI c ⟨l.heap.size+2,2,XJ⟩=XK (Xx XF (n+j))) (go_keep) (first | (go_at_call 179;refine(A.out _ (by exact C.Ur (aa.refl [] _).drew)).mono ?_;rintro e a ⟨rfl,g,D9,b⟩;obtain⟨x0,x1,x2,x3⟩:=M.out a g b))
        all_goals
          obtain⟨q1,X,D⟩:=u.out a g b;have am:=aw D;have m1:=b.fresh l.heap.size (by exact ag) n1;have m2:=b.fresh (l.heap.size+1) (by exact V) n2;have m3:=b.fresh (l.heap.size+2) (by exact ah) n3;have O:=hT.trans (aj.first (aa.refl [] _).drew b);go_wp2;go_roundg (f.size-(j+1))
          case measure=>omega
          case rel =>
            have kk:aa [l.heap.size+2] a (a.setCell ⟨l.heap.size+2,2,XJ⟩ (Xx XF (n + ↑j+1))):=(aa.refl _ _).setCell (P0 (by simp)) _;refine⟨j+1,c2,g,m,by omega,rfl,by go_num,by rw[<-Sj];exact B,by omega,w.out,aB.kept D9 kk (by simp;omega) (by intro x hx;simp;rintro rfl;exact m3 hx),⟨O.1.setCell (P7 (by simp)) _,O.2⟩,kk.get q1 (by simp),kk.get X (by simp),?_,m1,m2,m3⟩;rw[af D,show n+(↑(j+1):Int)=n + ↑j+1 by omega];rfl
    · have w:XN _:=G.out.trans (NX f ⟨T,S,n⟩ m j p t)
      obtain⟨j0,j1,j2,j3⟩:=cC Y;have am:=aw Y;have L:XN _:=(fun a0 a1 a2 a3=>rD C hT (F:=l.heap.size+1) (by omega) (by omega) n2 a0 a1 a2 a3);clear G;go_wp2;exact Qg (v:=XB #[Xx XF 0,Xy ⟨#[]⟩,Xx XF 0,Xx XF 0]) (by simp[results,results162,go_sem,j0,j1,j2,j3]) rfl
        ⟨by rw[w.out];rfl,d,by rw[w.out];exact(L.out _ _ _ _).1,(L.out _ _ _ _).2⟩
def gy(l:List Nat)(x:Nat):Bool:=l.any (fun y=>y==x)
theorem zb(h:M<i.length)(b:gy i x=gy (i.drop M) x)(a:(i[M]==x)=XL):gy i x=XL:=by
 rw[b,Qr h];simp only[gy,List.any_cons,a,Bool.true_or]
theorem uX(h:M<i.length)(b:gy i x=gy (i.drop M) x)(a:(i[M]==x)=XM):gy i x=gy (i.drop (M+1)) x:=by
 rw[b,Qr h];simp only[gy,List.any_cons,a,Bool.false_or]
theorem uY(h:¬M<i.length)(a:gy i x=gy (i.drop M) x):gy i x=XM:=by
 rw[a,Q4 (by omega)];rfl
theorem kF:((x:Int)==(M:Int))=(x==M):=by
 cases h:(x==M)
 ·exact Qi.2 (by have:=Qi.1 h;omega)
 ·have:=Rr h;subst this;simp
set_option maxRecDepth 512
theorem zP(m:Hd)(l:List Nat)(x:Nat)(w:XP)(c:aE w m (bQ l))(u:l.length<=1073741824) :
  XO prog 178 #[Xz m.ao l.length m.cap,Xx XF x] w fun e v=>e=XH (XC (gy l x))/\v=w:=by
 obtain⟨y,r⟩:=m;rcases c.UC with ⟨t,q,_⟩ | ⟨g,s,p,_⟩
 ·have j:l.length=0:=q;have o:l=[]:=Ql j;subst o;clear c q j u t;go_enter func178,ntmps178;go_wp2;refine Rg 1 ?_;rw[RM];go_wp2;go_ret;exact⟨rfl,rfl⟩
 ·simp only at p;subst p;go_enter func178,ntmps178;go_wp2
  go_loopg [5] l.length (fun g i wr=>∃k:Nat,k<=l.length/\g=l.length-k/\i=Xx XF k/\XN (gy l x=gy (l.drop k) x)/\wr=w)
  case atStart=>exact⟨0,by omega,by omega,rfl,rfl,rfl⟩
  case round =>
   obtain⟨k,B,A,rfl,d,rfl⟩:=hrel;by_cases a:k<l.length
   ·have z:=c.cell rfl k (Xx XF l[k]) (gF l k a);cases b:(l[k]==x)
    ·have f:XN (gy l x=gy (l.drop (k+1)) x):=uX l x k a d.out b;have n:=(kF l[k] x).trans b;clear d c b;go_wp2;go_roundg (l.length-(k+1))
     case measure=>omega
     case rel=>exact⟨k+1,by omega,rfl,by go_num,f,rfl⟩
    ·have f:XN (gy l x=XL):=zb l x k a d.out b;have n:=(kF l[k] x).trans b;clear d c b;go_wp2;go_ret;exact⟨aH f.out.symm,rfl⟩
   ·have f:XN (gy l x=XM):=uY l x k a d.out;clear d c;go_wp2;go_ret;exact⟨aH f.out.symm,rfl⟩
def ci(l:List St)(a:Nat)(fin:Pl):Nat->List (ByteArray×Pl)->List Nat->(Nat×on)×List Nat
 | _,[],ns=>((0,(3,fin)),ns)
 | i,(t,p) :: r,ns =>
  if(t.toList == [41])=XL then((i+1,cy),ns)
  else match ez l t a with
   | none=>((0,(2,p)),ns)
   | some n=>if gy ns n=XL then((0,(3,p)),ns) else ci l a fin (i+1) r (ns++[n])
theorem aE.word{h:Hd}{l:List (ByteArray×Pl)}(o:aE L h (eU l))(k:Nat)(m:k<l.length) :
  ∃g,h.ao=XK ⟨g,0,XJ⟩/\l.length<=h.cap/\h.cap<=9223372036854775807/\XI L ⟨g,k*4,XJ⟩=XK (Xy l[k].1)/\XI L ⟨g,k*4+1,XJ⟩=XK (Xy l[k].2.file)/\XI L ⟨g,k*4+2,XJ⟩=XK (Xx XF l[k].2.line)/\XI L ⟨g,k*4+3,XJ⟩=XK (Xx XF l[k].2.col):=by
 rcases o.UC with ⟨_,f,_⟩ | ⟨g,d,a,p,e,b,-⟩
 ·have:l.length=0:=f;omega
 ·have c:=fun j (i:j<4) v (n:(ni l[k])[j]?=XK v)=>o.cell a (k*4+j) v ((GN l k m j i).trans n);exact⟨g,a,e,by unfold maxLen at b;exact b,c 0 (by omega) _ rfl,c 1 (by omega) _ rfl,c 2 (by omega) _ rfl,c 3 (by omega) _ rfl⟩
theorem EB(b:w<D.length) :
  ci g o a w (D.drop w) i=if(D[w].1.toList == [41])=XL then((w+1,cy),i)
   else match ez g D[w].1 o with
    | none=>((0,(2,D[w].2)),i)
    | some n=>if gy i n=XL then((0,(3,D[w].2)),i) else ci g o a (w+1) (D.drop (w+1)) (i++[n]):=by
 rw[Qr b];rfl
theorem Bd(b:¬w<D.length):ci g o a w (D.drop w) i=((0,(3,a)),i):=by
 rw[Q4 (by omega)];rfl
set_option maxRecDepth 100000
theorem uB(q:XP)(h:dj q y H k)(aq:cK l N o b d)(ap:aa [] l q)(ha:w<b.length)(ok:dB b)(bo:H.names.length<=10000)(hb:l.heap.size<=y)(hc:∀x,cD k x->l.heap.size<=x) :
  XO prog 161 #[XA (XK ⟨y,0,XJ⟩),XA (XK ⟨N,o,XJ⟩),Xx XF w] q fun e w' =>
   e=XH (XD #[Xx XF (ci b w b[w].fin 1 (b[w].Ux.drop 1) H.names).1.1,fD (ci b w b[w].fin 1 (b[w].Ux.drop 1) H.names).1.2])/\∃am,dj w' y { H with names:=(ci b w b[w].fin 1 (b[w].Ux.drop 1) H.names).2 } am/\aj y q k w' am:=by
 obtain⟨i0,a6,a8,a9,bc⟩:=Qq mX;have bm:=aB.lt h;have hr:=aq.Ur ap;have bk:=ok.len;have bw:=ok.prfs w ha;have ag:XN (∀bd,q.heap.size<=bd->¬cD k bd):=fun bd hk hm=>by have:=aB.inlt h hm;omega
 obtain⟨M,ad⟩:∃M,XN ((d (11+2*w)).ao=M):=⟨_,rfl⟩
 obtain⟨W,hW⟩:∃W,W=q.alloc (XE #[Xx XF 0,Xy ⟨#[]⟩,Xx XF 0,Xx XF 0] 196):=⟨_,rfl⟩
 have K:aa [] q W:=by rw[hW];exact(aa.refl [] _).alloc _
 have BF:W.heap[q.heap.size]?=XK (XE bb 196):=by rw[hW];exact PM _ _
 have HW:XN _:=hW.symm;clear hW;go_enter func161,ntmps161;go_upto_region 1 with fail
 rw[HW.out];go_wp2_with fail;refine(aQ N o w b d _ (hr.Ur K) ha).mono ?_;rintro e A ⟨rfl,I⟩;unfold bW;rw[ad.out];obtain⟨W2,C⟩:∃W2,W2=A.alloc (XE #[Xx XF b[w].kind,Xy b[w].label,Xz (d (10+2*w)).ao b[w].Um.length (d (10+2*w)).cap,Xz M b[w].Ux.length (d (11+2*w)).cap,Xy b[w].fin.file,Xx XF b[w].fin.line,Xx XF b[w].fin.col,Xx XF b[w].til] 110):=⟨_,rfl⟩
 have ah:XN _:=C.symm;have K2:aa [] q W2:=by rw[C];exact(K.trans I).alloc _
 have BT:W2.heap[A.heap.size]?=XK (XE #[Xx XF b[w].kind,Xy b[w].label,Xz (d (10+2*w)).ao b[w].Um.length (d (10+2*w)).cap,Xz M b[w].Ux.length (d (11+2*w)).cap,Xy b[w].fin.file,Xx XF b[w].fin.line,Xx XF b[w].fin.col,Xx XF b[w].til] 110):=by rw[C];exact PM _ _
 have ac:W2.heap[q.heap.size]?=XK (XE bb 196):=by rw[C];exact((aa.refl [] _).alloc _).get (I.get BF (by simp)) (by simp)
 have bx:q.heap.size<A.heap.size:=by have:=ae (I.get BF (by simp));omega
 clear C;go_upto_region 2 with fail
 rw[ah.out];clear HW ah I BF K;obtain⟨TB,T⟩:∃TB:Array XQ,TB=#[Xx XF b[w].kind,Xy b[w].label,Xz (d (10+2*w)).ao b[w].Um.length (d (10+2*w)).cap,Xz M b[w].Ux.length (d (11+2*w)).cap,Xy b[w].fin.file,Xx XF b[w].fin.line,Xx XF b[w].fin.col,Xx XF b[w].til]:=⟨_,rfl⟩
 rw[<-T]at BT;have B:XN _:=T;clear T;go_wp2
 go_loopg [9] (b[w].Ux.length-1) (fun gk iv wr=>∃(i:Nat) (a:List Nat) (p:Nat->Hd),1<=i/\i<=10001/\gk=b[w].Ux.length-i/\iv=Xx XF i/\a.length<=10000+i/\XN (ci b w b[w].fin 1 (b[w].Ux.drop 1) H.names=ci b w b[w].fin i (b[w].Ux.drop i) a)/\dj wr y { H with names:=a } p/\aj y q k wr p /\
  wr.heap[q.heap.size]?=XK (XE bb 196)/\wr.heap[A.heap.size]?=XK (XE TB 110)/\¬cD p q.heap.size/\¬cD p A.heap.size)
 case atStart=>exact⟨1,H.names,k,by omega,by omega,rfl,rfl,by omega,rfl,h.Ur K2,(aj.refl _ _ _).Ur K2,ac,BT,ag.out _ (by omega),ag.out _ (by omega)⟩
 case round =>
  obtain⟨i,a,p,bq,bs,hg,rfl,bv,hR,hC,hT,B1,O,n1,n2⟩:=hrel;clear BT ac K2;have hP:∀x,(x=y∨cD k x)->l.heap.size<=x:=by
   rintro x (e | e)
   ·omega
   ·exact hc x e
  have V:cK wr N o b d:=aq.Ur (ap.ofP hT.1 hP);have S:=V.UD.prfs w b[w] (PJ ha);have bf:=ae B1;have bg:=ae O;obtain⟨z0,z1,z2,z3⟩:=cC B1;have yz:=aw B1;by_cases U:i<b[w].Ux.length
  ·obtain⟨gp,ep,be,a4,d0,d1,d2,d3⟩:=S.word i U;obtain rfl:M=XK ⟨gp,0,XJ⟩:=ad.out.symm.trans ep;have az:XN _:=ep;have t3:XI wr ⟨A.heap.size,3,XJ⟩=XK (Xz (XK ⟨gp,0,XJ⟩) b[w].Ux.length (d (11+2*w)).cap):=(by rw[ab O,B.out];rfl);clear ep;have BL:=EB b w b[w].fin i b[w].Ux a U;have g:XN _:=hR.out.trans BL;clear BL hR S;generalize hwd:b[w].Ux[i]=wd at *;obtain⟨t,Z,pl,Y⟩:=wd;simp only at d0 d1 d2 d3 g;obtain⟨z,G⟩:∃z,z=wr.alloc (XE #[Xy t,Xy Z,Xx XF pl,Xx XF Y] 235):=⟨_,rfl⟩
   have P:aa [] wr z:=(by rw[G];exact(aa.refl [] _).alloc _);have B5:z.heap[wr.heap.size]?=XK (XE #[Xy t,Xy Z,Xx XF pl,Xx XF Y] 235):=(by rw[G];exact PM _ _);have ai:XN _:=G.symm;have bp:gp<wr.heap.size:=(V.UD.prfs w b[w] (PJ ha)).lt (by unfold Hd.blk;rw[az.out];rfl);clear G;(go_upto_region 6 with fail);rw[ai.out];clear ai d0 d1 d2 d3 t3 z0 z1 z2 z3 yz;have v0:XI z ⟨wr.heap.size,0,XJ⟩=XK (Xy t):=by rw[ab B5];rfl
   have v1:XI z ⟨wr.heap.size,1,XJ⟩=XK (Xy Z):=(by rw[ab B5];rfl);have v2:XI z ⟨wr.heap.size,2,XJ⟩=XK (Xx XF pl):=(by rw[ab B5];rfl);have v3:XI z ⟨wr.heap.size,3,XJ⟩=XK (Xx XF Y):=(by rw[ab B5];rfl);have C5:=hC.Ur P;have T5:=hT.Ur P;have R5:=V.Ur P;have F5:=P.get B1 (by simp);have S5:=P.get O (by simp);obtain⟨z0,z1,z2,z3⟩:=cC F5;have yz:=aw F5;have E:XN _:=fun a0 a1 a2 a3=>rD C5 T5 (F:=q.heap.size) (PQ _) (by omega) n1 a0 a1 a2 a3;cases ht:(t.toList == [41])
   ·rcases hf:ez b t w with _ | n
    ·have s:XN (ci b w b[w].fin 1 (b[w].Ux.drop 1) H.names=((0,(2,⟨Z,pl,Y⟩)),a)):=(by show _=_;rw[g.out,ht,hf];simp);clear g;(go_upto_region 10 with (go_at_call 163;refine(fp N o w t b d _ (by exact R5) (by omega)).mono ?_;rintro e w6 ⟨rfl,D⟩;rw[D,hf];simp only[eT]));go_region
     all_goals go_wp2
     all_goals exact Qg (v:=XD #[Xx XF 0,XB #[Xx XF 2,Xy Z,Xx XF pl,Xx XF Y]]) (by simp[results,results161,go_sem,z0,z1,z2,z3]) rfl ⟨by rw[s.out];rfl,p,by rw[s.out];exact(dj.Ur (E.out _ _ _ _).1 (aa.refl [] _).drew),aj.Ur (E.out _ _ _ _).2 (aa.refl [] _).drew⟩
    ·obtain⟨k0,k1,k2,k3,k4⟩:=C5.cells;simp only at k0;clear k1 k2 k3 k4;have R:aE z (p 0) (bQ a):=aB.own C5 0;cases hh:gy a n
     ·have s:XN (ci b w b[w].fin 1 (b[w].Ux.drop 1) H.names=ci b w b[w].fin (i+1) (b[w].Ux.drop (i+1)) (a++[n])):=(by show _=_;rw[g.out,ht,hf];simp[hh]);have Q:=C5.Ur ((aa.refl [] z).alloc (XE #[Xx XF n] 3));have a5:=aB.free C5;have bl:=aB.lt C5;have a7:XN (∀j,j≠0->tH { H with names:=a++[n] } j=tH { H with names:=a } j):=by
       intro j L
       match j,L with
       | 0,L=>exact absurd rfl L
       | 1,_=>rfl
       | 2,_=>rfl
       | m+3,_=>rfl
      clear g E z0 z1 z2 z3 yz;(go_upto_region 13 with (first | (go_at_call 163;refine(fp N o w t b d _ (by exact R5) (by omega)).mono ?_;rintro e w6 ⟨rfl,D⟩;rw[D,hf];simp only[eT]) | (go_at_call 178;refine(zP (p 0) a n _ (by exact R) (by omega)).mono ?_;rintro e w7 ⟨rfl,X⟩;rw[X])));go_wp2_with (at_builtin;refine aD _ rfl (.tmp 56) (.tmp 58) 46 rfl i0 (Xx XF 0) 8 (p 0) (bQ a) underlying46 a6 a8 a9 bc rfl Qf rfl (by exact aB.own Q 0) ⟨_,0,XJ⟩ 1 1 [Xx XF n] rfl rfl ?e1 ?e2 Qf ?e3 ?e4 ?_)
      case e1=>intro j u L;match j,L with | 0,L=>simp at L;subst L;simp[Addr.add]
      case e2=>intro u hu;simp at hu;subst hu;rfl
      case e3=>simp only[bQ];unfold maxLen;omega
      case e4=>simp only[bQ];omega
      intro g8 f w8 av J r;obtain⟨k5,f5,HP⟩:=aB.app Q (cs':=iz { H with names:=a++[n] } (cX p 0 ⟨XK ⟨g8,0,XJ⟩,f⟩)) (rows':=tH { H with names:=a++[n] }) 0 0 g8 f ((bQ a).n+1) _ av (jc a n) J (by simpa using r) a7.out (Xz (p 0).ao a.length (p 0).cap) rfl (by simp[iz,cX,bQ]);have T8:XN _:=(T5.Ur ((aa.refl [] z).alloc (XE #[Xx XF n] 3))).trans HP.out.2;have F8:XN ((w8.setCell ⟨y,0,XJ⟩ (Xz (XK ⟨g8,0,XJ⟩) ((bQ a).n+1) f)).heap[q.heap.size]?=XK (XE bb 196)):=HP.out.2.1.get (((aa.refl [] z).alloc _).get F5 (by simp)) (by rintro (e | e);omega;exact n1 e);have S8:XN ((w8.setCell ⟨y,0,XJ⟩ (Xz (XK ⟨g8,0,XJ⟩) ((bQ a).n+1) f)).heap[A.heap.size]?=XK (XE TB 110)):=HP.out.2.1.get (((aa.refl [] z).alloc _).get S5 (by simp)) (by rintro (e | e);omega;exact n2 e);have m1:XN (¬cD (cX p 0 ⟨XK ⟨g8,0,XJ⟩,f⟩) q.heap.size):=aj.fresh HP.out.2 _ (by have:=P.size;simp;omega) n1;have m2:XN (¬cD (cX p 0 ⟨XK ⟨g8,0,XJ⟩,f⟩) A.heap.size):=aj.fresh HP.out.2 _ (by have:=P.size;simp;omega) n2;clear av J r k0 a5 R Q v0 v1 v2 v3;go_wp2;go_roundg (b[w].Ux.length-(i+1))
      case measure=>omega
      case rel=>exact⟨i+1,a++[n],_,by omega,by omega,rfl,by go_num,by simp;omega,s.out,HP.out.1,T8.out,F8.out,S8.out,m1.out,m2.out⟩
     ·have s:XN (ci b w b[w].fin 1 (b[w].Ux.drop 1) H.names=((0,(3,⟨Z,pl,Y⟩)),a)):=(by show _=_;rw[g.out,ht,hf];simp[hh]);clear g;(go_upto_region 12 with (first | (go_at_call 163;refine(fp N o w t b d _ (by exact R5) (by omega)).mono ?_;rintro e w6 ⟨rfl,D⟩;rw[D,hf];simp only[eT]) | (go_at_call 178;refine(zP (p 0) a n _ (by exact R) (by omega)).mono ?_;rintro e w7 ⟨rfl,X⟩;rw[X])));go_region
      all_goals go_wp2
      all_goals exact Qg (v:=XD #[Xx XF 0,XB #[Xx XF 3,Xy Z,Xx XF pl,Xx XF Y]]) (by simp[results,results161,go_sem,z0,z1,z2,z3]) rfl ⟨by rw[s.out];rfl,p,by rw[s.out];exact(dj.Ur (E.out _ _ _ _).1 (aa.refl [] _).drew),aj.Ur (E.out _ _ _ _).2 (aa.refl [] _).drew⟩
   ·have s:XN (ci b w b[w].fin 1 (b[w].Ux.drop 1) H.names=((i+1,cy),a)):=(by show _=_;rw[g.out,ht];simp);clear g;go_wp2;exact Qg (v:=XD #[Xx XF (i+1),XB #[Xx XF 0,Xy ⟨#[]⟩,Xx XF 0,Xx XF 0]]) (by simp[results,results161,go_sem,z0,z1,z2,z3]) rfl
     ⟨by rw[s.out];rfl,p,by rw[s.out];exact(E.out _ _ _ _).1,(E.out _ _ _ _).2⟩
  ·have s:XN (ci b w b[w].fin 1 (b[w].Ux.drop 1) H.names=((0,(3,b[w].fin)),a)):=hR.out.trans (Bd b w b[w].fin i b[w].Ux a U);have t3:XI wr ⟨A.heap.size,3,XJ⟩=XK (Xz M b[w].Ux.length (d (11+2*w)).cap):=(by rw[ab O,B.out];rfl);have t4:XI wr ⟨A.heap.size,4,XJ⟩=XK (Xy b[w].fin.file):=(by rw[ab O,B.out];rfl);have t5:XI wr ⟨A.heap.size,5,XJ⟩=XK (Xx XF b[w].fin.line):=(by rw[ab O,B.out];rfl);have t6:XI wr ⟨A.heap.size,6,XJ⟩=XK (Xx XF b[w].fin.col):=(by rw[ab O,B.out];rfl);have E:XN _:=(fun a0 a1 a2 a3=>rD hC hT (F:=q.heap.size) (PQ _) (by omega) n1 a0 a1 a2 a3);clear hR S;(go_upto_region 14 with fail);go_region
   all_goals go_wp2
   all_goals exact Qg (v:=XD #[Xx XF 0,XB #[Xx XF 3,Xy b[w].fin.file,Xx XF b[w].fin.line,Xx XF b[w].fin.col]]) (by simp[results,results161,go_sem,z0,z1,z2,z3]) rfl ⟨by rw[s.out];rfl,p,by rw[s.out];exact(dj.Ur (E.out _ _ _ _).1 (aa.refl [] _).drew),aj.Ur (E.out _ _ _ _).2 (aa.refl [] _).drew⟩
def cO(l:List St)(a:Nat)(fin:Pl):List (ByteArray×Pl)->List gY->List gY×on
 | [],acc=>if acc.length=0 then([],(1,fin)) else(acc,cy)
 | (t,p) :: r,acc =>
  if(t.toList == [63])=XL then cO l a fin r (acc++[⟨1,0,p⟩])
  else match ez l t a with
   | none=>([],(2,p))
   | some n=>cO l a fin r (acc++[⟨2,n,p⟩])
theorem I1(b:w<D.length) :
  cO g o a (D.drop w) z5=if(D[w].1.toList == [63])=XL then cO g o a (D.drop (w+1)) (z5++[⟨1,0,D[w].2⟩])
   else match ez g D[w].1 o with
    | none=>([],(2,D[w].2))
    | some n=>cO g o a (D.drop (w+1)) (z5++[⟨2,n,D[w].2⟩]):=by
 rw[Qr b];rfl
theorem Fz(b:¬w<D.length):cO g o a (D.drop w) z5=if z5.length=0 then([],(1,a)) else(z5,cy):=by
 rw[Q4 (by omega)];rfl
theorem ic{F:Nat}(K:aa [] L z4)(a:L.heap.size<=F)(b c d e:XQ):aa [] L ((((z4.setCell ⟨F,0,XJ⟩ b).setCell ⟨F,1,XJ⟩ c).setCell ⟨F,2,XJ⟩ d).setCell ⟨F,3,XJ⟩ e) :=
 (((K.setCell (P7 a) _).setCell (P7 a) _).setCell (P7 a) _).setCell (P7 a) _
theorem Oy(K:aa [] L z4)(a:L.heap.size<=I)(b c d e f:XQ):aa [] L (((((z4.setCell ⟨I,0,XJ⟩ b).setCell ⟨I,1,XJ⟩ c).setCell ⟨I,2,XJ⟩ d).setCell ⟨I,3,XJ⟩ e).setCell ⟨I,4,XJ⟩ f) :=
 ((((K.setCell (P7 a) _).setCell (P7 a) _).setCell (P7 a) _).setCell (P7 a) _).setCell (P7 a) _
theorem ma(hr:cK l N o b d)(ha:w<b.length)(ok:dB b) :
  XO prog 145 #[XA (XK ⟨N,o,XJ⟩),Xx XF w] l fun e w'=>∃q:Hd,
   e=XH (XD #[Xz q.ao (cO b w b[w].fin b[w].Ux []).1.length q.cap,fD (cO b w b[w].fin b[w].Ux []).2])/\aE w' q (eO (cO b w b[w].fin b[w].Ux []).1)/\(∀x,q.blk=XK x->l.heap.size<=x)/\aa [] l w':=by
 obtain⟨i0,am,aq,P,av⟩:=Qq MS;have bd:=hr.lt;have a9:=ok.len;have bf:=ok.prfs w ha;obtain⟨AO,ad⟩:∃AO,XN ((d (11+2*w)).ao=AO):=⟨_,rfl⟩
 obtain⟨W,hW⟩:∃W,W=l.alloc (XE #[Xx XF 0,Xy ⟨#[]⟩,Xx XF 0,Xx XF 0] 196):=⟨_,rfl⟩
 have K:aa [] l W:=by rw[hW];exact(aa.refl [] _).alloc _
 have BF:W.heap[l.heap.size]?=XK (XE bb 196):=by rw[hW];exact PM _ _
 have HW:XN _:=hW.symm;clear hW;go_enter func145,ntmps145;go_upto_region 1 with fail
 rw[HW.out];go_wp2_with fail;refine(aQ N o w b d _ (hr.Ur K) ha).mono ?_;rintro e S ⟨rfl,O⟩;unfold bW;rw[ad.out];obtain⟨A,G⟩:∃A,A=S.alloc (XE #[Xx XF b[w].kind,Xy b[w].label,Xz (d (10+2*w)).ao b[w].Um.length (d (10+2*w)).cap,Xz AO b[w].Ux.length (d (11+2*w)).cap,Xy b[w].fin.file,Xx XF b[w].fin.line,Xx XF b[w].fin.col,Xx XF b[w].til] 110):=⟨_,rfl⟩
 have ag:XN _:=G.symm;have K2:aa [] l A:=by rw[G];exact(K.trans O).alloc _
 obtain⟨TB,Y⟩:∃TB:Array XQ,TB=#[Xx XF b[w].kind,Xy b[w].label,Xz (d (10+2*w)).ao b[w].Um.length (d (10+2*w)).cap,Xz AO b[w].Ux.length (d (11+2*w)).cap,Xy b[w].fin.file,Xx XF b[w].fin.line,Xx XF b[w].fin.col,Xx XF b[w].til]:=⟨_,rfl⟩
 have BT:A.heap[S.heap.size]?=XK (XE TB 110):=by rw[G,Y];exact PM _ _
 have a0:A.heap[l.heap.size]?=XK (XE bb 196):=by rw[G];exact((aa.refl [] _).alloc _).get (O.get BF (by simp)) (by simp)
 have bg:l.heap.size<S.heap.size:=by have:=ae (O.get BF (by simp));omega
 have bl:=ae BT;have D:XN _:=Y;clear G Y;go_upto_region 2 with fail
 rw[ag.out];clear HW ag O BF K;go_wp2
 go_loopg [7,8] b[w].Ux.length (fun gk sv iv wr=>∃(i:Nat) (a:List gY) (q:Hd),i<=b[w].Ux.length/\gk=b[w].Ux.length-i/\iv=Xx XF i/\sv=Xz q.ao a.length q.cap/\a.length<=i/\XN (cO b w b[w].fin b[w].Ux []=cO b w b[w].fin (b[w].Ux.drop i) a)/\aE wr q (eO a)/\(∀x,q.blk=XK x->A.heap.size<=x) /\
  aa [] A wr)
 case atStart=>exact⟨0,[],⟨XJ,0⟩,by omega,by omega,rfl,rfl,by simp,rfl,Qj _ _ _ _,by intro x m;simp[Hd.blk]at m,aa.refl _ _⟩
 case round =>
  obtain⟨i,a,q,hi,hg,rfl,rfl,bc,hR,hO,hN,hK⟩:=hrel;have KW:=K2.trans hK;have ap:=hr.Ur KW;have B1:=hK.get a0 (by simp);have B2:=hK.get BT (by simp);have a7:=ae B1;have a8:=ae B2;obtain⟨z0,z1,z2,z3⟩:=cC B1;have yz:=aw B1;have M:=ap.UD.prfs w b[w] (PJ ha);have a4:=K2.size;by_cases Z:i<b[w].Ux.length
  ·obtain⟨gp,ep,a6,a2,d0,d1,d2,d3⟩:=M.word i Z;obtain rfl:AO=XK ⟨gp,0,XJ⟩:=ad.out.symm.trans ep;have t3:XI wr ⟨S.heap.size,3,XJ⟩=XK (Xz (XK ⟨gp,0,XJ⟩) b[w].Ux.length (d (11+2*w)).cap):=(by rw[ab B2,D.out];rfl);have be:gp<wr.heap.size:=M.lt (by unfold Hd.blk;rw[ep];rfl);clear ep;have BL:=I1 b w b[w].fin i b[w].Ux a Z;have z:XN _:=hR.out.trans BL;clear BL hR M;generalize hwd:b[w].Ux[i]=wd at *;obtain⟨t,g,k,f⟩:=wd;simp only at d0 d1 d2 d3 z;obtain⟨p,H⟩:∃p,p=(wr.alloc (XE #[Xy t,Xy g,Xx XF k,Xx XF f] 235)).alloc (XE #[Xx XF 1,Xx XF 0,Xy g,Xx XF k,Xx XF f] 205):=⟨_,rfl⟩
   have K5:aa [] wr p:=(by rw[H];exact((aa.refl [] _).alloc _).alloc _);have B5:p.heap[wr.heap.size]?=XK (XE #[Xy t,Xy g,Xx XF k,Xx XF f] 235):=(by rw[H];exact((aa.refl [] _).alloc _).get (PM _ _) (by simp));have Q:p.heap[wr.heap.size+1]?=XK (XE #[Xx XF 1,Xx XF 0,Xy g,Xx XF k,Xx XF f] 205):=by
    rw[H];have:=PM (wr.alloc (XE #[Xy t,Xy g,Xx XF k,Xx XF f] 235)) (XE #[Xx XF 1,Xx XF 0,Xy g,Xx XF k,Xx XF f] 205);simpa using this
   have ah:XN _:=H.symm;clear H;(go_upto_region 8 with fail);rw[ah.out];clear ah d0 d1 d2 d3 t3 z0 z1 z2 z3 yz;have v0:XI p ⟨wr.heap.size,0,XJ⟩=XK (Xy t):=by rw[ab B5];rfl
   have v1:XI p ⟨wr.heap.size,1,XJ⟩=XK (Xy g):=(by rw[ab B5];rfl);have v2:XI p ⟨wr.heap.size,2,XJ⟩=XK (Xx XF k):=(by rw[ab B5];rfl);have v3:XI p ⟨wr.heap.size,3,XJ⟩=XK (Xx XF f):=(by rw[ab B5];rfl);have u0:XI p ⟨wr.heap.size+1,0,XJ⟩=XK (Xx XF 1):=(by rw[ab Q];rfl);have u1:XI p ⟨wr.heap.size+1,1,XJ⟩=XK (Xx XF 0):=(by rw[ab Q];rfl);have u2:XI p ⟨wr.heap.size+1,2,XJ⟩=XK (Xy g):=(by rw[ab Q];rfl);have u3:XI p ⟨wr.heap.size+1,3,XJ⟩=XK (Xx XF k):=(by rw[ab Q];rfl);have u4:XI p ⟨wr.heap.size+1,4,XJ⟩=XK (Xx XF f):=(by rw[ab Q];rfl);have yu:=aw Q;have L:aE p q (eO a):=hO.Uw (fun x m=>K5.block x (hO.lt m) (by simp));have R5:=ap.Ur K5;have F5:=K5.get B1 (by simp);obtain⟨z0,z1,z2,z3⟩:=cC F5;have yz:=aw F5;have T:XN (aa [] A p):=hK.trans K5;have bk:=ae Q;cases ht:(t.toList == [63])
   ·have a5:(t.toList != [63])=XL:=(by simp[bne,ht]);rcases hf:ez b t w with _ | n
    ·have B:XN (cO b w b[w].fin b[w].Ux []=([],(2,⟨g,k,f⟩))):=(by show _=_;rw[z.out,ht,hf];simp);clear z;(go_upto_region 11 with (go_at_call 163;refine(fp N o w t b d _ (by exact R5) (by omega)).mono ?_;rintro e w6 ⟨rfl,ac⟩;rw[ac,hf];simp only[eT]));go_region
     all_goals go_wp2
     all_goals exact Qg (v:=XD #[Xz XJ 0 0,XB #[Xx XF 2,Xy g,Xx XF k,Xx XF f]]) (by simp[results,results145,go_sem,z0,z1,z2,z3]) rfl ⟨⟨XJ,0⟩,by rw[B.out];rfl,by rw[B.out];exact Qj _ _ _ _,by intro x m;simp[Hd.blk]at m,(ic (K2.trans T.out) (PQ _) _ _ _ _).drew⟩
    ·have B:XN (cO b w b[w].fin b[w].Ux []=cO b w b[w].fin (b[w].Ux.drop (i+1)) (a++[⟨2,n,⟨g,k,f⟩⟩])):=(by show _=_;rw[z.out,ht,hf];simp);clear z;obtain⟨y,I⟩:∃y,y=((((p.setCell ⟨wr.heap.size+1,0,XJ⟩ (Xx XF 2)).setCell ⟨wr.heap.size+1,1,XJ⟩ (Xx XF n)).setCell ⟨wr.heap.size+1,2,XJ⟩ (Xy g)).setCell ⟨wr.heap.size+1,3,XJ⟩ (Xx XF k)).setCell ⟨wr.heap.size+1,4,XJ⟩ (Xx XF f):=⟨_,rfl⟩
     have az:aa [wr.heap.size+1] p y:=(by rw[I];exact((((((aa.refl _ _).setCell (P0 (by simp)) _).setCell (P0 (by simp)) _).setCell (P0 (by simp)) _).setCell (P0 (by simp)) _).setCell (P0 (by simp)) _));have S6:y.heap[wr.heap.size+1]?=XK (XE #[Xx XF 2,Xx XF n,Xy g,Xx XF k,Xx XF f] 205):=by
      rw[I,af (af (af (af (af Q _ _) _ _) _ _) _ _)];rfl
     have a1:XN (aa [] A y):=by
      show aa [] A y;rw[I];exact Oy T.out (by have:=hK.size;omega) _ _ _ _ _
     have R:aE y q (eO a):=L.Uw (fun x m=>az.block x (L.lt m) (by simp;rintro rfl;have:=hO.lt m;omega));have ai:XN _:=I.symm;clear I az;(go_upto_region 13 with (go_at_call 163;refine(fp N o w t b d _ (by exact R5) (by omega)).mono ?_;rintro e w6 ⟨rfl,ac⟩;rw[ac,hf];simp only[eT]));rw[ai.out];clear ai u0 u1 u2 u3 u4 yu;have u0:XI y ⟨wr.heap.size+1,0,XJ⟩=XK (Xx XF 2):=by rw[ab S6];rfl
     have u1:XI y ⟨wr.heap.size+1,1,XJ⟩=XK (Xx XF n):=(by rw[ab S6];rfl);have u2:XI y ⟨wr.heap.size+1,2,XJ⟩=XK (Xy g):=(by rw[ab S6];rfl);have u3:XI y ⟨wr.heap.size+1,3,XJ⟩=XK (Xx XF k):=(by rw[ab S6];rfl);have u4:XI y ⟨wr.heap.size+1,4,XJ⟩=XK (Xx XF f):=(by rw[ab S6];rfl);have F:=R.Uw (fun x m=>((aa.refl [] y).alloc (XE #[Xx XF 2,Xx XF n,Xy g,Xx XF k,Xx XF f] 205)).block x (R.lt m) (by simp));have K6:XN (aa [] A (y.alloc (XE #[Xx XF 2,Xx XF n,Xy g,Xx XF k,Xx XF f] 205))):=aa.alloc a1.out _;clear z0 z1 z2 z3 yz v0 v1 v2 v3;go_wp2_with (at_builtin;refine aD _ rfl (.tmp 47) (.tmp 49) 194 rfl i0 (XB #[Xx XF 0,Xx XF 0,Xy ⟨#[]⟩,Xx XF 0,Xx XF 0]) 48 q (eO a) underlying194 am aq P av rfl (RK 4) rfl (by exact F) ⟨_,0,XJ⟩ 1 1 (it ⟨2,n,⟨g,k,f⟩⟩) rfl rfl ?e1 (qz _) Qf ?e3 ?e4 ?_)
     case e1 =>
      intro j u hj;have hk:(y.alloc (XE #[Xx XF 2,Xx XF n,Xy g,Xx XF k,Xx XF f] 205)).heap[y.heap.size]?=XK (XE #[Xx XF 2,Xx XF n,Xy g,Xx XF k,Xx XF f] 205):=PM _ _;rw[ba,ab hk];simpa [it] using hj
     case e3=>simp only[eO];unfold maxLen;omega
     case e4=>simp only[eO];omega
     intro U E w8 J s c;rw[qs a ⟨2,n,⟨g,k,f⟩⟩]at J;have X:=(K6.out).grown s hN;have a3:A.heap.size<=U:=by
      rcases c with e | e
      ·exact hN U e
      ·have:=K6.out.size;simp at e this;omega
     have V:XN ((eO a).n+1=(a++[(⟨2,n,⟨g,k,f⟩⟩:gY)]).length):=(by show _=_;simp[eO]);rw[V.out];clear s c F;go_wp2;go_roundg (b[w].Ux.length-(i+1))
     case measure=>omega
     case rel=>exact⟨i+1,a++[⟨2,n,⟨g,k,f⟩⟩],⟨XK ⟨U,0,XJ⟩,E⟩,by omega,rfl,by go_num,rfl,by simp;omega,B,J,by intro x m;simp[Hd.blk]at m;omega,X⟩
   ·have a5:(t.toList != [63])=XM:=(by simp[bne,ht]);have B:XN (cO b w b[w].fin b[w].Ux []=cO b w b[w].fin (b[w].Ux.drop (i+1)) (a++[⟨1,0,⟨g,k,f⟩⟩])):=(by show _=_;rw[z.out,ht];simp);clear z;have F:=L.Uw (fun x m=>((aa.refl [] p).alloc (XE #[Xx XF 1,Xx XF 0,Xy g,Xx XF k,Xx XF f] 205)).block x (L.lt m) (by simp));have K6:XN (aa [] A (p.alloc (XE #[Xx XF 1,Xx XF 0,Xy g,Xx XF k,Xx XF f] 205))):=aa.alloc T.out _;clear z0 z1 z2 z3 yz;(go_upto_region 13 with fail);clear v0 v1 v2 v3;go_wp2_with (at_builtin;refine aD _ rfl (.tmp 47) (.tmp 49) 194 rfl i0 (XB #[Xx XF 0,Xx XF 0,Xy ⟨#[]⟩,Xx XF 0,Xx XF 0]) 48 q (eO a) underlying194 am aq P av rfl (RK 4) rfl (by exact F) ⟨_,0,XJ⟩ 1 1 (it ⟨1,0,⟨g,k,f⟩⟩) rfl rfl ?e1 (qz _) Qf ?e3 ?e4 ?_)
    case e1 =>
     intro j u hj;have hk:(p.alloc (XE #[Xx XF 1,Xx XF 0,Xy g,Xx XF k,Xx XF f] 205)).heap[p.heap.size]?=XK (XE #[Xx XF 1,Xx XF 0,Xy g,Xx XF k,Xx XF f] 205):=PM _ _;rw[ba,ab hk];simpa [it] using hj
    case e3=>simp only[eO];unfold maxLen;omega
    case e4=>simp only[eO];omega
    intro U E w8 J s c;rw[qs a ⟨1,0,⟨g,k,f⟩⟩]at J;have X:=(K6.out).grown s hN;have a3:A.heap.size<=U:=by
     rcases c with e | e
     ·exact hN U e
     ·have:=K6.out.size;simp at e this;omega
    have V:XN ((eO a).n+1=(a++[(⟨1,0,⟨g,k,f⟩⟩:gY)]).length):=(by show _=_;simp[eO]);rw[V.out];clear s c F;go_wp2;go_roundg (b[w].Ux.length-(i+1))
    case measure=>omega
    case rel=>exact⟨i+1,a++[⟨1,0,⟨g,k,f⟩⟩],⟨XK ⟨U,0,XJ⟩,E⟩,by omega,rfl,by go_num,rfl,by simp;omega,B,J,by intro x m;simp[Hd.blk]at m;omega,X⟩
  ·have B:XN (cO b w b[w].fin b[w].Ux []=if a.length=0 then([],(1,b[w].fin)) else(a,cy)):=hR.out.trans (Fz b w b[w].fin i b[w].Ux a Z);have t3:XI wr ⟨S.heap.size,3,XJ⟩=XK (Xz AO b[w].Ux.length (d (11+2*w)).cap):=(by rw[ab B2,D.out];rfl);have t4:XI wr ⟨S.heap.size,4,XJ⟩=XK (Xy b[w].fin.file):=(by rw[ab B2,D.out];rfl);have t5:XI wr ⟨S.heap.size,5,XJ⟩=XK (Xx XF b[w].fin.line):=(by rw[ab B2,D.out];rfl);have t6:XI wr ⟨S.heap.size,6,XJ⟩=XK (Xx XF b[w].fin.col):=(by rw[ab B2,D.out];rfl);clear hR M;by_cases hz:a.length=0
   ·have P:((a.length:Int)==0)=XL:=(by simp[hz]);have C:XN (cO b w b[w].fin b[w].Ux []=([],(1,b[w].fin))):=(by show _=_;rw[B.out,PZ hz]);clear B hz;(go_upto_region 15 with fail);go_region
    all_goals go_wp2
    all_goals exact Qg (v:=XD #[Xz XJ 0 0,XB #[Xx XF 1,Xy b[w].fin.file,Xx XF b[w].fin.line,Xx XF b[w].fin.col]]) (by simp[results,results145,go_sem,z0,z1,z2,z3]) rfl ⟨⟨XJ,0⟩,by rw[C.out];rfl,by rw[C.out];exact Qj _ _ _ _,by intro x m;simp[Hd.blk]at m,(ic KW (PQ _) _ _ _ _).drew⟩
   ·have P:((a.length:Int)==0)=XM:=Qi.2 (by omega);have C:XN (cO b w b[w].fin b[w].Ux []=(a,cy)):=(by show _=_;rw[B.out,PV hz]);clear B hz;go_wp2;exact Qg (v:=XD #[Xz q.ao a.length q.cap,XB #[Xx XF 0,Xy ⟨#[]⟩,Xx XF 0,Xx XF 0]]) (by simp[results,results145,go_sem,z0,z1,z2,z3]) rfl
     ⟨q,by rw[C.out];rfl,by rw[C.out];exact hO.Uw (fun x m=>(fS (r:=l.heap.size) _ _ _ _).block x (hO.lt m) (by simp;rintro rfl;have:=hN _ m;omega)),fun x m=>Qk a4 (hN x m),ic KW (PQ _) _ _ _ _⟩
end Go.Proofs.YtnbalopedcgpcaaGreat
