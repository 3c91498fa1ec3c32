import Derived.Deep.LoopGhost
import Derived.Deep.CutRange
import Derived.Deep.CutBlock
import Derived.Test.YtnbalopedcgpcaaGreatG01
namespace Go.Proofs.YtnbalopedcgpcaaGreat
open Go.RowKit Tryz
open Value renaming int->Xx,string->Xy,pointer->XA,bool->XC
open Obj renaming cells->XE
open IntKind renaming i64->XF
open Ending renaming returned->XH
open World renaming cell?->XI
open Option renaming none->XJ,some->XK
open Bool renaming true->XL,false->XM
open Go.RowKit renaming Hid->XN
open Go renaming Calls->XO,World->XP,Value->XQ
set_option maxHeartbeats 0
variable{b:XP}{w:Nat}
def iQ:Array XQ:=#[Xy ⟨#[]⟩,Xx XF 0,XC XM,Xy ⟨#[]⟩,Xx XF 0,Xx XF 0]
theorem fg(h:b.heap[w]?=XK (XE iQ 223)) :
  XI b ⟨w,0,XJ⟩=XK (Xy ⟨#[]⟩)/\XI b ⟨w,1,XJ⟩=XK (Xx XF 0)/\XI b ⟨w,2,XJ⟩=XK (XC XM) /\
  XI b ⟨w,3,XJ⟩=XK (Xy ⟨#[]⟩)/\XI b ⟨w,4,XJ⟩=XK (Xx XF 0)/\XI b ⟨w,5,XJ⟩=XK (Xx XF 0):=by
 refine⟨?_,?_,?_,?_,?_,?_⟩ <;> (rw[ab h];rfl)
theorem eY{r k:Nat}{n d:ByteArray}(h:bF b w n d k)(a:w≠r)(c e f g i j:XQ) :
  bF ((((((b.setCell ⟨r,0,XJ⟩ c).setCell ⟨r,1,XJ⟩ e).setCell ⟨r,2,XJ⟩ f).setCell ⟨r,3,XJ⟩ g).setCell ⟨r,4,XJ⟩ i).setCell ⟨r,5,XJ⟩ j) w n d k:=by
 unfold bF;rw[P9 _ _ _ _ a,P9 _ _ _ _ a,P9 _ _ _ _ a,P9 _ _ _ _ a,P9 _ _ _ _ a,P9 _ _ _ _ a];exact h
theorem eX{S:List Nat}{c:XP}(h:aa S b c)(a:b.heap.size<=w)(d e f g i j:XQ) :
  aa S b ((((((c.setCell ⟨w,0,XJ⟩ d).setCell ⟨w,1,XJ⟩ e).setCell ⟨w,2,XJ⟩ f).setCell ⟨w,3,XJ⟩ g).setCell ⟨w,4,XJ⟩ i).setCell ⟨w,5,XJ⟩ j) :=
 (((((h.setCell (P7 a) _).setCell (P7 a) _).setCell (P7 a) _).setCell (P7 a) _).setCell (P7 a) _).setCell (P7 a) _
set_option maxRecDepth 100000
theorem rO(b k:Nat)(n d:ByteArray)(w:XP)(hd:d.size<=1024)(hk:k<=d.size)(h:bF w b n d k) :
  XO prog 152 #[XA (XK ⟨b,0,XJ⟩)] w fun e w'=>e=XH (dZ n d (aU d k).1)/\bF w' b n d (aU d k).2/\aa [b] w w':=by
 have ap:=ae h;go_enter func152,ntmps152;go_upto_block 0 with fail
 go_cut [] from 5 (fun wc=>∃j,k<=j/\j<=d.size/\XN (j=skip d k)/\bF wc b n d j/\wc.heap[w.heap.size]?=XK (XE iQ 223)/\aa [b] w wc)
 case first =>
  go_wp2_with fail
  go_loopg [] (d.size-k) (fun g wr=>∃j,k<=j/\j<=d.size/\g=d.size-j/\XN (skip d j=skip d k)/\bF wr b n d j/\wr.heap[w.heap.size]?=XK (XE iQ 223)/\aa [b] w wr)
  case atStart=>exact⟨k,PQ _,hk,rfl,rfl,bF.kept h ((aa.refl [] w).alloc _) (by simp),PM _ _,(aa.refl _ _).alloc _⟩
  case round =>
   obtain⟨j,G,hj,hg,q,i,p,a⟩:=hrel;obtain⟨O,P,Q,R,S⟩:=i.cells;have s:=ae p;have t:=ae i;have x:w.heap.size∉[b]:=(by simp;omega);by_cases T:j<d.size/\cc (ar d j)=XL
   ·obtain⟨c,r⟩:=T;have f:=r;rw[aY d j c]at f;have ah:XN (skip d (j+1)=skip d k):=(kO d j c r).symm.trans q.out;clear r;go_wp2_with fail;go_quiet ((go_at_call 166;exact QC (gQ _ _)));go_wp2_with fail;refine(Ao b j n d _ hd c (by exact i)).mono ?_;rintro e w1 ⟨rfl,D,o⟩;go_wp2;go_roundg (d.size-(j+1))
    case measure=>omega
    case rel=>exact⟨j+1,by omega,by omega,rfl,ah,D,o.get (by exact p) x,(a.drewN nq).trans o⟩
   ·have ad:XN (j=skip d k):=(q.out.symm.trans (iL d j T)).symm;have F:(j<d.size/\∃h:j<d.size,cc ((d[j]'h).toNat:Int)=XM)∨(¬j<d.size/\decide ((j:Int)<(d.size:Int))=XM):=by
     by_cases c:j<d.size
     ·refine P0 ⟨c,c,?_⟩;rw[<-aY d j c];simpa using fun h=>T ⟨c,h⟩
     ·exact P7 ⟨c,by simp;omega⟩
    clear T q;rcases F with ⟨c,ai,f⟩ | ⟨c,f⟩
    all_goals
     go_wp2_with fail;go_quiet ((go_at_call 166;exact QC (gQ _ _)));go_wp2_with fail;go_meet
     case rel=>exact⟨j,G,hj,ad,by exact i,by exact p,a.drewN _⟩
 case rest =>
  obtain⟨j,G,hj,HJ,i,p,a⟩:=hcut;have s:=ae p;have t:=ae i;have x:w.heap.size∉[b]:=by simp;omega
  go_wp2_with fail;refine(vA b j n d _ (by exact i)).mono ?_;rintro e A ⟨rfl,o⟩;have D:bF A b n d j:=bF.kept (by exact i) o (by simp);have K:=o.get (by exact p) (by simp);have u:=a.trans (o.mono (by simp));have ao:=ae D;have am:=ae K;have az:=u.size;clear i p a o s t;obtain⟨O,P,Q,R,S⟩:=D.cells;go_wp2
  go_loopg [] (d.size-j) (fun g wr=>∃z,j<=z/\z<=d.size/\g=d.size-z/\XN (bn d z=bn d j)/\bF wr b n d z/\wr.heap[w.heap.size]?=XK (XE iQ 223) /\
   wr.heap[A.heap.size]?=XK (XE #[Xy n,Xx XF (aL d j),Xx XF (bA d j)] 67)/\aa [b] w wr)
  case atStart=>exact⟨j,PQ _,hj,rfl,rfl,D.kept ((aa.refl [] A).alloc _) (by simp),((aa.refl [] A).alloc _).get K (by simp),PM _ _,u.alloc _⟩
  case round =>
   clear O P Q R S;obtain⟨z,av,hz,hg,q,i,p,B,a⟩:=hrel;obtain⟨O,P,Q,R,S⟩:=i.cells;have s:=ae p;have t:=ae i;have ac:=ae B;have e0:XI wr ⟨A.heap.size,0,XJ⟩=XK (Xy n):=by rw[ab B];rfl
   have e1:XI wr ⟨A.heap.size,1,XJ⟩=XK (Xx XF (aL d j)):=(by rw[ab B];rfl);have e2:XI wr ⟨A.heap.size,2,XJ⟩=XK (Xx XF (bA d j)):=(by rw[ab B];rfl);rcases GM d z with ⟨m,f,J,M⟩ | ⟨m,f,J⟩ | ⟨m,f⟩ | ⟨m,f⟩
   ·have HS:XN (bn d (z+1)=bn d j):=M.trans q.out;clear q M;go_wp2_with fail;go_quiet ((go_at_call 166;exact QC (gQ _ _)));go_wp2_with fail;go_quiet ((go_at_call 169;exact xk (ll _ _)));go_wp2_with fail;refine(Ao b z n d _ hd m (by exact i)).mono ?_;rintro e w3 ⟨rfl,h3,l⟩;go_wp2;go_roundg (d.size-(z+1))
    case measure=>omega
    case rel=>exact⟨z+1,by omega,by omega,rfl,HS,h3,l.get (by exact p) x,l.get (by exact B) (by simp;omega),((a.drewN _).trans l)⟩
   ·have C:XN (aU d k=(⟨⟨#[]⟩,1,XM,z⟩,z)):=JE d k j z HJ.out q.out m (by rw[aY d z m];exact f) (by rw[aY d z m];exact J);clear q;go_wp2_with fail;go_quiet ((go_at_call 166;exact QC (gQ _ _)));go_wp2_with fail;go_quiet ((go_at_call 169;exact xk (ll _ _)));go_wp2_with fail;refine(vA b z n d _ (by exact i)).mono ?_;rintro e w3 ⟨rfl,l⟩;have h3:bF w3 b n d z:=bF.kept (by exact i) l (by simp);have L:=l.get (by exact p) (by simp);have H:=(a.drewN _).trans (l.mono (by simp));clear O P Q R S i p a l s t B ac e0 e1 e2;obtain⟨U,V,W,X,Y,Z⟩:=fg L;have y:=aw L;go_wp2;exact Qg (v:=dZ n d ⟨⟨#[]⟩,1,XM,z⟩) (by simp[results,results152,go_sem,dZ,U,V,W,X,Y,Z]) rfl
     (by rw[C.out];exact⟨rfl,eY h3 (by omega) _ _ _ _ _ _,eX H (PQ _) _ _ _ _ _ _⟩)
   all_goals
    have N:¬(z<d.size/\cc (ar d z)=XM):=by
     rintro ⟨I,E⟩
     first
      | (rw[aY d z I,f]at E;cases E)
      | exact m I
    obtain⟨U,V,W,X,Y,Z⟩:=fg p;have y:=aw p;by_cases ag:j<z
    ·have C:XN (aU d k=(⟨d.extract j z,0,XM,j⟩,z)):=vH d k j z HJ.out q.out N ag;have aq:decide ((z:Int)<=(j:Int))=XM:=(by simp;omega);clear q N;go_wp2_with fail;go_quiet ((go_at_call 166;exact QC (gQ _ _)));go_wp2_with fail;go_quiet (fail);go_wp2_with fail;go_region
     all_goals go_wp2
     exact Qg (v:=dZ n d ⟨d.extract j z,0,XM,j⟩) (by simp[results,results152,go_sem,dZ,U,V,W,X,Y,Z]) rfl
      (by rw[C.out];exact⟨rfl,eY (by exact i) (by omega) _ _ _ _ _ _,eX (a.drewN _) (PQ _) _ _ _ _ _ _⟩)
    ·have C:XN (aU d k=(⟨⟨#[]⟩,0,XL,j⟩,z)):=JF d k j z HJ.out q.out N (by omega);clear q N;go_wp2_with fail;go_quiet ((go_at_call 166;exact QC (gQ _ _)));go_wp2_with fail;go_quiet (fail);go_wp2;exact Qg (v:=dZ n d ⟨⟨#[]⟩,0,XL,j⟩) (by simp[results,results152,go_sem,dZ,U,V,W,X,Y,Z]) rfl
      (by rw[C.out];exact⟨rfl,eY (by exact i) (by omega) _ _ _ _ _ _,eX (a.drewN _) (PQ _) _ _ _ _ _ _⟩)
end Go.Proofs.YtnbalopedcgpcaaGreat
