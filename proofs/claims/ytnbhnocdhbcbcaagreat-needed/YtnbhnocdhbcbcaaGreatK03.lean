import Derived.Deep.LoopGhost
import Derived.Deep.CutRange
import Derived.Deep.CutBlock
import Derived.Deep.RegionLaw
import Derived.Test.YtnbhnocdhbcbcaaGreatK01
namespace Go.Proofs.YtnbhnocdhbcbcaaGreat
open Go.RowKit Tryz
open Value IntKind Ending
set_option maxHeartbeats 0
variable{l S y0:World}{b y y1:Nat}{M I:Xs}{N:Xv}{y3:tC}{y2:Obj}{g:Nat->Prop}{d i:List Value}{H z7:Nat->Hd}(n x:Nat)(T:Xs)(m v:Xt)(w:Xs)(k:World)(z6:List Value)(D:Nat)(o L:List Value)(zt f:Nat)
def mO:Array Value:=#[string ⟨#[]⟩,int i64 0,bool false,string ⟨#[]⟩,int i64 0,int i64 0]
theorem iK(h:l.heap[b]?=some (.cells mO 255)) :
  l.cell? ⟨b,0,none⟩=some (string ⟨#[]⟩)/\l.cell? ⟨b,1,none⟩=some (int i64 0)/\l.cell? ⟨b,2,none⟩=some (bool false) /\
  l.cell? ⟨b,3,none⟩=some (string ⟨#[]⟩)/\l.cell? ⟨b,4,none⟩=some (int i64 0)/\l.cell? ⟨b,5,none⟩=some (int i64 0):=by
 refine⟨?_,?_,?_,?_,?_,?_⟩ <;> (rw[ah h];rfl)
theorem iE(h:cg l b M I y1)(a:b≠y)(c d e f g i:Value) :
  cg ((((((l.setCell ⟨y,0,none⟩ c).setCell ⟨y,1,none⟩ d).setCell ⟨y,2,none⟩ e).setCell ⟨y,3,none⟩ f).setCell ⟨y,4,none⟩ g).setCell ⟨y,5,none⟩ i) b M I y1:=by
 unfold cg;rw[TM _ _ _ _ a,TM _ _ _ _ a,TM _ _ _ _ a,TM _ _ _ _ a,TM _ _ _ _ a,TM _ _ _ _ a];exact h
theorem jc(h:ae N l S)(a:l.heap.size<=b)(c d e f g i:Value) :
  ae N l ((((((S.setCell ⟨b,0,none⟩ c).setCell ⟨b,1,none⟩ d).setCell ⟨b,2,none⟩ e).setCell ⟨b,3,none⟩ f).setCell ⟨b,4,none⟩ g).setCell ⟨b,5,none⟩ i) :=
 (((((h.setCell (TE a) _).setCell (TE a) _).setCell (TE a) _).setCell (TE a) _).setCell (TE a) _).setCell (TE a) _
set_option maxRecDepth 100000
theorem wS(hd:w.size<=1024)(hk:x<=w.size)(h:cg k n T w x) :
  Calls prog 204 #[pointer (some ⟨n,0,none⟩)] k fun e w'=>e=returned (fN T w (bQ w x).1)/\cg w' n T w (bQ w x).2/\ae [n] k w':=by
 have an:=aj h;go_enter func204,ntmps204;go_upto_block 0 with fail
 go_cut [] from 5 (fun wc=>∃j,x<=j/\j<=w.size/\Xr (j=skip w x)/\cg wc n T w j/\wc.heap[k.heap.size]?=some (.cells mO 255)/\ae [n] k wc)
 case first =>
  go_wp2_with fail
  go_loopg [] (w.size-x) (fun g wr=>∃j,x<=j/\j<=w.size/\g=w.size-j/\Xr (skip w j=skip w x)/\cg wr n T w j/\wr.heap[k.heap.size]?=some (.cells mO 255)/\ae [n] k wr)
  ·exact⟨x,Tq _,hk,rfl,rfl,cg.XR h ((ae.refl [] k).alloc _) (by simp),Tu _ _,(ae.refl _ _).alloc _⟩
  obtain⟨j,D,hj,hg,m,i,q,a⟩:=hrel;obtain⟨L,M,N,O,P⟩:=i.cells;have r:k.heap.size∉[n]:=by simp;omega
  by_cases Q:j<w.size/\dn (aI w j)=true
  ·obtain⟨b,p⟩:=Q;have c:=p;rw[bZ w j b]at c;have ag:Xr (skip w (j+1)=skip w x):=(IT w j b p).symm.trans m.o;clear p;go_wp2_with fail;go_quiet ((go_at_call 227;exact T0 (kT _ _)));go_wp2_with fail;refine(Ek n j T w _ hd b (by exact i)).mono ?_;rintro e w1 ⟨rfl,u,l⟩;go_wp2;go_roundg (w.size-(j+1))
   ·exact⟨j+1,by omega,by omega,rfl,ag,u,l.get (by exact q) r,(a.drewN nq).trans l⟩
   omega
  ·have ac:Xr (j=skip w x):=(m.o.symm.trans (uC w j Q)).symm;have C:(j<w.size/\∃h:j<w.size,dn ((w[j]'h).toNat:Int)=false)∨(¬j<w.size/\decide ((j:Int)<(w.size:Int))=false):=by
    by_cases b:j<w.size
    ·refine TH ⟨b,b,?_⟩;rw[<-bZ w j b];simpa using fun h=>Q ⟨b,h⟩
    ·exact TE ⟨b,by simp;omega⟩
   clear Q m;rcases C with ⟨b,ai,c⟩ | ⟨b,c⟩
   all_goals
    go_wp2_with fail;go_quiet ((go_at_call 227;exact T0 (kT _ _)));go_wp2_with fail;go_meet
    case rel=>exact⟨j,D,hj,ac,by exact i,by exact q,a.drewN _⟩
 case rest =>
  obtain⟨j,D,hj,Y,i,q,a⟩:=hcut;have r:k.heap.size∉[n]:=by simp;omega
  go_wp2_with fail;refine(Ah n j T w _ (by exact i)).mono ?_;rintro e s ⟨rfl,l⟩;have u:cg s n T w j:=cg.XR (by exact i) l (by simp);have af:=l.get (by exact q) (by simp);have E:=a.trans (l.mono (by simp));have al:=aj u;clear i q a l;obtain⟨L,M,N,O,P⟩:=u.cells;go_wp2
  go_loopg [] (w.size-j) (fun g wr=>∃z,j<=z/\z<=w.size/\g=w.size-z/\Xr (dh w z=dh w j)/\cg wr n T w z/\wr.heap[k.heap.size]?=some (.cells mO 255) /\
   wr.heap[s.heap.size]?=some (.cells #[string T,int i64 (aU w j),int i64 (bJ w j)] 36)/\ae [n] k wr)
  ·exact⟨j,Tq _,hj,rfl,rfl,u.XR ((ae.refl [] s).alloc _) (by simp),((ae.refl [] s).alloc _).get af (by simp),Tu _ _,E.alloc _⟩
  clear L M N O P;obtain⟨z,ao,hz,hg,m,i,q,A,a⟩:=hrel;obtain⟨L,M,N,O,P⟩:=i.cells;have e0:wr.cell? ⟨s.heap.size,0,none⟩=some (string T):=by rw[ah A];rfl
  have e1:wr.cell? ⟨s.heap.size,1,none⟩=some (int i64 (aU w j)):=by rw[ah A];rfl
  have e2:wr.cell? ⟨s.heap.size,2,none⟩=some (int i64 (bJ w j)):=by rw[ah A];rfl
  rcases LK w z with ⟨f,c,H,J⟩ | ⟨f,c,H⟩ | ⟨f,c⟩ | ⟨f,c⟩
  ·have HS:Xr (dh w (z+1)=dh w j):=J.trans m.o;clear m J;go_wp2_with fail;go_quiet ((go_at_call 227;exact T0 (kT _ _)));go_wp2_with fail;go_quiet ((go_at_call 230;exact NJ (qe _ _)));go_wp2_with fail;refine(Ek n z T w _ hd f (by exact i)).mono ?_;rintro e w3 ⟨rfl,Z,d⟩;go_wp2;go_roundg (w.size-(z+1))
   ·exact⟨z+1,by omega,by omega,rfl,HS,Z,d.get (by exact q) r,d.get (by exact A) (by simp;omega),((a.drewN _).trans d)⟩
   omega
  ·have t:Xr (bQ w x=(⟨⟨#[]⟩,1,false,z⟩,z)):=Ec w x j z Y.o m.o f (by rw[bZ w z f];exact c) (by rw[bZ w z f];exact H);clear m;go_wp2_with fail;go_quiet ((go_at_call 227;exact T0 (kT _ _)));go_wp2_with fail;go_quiet ((go_at_call 230;exact NJ (qe _ _)));go_wp2_with fail;refine(Ah n z T w _ (by exact i)).mono ?_;rintro e w3 ⟨rfl,d⟩;have Z:cg w3 n T w z:=cg.XR (by exact i) d (by simp);have I:=d.get (by exact q) (by simp);have F:=(a.drewN _).trans (d.mono (by simp));clear L M N O P i q a d A e0 e1 e2;obtain⟨R,S,U,V,W,X⟩:=iK I;have y:=am I;go_wp2;exact Tz (v:=fN T w ⟨⟨#[]⟩,1,false,z⟩) (by simp[results,results204,go_sem,fN,R,S,U,V,W,X]) rfl
    (by rw[t.o];exact⟨rfl,iE Z (by omega) _ _ _ _ _ _,jc F (Tq _) _ _ _ _ _ _⟩)
  all_goals
   have K:¬(z<w.size/\dn (aI w z)=false):=by
    rintro ⟨G,B⟩
    first
     | (rw[bZ w z G,c]at B;cases B)
     | exact f G
   obtain⟨R,S,U,V,W,X⟩:=iK q;have y:=am q;by_cases ad:j<z
   ·have t:Xr (bQ w x=(⟨w.extract j z,0,false,j⟩,z)):=Ao w x j z Y.o m.o K ad;clear m K;go_wp2_with fail;go_quiet ((go_at_call 227;exact T0 (kT _ _)));go_wp2_with fail;go_quiet (fail);go_wp2_with fail;go_region
    all_goals go_wp2
    exact Tz (v:=fN T w ⟨w.extract j z,0,false,j⟩) (by simp[results,results204,go_sem,fN,R,S,U,V,W,X]) rfl
     (by rw[t.o];exact⟨rfl,iE (by exact i) (by omega) _ _ _ _ _ _,jc (a.drewN _) (Tq _) _ _ _ _ _ _⟩)
   ·have t:Xr (bQ w x=(⟨⟨#[]⟩,0,true,j⟩,z)):=Ed w x j z Y.o m.o K (by omega);clear m K;go_wp2_with fail;go_quiet ((go_at_call 227;exact T0 (kT _ _)));go_wp2_with fail;go_quiet (fail);go_wp2;exact Tz (v:=fN T w ⟨⟨#[]⟩,0,true,j⟩) (by simp[results,results204,go_sem,fN,R,S,U,V,W,X]) rfl
     (by rw[t.o];exact⟨rfl,iE (by exact i) (by omega) _ _ _ _ _ _,jc (a.drewN _) (Tq _) _ _ _ _ _ _⟩)
def aM(i:tC):Bool:=i.X6==0 && !i.XY
set_option maxRecDepth 512
theorem dm(r l c:Int)(f:Bool)(a:World) :
    Calls prog 157 #[agg #[string T,int i64 r,bool f,string w,int i64 l,int i64 c]] a fun e b=>e=returned (bool (r==0 && !f))/\ae [] a b:=by
  cases d:(r==0)
  all_goals
    go_enter func157,ntmps157;go_wp2;go_ret;exact⟨aF (by simp),(ae.refl _ _).alloc _⟩
def dD(s:Xs):Bool:=(List.range s.size).any (fun i=>aI s i==36)
def lh(s:Xs):Bool:=(List.range s.size).any (fun i=>decide (1<=i)&&(aI s (i-1)==36)&&((aI s i==40)||(aI s i==41)))
theorem nc{p:Nat->Bool}(h:f<b)(a:p f=true):(List.range b).any p=true:=by
  rw[Ut];exact⟨f,by simpa using h,a⟩
theorem uQ{p:Nat->Bool}(h:∀i,i<b->p i=false):(List.range b).any p=false:=by
  rw[V9];intro i a;simp[h i (by simpa using a)]
theorem fc(p:w.size<=1073741824) :
    Calls prog 232 #[string w] k fun e l=>e=returned (bool (dD w))/\l=k:=by
  go_enter func232,ntmps232;go_wp2
  go_loopg [3] w.size (fun g i wr=>∃a:Nat,a<=w.size/\g=w.size-a/\i=int i64 a/\Xr (∀i,i<a->(aI w i==36)=false)/\wr=k)
  · exact⟨0,by omega,by omega,rfl,fun i h=>by omega,rfl⟩
  obtain⟨a,n,m,rfl,b,rfl⟩:=hrel;by_cases c:a<w.size
  · cases f:((w[a].toNat:Int)==36)
    · go_wp2
      go_roundg (w.size-(a+1))
      · refine⟨a+1,by omega,rfl,by go_num,?_,rfl⟩
        intro i j;by_cases e:i=a
        · subst e;rw[bZ w i c];exact f
        · exact b.o i (by omega)
      omega
    · have d:Xr (dD w=true):=nc a c (by rw[bZ w a c];exact f)
      go_wp2;go_ret;exact⟨aF d.o.symm,rfl⟩
  · have d:Xr (dD w=false):=uQ (fun i j=>b.o i (by omega))
    go_wp2;go_ret;exact⟨aF d.o.symm,rfl⟩
theorem vN(x:w.size<=1073741824) :
    Calls prog 231 #[string w] k fun e s=>e=returned (bool (lh w))/\s=k:=by
  go_enter func231,ntmps231;go_wp2
  go_loopg [3] (w.size-1) (fun g i wr=>∃a:Nat,1<=a/\(a<=w.size∨a=1)/\g=w.size-a/\i=int i64 a/\Xr (∀i,i<a->1<=i->((aI w (i-1)==36)&&((aI w i==40)||(aI w i==41)))=false)/\wr=k)
  · exact⟨1,by omega,by omega,rfl,rfl,fun i h t=>by omega,rfl⟩
  obtain⟨a,l,v,u,rfl,c,rfl⟩:=hrel;by_cases d:a<w.size
  · have f:a-1<w.size:=by omega
    have n:∀b:Bool,(((w[a-1].toNat:Int)==36)&&(((w[a].toNat:Int)==40)||((w[a].toNat:Int)==41)))=b->((aI w (a-1)==36)&&((aI w a==40)||(aI w a==41)))=b :=
      fun b h=>by rw[bZ w a d,bZ w (a-1) f];exact h
    have m:Xr (∀b:Bool,(((w[a-1].toNat:Int)==36)&&(((w[a].toNat:Int)==40)||((w[a].toNat:Int)==41)))=b->((aI w (a-1)==36)&&((aI w a==40)||(aI w a==41)))=b):=n;clear n;go_wp2
    all_goals first
      | (go_ret
         refine⟨aF ?_,rfl⟩;refine(nc (p:=fun i=>decide (1<=i)&&(aI w (i-1)==36)&&((aI w i==40)||(aI w i==41))) a d ?_).symm;have:=m.o true (by simp_all);simp only[Bool.and_assoc,this];simp[l])
      | (go_roundg (w.size-(a+1))
         case measure=>omega
         case rel =>
           refine⟨a+1,by omega,by omega,rfl,by go_num,?_,rfl⟩;intro i r j;by_cases e:i=a
           · subst e;exact m.o false (by simp_all)
           · exact c.o i (by omega) j)
  · have q:Xr (lh w=false):=uQ (fun i r=>by
      by_cases j:1<=i
      · have:=c.o i (by omega) j;simp only[Bool.and_assoc,this];simp
      · simp[j])
    go_wp2;go_ret;exact⟨aF q.o.symm,rfl⟩
theorem il(h:f<=w.size):f<=(bQ w f).2/\(bQ w f).2<=w.size/\(aM (bQ w f).1=true->f<(bQ w f).2):=by
 have a:=BZ w f h;have b:=tw w (skip w f) a.2;unfold bQ;simp only;split
 ·exact⟨by omega,b.2,by simp[aM]⟩
 ·split
  ·exact⟨by omega,b.2,by simp[aM]⟩
  ·exact⟨by simp only;omega,b.2,fun _=>by simp only;omega⟩
def cm(d:Xs):Nat->Nat->tC×Nat
 | 0,k=>(⟨⟨#[]⟩,3,false,k⟩,k)
 | f+1,k =>
  if aM (bQ d k).1=true/\¬(bQ d k).1.text.toList=[36,41] then
   if lh (bQ d k).1.text=true then(⟨⟨#[]⟩,2,false,(bQ d k).1.pos⟩,(bQ d k).2) else cm d f (bQ d k).2
  else if(bQ d k).1.XY=true then(⟨⟨#[]⟩,3,false,(bQ d k).1.pos⟩,(bQ d k).2) else bQ d k
def bh(d:Xs)(k:Nat):tC×Nat:=cm d (d.size-k+1) k
theorem xn(f k:Nat)(a:k<=w.size)(b:w.size-k+1<=f):cm w f k=bh w k:=by
 unfold bh
 suffices h:∀f g k,k<=w.size->w.size-k+1<=f->w.size-k+1<=g->cm w f k=cm w g k from h _ _ _ a b (Tq _)
 clear b a f k;intro f
 induction f with
 | zero=>intro g k _ h;omega
 | succ f e =>
  intro g k a b i;cases g with
  | zero=>omega
  | succ g =>
   rw[cm,cm];split
   ·next h =>
    have c:=il w k a;have d:=c.2.2 h.1;split
    ·rfl
    ·exact e g (bQ w k).2 c.2.1 (by omega) (by omega)
   ·rfl
theorem xo(e:f<=w.size)(a:aM (bQ w f).1=true)(c:((bQ w f).1.text.toList == [36,41])=false)(d:lh (bQ w f).1.text=false):bh w f=bh w (bQ w f).2:=by
 have b:=il w f e;have g:=b.2.2 a
 conv=>lhs;unfold bh
 rw[cm,Tr ⟨a,by simpa using c⟩,Tp (by simp[d]),xn w _ _ b.2.1 (by omega)]
theorem tO(a:aM (bQ w f).1=true)(b:((bQ w f).1.text.toList == [36,41])=false)(c:lh (bQ w f).1.text=true):bh w f=(⟨⟨#[]⟩,2,false,(bQ w f).1.pos⟩,(bQ w f).2):=by
 unfold bh;rw[cm,Tr ⟨a,by simpa using b⟩,Tr c]
theorem tP(a:aM (bQ w f).1=false)(b:(bQ w f).1.XY=true):bh w f=(⟨⟨#[]⟩,3,false,(bQ w f).1.pos⟩,(bQ w f).2):=by
 unfold bh;rw[cm,Tp (by simp[a]),Tr b]
theorem vR(a:aM (bQ w f).1=false)(b:(bQ w f).1.XY=false):bh w f=bQ w f:=by
 unfold bh;rw[cm,Tp (by simp[a]),Tp (by simp[b])]
theorem rY(a:aM (bQ w f).1=true)(b:((bQ w f).1.text.toList == [36,41])=true):bh w f=bQ w f:=by
 unfold bh;rw[cm,Tp (by intro h;exact h.2 (by simpa using b))];rw[Tp (by intro h;simp[aM,h]at a)]
theorem jF(k:Nat)(b:k<=w.size):k<=(bh w k).2/\(bh w k).2<=w.size:=by
 unfold bh
 suffices h:∀f k,k<=w.size->k<=(cm w f k).2/\(cm w f k).2<=w.size from h _ _ b
 clear b k;intro f
 induction f with
 | zero=>intro k b;simp[cm,b]
 | succ f c =>
  intro k b;have a:=il w k b;rw[cm];split
  ·split
   ·exact⟨a.1,a.2.1⟩
   ·have:=c (bQ w k).2 a.2.1;omega
  ·split
   ·exact⟨a.1,a.2.1⟩
   ·exact⟨a.1,a.2.1⟩
def dZ(d:Xs):Nat->Nat->tC×Nat
 | 0,k=>(⟨⟨#[]⟩,0,true,k⟩,k)
 | f+1,k =>
  if aM (bQ d k).1=true/\(bQ d k).1.text.toList=[36,40] then
   if aM (bh d (bQ d k).2).1=true then dZ d f (bh d (bQ d k).2).2 else bh d (bQ d k).2
  else bQ d k
def aC(d:Xs)(k:Nat):tC×Nat:=dZ d (d.size-k+1) k
theorem DE(f k:Nat)(a:k<=w.size)(b:w.size-k+1<=f):dZ w f k=aC w k:=by
 unfold aC
 suffices h:∀f g k,k<=w.size->w.size-k+1<=f->w.size-k+1<=g->dZ w f k=dZ w g k from h _ _ _ a b (Tq _)
 clear b a f k;intro f
 induction f with
 | zero=>intro g k _ h;omega
 | succ f i =>
  intro g k a b j;cases g with
  | zero=>omega
  | succ g =>
   rw[dZ,dZ];split
   ·next h =>
    have c:=il w k a;have e:=c.2.2 h.1;have d:=jF w (bQ w k).2 c.2.1;split
    ·exact i g _ d.2 (by omega) (by omega)
    ·rfl
   ·rfl
theorem IF(g:f<=w.size)(a:aM (bQ w f).1=true)(c:((bQ w f).1.text.toList == [36,40])=true)(d:aM (bh w (bQ w f).2).1=true) :
  aC w f=aC w (bh w (bQ w f).2).2:=by
 have b:=il w f g;have i:=b.2.2 a;have e:=jF w (bQ w f).2 b.2.1
 conv=>lhs;unfold aC
 rw[dZ,Tr ⟨a,by simpa using c⟩,Tr d,DE w _ _ e.2 (by omega)]
theorem vZ(a:aM (bQ w f).1=true)(b:((bQ w f).1.text.toList == [36,40])=true)(c:aM (bh w (bQ w f).2).1=false) :
  aC w f=bh w (bQ w f).2:=by
 unfold aC;rw[dZ,Tr ⟨a,by simpa using b⟩,Tp (by simp[c])]
theorem sX(h:aM (bQ w f).1=false∨((bQ w f).1.text.toList == [36,40])=false):aC w f=bQ w f:=by
 unfold aC;rw[dZ,Tp (by rintro ⟨a,b⟩;rcases h with h | h;simp[h]at a;simp[b]at h)]
theorem gq(k:Nat)(a:k<=w.size):k<=(aC w k).2/\(aC w k).2<=w.size/\(aM (aC w k).1=true->k<(aC w k).2):=by
 unfold aC
 suffices h:∀f k,k<=w.size->k<=(dZ w f k).2/\(dZ w f k).2<=w.size/\(aM (dZ w f k).1=true->k<(dZ w f k).2) from h _ _ a
 clear a k;intro f
 induction f with
 | zero=>intro k a;simp[dZ,a,aM]
 | succ f e =>
  intro k a;have b:=il w k a;have c:=jF w (bQ w k).2 b.2.1;rw[dZ];split
  ·next h =>
   have d:=b.2.2 h.1;split
   ·have:=e (bh w (bQ w k).2).2 c.2;omega
   ·omega
  ·exact b
def jY(w:World)(r:Nat)(n d:Xs)(i:tC):Prop :=
 w.heap[r]?=some (.cells #[string i.text,int i64 i.X6,bool i.XY,string n,int i64 (aU d i.pos),int i64 (bJ d i.pos)] 255)
theorem jY.cells{t:Xs}{u:Int}{f:Bool}(h:jY l b M I ⟨t,u,f,y⟩) :
  l.cell? ⟨b,0,none⟩=some (string t)/\l.cell? ⟨b,1,none⟩=some (int i64 u)/\l.cell? ⟨b,2,none⟩=some (bool f) /\
  l.cell? ⟨b,3,none⟩=some (string M)/\l.cell? ⟨b,4,none⟩=some (int i64 (aU I y))/\l.cell? ⟨b,5,none⟩=some (int i64 (bJ I y)):=by
 refine⟨?_,?_,?_,?_,?_,?_⟩ <;> (rw[ah h];rfl)
theorem jY.XR(h:jY l b M I y3)(c:ae N l S)(a:b∉N):jY S b M I y3:=c.get h a
theorem qG(h:jY l b M I y3)(j:tC) :
  jY ((((((l.setCell ⟨b,0,none⟩ (string j.text)).setCell ⟨b,1,none⟩ (int i64 j.X6)).setCell ⟨b,2,none⟩ (bool j.XY)).setCell ⟨b,3,none⟩ (string M)).setCell ⟨b,4,none⟩ (int i64 (aU I j.pos))).setCell ⟨b,5,none⟩ (int i64 (bJ I j.pos))) b M I j:=by
 have:=ab (ab (ab (ab (ab (ab h 0 (string j.text)) 1 (int i64 j.X6)) 2 (bool j.XY)) 3 (string M)) 4 (int i64 (aU I j.pos))) 5 (int i64 (bJ I j.pos));unfold jY;rw[this];simp
theorem vy(h:l.heap[b]?=some y2)(a:b≠y)(c d e f g i:Value) :
  ((((((l.setCell ⟨y,0,none⟩ c).setCell ⟨y,1,none⟩ d).setCell ⟨y,2,none⟩ e).setCell ⟨y,3,none⟩ f).setCell ⟨y,4,none⟩ g).setCell ⟨y,5,none⟩ i).heap[b]?=some y2:=by
 rw[TM _ _ _ _ a,TM _ _ _ _ a,TM _ _ _ _ a,TM _ _ _ _ a,TM _ _ _ _ a,TM _ _ _ _ a];exact h
theorem rK(a:w.size<=1024):(bQ w f).1.text.size<=1024:=by
 unfold bQ;simp only;split
 ·simp[ByteArray.size]
 ·split
  ·simp[ByteArray.size]
  ·simp;omega
set_option maxRecDepth 100000
theorem vQ(hd:w.size<=1024)(hk:x<=w.size)(h:cg k n T w x) :
  Calls prog 205 #[pointer (some ⟨n,0,none⟩)] k fun e w'=>e=returned (fN T w (bh w x).1)/\cg w' n T w (bh w x).2/\ae [n] k w':=by
 have ao:=aj h;go_enter func205,ntmps205;go_wp2_with fail;refine(wS n x T w _ hd hk (by exact h.XR (bR.alloc _) (by simp))).mono ?_;rintro e w1 ⟨rfl,h1,Y⟩;have ac:w1.heap[k.heap.size]?=some (.cells mO 255):=Y.get (Tu _ _) (by simp;omega);have ad:ae [n] k w1:=((ae.refl _ _).alloc _).trans Y;have an:=aj h1;have al:=aj ac;simp only[fN];go_wp2
 go_loopg [] (w.size-x) (fun g wr=>∃j,j<=w.size/\g=w.size-j/\Xr (bh w x=bh w j)/\cg wr n T w (bQ w j).2/\jY wr w1.heap.size T w (bQ w j).1/\wr.heap[k.heap.size]?=some (.cells mO 255)/\ae [n] k wr)
 ·exact⟨x,hk,rfl,rfl,h1.XR (bR.alloc _) (by simp),Tu _ _,(bR.alloc _).get ac (by simp),ad.alloc _⟩
 obtain⟨j,hj,hg,hs,E,m,F,i⟩:=hrel;have H:=il w j hj;have ag:=rK w j hd;have S:Xr (_->_->_->bh w j=_):=xo w j hj;have U:Xr (_->_->_->bh w j=_):=tO w j;have V:Xr (_->_->bh w j=_):=tP w j;have W:Xr (_->_->bh w j=_):=vR w j;have X:Xr (_->_->bh w j=_):=rY w j;generalize hrr:bQ w j=r at *;obtain⟨⟨t,u,f,p⟩,z⟩:=r;have HR:Xr (bQ w j=(⟨t,u,f,p⟩,z)):=hrr;clear hrr;simp only at E m H ag;obtain⟨q,s,A,B,C,D⟩:=m.cells;cases I:(u==0 && !f)
 ·cases J:f
  ·have G:Xr (bh w j=(⟨t,u,false,p⟩,z)):=(by have:=W.o (by simpa [aM] using I) J;rw[J]at this;exact this);subst J;have ai:(u==0)=false:=by simpa using I
   clear S U V W X;go_wp2_with fail;refine(dm t T u (aU w p) (bJ w p) _ _).mono ?_;rintro e w2 ⟨rfl,a⟩;have d:=m.XR a (by simp);have l:=E.XR a (by simp);have c:=a.get F (by simp);have b:=i.trans (a.mono (by simp));clear q s A B C D m E F i a;obtain⟨q,s,A,B,C,D⟩:=d.cells;obtain⟨M,N,O,P,Q,R⟩:=iK c;have y:=am c;go_wp2;exact Tz (v:=fN T w ⟨t,u,false,p⟩) (by simp[results,results205,go_sem,fN,M,N,O,P,Q,R]) rfl
    (by rw[hs.o,G.o];exact⟨rfl,iE l (by omega) _ _ _ _ _ _,jc b (Tq _) _ _ _ _ _ _⟩)
  ·have G:Xr (bh w j=(⟨⟨#[]⟩,3,false,p⟩,z)):=V.o (by simpa [aM] using I) J;subst J;clear S U V W X;go_wp2_with fail;refine(dm t T u (aU w p) (bJ w p) _ _).mono ?_;rintro e w2 ⟨rfl,a⟩;have d:=m.XR a (by simp);have l:=E.XR a (by simp);have c:=a.get F (by simp);have b:=i.trans (a.mono (by simp));clear q s A B C D m E F i a;obtain⟨q,s,A,B,C,D⟩:=d.cells;obtain⟨M,N,O,P,Q,R⟩:=iK c;have y:=am c;go_wp2;exact Tz (v:=fN T w ⟨⟨#[]⟩,3,false,p⟩) (by simp[results,results205,go_sem,fN,M,N,O,P,Q,R]) rfl
    (by rw[hs.o,G.o];exact⟨rfl,iE l (by omega) _ _ _ _ _ _,jc b (Tq _) _ _ _ _ _ _⟩)
 ·cases hx:(t.toList == [36,41])
  ·cases hy:lh t
   ·have G:Xr (bh w j=bh w z):=S.o I hx hy;clear S U V W X;go_wp2_with fail;refine(dm t T u (aU w p) (bJ w p) _ _).mono ?_;rintro e w2 ⟨rfl,a⟩;have d:=m.XR a (by simp);have l:=E.XR a (by simp);have c:=a.get F (by simp);have b:=i.trans (a.mono (by simp));clear q s A B C D m E F i a;obtain⟨q,s,A,B,C,D⟩:=d.cells;go_wp2_with fail;refine(vN t _ (by omega)).mono ?_;rintro e w3 ⟨rfl,rfl⟩;go_wp2_with fail;refine(wS n z T w _ hd H.2.1 l).mono ?_;rintro e w4 ⟨rfl,h4,L⟩;have K:=d.XR L (by simp;omega);have af:=L.get c (by simp;omega);have Z:=b.trans L;have yy:=am K;clear q s A B C D;obtain⟨q,s,A,B,C,D⟩:=K.cells;simp only[fN];go_wp2;go_roundg (w.size-z)
    case measure=>have:=H.2.2 I;omega
    case rel=>exact⟨z,H.2.1,rfl,hs.o.trans G.o,iE h4 (by omega) _ _ _ _ _ _,qG K _,vy af (by omega) _ _ _ _ _ _,jc Z (by omega) _ _ _ _ _ _⟩
   ·have G:Xr (bh w j=(⟨⟨#[]⟩,2,false,p⟩,z)):=U.o I hx hy;clear S U V W X;go_wp2_with fail;refine(dm t T u (aU w p) (bJ w p) _ _).mono ?_;rintro e w2 ⟨rfl,a⟩;have d:=m.XR a (by simp);have l:=E.XR a (by simp);have c:=a.get F (by simp);have b:=i.trans (a.mono (by simp));clear q s A B C D m E F i a;obtain⟨q,s,A,B,C,D⟩:=d.cells;go_wp2_with fail;refine(vN t _ (by omega)).mono ?_;rintro e w3 ⟨rfl,rfl⟩;obtain⟨M,N,O,P,Q,R⟩:=iK c;have y:=am c;go_wp2;exact Tz (v:=fN T w ⟨⟨#[]⟩,2,false,p⟩) (by simp[results,results205,go_sem,fN,M,N,O,P,Q,R]) rfl
     (by rw[hs.o,G.o];exact⟨rfl,iE l (by omega) _ _ _ _ _ _,jc b (Tq _) _ _ _ _ _ _⟩)
  ·have G:Xr (bh w j=(⟨t,u,f,p⟩,z)):=X.o I hx;clear S U V W X;have J:f=false:=by cases f;rfl;simp at I
   subst J;have ai:(u==0)=true:=by simpa using I
   go_wp2_with fail;refine(dm t T u (aU w p) (bJ w p) _ _).mono ?_;rintro e w2 ⟨rfl,a⟩;have d:=m.XR a (by simp);have l:=E.XR a (by simp);have c:=a.get F (by simp);have b:=i.trans (a.mono (by simp));clear q s A B C D m E F i a;obtain⟨q,s,A,B,C,D⟩:=d.cells;obtain⟨M,N,O,P,Q,R⟩:=iK c;have y:=am c;go_wp2;exact Tz (v:=fN T w ⟨t,u,false,p⟩) (by simp[results,results205,go_sem,fN,M,N,O,P,Q,R]) rfl
    (by rw[hs.o,G.o];exact⟨rfl,iE l (by omega) _ _ _ _ _ _,jc b (Tq _) _ _ _ _ _ _⟩)
theorem ug(hd:w.size<=1024)(hk:x<=w.size)(h:cg k n T w x) :
  Calls prog 156 #[pointer (some ⟨n,0,none⟩)] k fun e w'=>e=returned (fN T w (aC w x).1)/\cg w' n T w (aC w x).2/\ae [n] k w':=by
 have av:=aj h;go_enter func156,ntmps156;go_wp2_with fail;refine(wS n x T w _ hd hk (by exact h.XR (bR.alloc _) (by simp))).mono ?_;rintro e w1 ⟨rfl,h1,af⟩;have ai:w1.heap[k.heap.size]?=some (.cells mO 255):=af.get (Tu _ _) (by simp;omega);have al:ae [n] k w1:=((ae.refl _ _).alloc _).trans af;have ar:=aj h1;have ap:=aj ai;simp only[fN];go_wp2
 go_loopg [4] (w.size-x) (fun g _ wr=>∃j,j<=w.size/\g=w.size-j/\Xr (aC w x=aC w j)/\cg wr n T w (bQ w j).2/\jY wr w1.heap.size T w (bQ w j).1/\wr.heap[k.heap.size]?=some (.cells mO 255)/\ae [n] k wr)
 ·exact⟨x,hk,rfl,rfl,h1.XR (bR.alloc _) (by simp),Tu _ _,(bR.alloc _).get ai (by simp),al.alloc _⟩
 obtain⟨j,hj,hg,hs,N,L,Q,s⟩:=hrel;have E:=il w j hj;have ao:=rK w j hd;have L1:Xr (_->_->_->aC w j=_):=IF w j hj;have L2:Xr (_->_->_->aC w j=_):=vZ w j;have L3:Xr (_->aC w j=_):=sX w j;generalize hrr:bQ w j=r at *;obtain⟨⟨t,u,f,p⟩,z⟩:=r;clear hrr;simp only at N L E ao;obtain⟨F,G,H,I,J,K⟩:=L.cells;cases hw:(u==0 && !f)
 ·have R:Xr (aC w j=(⟨t,u,f,p⟩,z)):=L3.o (TH hw);clear L1 L2 L3;go_wp2_with fail;refine(dm t T u (aU w p) (bJ w p) _ _).mono ?_;rintro e w2 ⟨rfl,a⟩;have i:=L.XR a (by simp);have m:=N.XR a (by simp);have l:=a.get Q (by simp);have b:=s.trans (a.mono (by simp));clear F G H I J K L N Q s a;obtain⟨F,G,H,I,J,K⟩:=i.cells;obtain⟨z0,z1,z2,z3,z4,z5⟩:=iK l;have y:=am l;go_wp2;exact Tz (v:=fN T w ⟨t,u,f,p⟩) (by simp[results,results156,go_sem,fN,z0,z1,z2,z3,z4,z5]) rfl
   (by rw[hs.o,R.o];exact⟨rfl,iE m (by omega) _ _ _ _ _ _,jc b (Tq _) _ _ _ _ _ _⟩)
 ·cases hx:(t.toList == [36,40])
  ·have R:Xr (aC w j=(⟨t,u,f,p⟩,z)):=L3.o (TE hx);clear L1 L2 L3;go_wp2_with fail;refine(dm t T u (aU w p) (bJ w p) _ _).mono ?_;rintro e w2 ⟨rfl,a⟩;have i:=L.XR a (by simp);have m:=N.XR a (by simp);have l:=a.get Q (by simp);have b:=s.trans (a.mono (by simp));clear F G H I J K L N Q s a;obtain⟨F,G,H,I,J,K⟩:=i.cells;obtain⟨z0,z1,z2,z3,z4,z5⟩:=iK l;have y:=am l;go_wp2;exact Tz (v:=fN T w ⟨t,u,f,p⟩) (by simp[results,results156,go_sem,fN,z0,z1,z2,z3,z4,z5]) rfl
    (by rw[hs.o,R.o];exact⟨rfl,iE m (by omega) _ _ _ _ _ _,jc b (Tq _) _ _ _ _ _ _⟩)
  ·have V:=jF w z E.2.1;have L4:Xr (_->aC w j=aC w _):=fun h=>L1.o hw hx h;have L5:Xr (_->aC w j=_):=fun h=>L2.o hw hx h;clear L1 L2 L3;generalize hcc:bh w z=c at *;obtain⟨⟨S,P,Z,M⟩,cz⟩:=c;have HC:Xr (bh w z=(⟨S,P,Z,M⟩,cz)):=hcc;clear hcc;simp only at V;cases ac:(P==0 && !Z)
   ·have R:Xr (aC w j=(⟨S,P,Z,M⟩,cz)):=L5.o ac;clear L4 L5;go_wp2_with fail;refine(dm t T u (aU w p) (bJ w p) _ _).mono ?_;rintro e w2 ⟨rfl,a⟩;have i:=L.XR a (by simp);have m:=N.XR a (by simp);have l:=a.get Q (by simp);have b:=s.trans (a.mono (by simp));clear F G H I J K L N Q s a;obtain⟨F,G,H,I,J,K⟩:=i.cells;go_wp2_with fail;refine(vQ n z T w _ hd E.2.1 m).mono ?_;rintro e w3 ⟨rfl,h3,q⟩;have B:=i.XR q (by simp;omega);have D:=q.get l (by simp;omega);have A:=b.trans q;simp only[fN];rw[HC.o];simp only;go_wp2_with fail;refine(dm S T P (aU w M) (bJ w M) _ _).mono ?_;rintro e w4 ⟨rfl,d⟩;have Y:jY w4 w3.heap.size T w ⟨S,P,Z,M⟩:=d.get (Tu _ _) (by simp);have ad:=(B.XR (bR.alloc _) (by simp)).XR d (by simp);have U:=(h3.XR (bR.alloc _) (by simp)).XR d (by simp);have O:=d.get ((bR.alloc _).get D (by simp)) (by simp);have C:=(A.alloc _).trans (d.mono (by simp));rw[HC.o]at U;simp only at U;clear F G H I J K i l b d B D A q h3 m;obtain⟨p0,p1,p2,p3,p4,p5⟩:=Y.cells;obtain⟨z0,z1,z2,z3,z4,z5⟩:=iK O;have y:=am O;go_wp2;exact Tz (v:=fN T w ⟨S,P,Z,M⟩) (by simp[results,results156,go_sem,fN,z0,z1,z2,z3,z4,z5]) rfl
     (by rw[hs.o,R.o];exact⟨rfl,iE U (by omega) _ _ _ _ _ _,jc C (Tq _) _ _ _ _ _ _⟩)
   ·have R:Xr (aC w j=aC w cz):=L4.o ac;clear L4 L5;go_wp2_with fail;refine(dm t T u (aU w p) (bJ w p) _ _).mono ?_;rintro e w2 ⟨rfl,a⟩;have i:=L.XR a (by simp);have m:=N.XR a (by simp);have l:=a.get Q (by simp);have b:=s.trans (a.mono (by simp));clear F G H I J K L N Q s a;obtain⟨F,G,H,I,J,K⟩:=i.cells;go_wp2_with fail;refine(vQ n z T w _ hd E.2.1 m).mono ?_;rintro e w3 ⟨rfl,h3,q⟩;have B:=i.XR q (by simp;omega);have D:=q.get l (by simp;omega);have A:=b.trans q;simp only[fN];rw[HC.o];simp only;go_wp2_with fail;refine(dm S T P (aU w M) (bJ w M) _ _).mono ?_;rintro e w4 ⟨rfl,d⟩;have Y:jY w4 w3.heap.size T w ⟨S,P,Z,M⟩:=d.get (Tu _ _) (by simp);have ad:=(B.XR (bR.alloc _) (by simp)).XR d (by simp);have U:=(h3.XR (bR.alloc _) (by simp)).XR d (by simp);have O:=d.get ((bR.alloc _).get D (by simp)) (by simp);have C:=(A.alloc _).trans (d.mono (by simp));rw[HC.o]at U;simp only at U;clear F G H I J K i l b d B D A q h3 m;obtain⟨p0,p1,p2,p3,p4,p5⟩:=Y.cells;go_wp2_with fail;refine(wS n cz T w _ hd V.2 U).mono ?_;rintro e w5 ⟨rfl,h5,X⟩;have W:=ad.XR X (by simp;omega);have an:=X.get O (by simp;omega);have ag:=C.trans X;have yy:=am W;obtain⟨F,G,H,I,J,K⟩:=W.cells;simp only[fN];go_wp2;go_roundg (w.size-cz)
    case measure=>have:=E.2.2 hw;omega
    case rel=>exact⟨cz,V.2,rfl,hs.o.trans R.o,iE h5 (by omega) _ _ _ _ _ _,qG W _,vy an (by omega) _ _ _ _ _ _,jc ag (by omega) _ _ _ _ _ _⟩
structure Pl where
  XZ:Xs
  X0:Int
  X3:Int
structure St where
  XU:Int
  XV:Xs
  Xz:Xt
  XK:List (Xs×Pl)
  XY:Pl
  til:Nat
structure Db where
  XH:Xt
  XB:Xt
  XC:Xt
  XI:Xt
  XL:Xt
  XW:List (Nat×Nat)
  XQ:List St
  rbl:Xv
  XU:Int
  XV:Xs
  Xz:Xt
  XD:Bool
  XK:List (Xs×Pl)
def dL(l:Xt):List Value:=l.map string
def qN(l:List (Nat×Nat)):List Value:=l.flatMap (fun p=>[int i64 p.1,int i64 p.2])
def kj(l:Xv):List Value:=l.map (fun(n:Nat)=>.int i64 n)
def sx(p:Xs×Pl):List Value:=[string p.1,string p.2.XZ,int i64 p.2.X0,int i64 p.2.X3]
def oG(l:List (Xs×Pl)):List Value:=l.flatMap sx
def Lj(s:St)(a b:Hd):List Value :=
  [int i64 s.XU,string s.XV,slice a.ao s.Xz.length a.cap,slice b.ao s.XK.length b.cap,string s.XY.XZ,int i64 s.XY.X0,int i64 s.XY.X3,int i64 s.til]
def np(l:List St)(H:Nat->Hd):List Value:=l.zipIdx.flatMap (fun p=>Lj p.1 (H (10+2*p.2)) (H (11+2*p.2)))
def aE(l:Xt):eR:=⟨9,1,l.length,dL l⟩
def pd(l:List (Nat×Nat)):eR:=⟨337,2,l.length,qN l⟩
def bD(l:Xv):eR:=⟨3,1,l.length,kj l⟩
def iB(l:List (Xs×Pl)):eR:=⟨229,4,l.length,oG l⟩
def jm(l:List St)(H:Nat->Hd):eR:=⟨158,8,l.length,np l H⟩
def symsAt(l:List St)(i:Nat):Xt:=match l[i]? with | some s=>s.Xz | none=>[]
def um(l:List St)(i:Nat):List (Xs×Pl):=match l[i]? with | some s=>s.XK | none=>[]
def inner(l:List St)(n:Nat):eR:=if n % 2=0 then aE (symsAt l (n / 2)) else iB (um l (n / 2))
def a8(d:Db)(H:Nat->Hd):Nat->eR
  | 0=>aE d.XH
  | 1=>aE d.XB
  | 2=>aE d.XC
  | 3=>aE d.XI
  | 4=>aE d.XL
  | 5=>pd d.XW
  | 6=>jm d.XQ H
  | 7=>bD d.rbl
  | 8=>aE d.Xz
  | 9=>iB d.XK
  | n+10=>inner d.XQ n
def cK(d:Db)(H:Nat->Hd):List Value :=
  [slice (H 0).ao d.XH.length (H 0).cap,slice (H 1).ao d.XB.length (H 1).cap,slice (H 2).ao d.XC.length (H 2).cap,slice (H 3).ao d.XI.length (H 3).cap,
   slice (H 4).ao d.XL.length (H 4).cap,slice (H 5).ao d.XW.length (H 5).cap,slice (H 6).ao d.XQ.length (H 6).cap,slice (H 7).ao d.rbl.length (H 7).cap,
   int i64 d.XU,string d.XV,slice (H 8).ao d.Xz.length (H 8).cap,bool d.XD,slice (H 9).ao d.XK.length (H 9).cap]
def iJ{α:Type}(H:Nat->α)(i:Nat)(h:α):Nat->α:=fun j=>if j=i then h else H j
theorem dI{α:Type}(H:Nat->α)(i:Nat)(h:α):iJ H i h i=h:=by simp[iJ]
theorem cd{α:Type}(H:Nat->α)(i j:Nat)(h:α)(a:j≠i):iJ H i h j=H j:=by simp[iJ,a]
theorem Ov{α:Type}(H:Nat->α)(i:Nat):iJ H i (H i)=H:=by funext j;unfold iJ;split <;> simp_all
theorem yL(l:List St)(H a:Nat->Hd)(h:∀j,10<=j->a j=H j):np l a=np l H:=by
  unfold np;congr 1;funext p;rw[h _ (by omega),h _ (by omega)]
theorem N2(d:Db)(H:Nat->Hd)(i:Nat)(h:Hd)(a:i<10)(j:Nat):a8 d (iJ H i h) j=a8 d H j:=by
  have e:np d.XQ (iJ H i h)=np d.XQ H:=yL _ _ _ (fun j b=>cd _ _ _ _ (by omega));unfold a8;split <;> first | rfl | (simp only[jm,e])
def ik(H:Nat->Hd)(k:Nat):Prop:=∃i,(H i).XS=some k
structure fL(P:Nat->Prop)(w w':World):Prop where
  os:w'.os=w.os
  tape:w'.tape=w.tape
  output:w'.output=w.output
  size:w.heap.size<=w'.heap.size
  block:∀k,k<w.heap.size->¬P k->w'.heap[k]?=w.heap[k]?
theorem fL.refl(P:Nat->Prop)(w:World):fL P w w:=⟨rfl,rfl,rfl,Tq _,fun _ _ _=>rfl⟩
theorem ae.toP(h:ae N l S){P:Nat->Prop}(b:∀k,k∈N->k<l.heap.size->P k):fL P l S :=
  ⟨h.os,h.tape,h.output,h.size,fun k a d=>h.block k a (fun c=>d (b k c a))⟩
theorem fL.get(h:fL g l S)(a:l.heap[b]?=some y2)(c:¬g b):S.heap[b]?=some y2:=(h.block b (aj a) c).trans a
theorem fL.XE{a:World}(h:fL g a l)(k:ae [] l S):fL g a S :=
  ⟨k.os.trans h.os,k.tape.trans h.tape,k.output.trans h.output,TF h.size k.size,fun i b c=>(k.block i (Tw b h.size) (by simp)).trans (h.block i b c)⟩
theorem fL.setCell(h:fL g l S){p:Addr}(a:g p.block∨l.heap.size<=p.block)(u:Value):fL g l (S.setCell p u) :=
  ⟨h.os,h.tape,h.output,by have:=h.size;simp[World.setCell];omega,fun k c b=>by
    rw[TM _ _ _ _ (by rintro rfl;exact a.elim b (fun a=>by omega))];exact h.block k c b⟩
structure aW(w:World)(b t:Nat)(pre post:List Value)(d:Db)(H:Nat->Hd):Prop where
  XS:w.heap[b]?=some (.cells (pre++(cK d H++post)).toArray t)
  X9:∀i,aB w (H i) (a8 d H i)
  apart:∀i j,i≠j->(H i).XS=none∨(H i).XS≠(H j).XS
  off:∀i,(H i).XS≠some b
theorem aW.lt{a:Db}(h:aW l b y d i a H):b<l.heap.size:=aj h.XS
theorem aW.free{c:Db}(h:aW l b y d i c H)(a:Nat):l.frozen? ⟨b,a,none⟩=false:=am h.XS a
theorem aW.inlt{a:Db}(h:aW l b y d i a H)(e:ik H y1):y1<l.heap.size:=by
  obtain⟨f,c⟩:=e;exact(h.X9 f).lt c
theorem aW.keptP{e:Db}(h:aW l b y d i e H)(f:fL g l S)(j:¬g b)(m:∀k,ik H k->¬g k):aW S b y d i e H :=
  ⟨f.get h.XS j,fun c=>(h.X9 c).XJ (fun k a=>f.block k ((h.X9 c).lt a) (m k ⟨c,a⟩)),h.apart,h.off⟩
theorem aW.XR{a:Db}(h:aW l b y d i a H)(e:ae N l S)(c:b∉N)(g:∀k,ik H k->k∉N):aW S b y d i a H :=
  h.keptP (e.toP (P:=(·∈N)) (fun _ f _=>f)) c g
theorem aW.XE{a:Db}(h:aW l b y d i a H)(c:ae [] l S):aW S b y d i a H:=h.XR c (by simp) (by simp)
theorem BC(b:z6.length=zt)(a:f<o.length):(z6++(o++L)).toArray[zt+f]?=o[f]?:=by
  subst b;simp[List.getElem?_append_right,List.getElem?_append_left a]
theorem IE(u:Value)(b:z6.length=zt)(a:f<o.length):(z6++(o++L)).set (zt+f) u=z6++(o.set f u++L):=by
  subst b;rw[Vw _ _ (by omega),show z6.length+f-z6.length=f by omega,Wc _ _ a]
theorem aW.cellAt{c:Db}(h:aW l b y d i c H)(o:Nat)(f:d.length=o)(a:Nat)(e:a<13):l.cell? ⟨b,o+a,none⟩=(cK c H)[a]? :=
  (ah h.XS (o+a)).trans (BC d (cK c H) i o a f e)
theorem aW.cells{a:Db}(h:aW l b y d i a H)(o:Nat)(c:d.length=o) :
    l.cell? ⟨b,o,none⟩=some (slice (H 0).ao a.XH.length (H 0).cap)/\l.cell? ⟨b,o+1,none⟩=some (slice (H 1).ao a.XB.length (H 1).cap) /\
    l.cell? ⟨b,o+2,none⟩=some (slice (H 2).ao a.XC.length (H 2).cap)/\l.cell? ⟨b,o+3,none⟩=some (slice (H 3).ao a.XI.length (H 3).cap) /\
    l.cell? ⟨b,o+4,none⟩=some (slice (H 4).ao a.XL.length (H 4).cap)/\l.cell? ⟨b,o+5,none⟩=some (slice (H 5).ao a.XW.length (H 5).cap) /\
    l.cell? ⟨b,o+6,none⟩=some (slice (H 6).ao a.XQ.length (H 6).cap)/\l.cell? ⟨b,o+7,none⟩=some (slice (H 7).ao a.rbl.length (H 7).cap) /\
    l.cell? ⟨b,o+8,none⟩=some (int i64 a.XU)/\l.cell? ⟨b,o+9,none⟩=some (string a.XV)/\l.cell? ⟨b,o+10,none⟩=some (slice (H 8).ao a.Xz.length (H 8).cap) /\
    l.cell? ⟨b,o+11,none⟩=some (bool a.XD)/\l.cell? ⟨b,o+12,none⟩=some (slice (H 9).ao a.XK.length (H 9).cap):=by
  have m:=h.cellAt o c;exact⟨m 0 (by omega),m 1 (by omega),m 2 (by omega),m 3 (by omega),m 4 (by omega),m 5 (by omega),m 6 (by omega),m 7 (by omega),m 8 (by omega),m 9 (by omega),m 10 (by omega),m 11 (by omega),m 12 (by omega)⟩
def aD(b:Nat)(w:World)(H:Nat->Hd)(w':World)(H':Nat->Hd):Prop :=
  fL (fun k=>k=b∨ik H k) w w'/\∀k,ik H' k->ik H k∨w.heap.size<=k
theorem aD.refl(H:Nat->Hd):aD x k H k H:=⟨fL.refl _ _,fun _ a=>TH a⟩
theorem aD.trans{w1:World}{g:Nat->Hd}(a:aD b l H w1 z7)(c:aD b w1 z7 S g):aD b l H S g:=by
  refine⟨⟨c.1.os.trans a.1.os,c.1.tape.trans a.1.tape,c.1.output.trans a.1.output,TF a.1.size c.1.size,?_⟩,?_⟩
  · intro k d f
    rw[<-a.1.block k d f];refine c.1.block k (Tw d a.1.size) ?_;rintro (e | i)
    · exact f (TH e)
    · rcases a.2 k i with h | h
      · exact f (TE h)
      · omega
  · intro k d
    rcases c.2 k d with h | h
    · exact a.2 k h
    · exact TE (TF a.1.size h)
theorem aD.XE(a:aD b l H S z7)(c:ae [] S y0):aD b l H y0 z7 :=
  a.trans ⟨c.toP (by simp),fun _ d=>TH d⟩
theorem aD.first(c:ae [] l S)(a:aD b S H y0 z7):aD b l H y0 z7 :=
  aD.trans ⟨c.toP (by simp),fun _ d=>TH d⟩ a
theorem aW.putG{B d':Db}(h:aW l b y d i B H)(o c:Nat)(L:d.length=o)(m:Nat)(J:m<10)(n:Hd)(M:aB S n (a8 d' H m))(v:l.grownBy S (H m).XS)(f:n.XS=none∨n.XS=(H m).XS∨∃g,n.XS=some g/\l.heap.size<=g)(z:∀j,j≠m->aB l (H j) (a8 d' H j))(u:Value)(I:c<13)(K:(cK B H).set c u=cK d' (iJ H m n)) :
    aW (S.setCell ⟨b,o+c,none⟩ u) b y d i d' (iJ H m n)/\aD b l H (S.setCell ⟨b,o+c,none⟩ u) (iJ H m n):=by
  have G:=h.lt;have C:S.heap[b]?=some (.cells (d++(cK B H++i)).toArray y):=(v.block b G (fun e=>h.off m e.symm)).trans h.XS;have t:∀j,(iJ H m n j).XS≠some b:=by
    intro j;by_cases e:j=m
    · subst e;rw[dI];intro w
      rcases f with f | f | ⟨g,f,r⟩
      · rw[f]at w;cases w
      · exact h.off j (f ▸ w)
      · rw[f]at w;cases w;omega
    · rw[cd _ _ _ _ e];exact h.off j
  refine⟨⟨?_,?_,?_,t⟩,⟨v.os,v.tape,v.output,by have:=v.size;simp[World.setCell];omega,?_⟩,?_⟩
  · rw[ab C,Uu,IE d (cK B H) i o c u L I,K]
  · intro j
    have q:aB S (iJ H m n j) (a8 d' (iJ H m n) j):=by
      rw[N2 d' H m n J j];by_cases e:j=m
      · subst e;rw[dI];exact M
      · rw[cd _ _ _ _ e]
        refine(z j e).XJ (fun k p=>v.block k ((h.X9 j).lt p) ?_);intro x;rcases h.apart j m e with a | a
        · rw[a]at p;cases p
        · exact a (p.trans x)
    refine q.XJ (fun k p=>TM _ _ _ _ ?_);rintro rfl;exact t j p
  · intro j A s
    by_cases e:j=m
    · subst e
      rw[dI,cd _ _ _ _ (fun e=>s e.symm)];rcases f with f | f | ⟨g,f,r⟩
      · exact TH f
      · rw[f];exact h.apart j A s
      · right;rw[f];intro x;have:=(h.X9 A).lt x.symm;omega
    · rw[cd _ _ _ _ e]
      by_cases D:A=m
      · subst D
        rw[dI];rcases f with f | f | ⟨g,f,r⟩
        · rw[f];cases (H j).XS <;> simp
        · rw[f];exact h.apart j A s
        · cases w:(H j).XS with
          | none=>exact TH rfl
          | some k=>right;rw[f];intro x;cases x;have:=(h.X9 j).lt w;omega
      · rw[cd _ _ _ _ D];exact h.apart j A s
  · intro k p F
    rw[TM _ _ _ _ (fun e=>F (TH e))];exact v.block k p (fun e=>F (TE ⟨m,e.symm⟩))
  · intro k p
    obtain⟨j,e⟩:=p;by_cases E:j=m
    · subst E
      rw[dI]at e;rcases f with f | f | ⟨g,f,r⟩
      · rw[f]at e;cases e
      · exact TH ⟨j,f ▸ e⟩
      · rw[f]at e;cases e;exact TE r
    · rw[cd _ _ _ _ E]at e
      exact TH ⟨j,e⟩
theorem aW.put{k d':Db}(h:aW l b y d i k H)(o c:Nat)(t:d.length=o)(a:Nat)(q:a<10)(e:Hd)(v:aB S e (a8 d' H a))(p:l.grownBy S (H a).XS)(n:e.XS=none∨e.XS=(H a).XS∨∃g,e.XS=some g/\l.heap.size<=g)(f:∀j,j≠a->a8 d' H j=a8 k H j)(u:Value)(m:c<13)(s:(cK k H).set c u=cK d' (iJ H a e)) :
    aW (S.setCell ⟨b,o+c,none⟩ u) b y d i d' (iJ H a e)/\aD b l H (S.setCell ⟨b,o+c,none⟩ u) (iJ H a e) :=
  h.putG o c t a q e v p n (fun j r=>by rw[f j r];exact h.X9 j) u m s
theorem aW.set{e d':Db}(h:aW l b y d i e H)(o c:Nat)(n:d.length=o)(a:∀j,a8 d' H j=a8 e H j)(u:Value)(g:c<13)(m:(cK e H).set c u=cK d' H) :
    aW (l.setCell ⟨b,o+c,none⟩ u) b y d i d' H/\aD b l H (l.setCell ⟨b,o+c,none⟩ u) H:=by
  refine⟨⟨?_,?_,h.apart,h.off⟩,(fL.refl _ _).setCell (TH (TH rfl)) _,fun _ f=>TH f⟩
  · rw[ab h.XS,Uu,IE d (cK e H) i o c u n g,m]
  · intro j
    rw[a j];refine(h.X9 j).XJ (fun k f=>TM _ _ _ _ ?_);rintro rfl;exact h.off j f
theorem aW.app{n d':Db}(h:aW l b y d i n H)(o c:Nat)(v:d.length=o)(f:Nat)(x:f<10)(g a m:Nat)(r:eR)(s:aB S ⟨some ⟨g,0,none⟩,a⟩ r)(A:r=a8 d' H f)(p:l.grownBy S (H f).XS)(k:(H f).XS=some g∨l.heap.size<=g)(q:∀j,j≠f->a8 d' H j=a8 n H j)(t:c<13)(w:Value)(B:(cK n H)[c]?=some w)(z:(cK n H).set c (slice (some ⟨g,0,none⟩) m a)=cK d' (iJ H f ⟨some ⟨g,0,none⟩,a⟩)) :
    S.cell? ⟨b,o+c,none⟩=some w/\S.frozen? ⟨b,o+c,none⟩=false /\
    Xr (aW (S.setCell ⟨b,o+c,none⟩ (slice (some ⟨g,0,none⟩) m a)) b y d i d' (iJ H f ⟨some ⟨g,0,none⟩,a⟩) /\
      aD b l H (S.setCell ⟨b,o+c,none⟩ (slice (some ⟨g,0,none⟩) m a)) (iJ H f ⟨some ⟨g,0,none⟩,a⟩)):=by
  have u:=(p.block b h.lt (fun e=>h.off f e.symm)).trans h.XS;subst A;refine⟨((ah u (o+c)).trans (BC d (cK n H) i o c v t)).trans B,am u _,?_⟩;exact h.put (d':=d') o c v f x ⟨some ⟨g,0,none⟩,a⟩ s p
    (by rcases k with e | e
        · exact TE (TH e.symm)
        · exact TE (TE ⟨g,rfl,by simpa using e⟩)) q _ t z
theorem Ea(d:Db)(H:Nat->Hd)(l:Xt):∀j,j≠0->a8 { d with XH:=l } H j=a8 d H j:=by
  intro j a
  match j with
  | 0=>exact absurd rfl a
  | 1=>rfl
  | 2=>rfl
  | 3=>rfl
  | 4=>rfl
  | 5=>rfl
  | 6=>rfl
  | 7=>rfl
  | 8=>rfl
  | 9=>rfl
  | n+10=>rfl
theorem yA(d:Db)(H:Nat->Hd)(l:Xt):∀j,j≠1->a8 { d with XB:=l } H j=a8 d H j:=by
  intro j a
  match j with
  | 0=>rfl
  | 1=>exact absurd rfl a
  | 2=>rfl
  | 3=>rfl
  | 4=>rfl
  | 5=>rfl
  | 6=>rfl
  | 7=>rfl
  | 8=>rfl
  | 9=>rfl
  | n+10=>rfl
theorem yD(d:Db)(H:Nat->Hd)(l:Xt):∀j,j≠2->a8 { d with XC:=l } H j=a8 d H j:=by
  intro j a
  match j with
  | 0=>rfl
  | 1=>rfl
  | 2=>exact absurd rfl a
  | 3=>rfl
  | 4=>rfl
  | 5=>rfl
  | 6=>rfl
  | 7=>rfl
  | 8=>rfl
  | 9=>rfl
  | n+10=>rfl
theorem v9(d:Db)(H:Nat->Hd)(l:Xt):∀j,j≠3->a8 { d with XI:=l } H j=a8 d H j:=by
  intro j a
  match j with
  | 0=>rfl
  | 1=>rfl
  | 2=>rfl
  | 3=>exact absurd rfl a
  | 4=>rfl
  | 5=>rfl
  | 6=>rfl
  | 7=>rfl
  | 8=>rfl
  | 9=>rfl
  | n+10=>rfl
theorem yC(d:Db)(H:Nat->Hd)(l:Xt):∀j,j≠4->a8 { d with XL:=l } H j=a8 d H j:=by
  intro j a
  match j with
  | 0=>rfl
  | 1=>rfl
  | 2=>rfl
  | 3=>rfl
  | 4=>exact absurd rfl a
  | 5=>rfl
  | 6=>rfl
  | 7=>rfl
  | 8=>rfl
  | 9=>rfl
  | n+10=>rfl
theorem wa(d:Db)(H:Nat->Hd)(l:List (Nat×Nat)):∀j,j≠5->a8 { d with XW:=l } H j=a8 d H j:=by
  intro j a
  match j with
  | 0=>rfl
  | 1=>rfl
  | 2=>rfl
  | 3=>rfl
  | 4=>rfl
  | 5=>exact absurd rfl a
  | 6=>rfl
  | 7=>rfl
  | 8=>rfl
  | 9=>rfl
  | n+10=>rfl
theorem Eb(d:Db)(H:Nat->Hd)(l:Xv):∀j,j≠7->a8 { d with rbl:=l } H j=a8 d H j:=by
  intro j a
  match j with
  | 0=>rfl
  | 1=>rfl
  | 2=>rfl
  | 3=>rfl
  | 4=>rfl
  | 5=>rfl
  | 6=>rfl
  | 7=>exact absurd rfl a
  | 8=>rfl
  | 9=>rfl
  | n+10=>rfl
theorem uy(d:Db)(H:Nat->Hd)(l:Xt):∀j,j≠8->a8 { d with Xz:=l } H j=a8 d H j:=by
  intro j a
  match j with
  | 0=>rfl
  | 1=>rfl
  | 2=>rfl
  | 3=>rfl
  | 4=>rfl
  | 5=>rfl
  | 6=>rfl
  | 7=>rfl
  | 8=>exact absurd rfl a
  | 9=>rfl
  | n+10=>rfl
theorem yB(d:Db)(H:Nat->Hd)(l:List (Xs×Pl)):∀j,j≠9->a8 { d with XK:=l } H j=a8 d H j:=by
  intro j a
  match j with
  | 0=>rfl
  | 1=>rfl
  | 2=>rfl
  | 3=>rfl
  | 4=>rfl
  | 5=>rfl
  | 6=>rfl
  | 7=>rfl
  | 8=>rfl
  | 9=>exact absurd rfl a
  | n+10=>rfl
theorem Lf(d:Db)(H:Nat->Hd)(l:Int):∀j,a8 { d with XU:=l } H j=a8 d H j:=by
  intro j
  match j with
  | 0=>rfl
  | 1=>rfl
  | 2=>rfl
  | 3=>rfl
  | 4=>rfl
  | 5=>rfl
  | 6=>rfl
  | 7=>rfl
  | 8=>rfl
  | 9=>rfl
  | n+10=>rfl
theorem Gj(d:Db)(H:Nat->Hd)(l:Xs):∀j,a8 { d with XV:=l } H j=a8 d H j:=by
  intro j
  match j with
  | 0=>rfl
  | 1=>rfl
  | 2=>rfl
  | 3=>rfl
  | 4=>rfl
  | 5=>rfl
  | 6=>rfl
  | 7=>rfl
  | 8=>rfl
  | 9=>rfl
  | n+10=>rfl
theorem BS(d:Db)(H:Nat->Hd)(l:Bool):∀j,a8 { d with XD:=l } H j=a8 d H j:=by
  intro j
  match j with
  | 0=>rfl
  | 1=>rfl
  | 2=>rfl
  | 3=>rfl
  | 4=>rfl
  | 5=>rfl
  | 6=>rfl
  | 7=>rfl
  | 8=>rfl
  | 9=>rfl
  | n+10=>rfl
def aK(l:Xt)(x:Xs):Bool:=l.any (fun y=>y.toList==x.toList)
theorem Iq(h:f<v.length)(b:aK v w=aK (v.drop f) w)(a:((v[f]).toList==w.toList)=true):aK v w=true:=by
 rw[b,TV h];simp only[aK,List.any_cons,a,Bool.true_or]
theorem Dh(h:f<v.length)(b:aK v w=aK (v.drop f) w)(a:((v[f]).toList==w.toList)=false):aK v w=aK (v.drop (f+1)) w:=by
 rw[b,TV h];simp only[aK,List.any_cons,a,Bool.false_or]
theorem Di(h:¬f<v.length)(a:aK v w=aK (v.drop f) w):aK v w=false:=by
 rw[a,US (by omega)];rfl
theorem uG(h:f<v.length):(dL v)[f]?=some (string v[f]):=by simp[dL,h]
set_option maxRecDepth 512
theorem fD(j:Hd)(l:Xt)(x:Xs)(w:World)(b:aB w j (aE l))(v:l.length<=1073741824) :
  Calls prog 254 #[slice j.ao l.length j.cap,string x] w fun e y=>e=returned (bool (aK l x))/\y=w:=by
 obtain⟨z,s⟩:=j;rcases b.XP with ⟨m,q,_⟩ | ⟨g,t,p,_⟩
 ·have f:l.length=0:=q;have n:l=[]:=Uf f;subst n
  injection m with m u
  subst m;clear b q f v u;go_enter func254,ntmps254;go_wp2;refine VB 1 ?_;rw[VT];go_wp2;go_ret;exact⟨rfl,rfl⟩
 ·simp only at p;subst p;go_enter func254,ntmps254;go_wp2
  go_loopg [5] l.length (fun g i wr=>∃k:Nat,k<=l.length/\g=l.length-k/\i=int i64 k/\Xr (aK l x=aK (l.drop k) x)/\wr=w)
  ·exact⟨0,by omega,by omega,rfl,rfl,rfl⟩
  obtain⟨k,C,B,rfl,c,rfl⟩:=hrel;by_cases a:k<l.length
  ·have A:=b.cell rfl k (string l[k]) (uG l k a);cases r:((l[k]).toList==x.toList)
   ·have d:Xr (aK l x=aK (l.drop (k+1)) x):=Dh l x k a c.o r;clear c b;go_wp2;go_roundg (l.length-(k+1))
    ·exact⟨k+1,by omega,rfl,by go_num,d,rfl⟩
    omega
   ·have d:Xr (aK l x=true):=Iq l x k a c.o r;clear c b;go_wp2;go_ret;exact⟨aF d.o.symm,rfl⟩
  ·have d:Xr (aK l x=false):=Di l x k a c.o;clear c b;go_wp2;go_ret;exact⟨aF d.o.symm,rfl⟩
theorem kg:(prog.info? 9).map (fun i=>(i.zero,i.size,i.bytes))=some (some (string ⟨#[]⟩),1,16):=by kernel_rfl
theorem Lu:dL (v++[w])=dL v++[string w]:=by simp[dL]
theorem dX:(⟨(aE v).e,(aE v).size,(aE v).n+1,(aE v).xs++[string w]⟩:eR)=aE (v++[w]):=by
 simp[aE,Lu]
set_option maxRecDepth 100000
theorem AT(d:Db)(H:Nat->Hd)(c:Xs)(w:World)(h:aW w n x o L d H)(A:o.length=D)(V:d.XH.length<=1073741824) :
  Calls prog 265 #[pointer (some ⟨n,D,none⟩),string c] w fun e C=>e=returned (tuple #[])/\∃z,aW C n x o L { d with XH:=d.XH++[c] } z/\aD n w H C z:=by
 obtain⟨I,G,q,r,s⟩:=TZ kg;obtain⟨K,M,N,O,P,Q,R,S,T,U,t,v,y⟩:=h.cells D A;have p:=h.XE ((ae.refl [] w).alloc (.cells #[string c] 9));have b:=p.X9 0;go_enter func265,ntmps265;go_wp2_with (at_builtin;refine aL _ rfl (.tmp 8) (.tmp 10) 61 rfl I (string ⟨#[]⟩) 16 (H 0) (aE d.XH) underlying61 G q r s rfl TR rfl b ⟨w.heap.size,0,none⟩ 1 1 [string c] rfl rfl ?c1 ?c2 TR ?c3 ?c4 ?_)
 case c1=>intro j u l;match j,l with | 0,l=>simp at l;subst l;simp[Addr.add]
 case c2=>intro u B;simp at B;subst B;rfl
 case c3=>simp only[aE];unfold maxLen;omega
 case c4=>simp only[aE];omega
 ·intro g f W k i a;obtain⟨J,F,m⟩:=p.app (d':={ d with XH:=d.XH++[c] }) D 0 A 0 (by omega) g f ((aE d.XH).n+1) _ k (dX d.XH c) i (by simpa using a) (Ea d H _) (by omega) _ rfl (by simp[cK,iJ,aE]);simp only[Nat.add_zero]at J F m;clear p b K M N O P Q R S T U t v y k i a;go_wp2;go_end0;exact⟨rfl,_,m.o.1,m.o.2.first ((ae.refl [] w).alloc _)⟩
theorem AU(d:Db)(H:Nat->Hd)(c:Xs)(w:World)(h:aW w n x o L d H)(A:o.length=D)(U:d.XL.length<=1073741824) :
  Calls prog 268 #[pointer (some ⟨n,D,none⟩),string c] w fun e C=>e=returned (tuple #[])/\∃y,aW C n x o L { d with XL:=d.XL++[c] } y/\aD n w H C y:=by
 obtain⟨G,F,p,q,r⟩:=TZ kg;obtain⟨I,J,K,M,N,O,P,Q,R,S,s,t,v⟩:=h.cells D A;have m:=h.XE ((ae.refl [] w).alloc (.cells #[string c] 9));have b:=m.X9 4;go_enter func268,ntmps268;go_wp2_with (at_builtin;refine aL _ rfl (.tmp 8) (.tmp 10) 61 rfl G (string ⟨#[]⟩) 16 (H 4) (aE d.XL) underlying61 F p q r rfl TR rfl b ⟨w.heap.size,0,none⟩ 1 1 [string c] rfl rfl ?c1 ?c2 TR ?c3 ?c4 ?_)
 case c1=>intro j u l;match j,l with | 0,l=>simp at l;subst l;simp[Addr.add]
 case c2=>intro u B;simp at B;subst B;rfl
 case c3=>simp only[aE];unfold maxLen;omega
 case c4=>simp only[aE];omega
 ·intro g f W k i a;obtain⟨V,T,z⟩:=m.app (d':={ d with XL:=d.XL++[c] }) D 4 A 4 (by omega) g f ((aE d.XL).n+1) _ k (dX d.XL c) i (by simpa using a) (yC d H _) (by omega) _ rfl (by simp[cK,iJ,aE])
  skip
  clear m b I J K M N O P Q R S s t v k i a;go_wp2;go_end0;exact⟨rfl,_,z.o.1,z.o.2.first ((ae.refl [] w).alloc _)⟩
structure gF(d:Db)(N:Nat):Prop where
 XH:d.XH.length<=N
 XB:d.XB.length<=N
 XC:d.XC.length<=N
 XI:d.XI.length<=N
 XL:d.XL.length<=N
 XW:d.XW.length<=N
 XQ:d.XQ.length<=N
 rbl:d.rbl.length<=N
 Xz:d.Xz.length<=N
 XK:d.XK.length<=N
theorem rI:(⟨(aE m).e,(aE m).size,(aE m).n+v.length,(aE m).xs++dL v⟩:eR)=aE (m++v):=by
 simp[aE,dL]
theorem mM:∀u∈dL v,u.oneCell'=true:=by
 intro u a;simp only[dL,List.mem_map]at a;obtain⟨x,_,rfl⟩:=a;rfl
theorem uM(d:Db)(H:Nat->Hd)(w:World)(h:aW w n x o L d H)(C:o.length=D)(O:0<d.Xz.length)(E:gF d 100000000) :
  Calls prog 266 #[pointer (some ⟨n,D,none⟩),slice (H 8).ao d.Xz.length (H 8).cap] w fun e F=>e=returned (tuple #[])/\∃v,aW F n x o L { d with XB:=d.XB++d.Xz } v/\aD n w H F v:=by
 obtain⟨P,J,m,p,q⟩:=TZ kg;obtain⟨Q,R,S,T,U,V,W,X,Y,Z,r,s,t⟩:=h.cells D C;have b:=h.X9 1;have f:aB w (H 8) (aE d.Xz):=h.X9 8;have M:=E.XB;have N:=E.Xz;rcases f.XP with ⟨_,I,_⟩ | ⟨B,z,A,_⟩
 ·have:d.Xz.length=0:=I;omega
 ·rw[A];have c:Xr (∀j u,(dL d.Xz)[j]?=some u->w.cell? ((⟨B,0,none⟩:Addr).add j)=some u):=fun j u K=>by rw[bY];exact f.cell A j u K
  clear f;go_enter func266,ntmps266;go_wp2_with (at_builtin;refine aL _ rfl (.tmp 8) (.tmp 9) 61 rfl P (string ⟨#[]⟩) 16 (H 1) (aE d.XB) underlying61 J m p q rfl TR rfl b ⟨B,0,none⟩ d.Xz.length (H 8).cap (dL d.Xz) rfl ?c0 c.o (mM _) O ?c3 ?c4 ?_)
  case c0=>simp[dL,aE]
  case c3=>simp only[aE];unfold maxLen;omega
  case c4=>simp only[aE];omega
  ·intro g i w1 l k a;obtain⟨k0,f0,y⟩:=h.app (d':={ d with XB:=d.XB++d.Xz }) D 1 C 1 (by omega) g i ((aE d.XB).n+d.Xz.length) _ l (rI d.XB d.Xz) k a (yA d H _) (by omega) _ rfl (by simp[cK,iJ,aE]);clear b Q R S T U V W X Y Z r s t l k a c;go_wp2;go_end0;exact⟨rfl,_,y.o.1,y.o.2⟩
def eW(v l:Xt):Xt:=l.foldl (fun v x=>if aK v x=true then v else v++[x]) v
def eF(d:Db)(k:Nat):Db:={ d with XI:=d.XI++d.Xz,XC:=eW d.XC (d.Xz.take k) }
theorem LD:eW m (v++[w])=if aK (eW m v) w=true then eW m v else eW m v++[w]:=by
 unfold eW;rw[Vp];rfl
theorem ED(v l:Xt):(eW v l).length<=v.length+l.length:=by
 induction l generalizing v with
 | nil=>simp[eW]
 | cons x l a =>
  have:=a (if aK v x=true then v else v++[x]);have e:eW v (x :: l)=eW (if aK v x=true then v else v++[x]) l:=rfl;rw[e];have b:(if aK v x=true then v else v++[x]).length<=v.length+1:=by split <;> simp
  simp only[List.length_cons];omega
theorem pk{α:Type}(l:List α)(k:Nat)(h:k<l.length):l.take (k+1)=l.take k++[l[k]]:=by simp
theorem uN(d:Db)(H:Nat->Hd)(w:World)(h:aW w n x o L d H)(F:o.length=D)(hm:0<d.Xz.length)(hs:gF d 100000000) :
  Calls prog 267 #[pointer (some ⟨n,D,none⟩),slice (H 8).ao d.Xz.length (H 8).cap] w fun e w'=>e=returned (tuple #[])/\∃H',aW w' n x o L (eF d d.Xz.length) H'/\aD n w H w' H':=by
 obtain⟨i0,hi,I,J,K⟩:=TZ kg;obtain⟨M,N,X,O,P,Q,R,S,U,V,t,v,y⟩:=h.cells D F;have A:=h.X9 3;have l:aB w (H 8) (aE d.Xz):=h.X9 8;have ag:=hs.XI;have ai:=hs.Xz;have al:=hs.XC;rcases l.XP with ⟨_,h0,_⟩ | ⟨g8,ac,e8,_⟩
 ·have:d.Xz.length=0:=h0;omega
 ·rw[e8];have B:Xr (∀j u,(dL d.Xz)[j]?=some u->w.cell? ((⟨g8,0,none⟩:Addr).add j)=some u):=fun j u hj=>by rw[bY];exact l.cell e8 j u hj
  clear l;go_enter func267,ntmps267;go_wp2_with (at_builtin;refine aL _ rfl (.tmp 9) (.tmp 10) 61 rfl i0 (string ⟨#[]⟩) 16 (H 3) (aE d.XI) underlying61 hi I J K rfl TR rfl A ⟨g8,0,none⟩ d.Xz.length (H 8).cap (dL d.Xz) rfl ?c0 B.o (mM _) hm ?c3 ?c4 ?_)
  case c0=>simp[dL,aE]
  case c3=>simp only[aE];unfold maxLen;omega
  case c4=>simp only[aE];omega
  ·intro g p w1 r q a;obtain⟨k0,f0,C⟩:=h.app (d':=eF d 0) D 3 F 3 (by omega) g p ((aE d.XI).n+d.Xz.length) _ r (rI d.XI d.Xz) q a (v9 d H _) (by omega) _ rfl (by simp[cK,iJ,aE,eF,eW]);clear A M N X O P Q R S U V t v y r q a B;go_wp2
   go_loopg [4] d.Xz.length (fun g i wr=>∃(k:Nat) (f:Nat->Hd),k<=d.Xz.length/\g=d.Xz.length-k/\i=int i64 k/\f 8=H 8/\aW wr n x o L (eF d k) f/\aD n w H wr f)
   ·exact⟨0,_,by omega,by omega,rfl,by simp[iJ],C.o.1,C.o.2⟩
   obtain⟨k,f,hk,hg,rfl,h8,z,T⟩:=hrel;clear C k0 f0;by_cases E:k<d.Xz.length
   ·obtain⟨M,N,X,O,P,Q,R,S,U,V,t,v,y⟩:=z.cells D F;have l:aB wr (H 8) (aE d.Xz):=(by have:=z.X9 8;rw[h8]at this;exact this);have c1:=l.cell e8 k (string d.Xz[k]) (uG d.Xz k E);have G:(eF d k).XC.length<=1073741824:=by
     have:=ED d.XC (d.Xz.take k);simp only[List.length_take]at this
     show(eW d.XC (d.Xz.take k)).length<=_
     omega
    have W:Xr (eF d (k+1)=if aK (eF d k).XC d.Xz[k]=true then eF d k else { eF d k with XC:=(eF d k).XC++[d.Xz[k]] }):=by
     show eF d (k+1)=_;unfold eF;rw[pk d.Xz k E,LD];simp only;split <;> rfl
    generalize eF d k=b at *;generalize d.Xz[k]=c at *;clear M N O P Q R S U V t v y l;cases hb:aK b.XC c
    ·have Z:Xr (eF d (k+1)={ b with XC:=b.XC++[c] }):=(by show eF d (k+1)=_;rw[W.o];simp[hb]);clear W;go_wp2_with fail;go_quiet ((go_at_call 254;exact T0 (fD (f 2) b.XC c _ (z.XE (bR.drewN _) |>.X9 2) G)));obtain⟨m,s⟩:∃m,m=wr.drewN nq:=⟨_,rfl⟩
     rw[<-s];have Y:aW m n x o L b f:=by rw[s];exact z.XE (bR.drewN _)
     have T2:aD n w H m f:=(by rw[s];exact T.XE (bR.drewN _));have ad:m.cell? ⟨g8,k,none⟩=some (string c):=(by rw[s];exact c1);clear s c1 z T X;obtain⟨M,N,X,O,P,Q,R,S,U,V,t,v,y⟩:=Y.cells D F;have af:=Y.lt;clear M N O P Q R S U V t v y;have hD:Xr (aW (m.alloc (.cells #[string c] 9)).drew n x o L b f):=Y.XE ((ae.refl [] m).alloc _).drew;have s2:Xr (∀j u,([string c]:List Value)[j]?=some u->(m.alloc (.cells #[string c] 9)).drew.cell? ((⟨m.heap.size,0,none⟩:Addr).add j)=some u):=by
      intro j u hj;have hk:(m.alloc (.cells #[string c] 9)).drew.heap[m.heap.size]?=some (.cells #[string c] 9):=Tu m _;rw[bY,ah hk];simpa using hj
     have s3:Xr (∀u∈([string c]:List Value),u.oneCell'=true):=(by intro u hu;simp at hu;subst hu;rfl);have s4:Xr ((aE b.XC).n+1<=maxLen):=(by show _<=_;simp only[aE];unfold maxLen;omega);have s5:Xr (((aE b.XC).n+1)*16<=140737488355328):=(by show _<=_;simp only[aE];omega);go_wp2_with fail;go_region_law (refine dd rfl (.tmp 34) (.tmp 39) 61 rfl i0 (string ⟨#[]⟩) 16 (f 2) (aE b.XC) underlying61 hi I J K rfl TR (by simp[Act.eval] <;> rfl) (hD.o.X9 2) ⟨m.heap.size,0,none⟩ 1 1 [string c] (by simp[Act.eval]) rfl s2.o s3.o TR s4.o s5.o ?_;intro g p w1 r q a;obtain⟨k5,f5,C⟩:=hD.o.app (d':={ b with XC:=b.XC++[c] }) D 2 F 2 (by omega) g p ((aE b.XC).n+1) _ r (dX b.XC c) q (by simpa using a) (yD b f _) (by omega) _ rfl (by simp[cK,iJ,aE]);clear r q a)
     all_goals go_wp2
     all_goals
      go_roundg (d.Xz.length-(k+1))
      ·exact⟨k+1,_,by omega,rfl,by go_num,by simp[iJ,h8],by rw[Z.o];exact C.o.1,T2.trans (C.o.2.first (bR.alloc _).drew)⟩
      omega
    ·have Z:Xr (eF d (k+1)=b):=(by show eF d (k+1)=_;rw[W.o];simp[hb]);clear W;go_wp2_with fail;go_quiet ((go_at_call 254;exact T0 (fD (f 2) b.XC c _ (z.XE (bR.drewN _) |>.X9 2) G)));go_wp2;go_roundg (d.Xz.length-(k+1))
     ·exact⟨k+1,f,by omega,rfl,by go_num,h8,by rw[Z.o];exact z.XE (bR.drewN _),T.XE (bR.drewN _)⟩
     omega
   ·have e:k=d.Xz.length:=(by omega);subst e;go_wp2;go_end0;exact⟨rfl,f,z,T⟩
end Go.Proofs.YtnbhnocdhbcbcaaGreat
