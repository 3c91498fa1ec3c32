import Derived.Deep.LoopGhost
import Derived.Deep.CutRange
import Derived.Deep.CutBlock
import Derived.Deep.RegionLaw
import Derived.Test.YtnbhnocdhbcbcaaGreatK01
namespace Go.Proofs.YtnbhnocdhbcbcaaGreat
open Go.RowKit Tryz
open Value IntKind Ending
set_option maxHeartbeats 0
variable{l S y0:World}{b y y1:Nat}{M I:Xs}{N:Xv}{y3:tB}{y2:Obj}{g:Nat->Prop}{d i:List Value}{H z7:Nat->Hd}(n x:Nat)(T:Xs)(m v:Xt)(w:Xs)(k:World)(z6:List Value)(D:Nat)(o L:List Value)(zt f:Nat)
def mN:Array Value:=#[string ⟨#[]⟩,int i64 0,bool false,string ⟨#[]⟩,int i64 0,int i64 0]
theorem iJ(h:l.heap[b]?=some (.cells mN 255)) :
  l.cell? ⟨b,0,none⟩=some (string ⟨#[]⟩)/\l.cell? ⟨b,1,none⟩=some (int i64 0)/\l.cell? ⟨b,2,none⟩=some (bool false) /\
  l.cell? ⟨b,3,none⟩=some (string ⟨#[]⟩)/\l.cell? ⟨b,4,none⟩=some (int i64 0)/\l.cell? ⟨b,5,none⟩=some (int i64 0):=by
 refine⟨?_,?_,?_,?_,?_,?_⟩ <;> (rw[ah h];rfl)
theorem iD(h:ce l b M I y1)(a:b≠y)(c d e f g i:Value) :
  ce ((((((l.setCell ⟨y,0,none⟩ c).setCell ⟨y,1,none⟩ d).setCell ⟨y,2,none⟩ e).setCell ⟨y,3,none⟩ f).setCell ⟨y,4,none⟩ g).setCell ⟨y,5,none⟩ i) b M I y1:=by
 unfold ce;rw[TJ _ _ _ _ a,TJ _ _ _ _ a,TJ _ _ _ _ a,TJ _ _ _ _ a,TJ _ _ _ _ a,TJ _ _ _ _ a];exact h
theorem jb(h:ae N l S)(a:l.heap.size<=b)(c d e f g i:Value) :
  ae N l ((((((S.setCell ⟨b,0,none⟩ c).setCell ⟨b,1,none⟩ d).setCell ⟨b,2,none⟩ e).setCell ⟨b,3,none⟩ f).setCell ⟨b,4,none⟩ g).setCell ⟨b,5,none⟩ i) :=
 (((((h.setCell (TA a) _).setCell (TA a) _).setCell (TA a) _).setCell (TA a) _).setCell (TA a) _).setCell (TA a) _
set_option maxRecDepth 100000
theorem wR(hd:w.size<=1024)(hk:x<=w.size)(h:ce k n T w x) :
  Calls prog 204 #[pointer (some ⟨n,0,none⟩)] k fun e w'=>e=returned (fM T w (bQ w x).1)/\ce w' n T w (bQ w x).2/\ae [n] k w':=by
 have an:=aj h;go_enter func204,ntmps204;go_upto_block 0 with fail
 go_cut [] from 5 (fun wc=>∃j,x<=j/\j<=w.size/\Xr (j=skip w x)/\ce wc n T w j/\wc.heap[k.heap.size]?=some (.cells mN 255)/\ae [n] k wc)
 case first =>
  go_wp2_with fail
  go_loopg [] (w.size-x) (fun g wr=>∃j,x<=j/\j<=w.size/\g=w.size-j/\Xr (skip w j=skip w x)/\ce wr n T w j/\wr.heap[k.heap.size]?=some (.cells mN 255)/\ae [n] k wr)
  ·exact⟨x,Tp _,hk,rfl,rfl,ce.XQ h ((ae.refl [] k).alloc _) (by simp),Ts _ _,(ae.refl _ _).alloc _⟩
  obtain⟨j,D,hj,hg,m,i,q,a⟩:=hrel;obtain⟨L,M,N,O,P⟩:=i.cells;have r:k.heap.size∉[n]:=by simp;omega
  by_cases Q:j<w.size/\dm (aI w j)=true
  ·obtain⟨b,p⟩:=Q;have c:=p;rw[bY w j b]at c;have ag:Xr (skip w (j+1)=skip w x):=(IS w j b p).symm.trans m.o;clear p;go_wp2_with fail;go_quiet ((go_at_call 227;exact TZ (kR _ _)));go_wp2_with fail;refine(Ej n j T w _ hd b (by exact i)).mono ?_;rintro e w1 ⟨rfl,u,l⟩;go_wp2;go_roundg (w.size-(j+1))
   ·exact⟨j+1,by omega,by omega,rfl,ag,u,l.get (by exact q) r,(a.drewN nq).trans l⟩
   omega
  ·have ac:Xr (j=skip w x):=(m.o.symm.trans (uB w j Q)).symm;have C:(j<w.size/\∃h:j<w.size,dm ((w[j]'h).toNat:Int)=false)∨(¬j<w.size/\decide ((j:Int)<(w.size:Int))=false):=by
    by_cases b:j<w.size
    ·refine TG ⟨b,b,?_⟩;rw[<-bY w j b];simpa using fun h=>Q ⟨b,h⟩
    ·exact TA ⟨b,by simp;omega⟩
   clear Q m;rcases C with ⟨b,ai,c⟩ | ⟨b,c⟩
   all_goals
    go_wp2_with fail;go_quiet ((go_at_call 227;exact TZ (kR _ _)));go_wp2_with fail;go_meet
    case rel=>exact⟨j,D,hj,ac,by exact i,by exact q,a.drewN _⟩
 case rest =>
  obtain⟨j,D,hj,Y,i,q,a⟩:=hcut;have r:k.heap.size∉[n]:=by simp;omega
  go_wp2_with fail;refine(Ag n j T w _ (by exact i)).mono ?_;rintro e s ⟨rfl,l⟩;have u:ce s n T w j:=ce.XQ (by exact i) l (by simp);have af:=l.get (by exact q) (by simp);have E:=a.trans (l.mono (by simp));have al:=aj u;clear i q a l;obtain⟨L,M,N,O,P⟩:=u.cells;go_wp2
  go_loopg [] (w.size-j) (fun g wr=>∃z,j<=z/\z<=w.size/\g=w.size-z/\Xr (de w z=de w j)/\ce wr n T w z/\wr.heap[k.heap.size]?=some (.cells mN 255) /\
   wr.heap[s.heap.size]?=some (.cells #[string T,int i64 (aU w j),int i64 (bJ w j)] 36)/\ae [n] k wr)
  ·exact⟨j,Tp _,hj,rfl,rfl,u.XQ ((ae.refl [] s).alloc _) (by simp),((ae.refl [] s).alloc _).get af (by simp),Ts _ _,E.alloc _⟩
  clear L M N O P;obtain⟨z,ao,hz,hg,m,i,q,A,a⟩:=hrel;obtain⟨L,M,N,O,P⟩:=i.cells;have e0:wr.cell? ⟨s.heap.size,0,none⟩=some (string T):=by rw[ah A];rfl
  have e1:wr.cell? ⟨s.heap.size,1,none⟩=some (int i64 (aU w j)):=by rw[ah A];rfl
  have e2:wr.cell? ⟨s.heap.size,2,none⟩=some (int i64 (bJ w j)):=by rw[ah A];rfl
  rcases LJ w z with ⟨f,c,H,J⟩ | ⟨f,c,H⟩ | ⟨f,c⟩ | ⟨f,c⟩
  ·have HS:Xr (de w (z+1)=de w j):=J.trans m.o;clear m J;go_wp2_with fail;go_quiet ((go_at_call 227;exact TZ (kR _ _)));go_wp2_with fail;go_quiet ((go_at_call 230;exact NI (qd _ _)));go_wp2_with fail;refine(Ej n z T w _ hd f (by exact i)).mono ?_;rintro e w3 ⟨rfl,Z,d⟩;go_wp2;go_roundg (w.size-(z+1))
   ·exact⟨z+1,by omega,by omega,rfl,HS,Z,d.get (by exact q) r,d.get (by exact A) (by simp;omega),((a.drewN _).trans d)⟩
   omega
  ·have t:Xr (bQ w x=(⟨⟨#[]⟩,1,false,z⟩,z)):=Eb w x j z Y.o m.o f (by rw[bY w z f];exact c) (by rw[bY w z f];exact H);clear m;go_wp2_with fail;go_quiet ((go_at_call 227;exact TZ (kR _ _)));go_wp2_with fail;go_quiet ((go_at_call 230;exact NI (qd _ _)));go_wp2_with fail;refine(Ag n z T w _ (by exact i)).mono ?_;rintro e w3 ⟨rfl,d⟩;have Z:ce w3 n T w z:=ce.XQ (by exact i) d (by simp);have I:=d.get (by exact q) (by simp);have F:=(a.drewN _).trans (d.mono (by simp));clear L M N O P i q a d A e0 e1 e2;obtain⟨R,S,U,V,W,X⟩:=iJ I;have y:=am I;go_wp2;exact Ty (v:=fM T w ⟨⟨#[]⟩,1,false,z⟩) (by simp[results,results204,go_sem,fM,R,S,U,V,W,X]) rfl
    (by rw[t.o];exact⟨rfl,iD Z (by omega) _ _ _ _ _ _,jb F (Tp _) _ _ _ _ _ _⟩)
  all_goals
   have K:¬(z<w.size/\dm (aI w z)=false):=by
    rintro ⟨G,B⟩
    first
     | (rw[bY w z G,c]at B;cases B)
     | exact f G
   obtain⟨R,S,U,V,W,X⟩:=iJ q;have y:=am q;by_cases ad:j<z
   ·have t:Xr (bQ w x=(⟨w.extract j z,0,false,j⟩,z)):=An w x j z Y.o m.o K ad;clear m K;go_wp2_with fail;go_quiet ((go_at_call 227;exact TZ (kR _ _)));go_wp2_with fail;go_quiet (fail);go_wp2_with fail;go_region
    all_goals go_wp2
    exact Ty (v:=fM T w ⟨w.extract j z,0,false,j⟩) (by simp[results,results204,go_sem,fM,R,S,U,V,W,X]) rfl
     (by rw[t.o];exact⟨rfl,iD (by exact i) (by omega) _ _ _ _ _ _,jb (a.drewN _) (Tp _) _ _ _ _ _ _⟩)
   ·have t:Xr (bQ w x=(⟨⟨#[]⟩,0,true,j⟩,z)):=Ec w x j z Y.o m.o K (by omega);clear m K;go_wp2_with fail;go_quiet ((go_at_call 227;exact TZ (kR _ _)));go_wp2_with fail;go_quiet (fail);go_wp2;exact Ty (v:=fM T w ⟨⟨#[]⟩,0,true,j⟩) (by simp[results,results204,go_sem,fM,R,S,U,V,W,X]) rfl
     (by rw[t.o];exact⟨rfl,iD (by exact i) (by omega) _ _ _ _ _ _,jb (a.drewN _) (Tp _) _ _ _ _ _ _⟩)
def aM(i:tB):Bool:=i.X3==0 && !i.XX
set_option maxRecDepth 512
theorem dj(r l c:Int)(f:Bool)(a:World) :
    Calls prog 157 #[agg #[string T,int i64 r,bool f,string w,int i64 l,int i64 c]] a fun e b=>e=returned (bool (r==0 && !f))/\ae [] a b:=by
  cases d:(r==0)
  all_goals
    go_enter func157,ntmps157;go_wp2;go_ret;exact⟨aF (by simp),(ae.refl _ _).alloc _⟩
def dC(s:Xs):Bool:=(List.range s.size).any (fun i=>aI s i==36)
def lg(s:Xs):Bool:=(List.range s.size).any (fun i=>decide (1<=i)&&(aI s (i-1)==36)&&((aI s i==40)||(aI s i==41)))
theorem na{p:Nat->Bool}(h:f<b)(a:p f=true):(List.range b).any p=true:=by
  rw[Us];exact⟨f,by simpa using h,a⟩
theorem uP{p:Nat->Bool}(h:∀i,i<b->p i=false):(List.range b).any p=false:=by
  rw[V8];intro i a;simp[h i (by simpa using a)]
theorem fa(p:w.size<=1073741824) :
    Calls prog 232 #[string w] k fun e l=>e=returned (bool (dC w))/\l=k:=by
  go_enter func232,ntmps232;go_wp2
  go_loopg [3] w.size (fun g i wr=>∃a:Nat,a<=w.size/\g=w.size-a/\i=int i64 a/\Xr (∀i,i<a->(aI w i==36)=false)/\wr=k)
  · exact⟨0,by omega,by omega,rfl,fun i h=>by omega,rfl⟩
  obtain⟨a,n,m,rfl,b,rfl⟩:=hrel;by_cases c:a<w.size
  · cases f:((w[a].toNat:Int)==36)
    · go_wp2
      go_roundg (w.size-(a+1))
      · refine⟨a+1,by omega,rfl,by go_num,?_,rfl⟩
        intro i j;by_cases e:i=a
        · subst e;rw[bY w i c];exact f
        · exact b.o i (by omega)
      omega
    · have d:Xr (dC w=true):=na a c (by rw[bY w a c];exact f)
      go_wp2;go_ret;exact⟨aF d.o.symm,rfl⟩
  · have d:Xr (dC w=false):=uP (fun i j=>b.o i (by omega))
    go_wp2;go_ret;exact⟨aF d.o.symm,rfl⟩
theorem vM(x:w.size<=1073741824) :
    Calls prog 231 #[string w] k fun e s=>e=returned (bool (lg w))/\s=k:=by
  go_enter func231,ntmps231;go_wp2
  go_loopg [3] (w.size-1) (fun g i wr=>∃a:Nat,1<=a/\(a<=w.size∨a=1)/\g=w.size-a/\i=int i64 a/\Xr (∀i,i<a->1<=i->((aI w (i-1)==36)&&((aI w i==40)||(aI w i==41)))=false)/\wr=k)
  · exact⟨1,by omega,by omega,rfl,rfl,fun i h t=>by omega,rfl⟩
  obtain⟨a,l,v,u,rfl,c,rfl⟩:=hrel;by_cases d:a<w.size
  · have f:a-1<w.size:=by omega
    have n:∀b:Bool,(((w[a-1].toNat:Int)==36)&&(((w[a].toNat:Int)==40)||((w[a].toNat:Int)==41)))=b->((aI w (a-1)==36)&&((aI w a==40)||(aI w a==41)))=b :=
      fun b h=>by rw[bY w a d,bY w (a-1) f];exact h
    have m:Xr (∀b:Bool,(((w[a-1].toNat:Int)==36)&&(((w[a].toNat:Int)==40)||((w[a].toNat:Int)==41)))=b->((aI w (a-1)==36)&&((aI w a==40)||(aI w a==41)))=b):=n;clear n;go_wp2
    all_goals first
      | (go_ret
         refine⟨aF ?_,rfl⟩;refine(na (p:=fun i=>decide (1<=i)&&(aI w (i-1)==36)&&((aI w i==40)||(aI w i==41))) a d ?_).symm;have:=m.o true (by simp_all);simp only[Bool.and_assoc,this];simp[l])
      | (go_roundg (w.size-(a+1))
         case measure=>omega
         case rel =>
           refine⟨a+1,by omega,by omega,rfl,by go_num,?_,rfl⟩;intro i r j;by_cases e:i=a
           · subst e;exact m.o false (by simp_all)
           · exact c.o i (by omega) j)
  · have q:Xr (lg w=false):=uP (fun i r=>by
      by_cases j:1<=i
      · have:=c.o i (by omega) j;simp only[Bool.and_assoc,this];simp
      · simp[j])
    go_wp2;go_ret;exact⟨aF q.o.symm,rfl⟩
theorem ik(h:f<=w.size):f<=(bQ w f).2/\(bQ w f).2<=w.size/\(aM (bQ w f).1=true->f<(bQ w f).2):=by
 have a:=BY w f h;have b:=tu w (skip w f) a.2;unfold bQ;simp only;split
 ·exact⟨by omega,b.2,by simp[aM]⟩
 ·split
  ·exact⟨by omega,b.2,by simp[aM]⟩
  ·exact⟨by simp only;omega,b.2,fun _=>by simp only;omega⟩
def ci(d:Xs):Nat->Nat->tB×Nat
 | 0,k=>(⟨⟨#[]⟩,3,false,k⟩,k)
 | f+1,k =>
  if aM (bQ d k).1=true/\¬(bQ d k).1.text.toList=[36,41] then
   if lg (bQ d k).1.text=true then(⟨⟨#[]⟩,2,false,(bQ d k).1.pos⟩,(bQ d k).2) else ci d f (bQ d k).2
  else if(bQ d k).1.XX=true then(⟨⟨#[]⟩,3,false,(bQ d k).1.pos⟩,(bQ d k).2) else bQ d k
def bh(d:Xs)(k:Nat):tB×Nat:=ci d (d.size-k+1) k
theorem xm(f k:Nat)(a:k<=w.size)(b:w.size-k+1<=f):ci w f k=bh w k:=by
 unfold bh
 suffices h:∀f g k,k<=w.size->w.size-k+1<=f->w.size-k+1<=g->ci w f k=ci w g k from h _ _ _ a b (Tp _)
 clear b a f k;intro f
 induction f with
 | zero=>intro g k _ h;omega
 | succ f e =>
  intro g k a b i;cases g with
  | zero=>omega
  | succ g =>
   rw[ci,ci];split
   ·next h =>
    have c:=ik w k a;have d:=c.2.2 h.1;split
    ·rfl
    ·exact e g (bQ w k).2 c.2.1 (by omega) (by omega)
   ·rfl
theorem xn(e:f<=w.size)(a:aM (bQ w f).1=true)(c:((bQ w f).1.text.toList == [36,41])=false)(d:lg (bQ w f).1.text=false):bh w f=bh w (bQ w f).2:=by
 have b:=ik w f e;have g:=b.2.2 a
 conv=>lhs;unfold bh
 rw[ci,Tq ⟨a,by simpa using c⟩,To (by simp[d]),xm w _ _ b.2.1 (by omega)]
theorem tN(a:aM (bQ w f).1=true)(b:((bQ w f).1.text.toList == [36,41])=false)(c:lg (bQ w f).1.text=true):bh w f=(⟨⟨#[]⟩,2,false,(bQ w f).1.pos⟩,(bQ w f).2):=by
 unfold bh;rw[ci,Tq ⟨a,by simpa using b⟩,Tq c]
theorem tO(a:aM (bQ w f).1=false)(b:(bQ w f).1.XX=true):bh w f=(⟨⟨#[]⟩,3,false,(bQ w f).1.pos⟩,(bQ w f).2):=by
 unfold bh;rw[ci,To (by simp[a]),Tq b]
theorem vQ(a:aM (bQ w f).1=false)(b:(bQ w f).1.XX=false):bh w f=bQ w f:=by
 unfold bh;rw[ci,To (by simp[a]),To (by simp[b])]
theorem rX(a:aM (bQ w f).1=true)(b:((bQ w f).1.text.toList == [36,41])=true):bh w f=bQ w f:=by
 unfold bh;rw[ci,To (by intro h;exact h.2 (by simpa using b))];rw[To (by intro h;simp[aM,h]at a)]
theorem jE(k:Nat)(b:k<=w.size):k<=(bh w k).2/\(bh w k).2<=w.size:=by
 unfold bh
 suffices h:∀f k,k<=w.size->k<=(ci w f k).2/\(ci w f k).2<=w.size from h _ _ b
 clear b k;intro f
 induction f with
 | zero=>intro k b;simp[ci,b]
 | succ f c =>
  intro k b;have a:=ik w k b;rw[ci];split
  ·split
   ·exact⟨a.1,a.2.1⟩
   ·have:=c (bQ w k).2 a.2.1;omega
  ·split
   ·exact⟨a.1,a.2.1⟩
   ·exact⟨a.1,a.2.1⟩
def dY(d:Xs):Nat->Nat->tB×Nat
 | 0,k=>(⟨⟨#[]⟩,0,true,k⟩,k)
 | f+1,k =>
  if aM (bQ d k).1=true/\(bQ d k).1.text.toList=[36,40] then
   if aM (bh d (bQ d k).2).1=true then dY d f (bh d (bQ d k).2).2 else bh d (bQ d k).2
  else bQ d k
def aC(d:Xs)(k:Nat):tB×Nat:=dY d (d.size-k+1) k
theorem DD(f k:Nat)(a:k<=w.size)(b:w.size-k+1<=f):dY w f k=aC w k:=by
 unfold aC
 suffices h:∀f g k,k<=w.size->w.size-k+1<=f->w.size-k+1<=g->dY w f k=dY w g k from h _ _ _ a b (Tp _)
 clear b a f k;intro f
 induction f with
 | zero=>intro g k _ h;omega
 | succ f i =>
  intro g k a b j;cases g with
  | zero=>omega
  | succ g =>
   rw[dY,dY];split
   ·next h =>
    have c:=ik w k a;have e:=c.2.2 h.1;have d:=jE w (bQ w k).2 c.2.1;split
    ·exact i g _ d.2 (by omega) (by omega)
    ·rfl
   ·rfl
theorem IE(g:f<=w.size)(a:aM (bQ w f).1=true)(c:((bQ w f).1.text.toList == [36,40])=true)(d:aM (bh w (bQ w f).2).1=true) :
  aC w f=aC w (bh w (bQ w f).2).2:=by
 have b:=ik w f g;have i:=b.2.2 a;have e:=jE w (bQ w f).2 b.2.1
 conv=>lhs;unfold aC
 rw[dY,Tq ⟨a,by simpa using c⟩,Tq d,DD w _ _ e.2 (by omega)]
theorem vY(a:aM (bQ w f).1=true)(b:((bQ w f).1.text.toList == [36,40])=true)(c:aM (bh w (bQ w f).2).1=false) :
  aC w f=bh w (bQ w f).2:=by
 unfold aC;rw[dY,Tq ⟨a,by simpa using b⟩,To (by simp[c])]
theorem sV(h:aM (bQ w f).1=false∨((bQ w f).1.text.toList == [36,40])=false):aC w f=bQ w f:=by
 unfold aC;rw[dY,To (by rintro ⟨a,b⟩;rcases h with h | h;simp[h]at a;simp[b]at h)]
theorem go(k:Nat)(a:k<=w.size):k<=(aC w k).2/\(aC w k).2<=w.size/\(aM (aC w k).1=true->k<(aC w k).2):=by
 unfold aC
 suffices h:∀f k,k<=w.size->k<=(dY w f k).2/\(dY w f k).2<=w.size/\(aM (dY w f k).1=true->k<(dY w f k).2) from h _ _ a
 clear a k;intro f
 induction f with
 | zero=>intro k a;simp[dY,a,aM]
 | succ f e =>
  intro k a;have b:=ik w k a;have c:=jE w (bQ w k).2 b.2.1;rw[dY];split
  ·next h =>
   have d:=b.2.2 h.1;split
   ·have:=e (bh w (bQ w k).2).2 c.2;omega
   ·omega
  ·exact b
def jX(w:World)(r:Nat)(n d:Xs)(i:tB):Prop :=
 w.heap[r]?=some (.cells #[string i.text,int i64 i.X3,bool i.XX,string n,int i64 (aU d i.pos),int i64 (bJ d i.pos)] 255)
theorem jX.cells{t:Xs}{u:Int}{f:Bool}(h:jX l b M I ⟨t,u,f,y⟩) :
  l.cell? ⟨b,0,none⟩=some (string t)/\l.cell? ⟨b,1,none⟩=some (int i64 u)/\l.cell? ⟨b,2,none⟩=some (bool f) /\
  l.cell? ⟨b,3,none⟩=some (string M)/\l.cell? ⟨b,4,none⟩=some (int i64 (aU I y))/\l.cell? ⟨b,5,none⟩=some (int i64 (bJ I y)):=by
 refine⟨?_,?_,?_,?_,?_,?_⟩ <;> (rw[ah h];rfl)
theorem jX.XQ(h:jX l b M I y3)(c:ae N l S)(a:b∉N):jX S b M I y3:=c.get h a
theorem qF(h:jX l b M I y3)(j:tB) :
  jX ((((((l.setCell ⟨b,0,none⟩ (string j.text)).setCell ⟨b,1,none⟩ (int i64 j.X3)).setCell ⟨b,2,none⟩ (bool j.XX)).setCell ⟨b,3,none⟩ (string M)).setCell ⟨b,4,none⟩ (int i64 (aU I j.pos))).setCell ⟨b,5,none⟩ (int i64 (bJ I j.pos))) b M I j:=by
 have:=ab (ab (ab (ab (ab (ab h 0 (string j.text)) 1 (int i64 j.X3)) 2 (bool j.XX)) 3 (string M)) 4 (int i64 (aU I j.pos))) 5 (int i64 (bJ I j.pos));unfold jX;rw[this];simp
theorem vx(h:l.heap[b]?=some y2)(a:b≠y)(c d e f g i:Value) :
  ((((((l.setCell ⟨y,0,none⟩ c).setCell ⟨y,1,none⟩ d).setCell ⟨y,2,none⟩ e).setCell ⟨y,3,none⟩ f).setCell ⟨y,4,none⟩ g).setCell ⟨y,5,none⟩ i).heap[b]?=some y2:=by
 rw[TJ _ _ _ _ a,TJ _ _ _ _ a,TJ _ _ _ _ a,TJ _ _ _ _ a,TJ _ _ _ _ a,TJ _ _ _ _ a];exact h
theorem rJ(a:w.size<=1024):(bQ w f).1.text.size<=1024:=by
 unfold bQ;simp only;split
 ·simp[ByteArray.size]
 ·split
  ·simp[ByteArray.size]
  ·simp;omega
set_option maxRecDepth 100000
theorem vP(hd:w.size<=1024)(hk:x<=w.size)(h:ce k n T w x) :
  Calls prog 205 #[pointer (some ⟨n,0,none⟩)] k fun e w'=>e=returned (fM T w (bh w x).1)/\ce w' n T w (bh w x).2/\ae [n] k w':=by
 have ao:=aj h;go_enter func205,ntmps205;go_wp2_with fail;refine(wR n x T w _ hd hk (by exact h.XQ (kr0.alloc _) (by simp))).mono ?_;rintro e w1 ⟨rfl,h1,Y⟩;have ac:w1.heap[k.heap.size]?=some (.cells mN 255):=Y.get (Ts _ _) (by simp;omega);have ad:ae [n] k w1:=((ae.refl _ _).alloc _).trans Y;have an:=aj h1;have al:=aj ac;simp only[fM];go_wp2
 go_loopg [] (w.size-x) (fun g wr=>∃j,j<=w.size/\g=w.size-j/\Xr (bh w x=bh w j)/\ce wr n T w (bQ w j).2/\jX wr w1.heap.size T w (bQ w j).1/\wr.heap[k.heap.size]?=some (.cells mN 255)/\ae [n] k wr)
 ·exact⟨x,hk,rfl,rfl,h1.XQ (kr0.alloc _) (by simp),Ts _ _,(kr0.alloc _).get ac (by simp),ad.alloc _⟩
 obtain⟨j,hj,hg,hs,E,m,F,i⟩:=hrel;have H:=ik w j hj;have ag:=rJ w j hd;have S:Xr (_->_->_->bh w j=_):=xn w j hj;have U:Xr (_->_->_->bh w j=_):=tN w j;have V:Xr (_->_->bh w j=_):=tO w j;have W:Xr (_->_->bh w j=_):=vQ w j;have X:Xr (_->_->bh w j=_):=rX w j;generalize hrr:bQ w j=r at *;obtain⟨⟨t,u,f,p⟩,z⟩:=r;have HR:Xr (bQ w j=(⟨t,u,f,p⟩,z)):=hrr;clear hrr;simp only at E m H ag;obtain⟨q,s,A,B,C,D⟩:=m.cells;cases I:(u==0 && !f)
 ·cases J:f
  ·have G:Xr (bh w j=(⟨t,u,false,p⟩,z)):=(by have:=W.o (by simpa [aM] using I) J;rw[J]at this;exact this);subst J;have ai:(u==0)=false:=by simpa using I
   clear S U V W X;go_wp2_with fail;refine(dj t T u (aU w p) (bJ w p) _ _).mono ?_;rintro e w2 ⟨rfl,a⟩;have d:=m.XQ a (by simp);have l:=E.XQ a (by simp);have c:=a.get F (by simp);have b:=i.trans (a.mono (by simp));clear q s A B C D m E F i a;obtain⟨q,s,A,B,C,D⟩:=d.cells;obtain⟨M,N,O,P,Q,R⟩:=iJ c;have y:=am c;go_wp2;exact Ty (v:=fM T w ⟨t,u,false,p⟩) (by simp[results,results205,go_sem,fM,M,N,O,P,Q,R]) rfl
    (by rw[hs.o,G.o];exact⟨rfl,iD l (by omega) _ _ _ _ _ _,jb b (Tp _) _ _ _ _ _ _⟩)
  ·have G:Xr (bh w j=(⟨⟨#[]⟩,3,false,p⟩,z)):=V.o (by simpa [aM] using I) J;subst J;clear S U V W X;go_wp2_with fail;refine(dj t T u (aU w p) (bJ w p) _ _).mono ?_;rintro e w2 ⟨rfl,a⟩;have d:=m.XQ a (by simp);have l:=E.XQ a (by simp);have c:=a.get F (by simp);have b:=i.trans (a.mono (by simp));clear q s A B C D m E F i a;obtain⟨q,s,A,B,C,D⟩:=d.cells;obtain⟨M,N,O,P,Q,R⟩:=iJ c;have y:=am c;go_wp2;exact Ty (v:=fM T w ⟨⟨#[]⟩,3,false,p⟩) (by simp[results,results205,go_sem,fM,M,N,O,P,Q,R]) rfl
    (by rw[hs.o,G.o];exact⟨rfl,iD l (by omega) _ _ _ _ _ _,jb b (Tp _) _ _ _ _ _ _⟩)
 ·cases hx:(t.toList == [36,41])
  ·cases hy:lg t
   ·have G:Xr (bh w j=bh w z):=S.o I hx hy;clear S U V W X;go_wp2_with fail;refine(dj t T u (aU w p) (bJ w p) _ _).mono ?_;rintro e w2 ⟨rfl,a⟩;have d:=m.XQ a (by simp);have l:=E.XQ a (by simp);have c:=a.get F (by simp);have b:=i.trans (a.mono (by simp));clear q s A B C D m E F i a;obtain⟨q,s,A,B,C,D⟩:=d.cells;go_wp2_with fail;refine(vM t _ (by omega)).mono ?_;rintro e w3 ⟨rfl,rfl⟩;go_wp2_with fail;refine(wR n z T w _ hd H.2.1 l).mono ?_;rintro e w4 ⟨rfl,h4,L⟩;have K:=d.XQ L (by simp;omega);have af:=L.get c (by simp;omega);have Z:=b.trans L;have yy:=am K;clear q s A B C D;obtain⟨q,s,A,B,C,D⟩:=K.cells;simp only[fM];go_wp2;go_roundg (w.size-z)
    case measure=>have:=H.2.2 I;omega
    case rel=>exact⟨z,H.2.1,rfl,hs.o.trans G.o,iD h4 (by omega) _ _ _ _ _ _,qF K _,vx af (by omega) _ _ _ _ _ _,jb Z (by omega) _ _ _ _ _ _⟩
   ·have G:Xr (bh w j=(⟨⟨#[]⟩,2,false,p⟩,z)):=U.o I hx hy;clear S U V W X;go_wp2_with fail;refine(dj t T u (aU w p) (bJ w p) _ _).mono ?_;rintro e w2 ⟨rfl,a⟩;have d:=m.XQ a (by simp);have l:=E.XQ a (by simp);have c:=a.get F (by simp);have b:=i.trans (a.mono (by simp));clear q s A B C D m E F i a;obtain⟨q,s,A,B,C,D⟩:=d.cells;go_wp2_with fail;refine(vM t _ (by omega)).mono ?_;rintro e w3 ⟨rfl,rfl⟩;obtain⟨M,N,O,P,Q,R⟩:=iJ c;have y:=am c;go_wp2;exact Ty (v:=fM T w ⟨⟨#[]⟩,2,false,p⟩) (by simp[results,results205,go_sem,fM,M,N,O,P,Q,R]) rfl
     (by rw[hs.o,G.o];exact⟨rfl,iD l (by omega) _ _ _ _ _ _,jb b (Tp _) _ _ _ _ _ _⟩)
  ·have G:Xr (bh w j=(⟨t,u,f,p⟩,z)):=X.o I hx;clear S U V W X;have J:f=false:=by cases f;rfl;simp at I
   subst J;have ai:(u==0)=true:=by simpa using I
   go_wp2_with fail;refine(dj t T u (aU w p) (bJ w p) _ _).mono ?_;rintro e w2 ⟨rfl,a⟩;have d:=m.XQ a (by simp);have l:=E.XQ a (by simp);have c:=a.get F (by simp);have b:=i.trans (a.mono (by simp));clear q s A B C D m E F i a;obtain⟨q,s,A,B,C,D⟩:=d.cells;obtain⟨M,N,O,P,Q,R⟩:=iJ c;have y:=am c;go_wp2;exact Ty (v:=fM T w ⟨t,u,false,p⟩) (by simp[results,results205,go_sem,fM,M,N,O,P,Q,R]) rfl
    (by rw[hs.o,G.o];exact⟨rfl,iD l (by omega) _ _ _ _ _ _,jb b (Tp _) _ _ _ _ _ _⟩)
theorem ue(hd:w.size<=1024)(hk:x<=w.size)(h:ce k n T w x) :
  Calls prog 156 #[pointer (some ⟨n,0,none⟩)] k fun e w'=>e=returned (fM T w (aC w x).1)/\ce w' n T w (aC w x).2/\ae [n] k w':=by
 have av:=aj h;go_enter func156,ntmps156;go_wp2_with fail;refine(wR n x T w _ hd hk (by exact h.XQ (kr0.alloc _) (by simp))).mono ?_;rintro e w1 ⟨rfl,h1,af⟩;have ai:w1.heap[k.heap.size]?=some (.cells mN 255):=af.get (Ts _ _) (by simp;omega);have al:ae [n] k w1:=((ae.refl _ _).alloc _).trans af;have ar:=aj h1;have ap:=aj ai;simp only[fM];go_wp2
 go_loopg [4] (w.size-x) (fun g _ wr=>∃j,j<=w.size/\g=w.size-j/\Xr (aC w x=aC w j)/\ce wr n T w (bQ w j).2/\jX wr w1.heap.size T w (bQ w j).1/\wr.heap[k.heap.size]?=some (.cells mN 255)/\ae [n] k wr)
 ·exact⟨x,hk,rfl,rfl,h1.XQ (kr0.alloc _) (by simp),Ts _ _,(kr0.alloc _).get ai (by simp),al.alloc _⟩
 obtain⟨j,hj,hg,hs,N,L,Q,s⟩:=hrel;have E:=ik w j hj;have ao:=rJ w j hd;have L1:Xr (_->_->_->aC w j=_):=IE w j hj;have L2:Xr (_->_->_->aC w j=_):=vY w j;have L3:Xr (_->aC w j=_):=sV w j;generalize hrr:bQ w j=r at *;obtain⟨⟨t,u,f,p⟩,z⟩:=r;clear hrr;simp only at N L E ao;obtain⟨F,G,H,I,J,K⟩:=L.cells;cases hw:(u==0 && !f)
 ·have R:Xr (aC w j=(⟨t,u,f,p⟩,z)):=L3.o (TG hw);clear L1 L2 L3;go_wp2_with fail;refine(dj t T u (aU w p) (bJ w p) _ _).mono ?_;rintro e w2 ⟨rfl,a⟩;have i:=L.XQ a (by simp);have m:=N.XQ a (by simp);have l:=a.get Q (by simp);have b:=s.trans (a.mono (by simp));clear F G H I J K L N Q s a;obtain⟨F,G,H,I,J,K⟩:=i.cells;obtain⟨z0,z1,z2,z3,z4,z5⟩:=iJ l;have y:=am l;go_wp2;exact Ty (v:=fM T w ⟨t,u,f,p⟩) (by simp[results,results156,go_sem,fM,z0,z1,z2,z3,z4,z5]) rfl
   (by rw[hs.o,R.o];exact⟨rfl,iD m (by omega) _ _ _ _ _ _,jb b (Tp _) _ _ _ _ _ _⟩)
 ·cases hx:(t.toList == [36,40])
  ·have R:Xr (aC w j=(⟨t,u,f,p⟩,z)):=L3.o (TA hx);clear L1 L2 L3;go_wp2_with fail;refine(dj t T u (aU w p) (bJ w p) _ _).mono ?_;rintro e w2 ⟨rfl,a⟩;have i:=L.XQ a (by simp);have m:=N.XQ a (by simp);have l:=a.get Q (by simp);have b:=s.trans (a.mono (by simp));clear F G H I J K L N Q s a;obtain⟨F,G,H,I,J,K⟩:=i.cells;obtain⟨z0,z1,z2,z3,z4,z5⟩:=iJ l;have y:=am l;go_wp2;exact Ty (v:=fM T w ⟨t,u,f,p⟩) (by simp[results,results156,go_sem,fM,z0,z1,z2,z3,z4,z5]) rfl
    (by rw[hs.o,R.o];exact⟨rfl,iD m (by omega) _ _ _ _ _ _,jb b (Tp _) _ _ _ _ _ _⟩)
  ·have V:=jE w z E.2.1;have L4:Xr (_->aC w j=aC w _):=fun h=>L1.o hw hx h;have L5:Xr (_->aC w j=_):=fun h=>L2.o hw hx h;clear L1 L2 L3;generalize hcc:bh w z=c at *;obtain⟨⟨S,P,Z,M⟩,cz⟩:=c;have HC:Xr (bh w z=(⟨S,P,Z,M⟩,cz)):=hcc;clear hcc;simp only at V;cases ac:(P==0 && !Z)
   ·have R:Xr (aC w j=(⟨S,P,Z,M⟩,cz)):=L5.o ac;clear L4 L5;go_wp2_with fail;refine(dj t T u (aU w p) (bJ w p) _ _).mono ?_;rintro e w2 ⟨rfl,a⟩;have i:=L.XQ a (by simp);have m:=N.XQ a (by simp);have l:=a.get Q (by simp);have b:=s.trans (a.mono (by simp));clear F G H I J K L N Q s a;obtain⟨F,G,H,I,J,K⟩:=i.cells;go_wp2_with fail;refine(vP n z T w _ hd E.2.1 m).mono ?_;rintro e w3 ⟨rfl,h3,q⟩;have B:=i.XQ q (by simp;omega);have D:=q.get l (by simp;omega);have A:=b.trans q;simp only[fM];rw[HC.o];simp only;go_wp2_with fail;refine(dj S T P (aU w M) (bJ w M) _ _).mono ?_;rintro e w4 ⟨rfl,d⟩;have Y:jX w4 w3.heap.size T w ⟨S,P,Z,M⟩:=d.get (Ts _ _) (by simp);have ad:=(B.XQ (kr0.alloc _) (by simp)).XQ d (by simp);have U:=(h3.XQ (kr0.alloc _) (by simp)).XQ d (by simp);have O:=d.get ((kr0.alloc _).get D (by simp)) (by simp);have C:=(A.alloc _).trans (d.mono (by simp));rw[HC.o]at U;simp only at U;clear F G H I J K i l b d B D A q h3 m;obtain⟨p0,p1,p2,p3,p4,p5⟩:=Y.cells;obtain⟨z0,z1,z2,z3,z4,z5⟩:=iJ O;have y:=am O;go_wp2;exact Ty (v:=fM T w ⟨S,P,Z,M⟩) (by simp[results,results156,go_sem,fM,z0,z1,z2,z3,z4,z5]) rfl
     (by rw[hs.o,R.o];exact⟨rfl,iD U (by omega) _ _ _ _ _ _,jb C (Tp _) _ _ _ _ _ _⟩)
   ·have R:Xr (aC w j=aC w cz):=L4.o ac;clear L4 L5;go_wp2_with fail;refine(dj t T u (aU w p) (bJ w p) _ _).mono ?_;rintro e w2 ⟨rfl,a⟩;have i:=L.XQ a (by simp);have m:=N.XQ a (by simp);have l:=a.get Q (by simp);have b:=s.trans (a.mono (by simp));clear F G H I J K L N Q s a;obtain⟨F,G,H,I,J,K⟩:=i.cells;go_wp2_with fail;refine(vP n z T w _ hd E.2.1 m).mono ?_;rintro e w3 ⟨rfl,h3,q⟩;have B:=i.XQ q (by simp;omega);have D:=q.get l (by simp;omega);have A:=b.trans q;simp only[fM];rw[HC.o];simp only;go_wp2_with fail;refine(dj S T P (aU w M) (bJ w M) _ _).mono ?_;rintro e w4 ⟨rfl,d⟩;have Y:jX w4 w3.heap.size T w ⟨S,P,Z,M⟩:=d.get (Ts _ _) (by simp);have ad:=(B.XQ (kr0.alloc _) (by simp)).XQ d (by simp);have U:=(h3.XQ (kr0.alloc _) (by simp)).XQ d (by simp);have O:=d.get ((kr0.alloc _).get D (by simp)) (by simp);have C:=(A.alloc _).trans (d.mono (by simp));rw[HC.o]at U;simp only at U;clear F G H I J K i l b d B D A q h3 m;obtain⟨p0,p1,p2,p3,p4,p5⟩:=Y.cells;go_wp2_with fail;refine(wR n cz T w _ hd V.2 U).mono ?_;rintro e w5 ⟨rfl,h5,X⟩;have W:=ad.XQ X (by simp;omega);have an:=X.get O (by simp;omega);have ag:=C.trans X;have yy:=am W;obtain⟨F,G,H,I,J,K⟩:=W.cells;simp only[fM];go_wp2;go_roundg (w.size-cz)
    case measure=>have:=E.2.2 hw;omega
    case rel=>exact⟨cz,V.2,rfl,hs.o.trans R.o,iD h5 (by omega) _ _ _ _ _ _,qF W _,vx an (by omega) _ _ _ _ _ _,jb ag (by omega) _ _ _ _ _ _⟩
structure Pl where
  XY:Xs
  XZ:Int
  X0:Int
structure St where
  XS:Int
  XU:Xs
  Xy:Xt
  XJ:List (Xs×Pl)
  XX:Pl
  til:Nat
structure Db where
  XG:Xt
  XA:Xt
  XB:Xt
  XH:Xt
  XK:Xt
  XV:List (Nat×Nat)
  XP:List St
  rbl:Xv
  XS:Int
  XU:Xs
  Xy:Xt
  XC:Bool
  XJ:List (Xs×Pl)
def dK(l:Xt):List Value:=l.map string
def qM(l:List (Nat×Nat)):List Value:=l.flatMap (fun p=>[int i64 p.1,int i64 p.2])
def ki(l:Xv):List Value:=l.map (fun(n:Nat)=>.int i64 n)
def sw(p:Xs×Pl):List Value:=[string p.1,string p.2.XY,int i64 p.2.XZ,int i64 p.2.X0]
def oF(l:List (Xs×Pl)):List Value:=l.flatMap sw
def Li(s:St)(a b:Hd):List Value :=
  [int i64 s.XS,string s.XU,slice a.ao s.Xy.length a.cap,slice b.ao s.XJ.length b.cap,string s.XX.XY,int i64 s.XX.XZ,int i64 s.XX.X0,int i64 s.til]
def nk(l:List St)(H:Nat->Hd):List Value:=l.zipIdx.flatMap (fun p=>Li p.1 (H (10+2*p.2)) (H (11+2*p.2)))
def aE(l:Xt):eQ:=⟨9,1,l.length,dK l⟩
def pb(l:List (Nat×Nat)):eQ:=⟨337,2,l.length,qM l⟩
def bD(l:Xv):eQ:=⟨3,1,l.length,ki l⟩
def iA(l:List (Xs×Pl)):eQ:=⟨229,4,l.length,oF l⟩
def ji(l:List St)(H:Nat->Hd):eQ:=⟨158,8,l.length,nk l H⟩
def symsAt(l:List St)(i:Nat):Xt:=match l[i]? with | some s=>s.Xy | none=>[]
def uk(l:List St)(i:Nat):List (Xs×Pl):=match l[i]? with | some s=>s.XJ | none=>[]
def inner(l:List St)(n:Nat):eQ:=if n % 2=0 then aE (symsAt l (n / 2)) else iA (uk l (n / 2))
def a8(d:Db)(H:Nat->Hd):Nat->eQ
  | 0=>aE d.XG
  | 1=>aE d.XA
  | 2=>aE d.XB
  | 3=>aE d.XH
  | 4=>aE d.XK
  | 5=>pb d.XV
  | 6=>ji d.XP H
  | 7=>bD d.rbl
  | 8=>aE d.Xy
  | 9=>iA d.XJ
  | n+10=>inner d.XP n
def cJ(d:Db)(H:Nat->Hd):List Value :=
  [slice (H 0).ao d.XG.length (H 0).cap,slice (H 1).ao d.XA.length (H 1).cap,slice (H 2).ao d.XB.length (H 2).cap,slice (H 3).ao d.XH.length (H 3).cap,
   slice (H 4).ao d.XK.length (H 4).cap,slice (H 5).ao d.XV.length (H 5).cap,slice (H 6).ao d.XP.length (H 6).cap,slice (H 7).ao d.rbl.length (H 7).cap,
   int i64 d.XS,string d.XU,slice (H 8).ao d.Xy.length (H 8).cap,bool d.XC,slice (H 9).ao d.XJ.length (H 9).cap]
def iI{α:Type}(H:Nat->α)(i:Nat)(h:α):Nat->α:=fun j=>if j=i then h else H j
theorem dH{α:Type}(H:Nat->α)(i:Nat)(h:α):iI H i h i=h:=by simp[iI]
theorem b9{α:Type}(H:Nat->α)(i j:Nat)(h:α)(a:j≠i):iI H i h j=H j:=by simp[iI,a]
theorem Ou{α:Type}(H:Nat->α)(i:Nat):iI H i (H i)=H:=by funext j;unfold iI;split <;> simp_all
theorem yK(l:List St)(H a:Nat->Hd)(h:∀j,10<=j->a j=H j):nk l a=nk l H:=by
  unfold nk;congr 1;funext p;rw[h _ (by omega),h _ (by omega)]
theorem N1(d:Db)(H:Nat->Hd)(i:Nat)(h:Hd)(a:i<10)(j:Nat):a8 d (iI H i h) j=a8 d H j:=by
  have e:nk d.XP (iI H i h)=nk d.XP H:=yK _ _ _ (fun j b=>b9 _ _ _ _ (by omega));unfold a8;split <;> first | rfl | (simp only[ji,e])
def ij(H:Nat->Hd)(k:Nat):Prop:=∃i,(H i).XR=some k
structure fK(P:Nat->Prop)(w w':World):Prop where
  os:w'.os=w.os
  tape:w'.tape=w.tape
  output:w'.output=w.output
  size:w.heap.size<=w'.heap.size
  block:∀k,k<w.heap.size->¬P k->w'.heap[k]?=w.heap[k]?
theorem fK.refl(P:Nat->Prop)(w:World):fK P w w:=⟨rfl,rfl,rfl,Tp _,fun _ _ _=>rfl⟩
theorem ae.toP(h:ae N l S){P:Nat->Prop}(b:∀k,k∈N->k<l.heap.size->P k):fK P l S :=
  ⟨h.os,h.tape,h.output,h.size,fun k a d=>h.block k a (fun c=>d (b k c a))⟩
theorem fK.get(h:fK g l S)(a:l.heap[b]?=some y2)(c:¬g b):S.heap[b]?=some y2:=(h.block b (aj a) c).trans a
theorem fK.XD{a:World}(h:fK g a l)(k:ae [] l S):fK g a S :=
  ⟨k.os.trans h.os,k.tape.trans h.tape,k.output.trans h.output,TE h.size k.size,fun i b c=>(k.block i (Tv b h.size) (by simp)).trans (h.block i b c)⟩
theorem fK.setCell(h:fK g l S){p:Addr}(a:g p.block∨l.heap.size<=p.block)(u:Value):fK g l (S.setCell p u) :=
  ⟨h.os,h.tape,h.output,by have:=h.size;simp[World.setCell];omega,fun k c b=>by
    rw[TJ _ _ _ _ (by rintro rfl;exact a.elim b (fun a=>by omega))];exact h.block k c b⟩
structure aW(w:World)(b t:Nat)(pre post:List Value)(d:Db)(H:Nat->Hd):Prop where
  XR:w.heap[b]?=some (.cells (pre++(cJ d H++post)).toArray t)
  X6:∀i,aB w (H i) (a8 d H i)
  apart:∀i j,i≠j->(H i).XR=none∨(H i).XR≠(H j).XR
  off:∀i,(H i).XR≠some b
theorem aW.lt{a:Db}(h:aW l b y d i a H):b<l.heap.size:=aj h.XR
theorem aW.free{c:Db}(h:aW l b y d i c H)(a:Nat):l.frozen? ⟨b,a,none⟩=false:=am h.XR a
theorem aW.inlt{a:Db}(h:aW l b y d i a H)(e:ij H y1):y1<l.heap.size:=by
  obtain⟨f,c⟩:=e;exact(h.X6 f).lt c
theorem aW.keptP{e:Db}(h:aW l b y d i e H)(f:fK g l S)(j:¬g b)(m:∀k,ij H k->¬g k):aW S b y d i e H :=
  ⟨f.get h.XR j,fun c=>(h.X6 c).XI (fun k a=>f.block k ((h.X6 c).lt a) (m k ⟨c,a⟩)),h.apart,h.off⟩
theorem aW.XQ{a:Db}(h:aW l b y d i a H)(e:ae N l S)(c:b∉N)(g:∀k,ij H k->k∉N):aW S b y d i a H :=
  h.keptP (e.toP (P:=(·∈N)) (fun _ f _=>f)) c g
theorem aW.XD{a:Db}(h:aW l b y d i a H)(c:ae [] l S):aW S b y d i a H:=h.XQ c (by simp) (by simp)
theorem BB(b:z6.length=zt)(a:f<o.length):(z6++(o++L)).toArray[zt+f]?=o[f]?:=by
  subst b;simp[List.getElem?_append_right,List.getElem?_append_left a]
theorem ID(u:Value)(b:z6.length=zt)(a:f<o.length):(z6++(o++L)).set (zt+f) u=z6++(o.set f u++L):=by
  subst b;rw[Vv _ _ (by omega),show z6.length+f-z6.length=f by omega,Wb _ _ a]
theorem aW.cellAt{c:Db}(h:aW l b y d i c H)(o:Nat)(f:d.length=o)(a:Nat)(e:a<13):l.cell? ⟨b,o+a,none⟩=(cJ c H)[a]? :=
  (ah h.XR (o+a)).trans (BB d (cJ c H) i o a f e)
theorem aW.cells{a:Db}(h:aW l b y d i a H)(o:Nat)(c:d.length=o) :
    l.cell? ⟨b,o,none⟩=some (slice (H 0).ao a.XG.length (H 0).cap)/\l.cell? ⟨b,o+1,none⟩=some (slice (H 1).ao a.XA.length (H 1).cap) /\
    l.cell? ⟨b,o+2,none⟩=some (slice (H 2).ao a.XB.length (H 2).cap)/\l.cell? ⟨b,o+3,none⟩=some (slice (H 3).ao a.XH.length (H 3).cap) /\
    l.cell? ⟨b,o+4,none⟩=some (slice (H 4).ao a.XK.length (H 4).cap)/\l.cell? ⟨b,o+5,none⟩=some (slice (H 5).ao a.XV.length (H 5).cap) /\
    l.cell? ⟨b,o+6,none⟩=some (slice (H 6).ao a.XP.length (H 6).cap)/\l.cell? ⟨b,o+7,none⟩=some (slice (H 7).ao a.rbl.length (H 7).cap) /\
    l.cell? ⟨b,o+8,none⟩=some (int i64 a.XS)/\l.cell? ⟨b,o+9,none⟩=some (string a.XU)/\l.cell? ⟨b,o+10,none⟩=some (slice (H 8).ao a.Xy.length (H 8).cap) /\
    l.cell? ⟨b,o+11,none⟩=some (bool a.XC)/\l.cell? ⟨b,o+12,none⟩=some (slice (H 9).ao a.XJ.length (H 9).cap):=by
  have m:=h.cellAt o c;exact⟨m 0 (by omega),m 1 (by omega),m 2 (by omega),m 3 (by omega),m 4 (by omega),m 5 (by omega),m 6 (by omega),m 7 (by omega),m 8 (by omega),m 9 (by omega),m 10 (by omega),m 11 (by omega),m 12 (by omega)⟩
def aD(b:Nat)(w:World)(H:Nat->Hd)(w':World)(H':Nat->Hd):Prop :=
  fK (fun k=>k=b∨ij H k) w w'/\∀k,ij H' k->ij H k∨w.heap.size<=k
theorem aD.refl(H:Nat->Hd):aD x k H k H:=⟨fK.refl _ _,fun _ a=>TG a⟩
theorem aD.trans{w1:World}{g:Nat->Hd}(a:aD b l H w1 z7)(c:aD b w1 z7 S g):aD b l H S g:=by
  refine⟨⟨c.1.os.trans a.1.os,c.1.tape.trans a.1.tape,c.1.output.trans a.1.output,TE a.1.size c.1.size,?_⟩,?_⟩
  · intro k d f
    rw[<-a.1.block k d f];refine c.1.block k (Tv d a.1.size) ?_;rintro (e | i)
    · exact f (TG e)
    · rcases a.2 k i with h | h
      · exact f (TA h)
      · omega
  · intro k d
    rcases c.2 k d with h | h
    · exact a.2 k h
    · exact TA (TE a.1.size h)
theorem aD.XD(a:aD b l H S z7)(c:ae [] S y0):aD b l H y0 z7 :=
  a.trans ⟨c.toP (by simp),fun _ d=>TG d⟩
theorem aD.first(c:ae [] l S)(a:aD b S H y0 z7):aD b l H y0 z7 :=
  aD.trans ⟨c.toP (by simp),fun _ d=>TG d⟩ a
theorem aW.putG{B d':Db}(h:aW l b y d i B H)(o c:Nat)(L:d.length=o)(m:Nat)(J:m<10)(n:Hd)(M:aB S n (a8 d' H m))(v:l.grownBy S (H m).XR)(f:n.XR=none∨n.XR=(H m).XR∨∃g,n.XR=some g/\l.heap.size<=g)(z:∀j,j≠m->aB l (H j) (a8 d' H j))(u:Value)(I:c<13)(K:(cJ B H).set c u=cJ d' (iI H m n)) :
    aW (S.setCell ⟨b,o+c,none⟩ u) b y d i d' (iI H m n)/\aD b l H (S.setCell ⟨b,o+c,none⟩ u) (iI H m n):=by
  have G:=h.lt;have C:S.heap[b]?=some (.cells (d++(cJ B H++i)).toArray y):=(v.block b G (fun e=>h.off m e.symm)).trans h.XR;have t:∀j,(iI H m n j).XR≠some b:=by
    intro j;by_cases e:j=m
    · subst e;rw[dH];intro w
      rcases f with f | f | ⟨g,f,r⟩
      · rw[f]at w;cases w
      · exact h.off j (f ▸ w)
      · rw[f]at w;cases w;omega
    · rw[b9 _ _ _ _ e];exact h.off j
  refine⟨⟨?_,?_,?_,t⟩,⟨v.os,v.tape,v.output,by have:=v.size;simp[World.setCell];omega,?_⟩,?_⟩
  · rw[ab C,Ut,ID d (cJ B H) i o c u L I,K]
  · intro j
    have q:aB S (iI H m n j) (a8 d' (iI H m n) j):=by
      rw[N1 d' H m n J j];by_cases e:j=m
      · subst e;rw[dH];exact M
      · rw[b9 _ _ _ _ e]
        refine(z j e).XI (fun k p=>v.block k ((h.X6 j).lt p) ?_);intro x;rcases h.apart j m e with a | a
        · rw[a]at p;cases p
        · exact a (p.trans x)
    refine q.XI (fun k p=>TJ _ _ _ _ ?_);rintro rfl;exact t j p
  · intro j A s
    by_cases e:j=m
    · subst e
      rw[dH,b9 _ _ _ _ (fun e=>s e.symm)];rcases f with f | f | ⟨g,f,r⟩
      · exact TG f
      · rw[f];exact h.apart j A s
      · right;rw[f];intro x;have:=(h.X6 A).lt x.symm;omega
    · rw[b9 _ _ _ _ e]
      by_cases D:A=m
      · subst D
        rw[dH];rcases f with f | f | ⟨g,f,r⟩
        · rw[f];cases (H j).XR <;> simp
        · rw[f];exact h.apart j A s
        · cases w:(H j).XR with
          | none=>exact TG rfl
          | some k=>right;rw[f];intro x;cases x;have:=(h.X6 j).lt w;omega
      · rw[b9 _ _ _ _ D];exact h.apart j A s
  · intro k p F
    rw[TJ _ _ _ _ (fun e=>F (TG e))];exact v.block k p (fun e=>F (TA ⟨m,e.symm⟩))
  · intro k p
    obtain⟨j,e⟩:=p;by_cases E:j=m
    · subst E
      rw[dH]at e;rcases f with f | f | ⟨g,f,r⟩
      · rw[f]at e;cases e
      · exact TG ⟨j,f ▸ e⟩
      · rw[f]at e;cases e;exact TA r
    · rw[b9 _ _ _ _ E]at e
      exact TG ⟨j,e⟩
theorem aW.put{k d':Db}(h:aW l b y d i k H)(o c:Nat)(t:d.length=o)(a:Nat)(q:a<10)(e:Hd)(v:aB S e (a8 d' H a))(p:l.grownBy S (H a).XR)(n:e.XR=none∨e.XR=(H a).XR∨∃g,e.XR=some g/\l.heap.size<=g)(f:∀j,j≠a->a8 d' H j=a8 k H j)(u:Value)(m:c<13)(s:(cJ k H).set c u=cJ d' (iI H a e)) :
    aW (S.setCell ⟨b,o+c,none⟩ u) b y d i d' (iI H a e)/\aD b l H (S.setCell ⟨b,o+c,none⟩ u) (iI H a e) :=
  h.putG o c t a q e v p n (fun j r=>by rw[f j r];exact h.X6 j) u m s
theorem aW.set{e d':Db}(h:aW l b y d i e H)(o c:Nat)(n:d.length=o)(a:∀j,a8 d' H j=a8 e H j)(u:Value)(g:c<13)(m:(cJ e H).set c u=cJ d' H) :
    aW (l.setCell ⟨b,o+c,none⟩ u) b y d i d' H/\aD b l H (l.setCell ⟨b,o+c,none⟩ u) H:=by
  refine⟨⟨?_,?_,h.apart,h.off⟩,(fK.refl _ _).setCell (TG (TG rfl)) _,fun _ f=>TG f⟩
  · rw[ab h.XR,Ut,ID d (cJ e H) i o c u n g,m]
  · intro j
    rw[a j];refine(h.X6 j).XI (fun k f=>TJ _ _ _ _ ?_);rintro rfl;exact h.off j f
theorem aW.app{n d':Db}(h:aW l b y d i n H)(o c:Nat)(v:d.length=o)(f:Nat)(x:f<10)(g a m:Nat)(r:eQ)(s:aB S ⟨some ⟨g,0,none⟩,a⟩ r)(A:r=a8 d' H f)(p:l.grownBy S (H f).XR)(k:(H f).XR=some g∨l.heap.size<=g)(q:∀j,j≠f->a8 d' H j=a8 n H j)(t:c<13)(w:Value)(B:(cJ n H)[c]?=some w)(z:(cJ n H).set c (slice (some ⟨g,0,none⟩) m a)=cJ d' (iI H f ⟨some ⟨g,0,none⟩,a⟩)) :
    S.cell? ⟨b,o+c,none⟩=some w/\S.frozen? ⟨b,o+c,none⟩=false /\
    Xr (aW (S.setCell ⟨b,o+c,none⟩ (slice (some ⟨g,0,none⟩) m a)) b y d i d' (iI H f ⟨some ⟨g,0,none⟩,a⟩) /\
      aD b l H (S.setCell ⟨b,o+c,none⟩ (slice (some ⟨g,0,none⟩) m a)) (iI H f ⟨some ⟨g,0,none⟩,a⟩)):=by
  have u:=(p.block b h.lt (fun e=>h.off f e.symm)).trans h.XR;subst A;refine⟨((ah u (o+c)).trans (BB d (cJ n H) i o c v t)).trans B,am u _,?_⟩;exact h.put (d':=d') o c v f x ⟨some ⟨g,0,none⟩,a⟩ s p
    (by rcases k with e | e
        · exact TA (TG e.symm)
        · exact TA (TA ⟨g,rfl,by simpa using e⟩)) q _ t z
theorem D0(d:Db)(H:Nat->Hd)(l:Xt):∀j,j≠0->a8 { d with XG:=l } H j=a8 d H j:=by
  intro j a
  match j with
  | 0=>exact absurd rfl a
  | 1=>rfl
  | 2=>rfl
  | 3=>rfl
  | 4=>rfl
  | 5=>rfl
  | 6=>rfl
  | 7=>rfl
  | 8=>rfl
  | 9=>rfl
  | n+10=>rfl
theorem yx(d:Db)(H:Nat->Hd)(l:Xt):∀j,j≠1->a8 { d with XA:=l } H j=a8 d H j:=by
  intro j a
  match j with
  | 0=>rfl
  | 1=>exact absurd rfl a
  | 2=>rfl
  | 3=>rfl
  | 4=>rfl
  | 5=>rfl
  | 6=>rfl
  | 7=>rfl
  | 8=>rfl
  | 9=>rfl
  | n+10=>rfl
theorem yC(d:Db)(H:Nat->Hd)(l:Xt):∀j,j≠2->a8 { d with XB:=l } H j=a8 d H j:=by
  intro j a
  match j with
  | 0=>rfl
  | 1=>rfl
  | 2=>exact absurd rfl a
  | 3=>rfl
  | 4=>rfl
  | 5=>rfl
  | 6=>rfl
  | 7=>rfl
  | 8=>rfl
  | 9=>rfl
  | n+10=>rfl
theorem v8(d:Db)(H:Nat->Hd)(l:Xt):∀j,j≠3->a8 { d with XH:=l } H j=a8 d H j:=by
  intro j a
  match j with
  | 0=>rfl
  | 1=>rfl
  | 2=>rfl
  | 3=>exact absurd rfl a
  | 4=>rfl
  | 5=>rfl
  | 6=>rfl
  | 7=>rfl
  | 8=>rfl
  | 9=>rfl
  | n+10=>rfl
theorem yB(d:Db)(H:Nat->Hd)(l:Xt):∀j,j≠4->a8 { d with XK:=l } H j=a8 d H j:=by
  intro j a
  match j with
  | 0=>rfl
  | 1=>rfl
  | 2=>rfl
  | 3=>rfl
  | 4=>exact absurd rfl a
  | 5=>rfl
  | 6=>rfl
  | 7=>rfl
  | 8=>rfl
  | 9=>rfl
  | n+10=>rfl
theorem v9(d:Db)(H:Nat->Hd)(l:List (Nat×Nat)):∀j,j≠5->a8 { d with XV:=l } H j=a8 d H j:=by
  intro j a
  match j with
  | 0=>rfl
  | 1=>rfl
  | 2=>rfl
  | 3=>rfl
  | 4=>rfl
  | 5=>exact absurd rfl a
  | 6=>rfl
  | 7=>rfl
  | 8=>rfl
  | 9=>rfl
  | n+10=>rfl
theorem Ea(d:Db)(H:Nat->Hd)(l:Xv):∀j,j≠7->a8 { d with rbl:=l } H j=a8 d H j:=by
  intro j a
  match j with
  | 0=>rfl
  | 1=>rfl
  | 2=>rfl
  | 3=>rfl
  | 4=>rfl
  | 5=>rfl
  | 6=>rfl
  | 7=>exact absurd rfl a
  | 8=>rfl
  | 9=>rfl
  | n+10=>rfl
theorem ux(d:Db)(H:Nat->Hd)(l:Xt):∀j,j≠8->a8 { d with Xy:=l } H j=a8 d H j:=by
  intro j a
  match j with
  | 0=>rfl
  | 1=>rfl
  | 2=>rfl
  | 3=>rfl
  | 4=>rfl
  | 5=>rfl
  | 6=>rfl
  | 7=>rfl
  | 8=>exact absurd rfl a
  | 9=>rfl
  | n+10=>rfl
theorem yA(d:Db)(H:Nat->Hd)(l:List (Xs×Pl)):∀j,j≠9->a8 { d with XJ:=l } H j=a8 d H j:=by
  intro j a
  match j with
  | 0=>rfl
  | 1=>rfl
  | 2=>rfl
  | 3=>rfl
  | 4=>rfl
  | 5=>rfl
  | 6=>rfl
  | 7=>rfl
  | 8=>rfl
  | 9=>exact absurd rfl a
  | n+10=>rfl
theorem Le(d:Db)(H:Nat->Hd)(l:Int):∀j,a8 { d with XS:=l } H j=a8 d H j:=by
  intro j
  match j with
  | 0=>rfl
  | 1=>rfl
  | 2=>rfl
  | 3=>rfl
  | 4=>rfl
  | 5=>rfl
  | 6=>rfl
  | 7=>rfl
  | 8=>rfl
  | 9=>rfl
  | n+10=>rfl
theorem Gi(d:Db)(H:Nat->Hd)(l:Xs):∀j,a8 { d with XU:=l } H j=a8 d H j:=by
  intro j
  match j with
  | 0=>rfl
  | 1=>rfl
  | 2=>rfl
  | 3=>rfl
  | 4=>rfl
  | 5=>rfl
  | 6=>rfl
  | 7=>rfl
  | 8=>rfl
  | 9=>rfl
  | n+10=>rfl
theorem BQ(d:Db)(H:Nat->Hd)(l:Bool):∀j,a8 { d with XC:=l } H j=a8 d H j:=by
  intro j
  match j with
  | 0=>rfl
  | 1=>rfl
  | 2=>rfl
  | 3=>rfl
  | 4=>rfl
  | 5=>rfl
  | 6=>rfl
  | 7=>rfl
  | 8=>rfl
  | 9=>rfl
  | n+10=>rfl
def aK(l:Xt)(x:Xs):Bool:=l.any (fun y=>y.toList==x.toList)
theorem Ip(h:f<v.length)(b:aK v w=aK (v.drop f) w)(a:((v[f]).toList==w.toList)=true):aK v w=true:=by
 rw[b,TU h];simp only[aK,List.any_cons,a,Bool.true_or]
theorem Dg(h:f<v.length)(b:aK v w=aK (v.drop f) w)(a:((v[f]).toList==w.toList)=false):aK v w=aK (v.drop (f+1)) w:=by
 rw[b,TU h];simp only[aK,List.any_cons,a,Bool.false_or]
theorem Dh(h:¬f<v.length)(a:aK v w=aK (v.drop f) w):aK v w=false:=by
 rw[a,UR (by omega)];rfl
theorem uF(h:f<v.length):(dK v)[f]?=some (string v[f]):=by simp[dK,h]
set_option maxRecDepth 512
theorem fC(j:Hd)(l:Xt)(x:Xs)(w:World)(b:aB w j (aE l))(v:l.length<=1073741824) :
  Calls prog 254 #[slice j.ao l.length j.cap,string x] w fun e y=>e=returned (bool (aK l x))/\y=w:=by
 obtain⟨z,s⟩:=j;rcases b.XO with ⟨m,q,_⟩ | ⟨g,t,p,_⟩
 ·have f:l.length=0:=q;have n:l=[]:=Ue f;subst n
  injection m with m u
  subst m;clear b q f v u;go_enter func254,ntmps254;go_wp2;refine Vz 1 ?_;rw[VS];go_wp2;go_ret;exact⟨rfl,rfl⟩
 ·simp only at p;subst p;go_enter func254,ntmps254;go_wp2
  go_loopg [5] l.length (fun g i wr=>∃k:Nat,k<=l.length/\g=l.length-k/\i=int i64 k/\Xr (aK l x=aK (l.drop k) x)/\wr=w)
  ·exact⟨0,by omega,by omega,rfl,rfl,rfl⟩
  obtain⟨k,C,B,rfl,c,rfl⟩:=hrel;by_cases a:k<l.length
  ·have A:=b.cell rfl k (string l[k]) (uF l k a);cases r:((l[k]).toList==x.toList)
   ·have d:Xr (aK l x=aK (l.drop (k+1)) x):=Dg l x k a c.o r;clear c b;go_wp2;go_roundg (l.length-(k+1))
    ·exact⟨k+1,by omega,rfl,by go_num,d,rfl⟩
    omega
   ·have d:Xr (aK l x=true):=Ip l x k a c.o r;clear c b;go_wp2;go_ret;exact⟨aF d.o.symm,rfl⟩
  ·have d:Xr (aK l x=false):=Dh l x k a c.o;clear c b;go_wp2;go_ret;exact⟨aF d.o.symm,rfl⟩
theorem ke:(prog.info? 9).map (fun i=>(i.zero,i.size,i.bytes))=some (some (string ⟨#[]⟩),1,16):=by kernel_rfl
theorem Ls:dK (v++[w])=dK v++[string w]:=by simp[dK]
theorem dW:(⟨(aE v).e,(aE v).size,(aE v).n+1,(aE v).xs++[string w]⟩:eQ)=aE (v++[w]):=by
 simp[aE,Ls]
set_option maxRecDepth 100000
theorem AS(d:Db)(H:Nat->Hd)(c:Xs)(w:World)(h:aW w n x o L d H)(A:o.length=D)(V:d.XG.length<=1073741824) :
  Calls prog 265 #[pointer (some ⟨n,D,none⟩),string c] w fun e C=>e=returned (tuple #[])/\∃z,aW C n x o L { d with XG:=d.XG++[c] } z/\aD n w H C z:=by
 obtain⟨I,G,q,r,s⟩:=TY ke;obtain⟨K,M,N,O,P,Q,R,S,T,U,t,v,y⟩:=h.cells D A;have p:=h.XD ((ae.refl [] w).alloc (.cells #[string c] 9));have b:=p.X6 0;go_enter func265,ntmps265;go_wp2_with (at_builtin;refine aL _ rfl (.tmp 8) (.tmp 10) 61 rfl I (string ⟨#[]⟩) 16 (H 0) (aE d.XG) underlying61 G q r s rfl TQ rfl b ⟨w.heap.size,0,none⟩ 1 1 [string c] rfl rfl ?c1 ?c2 TQ ?c3 ?c4 ?_)
 case c1=>intro j u l;match j,l with | 0,l=>simp at l;subst l;simp[Addr.add]
 case c2=>intro u B;simp at B;subst B;rfl
 case c3=>simp only[aE];unfold maxLen;omega
 case c4=>simp only[aE];omega
 ·intro g f W k i a;obtain⟨J,F,m⟩:=p.app (d':={ d with XG:=d.XG++[c] }) D 0 A 0 (by omega) g f ((aE d.XG).n+1) _ k (dW d.XG c) i (by simpa using a) (D0 d H _) (by omega) _ rfl (by simp[cJ,iI,aE]);simp only[Nat.add_zero]at J F m;clear p b K M N O P Q R S T U t v y k i a;go_wp2;go_end0;exact⟨rfl,_,m.o.1,m.o.2.first ((ae.refl [] w).alloc _)⟩
theorem AT(d:Db)(H:Nat->Hd)(c:Xs)(w:World)(h:aW w n x o L d H)(A:o.length=D)(U:d.XK.length<=1073741824) :
  Calls prog 268 #[pointer (some ⟨n,D,none⟩),string c] w fun e C=>e=returned (tuple #[])/\∃y,aW C n x o L { d with XK:=d.XK++[c] } y/\aD n w H C y:=by
 obtain⟨G,F,p,q,r⟩:=TY ke;obtain⟨I,J,K,M,N,O,P,Q,R,S,s,t,v⟩:=h.cells D A;have m:=h.XD ((ae.refl [] w).alloc (.cells #[string c] 9));have b:=m.X6 4;go_enter func268,ntmps268;go_wp2_with (at_builtin;refine aL _ rfl (.tmp 8) (.tmp 10) 61 rfl G (string ⟨#[]⟩) 16 (H 4) (aE d.XK) underlying61 F p q r rfl TQ rfl b ⟨w.heap.size,0,none⟩ 1 1 [string c] rfl rfl ?c1 ?c2 TQ ?c3 ?c4 ?_)
 case c1=>intro j u l;match j,l with | 0,l=>simp at l;subst l;simp[Addr.add]
 case c2=>intro u B;simp at B;subst B;rfl
 case c3=>simp only[aE];unfold maxLen;omega
 case c4=>simp only[aE];omega
 ·intro g f W k i a;obtain⟨V,T,z⟩:=m.app (d':={ d with XK:=d.XK++[c] }) D 4 A 4 (by omega) g f ((aE d.XK).n+1) _ k (dW d.XK c) i (by simpa using a) (yB d H _) (by omega) _ rfl (by simp[cJ,iI,aE])
  skip
  clear m b I J K M N O P Q R S s t v k i a;go_wp2;go_end0;exact⟨rfl,_,z.o.1,z.o.2.first ((ae.refl [] w).alloc _)⟩
structure gD(d:Db)(N:Nat):Prop where
 XG:d.XG.length<=N
 XA:d.XA.length<=N
 XB:d.XB.length<=N
 XH:d.XH.length<=N
 XK:d.XK.length<=N
 XV:d.XV.length<=N
 XP:d.XP.length<=N
 rbl:d.rbl.length<=N
 Xy:d.Xy.length<=N
 XJ:d.XJ.length<=N
theorem rH:(⟨(aE m).e,(aE m).size,(aE m).n+v.length,(aE m).xs++dK v⟩:eQ)=aE (m++v):=by
 simp[aE,dK]
theorem mL:∀u∈dK v,u.oneCell'=true:=by
 intro u a;simp only[dK,List.mem_map]at a;obtain⟨x,_,rfl⟩:=a;rfl
theorem uL(d:Db)(H:Nat->Hd)(w:World)(h:aW w n x o L d H)(C:o.length=D)(O:0<d.Xy.length)(E:gD d 100000000) :
  Calls prog 266 #[pointer (some ⟨n,D,none⟩),slice (H 8).ao d.Xy.length (H 8).cap] w fun e F=>e=returned (tuple #[])/\∃v,aW F n x o L { d with XA:=d.XA++d.Xy } v/\aD n w H F v:=by
 obtain⟨P,J,m,p,q⟩:=TY ke;obtain⟨Q,R,S,T,U,V,W,X,Y,Z,r,s,t⟩:=h.cells D C;have b:=h.X6 1;have f:aB w (H 8) (aE d.Xy):=h.X6 8;have M:=E.XA;have N:=E.Xy;rcases f.XO with ⟨_,I,_⟩ | ⟨B,z,A,_⟩
 ·have:d.Xy.length=0:=I;omega
 ·rw[A];have c:Xr (∀j u,(dK d.Xy)[j]?=some u->w.cell? ((⟨B,0,none⟩:Addr).add j)=some u):=fun j u K=>by rw[bX];exact f.cell A j u K
  clear f;go_enter func266,ntmps266;go_wp2_with (at_builtin;refine aL _ rfl (.tmp 8) (.tmp 9) 61 rfl P (string ⟨#[]⟩) 16 (H 1) (aE d.XA) underlying61 J m p q rfl TQ rfl b ⟨B,0,none⟩ d.Xy.length (H 8).cap (dK d.Xy) rfl ?c0 c.o (mL _) O ?c3 ?c4 ?_)
  case c0=>simp[dK,aE]
  case c3=>simp only[aE];unfold maxLen;omega
  case c4=>simp only[aE];omega
  ·intro g i w1 l k a;obtain⟨k0,f0,y⟩:=h.app (d':={ d with XA:=d.XA++d.Xy }) D 1 C 1 (by omega) g i ((aE d.XA).n+d.Xy.length) _ l (rH d.XA d.Xy) k a (yx d H _) (by omega) _ rfl (by simp[cJ,iI,aE]);clear b Q R S T U V W X Y Z r s t l k a c;go_wp2;go_end0;exact⟨rfl,_,y.o.1,y.o.2⟩
def eU(v l:Xt):Xt:=l.foldl (fun v x=>if aK v x=true then v else v++[x]) v
def eD(d:Db)(k:Nat):Db:={ d with XH:=d.XH++d.Xy,XB:=eU d.XB (d.Xy.take k) }
theorem LC:eU m (v++[w])=if aK (eU m v) w=true then eU m v else eU m v++[w]:=by
 unfold eU;rw[Vo];rfl
theorem EC(v l:Xt):(eU v l).length<=v.length+l.length:=by
 induction l generalizing v with
 | nil=>simp[eU]
 | cons x l a =>
  have:=a (if aK v x=true then v else v++[x]);have e:eU v (x :: l)=eU (if aK v x=true then v else v++[x]) l:=rfl;rw[e];have b:(if aK v x=true then v else v++[x]).length<=v.length+1:=by split <;> simp
  simp only[List.length_cons];omega
theorem pj{α:Type}(l:List α)(k:Nat)(h:k<l.length):l.take (k+1)=l.take k++[l[k]]:=by simp
theorem uM(d:Db)(H:Nat->Hd)(w:World)(h:aW w n x o L d H)(F:o.length=D)(hm:0<d.Xy.length)(hs:gD d 100000000) :
  Calls prog 267 #[pointer (some ⟨n,D,none⟩),slice (H 8).ao d.Xy.length (H 8).cap] w fun e w'=>e=returned (tuple #[])/\∃H',aW w' n x o L (eD d d.Xy.length) H'/\aD n w H w' H':=by
 obtain⟨i0,hi,I,J,K⟩:=TY ke;obtain⟨M,N,X,O,P,Q,R,S,U,V,t,v,y⟩:=h.cells D F;have A:=h.X6 3;have l:aB w (H 8) (aE d.Xy):=h.X6 8;have ag:=hs.XH;have ai:=hs.Xy;have al:=hs.XB;rcases l.XO with ⟨_,h0,_⟩ | ⟨g8,ac,e8,_⟩
 ·have:d.Xy.length=0:=h0;omega
 ·rw[e8];have B:Xr (∀j u,(dK d.Xy)[j]?=some u->w.cell? ((⟨g8,0,none⟩:Addr).add j)=some u):=fun j u hj=>by rw[bX];exact l.cell e8 j u hj
  clear l;go_enter func267,ntmps267;go_wp2_with (at_builtin;refine aL _ rfl (.tmp 9) (.tmp 10) 61 rfl i0 (string ⟨#[]⟩) 16 (H 3) (aE d.XH) underlying61 hi I J K rfl TQ rfl A ⟨g8,0,none⟩ d.Xy.length (H 8).cap (dK d.Xy) rfl ?c0 B.o (mL _) hm ?c3 ?c4 ?_)
  case c0=>simp[dK,aE]
  case c3=>simp only[aE];unfold maxLen;omega
  case c4=>simp only[aE];omega
  ·intro g p w1 r q a;obtain⟨k0,f0,C⟩:=h.app (d':=eD d 0) D 3 F 3 (by omega) g p ((aE d.XH).n+d.Xy.length) _ r (rH d.XH d.Xy) q a (v8 d H _) (by omega) _ rfl (by simp[cJ,iI,aE,eD,eU]);clear A M N X O P Q R S U V t v y r q a B;go_wp2
   go_loopg [4] d.Xy.length (fun g i wr=>∃(k:Nat) (f:Nat->Hd),k<=d.Xy.length/\g=d.Xy.length-k/\i=int i64 k/\f 8=H 8/\aW wr n x o L (eD d k) f/\aD n w H wr f)
   ·exact⟨0,_,by omega,by omega,rfl,by simp[iI],C.o.1,C.o.2⟩
   obtain⟨k,f,hk,hg,rfl,h8,z,T⟩:=hrel;clear C k0 f0;by_cases E:k<d.Xy.length
   ·obtain⟨M,N,X,O,P,Q,R,S,U,V,t,v,y⟩:=z.cells D F;have l:aB wr (H 8) (aE d.Xy):=(by have:=z.X6 8;rw[h8]at this;exact this);have c1:=l.cell e8 k (string d.Xy[k]) (uF d.Xy k E);have G:(eD d k).XB.length<=1073741824:=by
     have:=EC d.XB (d.Xy.take k);simp only[List.length_take]at this
     show(eU d.XB (d.Xy.take k)).length<=_
     omega
    have W:Xr (eD d (k+1)=if aK (eD d k).XB d.Xy[k]=true then eD d k else { eD d k with XB:=(eD d k).XB++[d.Xy[k]] }):=by
     show eD d (k+1)=_;unfold eD;rw[pj d.Xy k E,LC];simp only;split <;> rfl
    generalize eD d k=b at *;generalize d.Xy[k]=c at *;clear M N O P Q R S U V t v y l;cases hb:aK b.XB c
    ·have Z:Xr (eD d (k+1)={ b with XB:=b.XB++[c] }):=(by show eD d (k+1)=_;rw[W.o];simp[hb]);clear W;go_wp2_with fail;go_quiet ((go_at_call 254;exact TZ (fC (f 2) b.XB c _ (z.XD (kr0.drewN _) |>.X6 2) G)));obtain⟨m,s⟩:∃m,m=wr.drewN nq:=⟨_,rfl⟩
     rw[<-s];have Y:aW m n x o L b f:=by rw[s];exact z.XD (kr0.drewN _)
     have T2:aD n w H m f:=(by rw[s];exact T.XD (kr0.drewN _));have ad:m.cell? ⟨g8,k,none⟩=some (string c):=(by rw[s];exact c1);clear s c1 z T X;obtain⟨M,N,X,O,P,Q,R,S,U,V,t,v,y⟩:=Y.cells D F;have af:=Y.lt;clear M N O P Q R S U V t v y;have hD:Xr (aW (m.alloc (.cells #[string c] 9)).drew n x o L b f):=Y.XD ((ae.refl [] m).alloc _).drew;have s2:Xr (∀j u,([string c]:List Value)[j]?=some u->(m.alloc (.cells #[string c] 9)).drew.cell? ((⟨m.heap.size,0,none⟩:Addr).add j)=some u):=by
      intro j u hj;have hk:(m.alloc (.cells #[string c] 9)).drew.heap[m.heap.size]?=some (.cells #[string c] 9):=Ts m _;rw[bX,ah hk];simpa using hj
     have s3:Xr (∀u∈([string c]:List Value),u.oneCell'=true):=(by intro u hu;simp at hu;subst hu;rfl);have s4:Xr ((aE b.XB).n+1<=maxLen):=(by show _<=_;simp only[aE];unfold maxLen;omega);have s5:Xr (((aE b.XB).n+1)*16<=140737488355328):=(by show _<=_;simp only[aE];omega);go_wp2_with fail;go_region_law (refine da rfl (.tmp 34) (.tmp 39) 61 rfl i0 (string ⟨#[]⟩) 16 (f 2) (aE b.XB) underlying61 hi I J K rfl TQ (by simp[Act.eval] <;> rfl) (hD.o.X6 2) ⟨m.heap.size,0,none⟩ 1 1 [string c] (by simp[Act.eval]) rfl s2.o s3.o TQ s4.o s5.o ?_;intro g p w1 r q a;obtain⟨k5,f5,C⟩:=hD.o.app (d':={ b with XB:=b.XB++[c] }) D 2 F 2 (by omega) g p ((aE b.XB).n+1) _ r (dW b.XB c) q (by simpa using a) (yC b f _) (by omega) _ rfl (by simp[cJ,iI,aE]);clear r q a)
     all_goals go_wp2
     all_goals
      go_roundg (d.Xy.length-(k+1))
      ·exact⟨k+1,_,by omega,rfl,by go_num,by simp[iI,h8],by rw[Z.o];exact C.o.1,T2.trans (C.o.2.first (kr0.alloc _).drew)⟩
      omega
    ·have Z:Xr (eD d (k+1)=b):=(by show eD d (k+1)=_;rw[W.o];simp[hb]);clear W;go_wp2_with fail;go_quiet ((go_at_call 254;exact TZ (fC (f 2) b.XB c _ (z.XD (kr0.drewN _) |>.X6 2) G)));go_wp2;go_roundg (d.Xy.length-(k+1))
     ·exact⟨k+1,f,by omega,rfl,by go_num,h8,by rw[Z.o];exact z.XD (kr0.drewN _),T.XD (kr0.drewN _)⟩
     omega
   ·have e:k=d.Xy.length:=(by omega);subst e;go_wp2;go_end0;exact⟨rfl,f,z,T⟩
end Go.Proofs.YtnbhnocdhbcbcaaGreat
