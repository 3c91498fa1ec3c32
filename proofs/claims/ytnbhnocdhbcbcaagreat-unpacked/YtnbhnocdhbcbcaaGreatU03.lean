import Derived.Deep.LoopGhost
import Derived.Deep.CutRange
import Derived.Deep.CutBlock
import Derived.Deep.RegionLaw
import Derived.Test.YtnbhnocdhbcbcaaGreatU01
namespace Go.Proofs.YtnbhnocdhbcbcaaGreat
open Go.RowKit Tryz
open Value IntKind Ending
set_option maxHeartbeats 0
variable{l T y0:World}{b y y1:Nat}{M I:Xs}{N:Xv}{y3:tE}{y2:Obj}{g:Nat->Prop}{d i:List Value}{H z7:Nat->Hd}(n S:Nat)(x:Xs)(m v:Xt)(w:Xs)(k:World)(z6:List Value)(D:Nat)(o L:List Value)(zt f:Nat)
def mS:Array Value:=#[string ⟨#[]⟩,int i64 0,bool false,string ⟨#[]⟩,int i64 0,int i64 0]
theorem iQ(h:l.heap[b]?=some (.cells mS 255)) :
  l.cell? ⟨b,0,none⟩=some (string ⟨#[]⟩)/\l.cell? ⟨b,1,none⟩=some (int i64 0)/\l.cell? ⟨b,2,none⟩=some (bool false) /\
  l.cell? ⟨b,3,none⟩=some (string ⟨#[]⟩)/\l.cell? ⟨b,4,none⟩=some (int i64 0)/\l.cell? ⟨b,5,none⟩=some (int i64 0):=by
 refine⟨?_,?_,?_,?_,?_,?_⟩ <;> (rw[ah h];rfl)
theorem iG(h:cg l b M I y1)(a:b≠y)(c d e f g i:Value) :
  cg ((((((l.setCell ⟨y,0,none⟩ c).setCell ⟨y,1,none⟩ d).setCell ⟨y,2,none⟩ e).setCell ⟨y,3,none⟩ f).setCell ⟨y,4,none⟩ g).setCell ⟨y,5,none⟩ i) b M I y1:=by
 unfold cg;rw[Ut _ _ _ _ a,Ut _ _ _ _ a,Ut _ _ _ _ a,Ut _ _ _ _ a,Ut _ _ _ _ a,Ut _ _ _ _ a];exact h
theorem je(h:ae N l T)(a:l.heap.size<=b)(c d e f g i:Value) :
  ae N l ((((((T.setCell ⟨b,0,none⟩ c).setCell ⟨b,1,none⟩ d).setCell ⟨b,2,none⟩ e).setCell ⟨b,3,none⟩ f).setCell ⟨b,4,none⟩ g).setCell ⟨b,5,none⟩ i) :=
 (((((h.setCell (Uo a) _).setCell (Uo a) _).setCell (Uo a) _).setCell (Uo a) _).setCell (Uo a) _).setCell (Uo a) _
set_option maxRecDepth 100000
theorem xb(hd:w.size<=1024)(hk:S<=w.size)(h:cg k n x w S) :
  Calls prog 204 #[pointer (some ⟨n,0,none⟩)] k fun e w'=>e=returned (fZ x w (bQ w S).1)/\cg w' n x w (bQ w S).2/\ae [n] k w':=by
 have an:=aj h;go_enter func204,ntmps204;go_upto_block 0 with fail
 go_cut [] from 5 (fun wc=>∃j,S<=j/\j<=w.size/\Xr (j=skip w S)/\cg wc n x w j/\wc.heap[k.heap.size]?=some (.cells mS 255)/\ae [n] k wc)
 case first =>
  go_wp2_with fail
  go_loopg [] (w.size-S) (fun g wr=>∃j,S<=j/\j<=w.size/\g=w.size-j/\Xr (skip w j=skip w S)/\cg wr n x w j/\wr.heap[k.heap.size]?=some (.cells mS 255)/\ae [n] k wr)
  ·exact⟨S,Ue _,hk,rfl,rfl,cg.Yu h ((ae.refl [] k).alloc _) (by simp),Ui _ _,(ae.refl _ _).alloc _⟩
  obtain⟨j,D,hj,hg,m,i,q,a⟩:=hrel;obtain⟨L,M,N,O,P⟩:=i.cells;have r:k.heap.size∉[n]:=by simp;omega
  by_cases Q:j<w.size/\dr (aH w j)=true
  ·obtain⟨b,p⟩:=Q;have c:=p;rw[bZ w j b]at c;have ag:Xr (skip w (j+1)=skip w S):=(Jl w j b p).symm.trans m.o;clear p;go_wp2_with fail;go_quiet ((go_at_call 227;exact UD (kZ _ _)));go_wp2_with fail;refine(EI n j x w _ hd b (by exact i)).mono ?_;rintro e w1 ⟨rfl,u,l⟩;go_wp2;go_roundg (w.size-(j+1))
   ·exact⟨j+1,by omega,by omega,rfl,ag,u,l.get (by exact q) r,(a.drewN nq).trans l⟩
   omega
  ·have ac:Xr (j=skip w S):=(m.o.symm.trans (uF w j Q)).symm;have C:(j<w.size/\∃h:j<w.size,dr ((w[j]'h).toNat:Int)=false)∨(¬j<w.size/\decide ((j:Int)<(w.size:Int))=false):=by
    by_cases b:j<w.size
    ·refine Us ⟨b,b,?_⟩;rw[<-bZ w j b];simpa using fun h=>Q ⟨b,h⟩
    ·exact Uo ⟨b,by simp;omega⟩
   clear Q m;rcases C with ⟨b,ai,c⟩ | ⟨b,c⟩
   all_goals
    go_wp2_with fail;go_quiet ((go_at_call 227;exact UD (kZ _ _)));go_wp2_with fail;go_meet
    case rel=>exact⟨j,D,hj,ac,by exact i,by exact q,a.drewN _⟩
 case rest =>
  obtain⟨j,D,hj,Y,i,q,a⟩:=hcut;have r:k.heap.size∉[n]:=by simp;omega
  go_wp2_with fail;refine(Az n j x w _ (by exact i)).mono ?_;rintro e s ⟨rfl,l⟩;have u:cg s n x w j:=cg.Yu (by exact i) l (by simp);have af:=l.get (by exact q) (by simp);have E:=a.trans (l.mono (by simp));have al:=aj u;clear i q a l;obtain⟨L,M,N,O,P⟩:=u.cells;go_wp2
  go_loopg [] (w.size-j) (fun g wr=>∃z,j<=z/\z<=w.size/\g=w.size-z/\Xr (dq w z=dq w j)/\cg wr n x w z/\wr.heap[k.heap.size]?=some (.cells mS 255) /\
   wr.heap[s.heap.size]?=some (.cells #[string x,int i64 (aX w j),int i64 (bK w j)] 36)/\ae [n] k wr)
  ·exact⟨j,Ue _,hj,rfl,rfl,u.Yu ((ae.refl [] s).alloc _) (by simp),((ae.refl [] s).alloc _).get af (by simp),Ui _ _,E.alloc _⟩
  clear L M N O P;obtain⟨z,ao,hz,hg,m,i,q,A,a⟩:=hrel;obtain⟨L,M,N,O,P⟩:=i.cells;have e0:wr.cell? ⟨s.heap.size,0,none⟩=some (string x):=by rw[ah A];rfl
  have e1:wr.cell? ⟨s.heap.size,1,none⟩=some (int i64 (aX w j)):=by rw[ah A];rfl
  have e2:wr.cell? ⟨s.heap.size,2,none⟩=some (int i64 (bK w j)):=by rw[ah A];rfl
  rcases L7 w z with ⟨f,c,H,J⟩ | ⟨f,c,H⟩ | ⟨f,c⟩ | ⟨f,c⟩
  ·have HS:Xr (dq w (z+1)=dq w j):=J.trans m.o;clear m J;go_wp2_with fail;go_quiet ((go_at_call 227;exact UD (kZ _ _)));go_wp2_with fail;go_quiet ((go_at_call 230;exact N2 (qs _ _)));go_wp2_with fail;refine(EI n z x w _ hd f (by exact i)).mono ?_;rintro e w3 ⟨rfl,Z,d⟩;go_wp2;go_roundg (w.size-(z+1))
   ·exact⟨z+1,by omega,by omega,rfl,HS,Z,d.get (by exact q) r,d.get (by exact A) (by simp;omega),((a.drewN _).trans d)⟩
   omega
  ·have t:Xr (bQ w S=(⟨⟨#[]⟩,1,false,z⟩,z)):=EA w S j z Y.o m.o f (by rw[bZ w z f];exact c) (by rw[bZ w z f];exact H);clear m;go_wp2_with fail;go_quiet ((go_at_call 227;exact UD (kZ _ _)));go_wp2_with fail;go_quiet ((go_at_call 230;exact N2 (qs _ _)));go_wp2_with fail;refine(Az n z x w _ (by exact i)).mono ?_;rintro e w3 ⟨rfl,d⟩;have Z:cg w3 n x w z:=cg.Yu (by exact i) d (by simp);have I:=d.get (by exact q) (by simp);have F:=(a.drewN _).trans (d.mono (by simp));clear L M N O P i q a d A e0 e1 e2;obtain⟨R,T,U,V,W,X⟩:=iQ I;have y:=am I;go_wp2;exact Um (v:=fZ x w ⟨⟨#[]⟩,1,false,z⟩) (by simp[results,results204,go_sem,fZ,R,T,U,V,W,X]) rfl
    (by rw[t.o];exact⟨rfl,iG Z (by omega) _ _ _ _ _ _,je F (Ue _) _ _ _ _ _ _⟩)
  all_goals
   have K:¬(z<w.size/\dr (aH w z)=false):=by
    rintro ⟨G,B⟩
    first
     | (rw[bZ w z G,c]at B;cases B)
     | exact f G
   obtain⟨R,T,U,V,W,X⟩:=iQ q;have y:=am q;by_cases ad:j<z
   ·have t:Xr (bQ w S=(⟨w.extract j z,0,false,j⟩,z)):=AI w S j z Y.o m.o K ad;clear m K;go_wp2_with fail;go_quiet ((go_at_call 227;exact UD (kZ _ _)));go_wp2_with fail;go_quiet (fail);go_wp2_with fail;go_region
    all_goals go_wp2
    exact Um (v:=fZ x w ⟨w.extract j z,0,false,j⟩) (by simp[results,results204,go_sem,fZ,R,T,U,V,W,X]) rfl
     (by rw[t.o];exact⟨rfl,iG (by exact i) (by omega) _ _ _ _ _ _,je (a.drewN _) (Ue _) _ _ _ _ _ _⟩)
   ·have t:Xr (bQ w S=(⟨⟨#[]⟩,0,true,j⟩,z)):=EB w S j z Y.o m.o K (by omega);clear m K;go_wp2_with fail;go_quiet ((go_at_call 227;exact UD (kZ _ _)));go_wp2_with fail;go_quiet (fail);go_wp2;exact Um (v:=fZ x w ⟨⟨#[]⟩,0,true,j⟩) (by simp[results,results204,go_sem,fZ,R,T,U,V,W,X]) rfl
     (by rw[t.o];exact⟨rfl,iG (by exact i) (by omega) _ _ _ _ _ _,je (a.drewN _) (Ue _) _ _ _ _ _ _⟩)
def aK(i:tE):Bool:=i.YE==0 && !i.YA
set_option maxRecDepth 512
theorem dK(r l c:Int)(f:Bool)(a:World) :
    Calls prog 157 #[agg #[string x,int i64 r,bool f,string w,int i64 l,int i64 c]] a fun e b=>e=returned (bool (r==0 && !f))/\ae [] a b:=by
  cases d:(r==0)
  all_goals
    go_enter func157,ntmps157;go_wp2;go_ret;exact⟨aE (by simp),(ae.refl _ _).alloc _⟩
def dD(s:Xs):Bool:=(List.range s.size).any (fun i=>aH s i==36)
def lq(s:Xs):Bool:=(List.range s.size).any (fun i=>decide (1<=i)&&(aH s (i-1)==36)&&((aH s i==40)||(aH s i==41)))
theorem nh{p:Nat->Bool}(h:f<b)(a:p f=true):(List.range b).any p=true:=by
  rw[UW];exact⟨f,by simpa using h,a⟩
theorem uT{p:Nat->Bool}(h:∀i,i<b->p i=false):(List.range b).any p=false:=by
  rw[WH];intro i a;simp[h i (by simpa using a)]
theorem fe(p:w.size<=1073741824) :
    Calls prog 232 #[string w] k fun e l=>e=returned (bool (dD w))/\l=k:=by
  go_enter func232,ntmps232;go_wp2
  go_loopg [3] w.size (fun g i wr=>∃a:Nat,a<=w.size/\g=w.size-a/\i=int i64 a/\Xr (∀i,i<a->(aH w i==36)=false)/\wr=k)
  · exact⟨0,by omega,by omega,rfl,fun i h=>by omega,rfl⟩
  obtain⟨a,n,m,rfl,b,rfl⟩:=hrel;by_cases c:a<w.size
  · cases f:((w[a].toNat:Int)==36)
    · go_wp2
      go_roundg (w.size-(a+1))
      · refine⟨a+1,by omega,rfl,by go_num,?_,rfl⟩
        intro i j;by_cases e:i=a
        · subst e;rw[bZ w i c];exact f
        · exact b.o i (by omega)
      omega
    · have d:Xr (dD w=true):=nh a c (by rw[bZ w a c];exact f)
      go_wp2;go_ret;exact⟨aE d.o.symm,rfl⟩
  · have d:Xr (dD w=false):=uT (fun i j=>b.o i (by omega))
    go_wp2;go_ret;exact⟨aE d.o.symm,rfl⟩
theorem vU(x:w.size<=1073741824) :
    Calls prog 231 #[string w] k fun e s=>e=returned (bool (lq w))/\s=k:=by
  go_enter func231,ntmps231;go_wp2
  go_loopg [3] (w.size-1) (fun g i wr=>∃a:Nat,1<=a/\(a<=w.size∨a=1)/\g=w.size-a/\i=int i64 a/\Xr (∀i,i<a->1<=i->((aH w (i-1)==36)&&((aH w i==40)||(aH w i==41)))=false)/\wr=k)
  · exact⟨1,by omega,by omega,rfl,rfl,fun i h t=>by omega,rfl⟩
  obtain⟨a,l,v,u,rfl,c,rfl⟩:=hrel;by_cases d:a<w.size
  · have f:a-1<w.size:=by omega
    have n:∀b:Bool,(((w[a-1].toNat:Int)==36)&&(((w[a].toNat:Int)==40)||((w[a].toNat:Int)==41)))=b->((aH w (a-1)==36)&&((aH w a==40)||(aH w a==41)))=b :=
      fun b h=>by rw[bZ w a d,bZ w (a-1) f];exact h
    have m:Xr (∀b:Bool,(((w[a-1].toNat:Int)==36)&&(((w[a].toNat:Int)==40)||((w[a].toNat:Int)==41)))=b->((aH w (a-1)==36)&&((aH w a==40)||(aH w a==41)))=b):=n;clear n;go_wp2
    all_goals first
      | (go_ret
         refine⟨aE ?_,rfl⟩;refine(nh (p:=fun i=>decide (1<=i)&&(aH w (i-1)==36)&&((aH w i==40)||(aH w i==41))) a d ?_).symm;have:=m.o true (by simp_all);simp only[Bool.and_assoc,this];simp[l])
      | (go_roundg (w.size-(a+1))
         case measure=>omega
         case rel =>
           refine⟨a+1,by omega,by omega,rfl,by go_num,?_,rfl⟩;intro i r j;by_cases e:i=a
           · subst e;exact m.o false (by simp_all)
           · exact c.o i (by omega) j)
  · have q:Xr (lq w=false):=uT (fun i r=>by
      by_cases j:1<=i
      · have:=c.o i (by omega) j;simp only[Bool.and_assoc,this];simp
      · simp[j])
    go_wp2;go_ret;exact⟨aE q.o.symm,rfl⟩
theorem iq(h:f<=w.size):f<=(bQ w f).2/\(bQ w f).2<=w.size/\(aK (bQ w f).1=true->f<(bQ w f).2):=by
 have a:=Cs w f h;have b:=tw w (skip w f) a.2;unfold bQ;simp only;split
 ·exact⟨by omega,b.2,by simp[aK]⟩
 ·split
  ·exact⟨by omega,b.2,by simp[aK]⟩
  ·exact⟨by simp only;omega,b.2,fun _=>by simp only;omega⟩
def cm(d:Xs):Nat->Nat->tE×Nat
 | 0,k=>(⟨⟨#[]⟩,3,false,k⟩,k)
 | f+1,k =>
  if aK (bQ d k).1=true/\¬(bQ d k).1.text.toList=[36,41] then
   if lq (bQ d k).1.text=true then(⟨⟨#[]⟩,2,false,(bQ d k).1.pos⟩,(bQ d k).2) else cm d f (bQ d k).2
  else if(bQ d k).1.YA=true then(⟨⟨#[]⟩,3,false,(bQ d k).1.pos⟩,(bQ d k).2) else bQ d k
def bh(d:Xs)(k:Nat):tE×Nat:=cm d (d.size-k+1) k
theorem xB(f k:Nat)(a:k<=w.size)(b:w.size-k+1<=f):cm w f k=bh w k:=by
 unfold bh
 suffices h:∀f g k,k<=w.size->w.size-k+1<=f->w.size-k+1<=g->cm w f k=cm w g k from h _ _ _ a b (Ue _)
 clear b a f k;intro f
 induction f with
 | zero=>intro g k _ h;omega
 | succ f e =>
  intro g k a b i;cases g with
  | zero=>omega
  | succ g =>
   rw[cm,cm];split
   ·next h =>
    have c:=iq w k a;have d:=c.2.2 h.1;split
    ·rfl
    ·exact e g (bQ w k).2 c.2.1 (by omega) (by omega)
   ·rfl
theorem xC(e:f<=w.size)(a:aK (bQ w f).1=true)(c:((bQ w f).1.text.toList == [36,41])=false)(d:lq (bQ w f).1.text=false):bh w f=bh w (bQ w f).2:=by
 have b:=iq w f e;have g:=b.2.2 a
 conv=>lhs;unfold bh
 rw[cm,Uf ⟨a,by simpa using c⟩,Ud (by simp[d]),xB w _ _ b.2.1 (by omega)]
theorem tR(a:aK (bQ w f).1=true)(b:((bQ w f).1.text.toList == [36,41])=false)(c:lq (bQ w f).1.text=true):bh w f=(⟨⟨#[]⟩,2,false,(bQ w f).1.pos⟩,(bQ w f).2):=by
 unfold bh;rw[cm,Uf ⟨a,by simpa using b⟩,Uf c]
theorem tT(a:aK (bQ w f).1=false)(b:(bQ w f).1.YA=true):bh w f=(⟨⟨#[]⟩,3,false,(bQ w f).1.pos⟩,(bQ w f).2):=by
 unfold bh;rw[cm,Ud (by simp[a]),Uf b]
theorem vX(a:aK (bQ w f).1=false)(b:(bQ w f).1.YA=false):bh w f=bQ w f:=by
 unfold bh;rw[cm,Ud (by simp[a]),Ud (by simp[b])]
theorem si(a:aK (bQ w f).1=true)(b:((bQ w f).1.text.toList == [36,41])=true):bh w f=bQ w f:=by
 unfold bh;rw[cm,Ud (by intro h;exact h.2 (by simpa using b))];rw[Ud (by intro h;simp[aK,h]at a)]
theorem jK(k:Nat)(b:k<=w.size):k<=(bh w k).2/\(bh w k).2<=w.size:=by
 unfold bh
 suffices h:∀f k,k<=w.size->k<=(cm w f k).2/\(cm w f k).2<=w.size from h _ _ b
 clear b k;intro f
 induction f with
 | zero=>intro k b;simp[cm,b]
 | succ f c =>
  intro k b;have a:=iq w k b;rw[cm];split
  ·split
   ·exact⟨a.1,a.2.1⟩
   ·have:=c (bQ w k).2 a.2.1;omega
  ·split
   ·exact⟨a.1,a.2.1⟩
   ·exact⟨a.1,a.2.1⟩
def dZ(d:Xs):Nat->Nat->tE×Nat
 | 0,k=>(⟨⟨#[]⟩,0,true,k⟩,k)
 | f+1,k =>
  if aK (bQ d k).1=true/\(bQ d k).1.text.toList=[36,40] then
   if aK (bh d (bQ d k).2).1=true then dZ d f (bh d (bQ d k).2).2 else bh d (bQ d k).2
  else bQ d k
def aC(d:Xs)(k:Nat):tE×Nat:=dZ d (d.size-k+1) k
theorem Ea(f k:Nat)(a:k<=w.size)(b:w.size-k+1<=f):dZ w f k=aC w k:=by
 unfold aC
 suffices h:∀f g k,k<=w.size->w.size-k+1<=f->w.size-k+1<=g->dZ w f k=dZ w g k from h _ _ _ a b (Ue _)
 clear b a f k;intro f
 induction f with
 | zero=>intro g k _ h;omega
 | succ f i =>
  intro g k a b j;cases g with
  | zero=>omega
  | succ g =>
   rw[dZ,dZ];split
   ·next h =>
    have c:=iq w k a;have e:=c.2.2 h.1;have d:=jK w (bQ w k).2 c.2.1;split
    ·exact i g _ d.2 (by omega) (by omega)
    ·rfl
   ·rfl
theorem I9(g:f<=w.size)(a:aK (bQ w f).1=true)(c:((bQ w f).1.text.toList == [36,40])=true)(d:aK (bh w (bQ w f).2).1=true) :
  aC w f=aC w (bh w (bQ w f).2).2:=by
 have b:=iq w f g;have i:=b.2.2 a;have e:=jK w (bQ w f).2 b.2.1
 conv=>lhs;unfold aC
 rw[dZ,Uf ⟨a,by simpa using c⟩,Uf d,Ea w _ _ e.2 (by omega)]
theorem we(a:aK (bQ w f).1=true)(b:((bQ w f).1.text.toList == [36,40])=true)(c:aK (bh w (bQ w f).2).1=false) :
  aC w f=bh w (bQ w f).2:=by
 unfold aC;rw[dZ,Uf ⟨a,by simpa using b⟩,Ud (by simp[c])]
theorem sY(h:aK (bQ w f).1=false∨((bQ w f).1.text.toList == [36,40])=false):aC w f=bQ w f:=by
 unfold aC;rw[dZ,Ud (by rintro ⟨a,b⟩;rcases h with h | h;simp[h]at a;simp[b]at h)]
theorem gq(k:Nat)(a:k<=w.size):k<=(aC w k).2/\(aC w k).2<=w.size/\(aK (aC w k).1=true->k<(aC w k).2):=by
 unfold aC
 suffices h:∀f k,k<=w.size->k<=(dZ w f k).2/\(dZ w f k).2<=w.size/\(aK (dZ w f k).1=true->k<(dZ w f k).2) from h _ _ a
 clear a k;intro f
 induction f with
 | zero=>intro k a;simp[dZ,a,aK]
 | succ f e =>
  intro k a;have b:=iq w k a;have c:=jK w (bQ w k).2 b.2.1;rw[dZ];split
  ·next h =>
   have d:=b.2.2 h.1;split
   ·have:=e (bh w (bQ w k).2).2 c.2;omega
   ·omega
  ·exact b
def kK(w:World)(r:Nat)(n d:Xs)(i:tE):Prop :=
 w.heap[r]?=some (.cells #[string i.text,int i64 i.YE,bool i.YA,string n,int i64 (aX d i.pos),int i64 (bK d i.pos)] 255)
theorem kK.cells{t:Xs}{u:Int}{f:Bool}(h:kK l b M I ⟨t,u,f,y⟩) :
  l.cell? ⟨b,0,none⟩=some (string t)/\l.cell? ⟨b,1,none⟩=some (int i64 u)/\l.cell? ⟨b,2,none⟩=some (bool f) /\
  l.cell? ⟨b,3,none⟩=some (string M)/\l.cell? ⟨b,4,none⟩=some (int i64 (aX I y))/\l.cell? ⟨b,5,none⟩=some (int i64 (bK I y)):=by
 refine⟨?_,?_,?_,?_,?_,?_⟩ <;> (rw[ah h];rfl)
theorem kK.Yu(h:kK l b M I y3)(c:ae N l T)(a:b∉N):kK T b M I y3:=c.get h a
theorem qL(h:kK l b M I y3)(j:tE) :
  kK ((((((l.setCell ⟨b,0,none⟩ (string j.text)).setCell ⟨b,1,none⟩ (int i64 j.YE)).setCell ⟨b,2,none⟩ (bool j.YA)).setCell ⟨b,3,none⟩ (string M)).setCell ⟨b,4,none⟩ (int i64 (aX I j.pos))).setCell ⟨b,5,none⟩ (int i64 (bK I j.pos))) b M I j:=by
 have:=ab (ab (ab (ab (ab (ab h 0 (string j.text)) 1 (int i64 j.YE)) 2 (bool j.YA)) 3 (string M)) 4 (int i64 (aX I j.pos))) 5 (int i64 (bK I j.pos));unfold kK;rw[this];simp
theorem vE(h:l.heap[b]?=some y2)(a:b≠y)(c d e f g i:Value) :
  ((((((l.setCell ⟨y,0,none⟩ c).setCell ⟨y,1,none⟩ d).setCell ⟨y,2,none⟩ e).setCell ⟨y,3,none⟩ f).setCell ⟨y,4,none⟩ g).setCell ⟨y,5,none⟩ i).heap[b]?=some y2:=by
 rw[Ut _ _ _ _ a,Ut _ _ _ _ a,Ut _ _ _ _ a,Ut _ _ _ _ a,Ut _ _ _ _ a,Ut _ _ _ _ a];exact h
theorem rP(a:w.size<=1024):(bQ w f).1.text.size<=1024:=by
 unfold bQ;simp only;split
 ·simp[ByteArray.size]
 ·split
  ·simp[ByteArray.size]
  ·simp;omega
set_option maxRecDepth 100000
theorem Df(hd:w.size<=1024)(hk:S<=w.size)(h:cg k n x w S) :
  Calls prog 205 #[pointer (some ⟨n,0,none⟩)] k fun e w'=>e=returned (fZ x w (bh w S).1)/\cg w' n x w (bh w S).2/\ae [n] k w':=by
 have ao:=aj h;go_enter func205,ntmps205;go_wp2_with fail;refine(xb n S x w _ hd hk (by exact h.Yu (bM.alloc _) (by simp))).mono ?_;rintro e w1 ⟨rfl,h1,Y⟩;have ac:w1.heap[k.heap.size]?=some (.cells mS 255):=Y.get (Ui _ _) (by simp;omega);have ad:ae [n] k w1:=((ae.refl _ _).alloc _).trans Y;have an:=aj h1;have al:=aj ac;simp only[fZ];go_wp2
 go_loopg [] (w.size-S) (fun g wr=>∃j,j<=w.size/\g=w.size-j/\Xr (bh w S=bh w j)/\cg wr n x w (bQ w j).2/\kK wr w1.heap.size x w (bQ w j).1/\wr.heap[k.heap.size]?=some (.cells mS 255)/\ae [n] k wr)
 ·exact⟨S,hk,rfl,rfl,h1.Yu (bM.alloc _) (by simp),Ui _ _,(bM.alloc _).get ac (by simp),ad.alloc _⟩
 obtain⟨j,hj,hg,hs,E,m,F,i⟩:=hrel;have H:=iq w j hj;have ag:=rP w j hd;have T:Xr (_->_->_->bh w j=_):=xC w j hj;have U:Xr (_->_->_->bh w j=_):=tR w j;have V:Xr (_->_->bh w j=_):=tT w j;have W:Xr (_->_->bh w j=_):=vX w j;have X:Xr (_->_->bh w j=_):=si w j;generalize hrr:bQ w j=r at *;obtain⟨⟨t,u,f,p⟩,z⟩:=r;have HR:Xr (bQ w j=(⟨t,u,f,p⟩,z)):=hrr;clear hrr;simp only at E m H ag;obtain⟨q,s,A,B,C,D⟩:=m.cells;cases I:(u==0 && !f)
 ·cases J:f
  ·have G:Xr (bh w j=(⟨t,u,false,p⟩,z)):=(by have:=W.o (by simpa [aK] using I) J;rw[J]at this;exact this);subst J;have ai:(u==0)=false:=by simpa using I
   clear T U V W X;go_wp2_with fail;refine(dK t x u (aX w p) (bK w p) _ _).mono ?_;rintro e w2 ⟨rfl,a⟩;have d:=m.Yu a (by simp);have l:=E.Yu a (by simp);have c:=a.get F (by simp);have b:=i.trans (a.mono (by simp));clear q s A B C D m E F i a;obtain⟨q,s,A,B,C,D⟩:=d.cells;obtain⟨M,N,O,P,Q,R⟩:=iQ c;have y:=am c;go_wp2;exact Um (v:=fZ x w ⟨t,u,false,p⟩) (by simp[results,results205,go_sem,fZ,M,N,O,P,Q,R]) rfl
    (by rw[hs.o,G.o];exact⟨rfl,iG l (by omega) _ _ _ _ _ _,je b (Ue _) _ _ _ _ _ _⟩)
  ·have G:Xr (bh w j=(⟨⟨#[]⟩,3,false,p⟩,z)):=V.o (by simpa [aK] using I) J;subst J;clear T U V W X;go_wp2_with fail;refine(dK t x u (aX w p) (bK w p) _ _).mono ?_;rintro e w2 ⟨rfl,a⟩;have d:=m.Yu a (by simp);have l:=E.Yu a (by simp);have c:=a.get F (by simp);have b:=i.trans (a.mono (by simp));clear q s A B C D m E F i a;obtain⟨q,s,A,B,C,D⟩:=d.cells;obtain⟨M,N,O,P,Q,R⟩:=iQ c;have y:=am c;go_wp2;exact Um (v:=fZ x w ⟨⟨#[]⟩,3,false,p⟩) (by simp[results,results205,go_sem,fZ,M,N,O,P,Q,R]) rfl
    (by rw[hs.o,G.o];exact⟨rfl,iG l (by omega) _ _ _ _ _ _,je b (Ue _) _ _ _ _ _ _⟩)
 ·cases hx:(t.toList == [36,41])
  ·cases hy:lq t
   ·have G:Xr (bh w j=bh w z):=T.o I hx hy;clear T U V W X;go_wp2_with fail;refine(dK t x u (aX w p) (bK w p) _ _).mono ?_;rintro e w2 ⟨rfl,a⟩;have d:=m.Yu a (by simp);have l:=E.Yu a (by simp);have c:=a.get F (by simp);have b:=i.trans (a.mono (by simp));clear q s A B C D m E F i a;obtain⟨q,s,A,B,C,D⟩:=d.cells;go_wp2_with fail;refine(vU t _ (by omega)).mono ?_;rintro e w3 ⟨rfl,rfl⟩;go_wp2_with fail;refine(xb n z x w _ hd H.2.1 l).mono ?_;rintro e w4 ⟨rfl,h4,L⟩;have K:=d.Yu L (by simp;omega);have af:=L.get c (by simp;omega);have Z:=b.trans L;have yy:=am K;clear q s A B C D;obtain⟨q,s,A,B,C,D⟩:=K.cells;simp only[fZ];go_wp2;go_roundg (w.size-z)
    case measure=>have:=H.2.2 I;omega
    case rel=>exact⟨z,H.2.1,rfl,hs.o.trans G.o,iG h4 (by omega) _ _ _ _ _ _,qL K _,vE af (by omega) _ _ _ _ _ _,je Z (by omega) _ _ _ _ _ _⟩
   ·have G:Xr (bh w j=(⟨⟨#[]⟩,2,false,p⟩,z)):=U.o I hx hy;clear T U V W X;go_wp2_with fail;refine(dK t x u (aX w p) (bK w p) _ _).mono ?_;rintro e w2 ⟨rfl,a⟩;have d:=m.Yu a (by simp);have l:=E.Yu a (by simp);have c:=a.get F (by simp);have b:=i.trans (a.mono (by simp));clear q s A B C D m E F i a;obtain⟨q,s,A,B,C,D⟩:=d.cells;go_wp2_with fail;refine(vU t _ (by omega)).mono ?_;rintro e w3 ⟨rfl,rfl⟩;obtain⟨M,N,O,P,Q,R⟩:=iQ c;have y:=am c;go_wp2;exact Um (v:=fZ x w ⟨⟨#[]⟩,2,false,p⟩) (by simp[results,results205,go_sem,fZ,M,N,O,P,Q,R]) rfl
     (by rw[hs.o,G.o];exact⟨rfl,iG l (by omega) _ _ _ _ _ _,je b (Ue _) _ _ _ _ _ _⟩)
  ·have G:Xr (bh w j=(⟨t,u,f,p⟩,z)):=X.o I hx;clear T U V W X;have J:f=false:=by cases f;rfl;simp at I
   subst J;have ai:(u==0)=true:=by simpa using I
   go_wp2_with fail;refine(dK t x u (aX w p) (bK w p) _ _).mono ?_;rintro e w2 ⟨rfl,a⟩;have d:=m.Yu a (by simp);have l:=E.Yu a (by simp);have c:=a.get F (by simp);have b:=i.trans (a.mono (by simp));clear q s A B C D m E F i a;obtain⟨q,s,A,B,C,D⟩:=d.cells;obtain⟨M,N,O,P,Q,R⟩:=iQ c;have y:=am c;go_wp2;exact Um (v:=fZ x w ⟨t,u,false,p⟩) (by simp[results,results205,go_sem,fZ,M,N,O,P,Q,R]) rfl
    (by rw[hs.o,G.o];exact⟨rfl,iG l (by omega) _ _ _ _ _ _,je b (Ue _) _ _ _ _ _ _⟩)
theorem uk(hd:w.size<=1024)(hk:S<=w.size)(h:cg k n x w S) :
  Calls prog 156 #[pointer (some ⟨n,0,none⟩)] k fun e w'=>e=returned (fZ x w (aC w S).1)/\cg w' n x w (aC w S).2/\ae [n] k w':=by
 have az:=aj h;go_enter func156,ntmps156;go_wp2_with fail;refine(xb n S x w _ hd hk (by exact h.Yu (bM.alloc _) (by simp))).mono ?_;rintro e w1 ⟨rfl,h1,ac⟩;have af:w1.heap[k.heap.size]?=some (.cells mS 255):=ac.get (Ui _ _) (by simp;omega);have al:ae [n] k w1:=((ae.refl _ _).alloc _).trans ac;have ax:=aj h1;have ar:=aj af;simp only[fZ];go_wp2
 go_loopg [4] (w.size-S) (fun g _ wr=>∃j,j<=w.size/\g=w.size-j/\Xr (aC w S=aC w j)/\cg wr n x w (bQ w j).2/\kK wr w1.heap.size x w (bQ w j).1/\wr.heap[k.heap.size]?=some (.cells mS 255)/\ae [n] k wr)
 ·exact⟨S,hk,rfl,rfl,h1.Yu (bM.alloc _) (by simp),Ui _ _,(bM.alloc _).get af (by simp),al.alloc _⟩
 obtain⟨j,hj,hg,hs,L,B,U,q⟩:=hrel;have A:=iq w j hj;have ap:=rP w j hd;have L1:Xr (_->_->_->aC w j=_):=I9 w j hj;have L2:Xr (_->_->_->aC w j=_):=we w j;have V:Xr (_->aC w j=_):=sY w j;generalize hrr:bQ w j=r at *;obtain⟨⟨t,u,f,p⟩,z⟩:=r;clear hrr;simp only at L B A ap;obtain⟨E,F,G,H,I,J⟩:=B.cells;cases hw:(u==0 && !f)
 ·have K:Xr (aC w j=(⟨t,u,f,p⟩,z)):=V.o (Us hw);clear L1 L2 V;go_wp2_with fail;refine(dK t x u (aX w p) (bK w p) _ _).mono ?_;rintro e w2 ⟨rfl,a⟩;have i:=B.Yu a (by simp);have l:=L.Yu a (by simp);have d:=a.get U (by simp);have b:=q.trans (a.mono (by simp));clear E F G H I J B L U q a;obtain⟨E,F,G,H,I,J⟩:=i.cells;obtain⟨z0,z1,z2,z3,z4,z5⟩:=iQ d;have y:=am d;go_wp2;exact Um (v:=fZ x w ⟨t,u,f,p⟩) (by simp[results,results156,go_sem,fZ,z0,z1,z2,z3,z4,z5]) rfl
   (by rw[hs.o,K.o];exact⟨rfl,iG l (by omega) _ _ _ _ _ _,je b (Ue _) _ _ _ _ _ _⟩)
 ·cases hx:(t.toList == [36,40])
  ·have K:Xr (aC w j=(⟨t,u,f,p⟩,z)):=V.o (Uo hx);clear L1 L2 V;go_wp2_with fail;refine(dK t x u (aX w p) (bK w p) _ _).mono ?_;rintro e w2 ⟨rfl,a⟩;have i:=B.Yu a (by simp);have l:=L.Yu a (by simp);have d:=a.get U (by simp);have b:=q.trans (a.mono (by simp));clear E F G H I J B L U q a;obtain⟨E,F,G,H,I,J⟩:=i.cells;obtain⟨z0,z1,z2,z3,z4,z5⟩:=iQ d;have y:=am d;go_wp2;exact Um (v:=fZ x w ⟨t,u,f,p⟩) (by simp[results,results156,go_sem,fZ,z0,z1,z2,z3,z4,z5]) rfl
    (by rw[hs.o,K.o];exact⟨rfl,iG l (by omega) _ _ _ _ _ _,je b (Ue _) _ _ _ _ _ _⟩)
  ·have M:=jK w z A.2.1;have L4:Xr (_->aC w j=aC w _):=fun h=>L1.o hw hx h;have L5:Xr (_->aC w j=_):=fun h=>L2.o hw hx h;clear L1 L2 V;generalize hcc:bh w z=c at *;obtain⟨⟨X,R,W,Q⟩,T⟩:=c;have HC:Xr (bh w z=(⟨X,R,W,Q⟩,T)):=hcc;clear hcc;simp only at M;go_wp2_with fail;refine(dK t x u (aX w p) (bK w p) _ _).mono ?_;rintro e w2 ⟨rfl,a⟩;have i:=B.Yu a (by simp);have l:=L.Yu a (by simp);have d:=a.get U (by simp);have b:=q.trans (a.mono (by simp));clear E F G H I J B L U q a;obtain⟨E,F,G,H,I,J⟩:=i.cells;go_wp2_with fail;refine(Df n z x w _ hd A.2.1 l).mono ?_;rintro e w3 ⟨rfl,h3,s⟩;have Z:=i.Yu s (by simp;omega);have ag:=s.get d (by simp;omega);have C:=b.trans s;simp only[fZ];rw[HC.o];simp only;go_wp2_with fail;refine(dK X x R (aX w Q) (bK w Q) _ _).mono ?_;rintro e w4 ⟨rfl,m⟩;have an:kK w4 w3.heap.size x w ⟨X,R,W,Q⟩:=m.get (Ui _ _) (by simp);have ai:=(Z.Yu (bM.alloc _) (by simp)).Yu m (by simp);have h4:=(h3.Yu (bM.alloc _) (by simp)).Yu m (by simp);have P:=m.get ((bM.alloc _).get ag (by simp)) (by simp);have D:=(C.alloc _).trans (m.mono (by simp));rw[HC.o]at h4;simp only at h4;clear E F G H I J i d b m Z ag C s h3 l;obtain⟨p0,p1,p2,p3,p4,p5⟩:=an.cells;cases Y:(R==0 && !W)
   ·have K:Xr (aC w j=(⟨X,R,W,Q⟩,T)):=L5.o Y;clear L4 L5;obtain⟨z0,z1,z2,z3,z4,z5⟩:=iQ P;have y:=am P;go_wp2;exact Um (v:=fZ x w ⟨X,R,W,Q⟩) (by simp[results,results156,go_sem,fZ,z0,z1,z2,z3,z4,z5]) rfl
     (by rw[hs.o,K.o];exact⟨rfl,iG h4 (by omega) _ _ _ _ _ _,je D (Ue _) _ _ _ _ _ _⟩)
   ·have K:Xr (aC w j=aC w T):=L4.o Y;clear L4 L5;go_wp2_with fail;refine(xb n T x w _ hd M.2 h4).mono ?_;rintro e w5 ⟨rfl,h5,O⟩;have N:=ai.Yu O (by simp;omega);have ao:=O.get P (by simp;omega);have ad:=D.trans O;have yy:=am N;obtain⟨E,F,G,H,I,J⟩:=N.cells;simp only[fZ];go_wp2;go_roundg (w.size-T)
    case measure=>have:=A.2.2 hw;omega
    case rel=>exact⟨T,M.2,rfl,hs.o.trans K.o,iG h5 (by omega) _ _ _ _ _ _,qL N _,vE ao (by omega) _ _ _ _ _ _,je ad (by omega) _ _ _ _ _ _⟩
structure Pl where
  YB:Xs
  YC:Int
  YD:Int
structure St where
  Yw:Int
  Yx:Xs
  Yc:Xt
  Yn:List (Xs×Pl)
  YA:Pl
  til:Nat
structure Db where
  Yk:Xt
  Ye:Xt
  Yf:Xt
  Yl:Xt
  Yo:Xt
  Yy:List (Nat×Nat)
  Yt:List St
  rbl:Xv
  Yw:Int
  Yx:Xs
  Yc:Xt
  Yg:Bool
  Yn:List (Xs×Pl)
def dm(l:Xt):List Value:=l.map string
def qR(l:List (Nat×Nat)):List Value:=l.flatMap (fun p=>[int i64 p.1,int i64 p.2])
def jF(l:Xv):List Value:=l.map (fun(n:Nat)=>.int i64 n)
def sD(p:Xs×Pl):List Value:=[string p.1,string p.2.YB,int i64 p.2.YC,int i64 p.2.YD]
def oP(l:List (Xs×Pl)):List Value:=l.flatMap sD
def LB(s:St)(a b:Hd):List Value :=
  [int i64 s.Yw,string s.Yx,slice a.ao s.Yc.length a.cap,slice b.ao s.Yn.length b.cap,string s.YA.YB,int i64 s.YA.YC,int i64 s.YA.YD,int i64 s.til]
def ny(l:List St)(H:Nat->Hd):List Value:=l.zipIdx.flatMap (fun p=>LB p.1 (H (10+2*p.2)) (H (11+2*p.2)))
def aD(l:Xt):ew:=⟨9,1,l.length,dm l⟩
def pq(l:List (Nat×Nat)):ew:=⟨337,2,l.length,qR l⟩
def bu(l:Xv):ew:=⟨3,1,l.length,jF l⟩
def iC(l:List (Xs×Pl)):ew:=⟨229,4,l.length,oP l⟩
def jt(l:List St)(H:Nat->Hd):ew:=⟨158,8,l.length,ny l H⟩
def symsAt(l:List St)(i:Nat):Xt:=match l[i]? with | some s=>s.Yc | none=>[]
def uu(l:List St)(i:Nat):List (Xs×Pl):=match l[i]? with | some s=>s.Yn | none=>[]
def inner(l:List St)(n:Nat):ew:=if n % 2=0 then aD (symsAt l (n / 2)) else iC (uu l (n / 2))
def a8(d:Db)(H:Nat->Hd):Nat->ew
  | 0=>aD d.Yk
  | 1=>aD d.Ye
  | 2=>aD d.Yf
  | 3=>aD d.Yl
  | 4=>aD d.Yo
  | 5=>pq d.Yy
  | 6=>jt d.Yt H
  | 7=>bu d.rbl
  | 8=>aD d.Yc
  | 9=>iC d.Yn
  | n+10=>inner d.Yt n
def cO(d:Db)(H:Nat->Hd):List Value :=
  [slice (H 0).ao d.Yk.length (H 0).cap,slice (H 1).ao d.Ye.length (H 1).cap,slice (H 2).ao d.Yf.length (H 2).cap,slice (H 3).ao d.Yl.length (H 3).cap,
   slice (H 4).ao d.Yo.length (H 4).cap,slice (H 5).ao d.Yy.length (H 5).cap,slice (H 6).ao d.Yt.length (H 6).cap,slice (H 7).ao d.rbl.length (H 7).cap,
   int i64 d.Yw,string d.Yx,slice (H 8).ao d.Yc.length (H 8).cap,bool d.Yg,slice (H 9).ao d.Yn.length (H 9).cap]
def ie{α:Type}(H:Nat->α)(i:Nat)(h:α):Nat->α:=fun j=>if j=i then h else H j
theorem dH{α:Type}(H:Nat->α)(i:Nat)(h:α):ie H i h i=h:=by simp[ie]
theorem b9{α:Type}(H:Nat->α)(i j:Nat)(h:α)(a:j≠i):ie H i h j=H j:=by simp[ie,a]
theorem OQ{α:Type}(H:Nat->α)(i:Nat):ie H i (H i)=H:=by funext j;unfold ie;split <;> simp_all
theorem zb(l:List St)(H a:Nat->Hd)(h:∀j,10<=j->a j=H j):ny l a=ny l H:=by
  unfold ny;congr 1;funext p;rw[h _ (by omega),h _ (by omega)]
theorem Oi(d:Db)(H:Nat->Hd)(i:Nat)(h:Hd)(a:i<10)(j:Nat):a8 d (ie H i h) j=a8 d H j:=by
  have e:ny d.Yt (ie H i h)=ny d.Yt H:=zb _ _ _ (fun j b=>b9 _ _ _ _ (by omega));unfold a8;split <;> first | rfl | (simp only[jt,e])
def gF(H:Nat->Hd)(k:Nat):Prop:=∃i,(H i).Yv=some k
structure gy(P:Nat->Prop)(w w':World):Prop where
  os:w'.os=w.os
  tape:w'.tape=w.tape
  output:w'.output=w.output
  size:w.heap.size<=w'.heap.size
  block:∀k,k<w.heap.size->¬P k->w'.heap[k]?=w.heap[k]?
theorem gy.refl(P:Nat->Prop)(w:World):gy P w w:=⟨rfl,rfl,rfl,Ue _,fun _ _ _=>rfl⟩
theorem ae.toP(h:ae N l T){P:Nat->Prop}(b:∀k,k∈N->k<l.heap.size->P k):gy P l T :=
  ⟨h.os,h.tape,h.output,h.size,fun k a d=>h.block k a (fun c=>d (b k c a))⟩
theorem gy.get(h:gy g l T)(a:l.heap[b]?=some y2)(c:¬g b):T.heap[b]?=some y2:=(h.block b (aj a) c).trans a
theorem gy.Yh{a:World}(h:gy g a l)(k:ae [] l T):gy g a T :=
  ⟨k.os.trans h.os,k.tape.trans h.tape,k.output.trans h.output,Un h.size k.size,fun i b c=>(k.block i (Ul b h.size) (by simp)).trans (h.block i b c)⟩
theorem gy.setCell(h:gy g l T){p:Addr}(a:g p.block∨l.heap.size<=p.block)(u:Value):gy g l (T.setCell p u) :=
  ⟨h.os,h.tape,h.output,by have:=h.size;simp[World.setCell];omega,fun k c b=>by
    rw[Ut _ _ _ _ (by rintro rfl;exact a.elim b (fun a=>by omega))];exact h.block k c b⟩
structure aV(w:World)(b t:Nat)(pre post:List Value)(d:Db)(H:Nat->Hd):Prop where
  Yv:w.heap[b]?=some (.cells (pre++(cO d H++post)).toArray t)
  YF:∀i,aB w (H i) (a8 d H i)
  apart:∀i j,i≠j->(H i).Yv=none∨(H i).Yv≠(H j).Yv
  off:∀i,(H i).Yv≠some b
theorem aV.lt{a:Db}(h:aV l b y d i a H):b<l.heap.size:=aj h.Yv
theorem aV.free{c:Db}(h:aV l b y d i c H)(a:Nat):l.frozen? ⟨b,a,none⟩=false:=am h.Yv a
theorem aV.inlt{a:Db}(h:aV l b y d i a H)(e:gF H y1):y1<l.heap.size:=by
  obtain⟨f,c⟩:=e;exact(h.YF f).lt c
theorem aV.keptP{e:Db}(h:aV l b y d i e H)(f:gy g l T)(j:¬g b)(m:∀k,gF H k->¬g k):aV T b y d i e H :=
  ⟨f.get h.Yv j,fun c=>(h.YF c).Ym (fun k a=>f.block k ((h.YF c).lt a) (m k ⟨c,a⟩)),h.apart,h.off⟩
theorem aV.Yu{a:Db}(h:aV l b y d i a H)(e:ae N l T)(c:b∉N)(g:∀k,gF H k->k∉N):aV T b y d i a H :=
  h.keptP (e.toP (P:=(·∈N)) (fun _ f _=>f)) c g
theorem aV.Yh{a:Db}(h:aV l b y d i a H)(c:ae [] l T):aV T b y d i a H:=h.Yu c (by simp) (by simp)
theorem Ce(b:z6.length=zt)(a:f<o.length):(z6++(o++L)).toArray[zt+f]?=o[f]?:=by
  subst b;simp[List.getElem?_append_right,List.getElem?_append_left a]
theorem I6(u:Value)(b:z6.length=zt)(a:f<o.length):(z6++(o++L)).set (zt+f) u=z6++(o.set f u++L):=by
  subst b;rw[V9 _ _ (by omega),show z6.length+f-z6.length=f by omega,WL _ _ a]
theorem aV.cellAt{c:Db}(h:aV l b y d i c H)(o:Nat)(f:d.length=o)(a:Nat)(e:a<13):l.cell? ⟨b,o+a,none⟩=(cO c H)[a]? :=
  (ah h.Yv (o+a)).trans (Ce d (cO c H) i o a f e)
theorem aV.cells{a:Db}(h:aV l b y d i a H)(o:Nat)(c:d.length=o) :
    l.cell? ⟨b,o,none⟩=some (slice (H 0).ao a.Yk.length (H 0).cap)/\l.cell? ⟨b,o+1,none⟩=some (slice (H 1).ao a.Ye.length (H 1).cap) /\
    l.cell? ⟨b,o+2,none⟩=some (slice (H 2).ao a.Yf.length (H 2).cap)/\l.cell? ⟨b,o+3,none⟩=some (slice (H 3).ao a.Yl.length (H 3).cap) /\
    l.cell? ⟨b,o+4,none⟩=some (slice (H 4).ao a.Yo.length (H 4).cap)/\l.cell? ⟨b,o+5,none⟩=some (slice (H 5).ao a.Yy.length (H 5).cap) /\
    l.cell? ⟨b,o+6,none⟩=some (slice (H 6).ao a.Yt.length (H 6).cap)/\l.cell? ⟨b,o+7,none⟩=some (slice (H 7).ao a.rbl.length (H 7).cap) /\
    l.cell? ⟨b,o+8,none⟩=some (int i64 a.Yw)/\l.cell? ⟨b,o+9,none⟩=some (string a.Yx)/\l.cell? ⟨b,o+10,none⟩=some (slice (H 8).ao a.Yc.length (H 8).cap) /\
    l.cell? ⟨b,o+11,none⟩=some (bool a.Yg)/\l.cell? ⟨b,o+12,none⟩=some (slice (H 9).ao a.Yn.length (H 9).cap):=by
  have m:=h.cellAt o c;exact⟨m 0 (by omega),m 1 (by omega),m 2 (by omega),m 3 (by omega),m 4 (by omega),m 5 (by omega),m 6 (by omega),m 7 (by omega),m 8 (by omega),m 9 (by omega),m 10 (by omega),m 11 (by omega),m 12 (by omega)⟩
def aw(b:Nat)(w:World)(H:Nat->Hd)(w':World)(H':Nat->Hd):Prop :=
  gy (fun k=>k=b∨gF H k) w w'/\∀k,gF H' k->gF H k∨w.heap.size<=k
theorem aw.refl(H:Nat->Hd):aw S k H k H:=⟨gy.refl _ _,fun _ a=>Us a⟩
theorem aw.trans{w1:World}{g:Nat->Hd}(a:aw b l H w1 z7)(c:aw b w1 z7 T g):aw b l H T g:=by
  refine⟨⟨c.1.os.trans a.1.os,c.1.tape.trans a.1.tape,c.1.output.trans a.1.output,Un a.1.size c.1.size,?_⟩,?_⟩
  · intro k d f
    rw[<-a.1.block k d f];refine c.1.block k (Ul d a.1.size) ?_;rintro (e | i)
    · exact f (Us e)
    · rcases a.2 k i with h | h
      · exact f (Uo h)
      · omega
  · intro k d
    rcases c.2 k d with h | h
    · exact a.2 k h
    · exact Uo (Un a.1.size h)
theorem aw.Yh(a:aw b l H T z7)(c:ae [] T y0):aw b l H y0 z7 :=
  a.trans ⟨c.toP (by simp),fun _ d=>Us d⟩
theorem aw.first(c:ae [] l T)(a:aw b T H y0 z7):aw b l H y0 z7 :=
  aw.trans ⟨c.toP (by simp),fun _ d=>Us d⟩ a
theorem aV.putG{B d':Db}(h:aV l b y d i B H)(o c:Nat)(L:d.length=o)(m:Nat)(J:m<10)(n:Hd)(M:aB T n (a8 d' H m))(v:l.grownBy T (H m).Yv)(f:n.Yv=none∨n.Yv=(H m).Yv∨∃g,n.Yv=some g/\l.heap.size<=g)(z:∀j,j≠m->aB l (H j) (a8 d' H j))(u:Value)(I:c<13)(K:(cO B H).set c u=cO d' (ie H m n)) :
    aV (T.setCell ⟨b,o+c,none⟩ u) b y d i d' (ie H m n)/\aw b l H (T.setCell ⟨b,o+c,none⟩ u) (ie H m n):=by
  have G:=h.lt;have C:T.heap[b]?=some (.cells (d++(cO B H++i)).toArray y):=(v.block b G (fun e=>h.off m e.symm)).trans h.Yv;have t:∀j,(ie H m n j).Yv≠some b:=by
    intro j;by_cases e:j=m
    · subst e;rw[dH];intro w
      rcases f with f | f | ⟨g,f,r⟩
      · rw[f]at w;cases w
      · exact h.off j (f ▸ w)
      · rw[f]at w;cases w;omega
    · rw[b9 _ _ _ _ e];exact h.off j
  refine⟨⟨?_,?_,?_,t⟩,⟨v.os,v.tape,v.output,by have:=v.size;simp[World.setCell];omega,?_⟩,?_⟩
  · rw[ab C,U0,I6 d (cO B H) i o c u L I,K]
  · intro j
    have q:aB T (ie H m n j) (a8 d' (ie H m n) j):=by
      rw[Oi d' H m n J j];by_cases e:j=m
      · subst e;rw[dH];exact M
      · rw[b9 _ _ _ _ e]
        refine(z j e).Ym (fun k p=>v.block k ((h.YF j).lt p) ?_);intro x;rcases h.apart j m e with a | a
        · rw[a]at p;cases p
        · exact a (p.trans x)
    refine q.Ym (fun k p=>Ut _ _ _ _ ?_);rintro rfl;exact t j p
  · intro j A s
    by_cases e:j=m
    · subst e
      rw[dH,b9 _ _ _ _ (fun e=>s e.symm)];rcases f with f | f | ⟨g,f,r⟩
      · exact Us f
      · rw[f];exact h.apart j A s
      · right;rw[f];intro x;have:=(h.YF A).lt x.symm;omega
    · rw[b9 _ _ _ _ e]
      by_cases D:A=m
      · subst D
        rw[dH];rcases f with f | f | ⟨g,f,r⟩
        · rw[f];cases (H j).Yv <;> simp
        · rw[f];exact h.apart j A s
        · cases w:(H j).Yv with
          | none=>exact Us rfl
          | some k=>right;rw[f];intro x;cases x;have:=(h.YF j).lt w;omega
      · rw[b9 _ _ _ _ D];exact h.apart j A s
  · intro k p F
    rw[Ut _ _ _ _ (fun e=>F (Us e))];exact v.block k p (fun e=>F (Uo ⟨m,e.symm⟩))
  · intro k p
    obtain⟨j,e⟩:=p;by_cases E:j=m
    · subst E
      rw[dH]at e;rcases f with f | f | ⟨g,f,r⟩
      · rw[f]at e;cases e
      · exact Us ⟨j,f ▸ e⟩
      · rw[f]at e;cases e;exact Uo r
    · rw[b9 _ _ _ _ E]at e
      exact Us ⟨j,e⟩
theorem aV.put{k d':Db}(h:aV l b y d i k H)(o c:Nat)(t:d.length=o)(a:Nat)(q:a<10)(e:Hd)(v:aB T e (a8 d' H a))(p:l.grownBy T (H a).Yv)(n:e.Yv=none∨e.Yv=(H a).Yv∨∃g,e.Yv=some g/\l.heap.size<=g)(f:∀j,j≠a->a8 d' H j=a8 k H j)(u:Value)(m:c<13)(s:(cO k H).set c u=cO d' (ie H a e)) :
    aV (T.setCell ⟨b,o+c,none⟩ u) b y d i d' (ie H a e)/\aw b l H (T.setCell ⟨b,o+c,none⟩ u) (ie H a e) :=
  h.putG o c t a q e v p n (fun j r=>by rw[f j r];exact h.YF j) u m s
theorem aV.set{e d':Db}(h:aV l b y d i e H)(o c:Nat)(n:d.length=o)(a:∀j,a8 d' H j=a8 e H j)(u:Value)(g:c<13)(m:(cO e H).set c u=cO d' H) :
    aV (l.setCell ⟨b,o+c,none⟩ u) b y d i d' H/\aw b l H (l.setCell ⟨b,o+c,none⟩ u) H:=by
  refine⟨⟨?_,?_,h.apart,h.off⟩,(gy.refl _ _).setCell (Us (Us rfl)) _,fun _ f=>Us f⟩
  · rw[ab h.Yv,U0,I6 d (cO e H) i o c u n g,m]
  · intro j
    rw[a j];refine(h.YF j).Ym (fun k f=>Ut _ _ _ _ ?_);rintro rfl;exact h.off j f
theorem aV.app{n d':Db}(h:aV l b y d i n H)(o c:Nat)(v:d.length=o)(f:Nat)(x:f<10)(g a m:Nat)(r:ew)(s:aB T ⟨some ⟨g,0,none⟩,a⟩ r)(A:r=a8 d' H f)(p:l.grownBy T (H f).Yv)(k:(H f).Yv=some g∨l.heap.size<=g)(q:∀j,j≠f->a8 d' H j=a8 n H j)(t:c<13)(w:Value)(B:(cO n H)[c]?=some w)(z:(cO n H).set c (slice (some ⟨g,0,none⟩) m a)=cO d' (ie H f ⟨some ⟨g,0,none⟩,a⟩)) :
    T.cell? ⟨b,o+c,none⟩=some w/\T.frozen? ⟨b,o+c,none⟩=false /\
    Xr (aV (T.setCell ⟨b,o+c,none⟩ (slice (some ⟨g,0,none⟩) m a)) b y d i d' (ie H f ⟨some ⟨g,0,none⟩,a⟩) /\
      aw b l H (T.setCell ⟨b,o+c,none⟩ (slice (some ⟨g,0,none⟩) m a)) (ie H f ⟨some ⟨g,0,none⟩,a⟩)):=by
  have u:=(p.block b h.lt (fun e=>h.off f e.symm)).trans h.Yv;subst A;refine⟨((ah u (o+c)).trans (Ce d (cO n H) i o c v t)).trans B,am u _,?_⟩;exact h.put (d':=d') o c v f x ⟨some ⟨g,0,none⟩,a⟩ s p
    (by rcases k with e | e
        · exact Uo (Us e.symm)
        · exact Uo (Uo ⟨g,rfl,by simpa using e⟩)) q _ t z
theorem Ey(d:Db)(H:Nat->Hd)(l:Xt):∀j,j≠0->a8 { d with Yk:=l } H j=a8 d H j:=by
  intro j a
  match j with
  | 0=>exact absurd rfl a
  | 1=>rfl
  | 2=>rfl
  | 3=>rfl
  | 4=>rfl
  | 5=>rfl
  | 6=>rfl
  | 7=>rfl
  | 8=>rfl
  | 9=>rfl
  | n+10=>rfl
theorem yR(d:Db)(H:Nat->Hd)(l:Xt):∀j,j≠1->a8 { d with Ye:=l } H j=a8 d H j:=by
  intro j a
  match j with
  | 0=>rfl
  | 1=>exact absurd rfl a
  | 2=>rfl
  | 3=>rfl
  | 4=>rfl
  | 5=>rfl
  | 6=>rfl
  | 7=>rfl
  | 8=>rfl
  | 9=>rfl
  | n+10=>rfl
theorem yU(d:Db)(H:Nat->Hd)(l:Xt):∀j,j≠2->a8 { d with Yf:=l } H j=a8 d H j:=by
  intro j a
  match j with
  | 0=>rfl
  | 1=>rfl
  | 2=>exact absurd rfl a
  | 3=>rfl
  | 4=>rfl
  | 5=>rfl
  | 6=>rfl
  | 7=>rfl
  | 8=>rfl
  | 9=>rfl
  | n+10=>rfl
theorem wi(d:Db)(H:Nat->Hd)(l:Xt):∀j,j≠3->a8 { d with Yl:=l } H j=a8 d H j:=by
  intro j a
  match j with
  | 0=>rfl
  | 1=>rfl
  | 2=>rfl
  | 3=>exact absurd rfl a
  | 4=>rfl
  | 5=>rfl
  | 6=>rfl
  | 7=>rfl
  | 8=>rfl
  | 9=>rfl
  | n+10=>rfl
theorem yT(d:Db)(H:Nat->Hd)(l:Xt):∀j,j≠4->a8 { d with Yo:=l } H j=a8 d H j:=by
  intro j a
  match j with
  | 0=>rfl
  | 1=>rfl
  | 2=>rfl
  | 3=>rfl
  | 4=>exact absurd rfl a
  | 5=>rfl
  | 6=>rfl
  | 7=>rfl
  | 8=>rfl
  | 9=>rfl
  | n+10=>rfl
theorem wj(d:Db)(H:Nat->Hd)(l:List (Nat×Nat)):∀j,j≠5->a8 { d with Yy:=l } H j=a8 d H j:=by
  intro j a
  match j with
  | 0=>rfl
  | 1=>rfl
  | 2=>rfl
  | 3=>rfl
  | 4=>rfl
  | 5=>exact absurd rfl a
  | 6=>rfl
  | 7=>rfl
  | 8=>rfl
  | 9=>rfl
  | n+10=>rfl
theorem Ez(d:Db)(H:Nat->Hd)(l:Xv):∀j,j≠7->a8 { d with rbl:=l } H j=a8 d H j:=by
  intro j a
  match j with
  | 0=>rfl
  | 1=>rfl
  | 2=>rfl
  | 3=>rfl
  | 4=>rfl
  | 5=>rfl
  | 6=>rfl
  | 7=>exact absurd rfl a
  | 8=>rfl
  | 9=>rfl
  | n+10=>rfl
theorem uC(d:Db)(H:Nat->Hd)(l:Xt):∀j,j≠8->a8 { d with Yc:=l } H j=a8 d H j:=by
  intro j a
  match j with
  | 0=>rfl
  | 1=>rfl
  | 2=>rfl
  | 3=>rfl
  | 4=>rfl
  | 5=>rfl
  | 6=>rfl
  | 7=>rfl
  | 8=>exact absurd rfl a
  | 9=>rfl
  | n+10=>rfl
theorem yS(d:Db)(H:Nat->Hd)(l:List (Xs×Pl)):∀j,j≠9->a8 { d with Yn:=l } H j=a8 d H j:=by
  intro j a
  match j with
  | 0=>rfl
  | 1=>rfl
  | 2=>rfl
  | 3=>rfl
  | 4=>rfl
  | 5=>rfl
  | 6=>rfl
  | 7=>rfl
  | 8=>rfl
  | 9=>exact absurd rfl a
  | n+10=>rfl
theorem Lx(d:Db)(H:Nat->Hd)(l:Int):∀j,a8 { d with Yw:=l } H j=a8 d H j:=by
  intro j
  match j with
  | 0=>rfl
  | 1=>rfl
  | 2=>rfl
  | 3=>rfl
  | 4=>rfl
  | 5=>rfl
  | 6=>rfl
  | 7=>rfl
  | 8=>rfl
  | 9=>rfl
  | n+10=>rfl
theorem GF(d:Db)(H:Nat->Hd)(l:Xs):∀j,a8 { d with Yx:=l } H j=a8 d H j:=by
  intro j
  match j with
  | 0=>rfl
  | 1=>rfl
  | 2=>rfl
  | 3=>rfl
  | 4=>rfl
  | 5=>rfl
  | 6=>rfl
  | 7=>rfl
  | 8=>rfl
  | 9=>rfl
  | n+10=>rfl
theorem Co(d:Db)(H:Nat->Hd)(l:Bool):∀j,a8 { d with Yg:=l } H j=a8 d H j:=by
  intro j
  match j with
  | 0=>rfl
  | 1=>rfl
  | 2=>rfl
  | 3=>rfl
  | 4=>rfl
  | 5=>rfl
  | 6=>rfl
  | 7=>rfl
  | 8=>rfl
  | 9=>rfl
  | n+10=>rfl
def aJ(l:Xt)(x:Xs):Bool:=l.any (fun y=>y.toList==x.toList)
theorem IR(h:f<v.length)(b:aJ v w=aJ (v.drop f) w)(a:((v[f]).toList==w.toList)=true):aJ v w=true:=by
 rw[b,UB h];simp only[aJ,List.any_cons,a,Bool.true_or]
theorem DF(h:f<v.length)(b:aJ v w=aJ (v.drop f) w)(a:((v[f]).toList==w.toList)=false):aJ v w=aJ (v.drop (f+1)) w:=by
 rw[b,UB h];simp only[aJ,List.any_cons,a,Bool.false_or]
theorem DG(h:¬f<v.length)(a:aJ v w=aJ (v.drop f) w):aJ v w=false:=by
 rw[a,Vm (by omega)];rfl
theorem uJ(h:f<v.length):(dm v)[f]?=some (string v[f]):=by simp[dm,h]
set_option maxRecDepth 512
theorem fG(j:Hd)(l:Xt)(x:Xs)(w:World)(b:aB w j (aD l))(v:l.length<=1073741824) :
  Calls prog 254 #[slice j.ao l.length j.cap,string x] w fun e y=>e=returned (bool (aJ l x))/\y=w:=by
 obtain⟨z,s⟩:=j;rcases b.Ys with ⟨m,q,_⟩ | ⟨g,t,p,_⟩
 ·have f:l.length=0:=q;have n:l=[]:=UI f;subst n
  injection m with m u
  subst m;clear b q f v u;go_enter func254,ntmps254;go_wp2;refine Wd 1 ?_;rw[Wt];go_wp2;go_ret;exact⟨rfl,rfl⟩
 ·simp only at p;subst p;go_enter func254,ntmps254;go_wp2
  go_loopg [5] l.length (fun g i wr=>∃k:Nat,k<=l.length/\g=l.length-k/\i=int i64 k/\Xr (aJ l x=aJ (l.drop k) x)/\wr=w)
  ·exact⟨0,by omega,by omega,rfl,rfl,rfl⟩
  obtain⟨k,C,B,rfl,c,rfl⟩:=hrel;by_cases a:k<l.length
  ·have A:=b.cell rfl k (string l[k]) (uJ l k a);cases r:((l[k]).toList==x.toList)
   ·have d:Xr (aJ l x=aJ (l.drop (k+1)) x):=DF l x k a c.o r;clear c b;go_wp2;go_roundg (l.length-(k+1))
    ·exact⟨k+1,by omega,rfl,by go_num,d,rfl⟩
    omega
   ·have d:Xr (aJ l x=true):=IR l x k a c.o r;clear c b;go_wp2;go_ret;exact⟨aE d.o.symm,rfl⟩
  ·have d:Xr (aJ l x=false):=DG l x k a c.o;clear c b;go_wp2;go_ret;exact⟨aE d.o.symm,rfl⟩
theorem jN:(prog.info? 9).map (fun i=>(i.zero,i.size,i.bytes))=some (some (string ⟨#[]⟩),1,16):=by kernel_rfl
theorem LM:dm (v++[w])=dm v++[string w]:=by simp[dm]
theorem eI:(⟨(aD v).e,(aD v).size,(aD v).n+1,(aD v).xs++[string w]⟩:ew)=aD (v++[w]):=by
 simp[aD,LM]
set_option maxRecDepth 100000
theorem Bh(d:Db)(H:Nat->Hd)(x:Xs)(w:World)(h:aV w n S o L d H)(z:o.length=D)(V:d.Yk.length<=1073741824) :
  Calls prog 265 #[pointer (some ⟨n,D,none⟩),string x] w fun e B=>e=returned (tuple #[])/\∃y,aV B n S o L { d with Yk:=d.Yk++[x] } y/\aw n w H B y:=by
 obtain⟨G,F,p,q,r⟩:=UC jN;obtain⟨J,K,M,N,O,P,Q,R,T,U,s,t,v⟩:=h.cells D z;have m:=h.Yh ((ae.refl [] w).alloc (.cells #[string x] 9));have b:=m.YF 0;go_enter func265,ntmps265;go_wp2_with (at_builtin;refine aN _ rfl (.tmp 8) (.tmp 10) 61 rfl G (string ⟨#[]⟩) 16 (H 0) (aD d.Yk) underlying61 F p q r rfl UA rfl b ⟨w.heap.size,0,none⟩ 1 1 [string x] rfl rfl ?c1 ?c2 UA ?c3 ?c4 ?_)
 case c1=>intro j u k;match j,k with | 0,k=>simp at k;subst k;simp[Addr.add]
 case c2=>intro u A;simp at A;subst A;rfl
 case c3=>simp only[aD];unfold maxLen;omega
 case c4=>simp only[aD];omega
 ·intro g c W i f a;obtain⟨I,E,l⟩:=m.app (d':={ d with Yk:=d.Yk++[x] }) D 0 z 0 (by omega) g c ((aD d.Yk).n+1) _ i (eI d.Yk x) f (by simpa using a) (Ey d H _) (by omega) _ rfl (by simp[cO,ie,aD]);simp only[Nat.add_zero]at I E l;clear m b J K M N O P Q R T U s t v i f a;go_wp2;go_end0;exact⟨rfl,_,l.o.1,l.o.2.first ((ae.refl [] w).alloc _)⟩
theorem Bi(d:Db)(H:Nat->Hd)(x:Xs)(w:World)(h:aV w n S o L d H)(z:o.length=D)(U:d.Yo.length<=1073741824) :
  Calls prog 268 #[pointer (some ⟨n,D,none⟩),string x] w fun e B=>e=returned (tuple #[])/\∃v,aV B n S o L { d with Yo:=d.Yo++[x] } v/\aw n w H B v:=by
 obtain⟨F,E,m,p,q⟩:=UC jN;obtain⟨G,I,J,K,M,N,O,P,Q,R,r,s,t⟩:=h.cells D z;have l:=h.Yh ((ae.refl [] w).alloc (.cells #[string x] 9));have b:=l.YF 4;go_enter func268,ntmps268;go_wp2_with (at_builtin;refine aN _ rfl (.tmp 8) (.tmp 10) 61 rfl F (string ⟨#[]⟩) 16 (H 4) (aD d.Yo) underlying61 E m p q rfl UA rfl b ⟨w.heap.size,0,none⟩ 1 1 [string x] rfl rfl ?c1 ?c2 UA ?c3 ?c4 ?_)
 case c1=>intro j u k;match j,k with | 0,k=>simp at k;subst k;simp[Addr.add]
 case c2=>intro u A;simp at A;subst A;rfl
 case c3=>simp only[aD];unfold maxLen;omega
 case c4=>simp only[aD];omega
 ·intro g c W i f a;obtain⟨V,T,y⟩:=l.app (d':={ d with Yo:=d.Yo++[x] }) D 4 z 4 (by omega) g c ((aD d.Yo).n+1) _ i (eI d.Yo x) f (by simpa using a) (yT d H _) (by omega) _ rfl (by simp[cO,ie,aD])
  skip
  clear l b G I J K M N O P Q R r s t i f a;go_wp2;go_end0;exact⟨rfl,_,y.o.1,y.o.2.first ((ae.refl [] w).alloc _)⟩
structure gC(d:Db)(N:Nat):Prop where
 Yk:d.Yk.length<=N
 Ye:d.Ye.length<=N
 Yf:d.Yf.length<=N
 Yl:d.Yl.length<=N
 Yo:d.Yo.length<=N
 Yy:d.Yy.length<=N
 Yt:d.Yt.length<=N
 rbl:d.rbl.length<=N
 Yc:d.Yc.length<=N
 Yn:d.Yn.length<=N
theorem rN:(⟨(aD m).e,(aD m).size,(aD m).n+v.length,(aD m).xs++dm v⟩:ew)=aD (m++v):=by
 simp[aD,dm]
theorem mQ:∀u∈dm v,u.oneCell'=true:=by
 intro u a;simp only[dm,List.mem_map]at a;obtain⟨x,_,rfl⟩:=a;rfl
theorem uR(d:Db)(H:Nat->Hd)(w:World)(h:aV w n S o L d H)(B:o.length=D)(N:0<d.Yc.length)(C:gC d 100000000) :
  Calls prog 266 #[pointer (some ⟨n,D,none⟩),slice (H 8).ao d.Yc.length (H 8).cap] w fun e E=>e=returned (tuple #[])/\∃v,aV E n S o L { d with Ye:=d.Ye++d.Yc } v/\aw n w H E v:=by
 obtain⟨O,I,m,p,q⟩:=UC jN;obtain⟨P,Q,R,T,U,V,W,X,Y,Z,r,s,t⟩:=h.cells D B;have b:=h.YF 1;have f:aB w (H 8) (aD d.Yc):=h.YF 8;have K:=C.Ye;have M:=C.Yc;rcases f.Ys with ⟨_,G,_⟩ | ⟨A,y,z,_⟩
 ·have:d.Yc.length=0:=G;omega
 ·rw[z];have c:Xr (∀j u,(dm d.Yc)[j]?=some u->w.cell? ((⟨A,0,none⟩:Addr).add j)=some u):=fun j u J=>by rw[bS];exact f.cell z j u J
  clear f;go_enter func266,ntmps266;go_wp2_with (at_builtin;refine aN _ rfl (.tmp 8) (.tmp 9) 61 rfl O (string ⟨#[]⟩) 16 (H 1) (aD d.Ye) underlying61 I m p q rfl UA rfl b ⟨A,0,none⟩ d.Yc.length (H 8).cap (dm d.Yc) rfl ?c0 c.o (mQ _) N ?c3 ?c4 ?_)
  case c0=>simp[dm,aD]
  case c3=>simp only[aD];unfold maxLen;omega
  case c4=>simp only[aD];omega
  ·intro g i w1 l k a;obtain⟨k0,f0,x⟩:=h.app (d':={ d with Ye:=d.Ye++d.Yc }) D 1 B 1 (by omega) g i ((aD d.Ye).n+d.Yc.length) _ l (rN d.Ye d.Yc) k a (yR d H _) (by omega) _ rfl (by simp[cO,ie,aD]);clear b P Q R T U V W X Y Z r s t l k a c;go_wp2;go_end0;exact⟨rfl,_,x.o.1,x.o.2⟩
def fa(v l:Xt):Xt:=l.foldl (fun v x=>if aJ v x=true then v else v++[x]) v
def eG(d:Db)(k:Nat):Db:={ d with Yl:=d.Yl++d.Yc,Yf:=fa d.Yf (d.Yc.take k) }
theorem LU:fa m (v++[w])=if aJ (fa m v) w=true then fa m v else fa m v++[w]:=by
 unfold fa;rw[VY];rfl
theorem E1(v l:Xt):(fa v l).length<=v.length+l.length:=by
 induction l generalizing v with
 | nil=>simp[fa]
 | cons x l a =>
  have:=a (if aJ v x=true then v else v++[x]);have e:fa v (x :: l)=fa (if aJ v x=true then v else v++[x]) l:=rfl;rw[e];have b:(if aJ v x=true then v else v++[x]).length<=v.length+1:=by split <;> simp
  simp only[List.length_cons];omega
theorem pB{α:Type}(l:List α)(k:Nat)(h:k<l.length):l.take (k+1)=l.take k++[l[k]]:=by simp
theorem uS(d:Db)(H:Nat->Hd)(w:World)(h:aV w n S o L d H)(E:o.length=D)(hm:0<d.Yc.length)(hs:gC d 100000000) :
  Calls prog 267 #[pointer (some ⟨n,D,none⟩),slice (H 8).ao d.Yc.length (H 8).cap] w fun e w'=>e=returned (tuple #[])/\∃H',aV w' n S o L (eG d d.Yc.length) H'/\aw n w H w' H':=by
 obtain⟨i0,hi,G,I,J⟩:=UC jN;obtain⟨K,M,X,N,O,P,Q,R,U,V,s,t,v⟩:=h.cells D E;have z:=h.YF 3;have f:aB w (H 8) (aD d.Yc):=h.YF 8;have ag:=hs.Yl;have ai:=hs.Yc;have al:=hs.Yf;rcases f.Ys with ⟨_,h0,_⟩ | ⟨g8,ac,e8,_⟩
 ·have:d.Yc.length=0:=h0;omega
 ·rw[e8];have A:Xr (∀j u,(dm d.Yc)[j]?=some u->w.cell? ((⟨g8,0,none⟩:Addr).add j)=some u):=fun j u hj=>by rw[bS];exact f.cell e8 j u hj
  clear f;go_enter func267,ntmps267;go_wp2_with (at_builtin;refine aN _ rfl (.tmp 9) (.tmp 10) 61 rfl i0 (string ⟨#[]⟩) 16 (H 3) (aD d.Yl) underlying61 hi G I J rfl UA rfl z ⟨g8,0,none⟩ d.Yc.length (H 8).cap (dm d.Yc) rfl ?c0 A.o (mQ _) hm ?c3 ?c4 ?_)
  case c0=>simp[dm,aD]
  case c3=>simp only[aD];unfold maxLen;omega
  case c4=>simp only[aD];omega
  ·intro g m w1 q p a;obtain⟨k0,f0,B⟩:=h.app (d':=eG d 0) D 3 E 3 (by omega) g m ((aD d.Yl).n+d.Yc.length) _ q (rN d.Yl d.Yc) p a (wi d H _) (by omega) _ rfl (by simp[cO,ie,aD,eG,fa]);clear z K M X N O P Q R U V s t v q p a A;go_wp2
   go_loopg [4] d.Yc.length (fun g i wr=>∃(k:Nat) (c:Nat->Hd),k<=d.Yc.length/\g=d.Yc.length-k/\i=int i64 k/\c 8=H 8/\aV wr n S o L (eG d k) c/\aw n w H wr c)
   ·exact⟨0,_,by omega,by omega,rfl,by simp[ie],B.o.1,B.o.2⟩
   obtain⟨k,c,hk,hg,rfl,h8,y,T⟩:=hrel;clear B k0 f0;by_cases C:k<d.Yc.length
   ·obtain⟨K,M,X,N,O,P,Q,R,U,V,s,t,v⟩:=y.cells D E;have f:aB wr (H 8) (aD d.Yc):=(by have:=y.YF 8;rw[h8]at this;exact this);have c1:=f.cell e8 k (string d.Yc[k]) (uJ d.Yc k C);have F:(eG d k).Yf.length<=1073741824:=by
     have:=E1 d.Yf (d.Yc.take k);simp only[List.length_take]at this
     show(fa d.Yf (d.Yc.take k)).length<=_
     omega
    have W:Xr (eG d (k+1)=if aJ (eG d k).Yf d.Yc[k]=true then eG d k else { eG d k with Yf:=(eG d k).Yf++[d.Yc[k]] }):=by
     show eG d (k+1)=_;unfold eG;rw[pB d.Yc k C,LU];simp only;split <;> rfl
    generalize eG d k=b at *;generalize d.Yc[k]=x at *;clear K M N O P Q R U V s t v f;cases hb:aJ b.Yf x
    ·have Z:Xr (eG d (k+1)={ b with Yf:=b.Yf++[x] }):=(by show eG d (k+1)=_;rw[W.o];simp[hb]);clear W;go_wp2_with fail;go_quiet ((go_at_call 254;exact UD (fG (c 2) b.Yf x _ (y.Yh (bM.drewN _) |>.YF 2) F)));obtain⟨l,r⟩:∃l,l=wr.drewN nq:=⟨_,rfl⟩
     rw[<-r];have Y:aV l n S o L b c:=by rw[r];exact y.Yh (bM.drewN _)
     have T2:aw n w H l c:=(by rw[r];exact T.Yh (bM.drewN _));have ad:l.cell? ⟨g8,k,none⟩=some (string x):=(by rw[r];exact c1);clear r c1 y T X;obtain⟨K,M,X,N,O,P,Q,R,U,V,s,t,v⟩:=Y.cells D E;have af:=Y.lt;clear K M N O P Q R U V s t v;have hD:Xr (aV (l.alloc (.cells #[string x] 9)).drew n S o L b c):=Y.Yh ((ae.refl [] l).alloc _).drew;have s2:Xr (∀j u,([string x]:List Value)[j]?=some u->(l.alloc (.cells #[string x] 9)).drew.cell? ((⟨l.heap.size,0,none⟩:Addr).add j)=some u):=by
      intro j u hj;have hk:(l.alloc (.cells #[string x] 9)).drew.heap[l.heap.size]?=some (.cells #[string x] 9):=Ui l _;rw[bS,ah hk];simpa using hj
     have s3:Xr (∀u∈([string x]:List Value),u.oneCell'=true):=(by intro u hu;simp at hu;subst hu;rfl);have s4:Xr ((aD b.Yf).n+1<=maxLen):=(by show _<=_;simp only[aD];unfold maxLen;omega);have s5:Xr (((aD b.Yf).n+1)*16<=140737488355328):=(by show _<=_;simp only[aD];omega);go_wp2_with fail;go_region_law (refine cv rfl (.tmp 34) (.tmp 39) 61 rfl i0 (string ⟨#[]⟩) 16 (c 2) (aD b.Yf) underlying61 hi G I J rfl UA (by simp[Act.eval] <;> rfl) (hD.o.YF 2) ⟨l.heap.size,0,none⟩ 1 1 [string x] (by simp[Act.eval]) rfl s2.o s3.o UA s4.o s5.o ?_;intro g m w1 q p a;obtain⟨k5,f5,B⟩:=hD.o.app (d':={ b with Yf:=b.Yf++[x] }) D 2 E 2 (by omega) g m ((aD b.Yf).n+1) _ q (eI b.Yf x) p (by simpa using a) (yU b c _) (by omega) _ rfl (by simp[cO,ie,aD]);clear q p a)
     all_goals go_wp2
     all_goals
      go_roundg (d.Yc.length-(k+1))
      ·exact⟨k+1,_,by omega,rfl,by go_num,by simp[ie,h8],by rw[Z.o];exact B.o.1,T2.trans (B.o.2.first (bM.alloc _).drew)⟩
      omega
    ·have Z:Xr (eG d (k+1)=b):=(by show eG d (k+1)=_;rw[W.o];simp[hb]);clear W;go_wp2_with fail;go_quiet ((go_at_call 254;exact UD (fG (c 2) b.Yf x _ (y.Yh (bM.drewN _) |>.YF 2) F)));go_wp2;go_roundg (d.Yc.length-(k+1))
     ·exact⟨k+1,c,by omega,rfl,by go_num,h8,by rw[Z.o];exact y.Yh (bM.drewN _),T.Yh (bM.drewN _)⟩
     omega
   ·have e:k=d.Yc.length:=(by omega);subst e;go_wp2;go_end0;exact⟨rfl,c,y,T⟩
end Go.Proofs.YtnbhnocdhbcbcaaGreat
