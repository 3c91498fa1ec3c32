import Derived.Deep.LoopGhost
import Derived.Deep.CutRange
import Derived.Deep.CutBlock
import Derived.Deep.RegionLaw
import Derived.Test.YtpdholcaobgofaaGreatP01
namespace Go.Proofs.YtpdholcaobgofaaGreat
open Go.RowKit Tryz
open Value IntKind Ending
set_option maxHeartbeats 0
variable{l T zf:World}{b y zt:Nat}{M I:Xr}{N:Xu}{y1:vN}{y0:Obj}{g:Nat->Prop}{d i:List Value}{H z7:Nat->Hd}(n S:Nat)(x:Xr)(m v:Xs)(w:Xr)(k:World)(z6:List Value)(D:Nat)(o L:List Value)(z8 f:Nat)
def nZ:Array Value:=#[string ⟨#[]⟩,int i64 0,bool false,string ⟨#[]⟩,int i64 0,int i64 0]
theorem jt(h:l.heap[b]?=some (.cells nZ 255)) :
  l.cell? ⟨b,0,none⟩=some (string ⟨#[]⟩)/\l.cell? ⟨b,1,none⟩=some (int i64 0)/\l.cell? ⟨b,2,none⟩=some (bool false) /\
  l.cell? ⟨b,3,none⟩=some (string ⟨#[]⟩)/\l.cell? ⟨b,4,none⟩=some (int i64 0)/\l.cell? ⟨b,5,none⟩=some (int i64 0):=by
 refine⟨?_,?_,?_,?_,?_,?_⟩ <;> (rw[ab h];rfl)
theorem jf(h:cM l b M I zt)(a:b≠y)(c d e f g i:Value) :
  cM ((((((l.setCell ⟨y,0,none⟩ c).setCell ⟨y,1,none⟩ d).setCell ⟨y,2,none⟩ e).setCell ⟨y,3,none⟩ f).setCell ⟨y,4,none⟩ g).setCell ⟨y,5,none⟩ i) b M I zt:=by
 unfold cM;rw[XN _ _ _ _ a,XN _ _ _ _ a,XN _ _ _ _ a,XN _ _ _ _ a,XN _ _ _ _ a,XN _ _ _ _ a];exact h
theorem jM(h:aa N l T)(a:l.heap.size<=b)(c d e f g i:Value) :
  aa N l ((((((T.setCell ⟨b,0,none⟩ c).setCell ⟨b,1,none⟩ d).setCell ⟨b,2,none⟩ e).setCell ⟨b,3,none⟩ f).setCell ⟨b,4,none⟩ g).setCell ⟨b,5,none⟩ i) :=
 (((((h.setCell (XK a) _).setCell (XK a) _).setCell (XK a) _).setCell (XK a) _).setCell (XK a) _).setCell (XK a) _
set_option maxRecDepth 100000
theorem zv(hd:w.size<=1024)(hk:S<=w.size)(h:cM k n x w S) :
  Calls prog 202 #[pointer (some ⟨n,0,none⟩)] k fun e w'=>e=returned (gJ x w (bQ w S).1)/\cM w' n x w (bQ w S).2/\aa [n] k w':=by
 have am:=ah h;go_enter func202,ntmps202;go_upto_block 0 with fail
 go_cut [] from 5 (fun wc=>∃j,S<=j/\j<=w.size/\Xq (j=skip w S)/\cM wc n x w j/\wc.heap[k.heap.size]?=some (.cells nZ 255)/\aa [n] k wc)
 case first =>
  go_wp2_with fail
  go_loopg [] (w.size-S) (fun g wr=>∃j,S<=j/\j<=w.size/\g=w.size-j/\Xq (skip w j=skip w S)/\cM wr n x w j/\wr.heap[k.heap.size]?=some (.cells nZ 255)/\aa [n] k wr)
  ·exact⟨S,Xy _,hk,rfl,rfl,cM.Zbw h ((aa.refl [] k).alloc _) (by simp),XD _ _,(aa.refl _ _).alloc _⟩
  obtain⟨j,D,hj,hg,m,i,q,a⟩:=hrel;obtain⟨L,M,N,O,P⟩:=i.cells;have r:k.heap.size∉[n]:=by simp;omega
  by_cases Q:j<w.size/\dD (aL w j)=true
  ·obtain⟨b,p⟩:=Q;have c:=p;rw[cw w j b]at c;have ag:Xq (skip w (j+1)=skip w S):=(M5 w j b p).symm.trans m.o;clear p;go_wp2_with fail;go_quiet ((go_at_call 225;exact XW (lR _ _)));go_wp2_with fail;refine(IP n j x w _ hd b (by exact i)).mono ?_;rintro e w1 ⟨rfl,u,l⟩;go_wp2;go_roundg (w.size-(j+1))
   ·exact⟨j+1,by omega,by omega,rfl,ag,u,l.get (by exact q) r,(a.drewN nq).trans l⟩
   omega
  ·have ac:Xq (j=skip w S):=(m.o.symm.trans (wV w j Q)).symm;have C:(j<w.size/\∃h:j<w.size,dD ((w[j]'h).toNat:Int)=false)∨(¬j<w.size/\decide ((j:Int)<(w.size:Int))=false):=by
    by_cases b:j<w.size
    ·refine XQ ⟨b,b,?_⟩;rw[<-cw w j b];simpa using fun h=>Q ⟨b,h⟩
    ·exact XK ⟨b,by simp;omega⟩
   clear Q m;rcases C with ⟨b,ai,c⟩ | ⟨b,c⟩
   all_goals
    go_wp2_with fail;go_quiet ((go_at_call 225;exact XW (lR _ _)));go_wp2_with fail;go_meet
    case rel=>exact⟨j,D,hj,ac,by exact i,by exact q,a.drewN _⟩
 case rest =>
  obtain⟨j,D,hj,Y,i,q,a⟩:=hcut;have r:k.heap.size∉[n]:=by simp;omega
  go_wp2_with fail;refine(Dh n j x w _ (by exact i)).mono ?_;rintro e s ⟨rfl,l⟩;have u:cM s n x w j:=cM.Zbw (by exact i) l (by simp);have af:=l.get (by exact q) (by simp);have E:=a.trans (l.mono (by simp));have al:=ah u;clear i q a l;obtain⟨L,M,N,O,P⟩:=u.cells;go_wp2
  go_loopg [] (w.size-j) (fun g wr=>∃z,j<=z/\z<=w.size/\g=w.size-z/\Xq (dw w z=dw w j)/\cM wr n x w z/\wr.heap[k.heap.size]?=some (.cells nZ 255) /\
   wr.heap[s.heap.size]?=some (.cells #[string x,int i64 (bb w j),int i64 (bN w j)] 36)/\aa [n] k wr)
  ·exact⟨j,Xy _,hj,rfl,rfl,u.Zbw ((aa.refl [] s).alloc _) (by simp),((aa.refl [] s).alloc _).get af (by simp),XD _ _,E.alloc _⟩
  clear L M N O P;obtain⟨z,an,hz,hg,m,i,q,A,a⟩:=hrel;obtain⟨L,M,N,O,P⟩:=i.cells;have e0:wr.cell? ⟨s.heap.size,0,none⟩=some (string x):=by rw[ab A];rfl
  have e1:wr.cell? ⟨s.heap.size,1,none⟩=some (int i64 (bb w j)):=by rw[ab A];rfl
  have e2:wr.cell? ⟨s.heap.size,2,none⟩=some (int i64 (bN w j)):=by rw[ab A];rfl
  rcases Qh w z with ⟨f,c,H,J⟩ | ⟨f,c,H⟩ | ⟨f,c⟩ | ⟨f,c⟩
  ·have HS:Xq (dw w (z+1)=dw w j):=J.trans m.o;clear m J;go_wp2_with fail;go_quiet ((go_at_call 225;exact XW (lR _ _)));go_wp2_with fail;go_quiet ((go_at_call 228;exact E3 (rX _ _)));go_wp2_with fail;refine(IP n z x w _ hd f (by exact i)).mono ?_;rintro e w3 ⟨rfl,Z,d⟩;go_wp2;go_roundg (w.size-(z+1))
   ·exact⟨z+1,by omega,by omega,rfl,HS,Z,d.get (by exact q) r,d.get (by exact A) (by simp;omega),((a.drewN _).trans d)⟩
   omega
  ·have t:Xq (bQ w S=(⟨⟨#[]⟩,1,false,z⟩,z)):=ID w S j z Y.o m.o f (by rw[cw w z f];exact c) (by rw[cw w z f];exact H);clear m;go_wp2_with fail;go_quiet ((go_at_call 225;exact XW (lR _ _)));go_wp2_with fail;go_quiet ((go_at_call 228;exact E3 (rX _ _)));go_wp2_with fail;refine(Dh n z x w _ (by exact i)).mono ?_;rintro e w3 ⟨rfl,d⟩;have Z:cM w3 n x w z:=cM.Zbw (by exact i) d (by simp);have I:=d.get (by exact q) (by simp);have F:=(a.drewN _).trans (d.mono (by simp));clear L M N O P i q a d A e0 e1 e2;obtain⟨R,T,U,V,W,X⟩:=jt I;have y:=zcW I;go_wp2;exact XG (v:=gJ x w ⟨⟨#[]⟩,1,false,z⟩) (by simp[results,results202,go_sem,gJ,R,T,U,V,W,X]) rfl
    (by rw[t.o];exact⟨rfl,jf Z (by omega) _ _ _ _ _ _,jM F (Xy _) _ _ _ _ _ _⟩)
  all_goals
   have K:¬(z<w.size/\dD (aL w z)=false):=by
    rintro ⟨G,B⟩
    first
     | (rw[cw w z G,c]at B;cases B)
     | exact f G
   obtain⟨R,T,U,V,W,X⟩:=jt q;have y:=zcW q;by_cases ad:j<z
   ·have t:Xq (bQ w S=(⟨w.extract j z,0,false,j⟩,z)):=Ds w S j z Y.o m.o K ad;clear m K;go_wp2_with fail;go_quiet ((go_at_call 225;exact XW (lR _ _)));go_wp2_with fail;go_quiet (fail);go_wp2_with fail;go_region
    all_goals go_wp2
    exact XG (v:=gJ x w ⟨w.extract j z,0,false,j⟩) (by simp[results,results202,go_sem,gJ,R,T,U,V,W,X]) rfl
     (by rw[t.o];exact⟨rfl,jf (by exact i) (by omega) _ _ _ _ _ _,jM (a.drewN _) (Xy _) _ _ _ _ _ _⟩)
   ·have t:Xq (bQ w S=(⟨⟨#[]⟩,0,true,j⟩,z)):=IE w S j z Y.o m.o K (by omega);clear m K;go_wp2_with fail;go_quiet ((go_at_call 225;exact XW (lR _ _)));go_wp2_with fail;go_quiet (fail);go_wp2;exact XG (v:=gJ x w ⟨⟨#[]⟩,0,true,j⟩) (by simp[results,results202,go_sem,gJ,R,T,U,V,W,X]) rfl
     (by rw[t.o];exact⟨rfl,jf (by exact i) (by omega) _ _ _ _ _ _,jM (a.drewN _) (Xy _) _ _ _ _ _ _⟩)
def aQ(i:vN):Bool:=i.ZbG==0 && !i.ZbC
set_option maxRecDepth 512
theorem dW(r l c:Int)(f:Bool)(a:World) :
    Calls prog 155 #[agg #[string x,int i64 r,bool f,string w,int i64 l,int i64 c]] a fun e b=>e=returned (bool (r==0 && !f))/\aa [] a b:=by
  cases d:(r==0)
  all_goals
    go_enter func155,ntmps155;go_wp2;go_ret;exact⟨aH (by simp),(aa.refl _ _).alloc _⟩
def dO(s:Xr):Bool:=(List.range s.size).any (fun i=>aL s i==36)
def l8(s:Xr):Bool:=(List.range s.size).any (fun i=>decide (1<=i)&&(aL s (i-1)==36)&&((aL s i==40)||(aL s i==41)))
theorem pK{p:Nat->Bool}(h:f<b)(a:p f=true):(List.range b).any p=true:=by
  rw[Yu];exact⟨f,by simpa using h,a⟩
theorem zL{p:Nat->Bool}(h:∀i,i<b->p i=false):(List.range b).any p=false:=by
  rw[ZL];intro i a;simp[h i (by simpa using a)]
theorem fw(p:w.size<=1073741824) :
    Calls prog 230 #[string w] k fun e l=>e=returned (bool (dO w))/\l=k:=by
  go_enter func230,ntmps230;go_wp2
  go_loopg [3] w.size (fun g i wr=>∃a:Nat,a<=w.size/\g=w.size-a/\i=int i64 a/\Xq (∀i,i<a->(aL w i==36)=false)/\wr=k)
  · exact⟨0,by omega,by omega,rfl,fun i h=>by omega,rfl⟩
  obtain⟨a,n,m,rfl,b,rfl⟩:=hrel;by_cases c:a<w.size
  · cases f:((w[a].toNat:Int)==36)
    · go_wp2
      go_roundg (w.size-(a+1))
      · refine⟨a+1,by omega,rfl,by go_num,?_,rfl⟩
        intro i j;by_cases e:i=a
        · subst e;rw[cw w i c];exact f
        · exact b.o i (by omega)
      omega
    · have d:Xq (dO w=true):=pK a c (by rw[cw w a c];exact f)
      go_wp2;go_ret;exact⟨aH d.o.symm,rfl⟩
  · have d:Xq (dO w=false):=zL (fun i j=>b.o i (by omega))
    go_wp2;go_ret;exact⟨aH d.o.symm,rfl⟩
theorem ym(x:w.size<=1073741824) :
    Calls prog 229 #[string w] k fun e s=>e=returned (bool (l8 w))/\s=k:=by
  go_enter func229,ntmps229;go_wp2
  go_loopg [3] (w.size-1) (fun g i wr=>∃a:Nat,1<=a/\(a<=w.size∨a=1)/\g=w.size-a/\i=int i64 a/\Xq (∀i,i<a->1<=i->((aL w (i-1)==36)&&((aL w i==40)||(aL w i==41)))=false)/\wr=k)
  · exact⟨1,by omega,by omega,rfl,rfl,fun i h t=>by omega,rfl⟩
  obtain⟨a,l,v,u,rfl,c,rfl⟩:=hrel;by_cases d:a<w.size
  · have f:a-1<w.size:=by omega
    have n:∀b:Bool,(((w[a-1].toNat:Int)==36)&&(((w[a].toNat:Int)==40)||((w[a].toNat:Int)==41)))=b->((aL w (a-1)==36)&&((aL w a==40)||(aL w a==41)))=b :=
      fun b h=>by rw[cw w a d,cw w (a-1) f];exact h
    have m:Xq (∀b:Bool,(((w[a-1].toNat:Int)==36)&&(((w[a].toNat:Int)==40)||((w[a].toNat:Int)==41)))=b->((aL w (a-1)==36)&&((aL w a==40)||(aL w a==41)))=b):=n;clear n;go_wp2
    all_goals first
      | (go_ret
         refine⟨aH ?_,rfl⟩;refine(pK (p:=fun i=>decide (1<=i)&&(aL w (i-1)==36)&&((aL w i==40)||(aL w i==41))) a d ?_).symm;have:=m.o true (by simp_all);simp only[Bool.and_assoc,this];simp[l])
      | (go_roundg (w.size-(a+1))
         case measure=>omega
         case rel =>
           refine⟨a+1,by omega,by omega,rfl,by go_num,?_,rfl⟩;intro i r j;by_cases e:i=a
           · subst e;exact m.o false (by simp_all)
           · exact c.o i (by omega) j)
  · have q:Xq (l8 w=false):=zL (fun i r=>by
      by_cases j:1<=i
      · have:=c.o i (by omega) j;simp only[Bool.and_assoc,this];simp
      · simp[j])
    go_wp2;go_ret;exact⟨aH q.o.symm,rfl⟩
theorem iQ(h:f<=w.size):f<=(bQ w f).2/\(bQ w f).2<=w.size/\(aQ (bQ w f).1=true->f<(bQ w f).2):=by
 have a:=Ff w f h;have b:=vJ w (skip w f) a.2;unfold bQ;simp only;split
 ·exact⟨by omega,b.2,by simp[aQ]⟩
 ·split
  ·exact⟨by omega,b.2,by simp[aQ]⟩
  ·exact⟨by simp only;omega,b.2,fun _=>by simp only;omega⟩
def cN(d:Xr):Nat->Nat->vN×Nat
 | 0,k=>(⟨⟨#[]⟩,3,false,k⟩,k)
 | f+1,k =>
  if aQ (bQ d k).1=true/\¬(bQ d k).1.text.toList=[36,41] then
   if l8 (bQ d k).1.text=true then(⟨⟨#[]⟩,2,false,(bQ d k).1.pos⟩,(bQ d k).2) else cN d f (bQ d k).2
  else if(bQ d k).1.ZbC=true then(⟨⟨#[]⟩,3,false,(bQ d k).1.pos⟩,(bQ d k).2) else bQ d k
def bt(d:Xr)(k:Nat):vN×Nat:=cN d (d.size-k+1) k
theorem zW(f k:Nat)(a:k<=w.size)(b:w.size-k+1<=f):cN w f k=bt w k:=by
 unfold bt
 suffices h:∀f g k,k<=w.size->w.size-k+1<=f->w.size-k+1<=g->cN w f k=cN w g k from h _ _ _ a b (Xy _)
 clear b a f k;intro f
 induction f with
 | zero=>intro g k _ h;omega
 | succ f e =>
  intro g k a b i;cases g with
  | zero=>omega
  | succ g =>
   rw[cN,cN];split
   ·next h =>
    have c:=iQ w k a;have d:=c.2.2 h.1;split
    ·rfl
    ·exact e g (bQ w k).2 c.2.1 (by omega) (by omega)
   ·rfl
theorem zX(e:f<=w.size)(a:aQ (bQ w f).1=true)(c:((bQ w f).1.text.toList == [36,41])=false)(d:l8 (bQ w f).1.text=false):bt w f=bt w (bQ w f).2:=by
 have b:=iQ w f e;have g:=b.2.2 a
 conv=>lhs;unfold bt
 rw[cN,XA ⟨a,by simpa using c⟩,Xz (by simp[d]),zW w _ _ b.2.1 (by omega)]
theorem vZ(a:aQ (bQ w f).1=true)(b:((bQ w f).1.text.toList == [36,41])=false)(c:l8 (bQ w f).1.text=true):bt w f=(⟨⟨#[]⟩,2,false,(bQ w f).1.pos⟩,(bQ w f).2):=by
 unfold bt;rw[cN,XA ⟨a,by simpa using b⟩,XA c]
theorem v9(a:aQ (bQ w f).1=false)(b:(bQ w f).1.ZbC=true):bt w f=(⟨⟨#[]⟩,3,false,(bQ w f).1.pos⟩,(bQ w f).2):=by
 unfold bt;rw[cN,Xz (by simp[a]),XA b]
theorem yp(a:aQ (bQ w f).1=false)(b:(bQ w f).1.ZbC=false):bt w f=bQ w f:=by
 unfold bt;rw[cN,Xz (by simp[a]),Xz (by simp[b])]
theorem uE(a:aQ (bQ w f).1=true)(b:((bQ w f).1.text.toList == [36,41])=true):bt w f=bQ w f:=by
 unfold bt;rw[cN,Xz (by intro h;exact h.2 (by simpa using b))];rw[Xz (by intro h;simp[aQ,h]at a)]
theorem kt(k:Nat)(b:k<=w.size):k<=(bt w k).2/\(bt w k).2<=w.size:=by
 unfold bt
 suffices h:∀f k,k<=w.size->k<=(cN w f k).2/\(cN w f k).2<=w.size from h _ _ b
 clear b k;intro f
 induction f with
 | zero=>intro k b;simp[cN,b]
 | succ f c =>
  intro k b;have a:=iQ w k b;rw[cN];split
  ·split
   ·exact⟨a.1,a.2.1⟩
   ·have:=c (bQ w k).2 a.2.1;omega
  ·split
   ·exact⟨a.1,a.2.1⟩
   ·exact⟨a.1,a.2.1⟩
def eJ(d:Xr):Nat->Nat->vN×Nat
 | 0,k=>(⟨⟨#[]⟩,0,true,k⟩,k)
 | f+1,k =>
  if aQ (bQ d k).1=true/\(bQ d k).1.text.toList=[36,40] then
   if aQ (bt d (bQ d k).2).1=true then eJ d f (bt d (bQ d k).2).2 else bt d (bQ d k).2
  else bQ d k
def aF(d:Xr)(k:Nat):vN×Nat:=eJ d (d.size-k+1) k
theorem Hg(f k:Nat)(a:k<=w.size)(b:w.size-k+1<=f):eJ w f k=aF w k:=by
 unfold aF
 suffices h:∀f g k,k<=w.size->w.size-k+1<=f->w.size-k+1<=g->eJ w f k=eJ w g k from h _ _ _ a b (Xy _)
 clear b a f k;intro f
 induction f with
 | zero=>intro g k _ h;omega
 | succ f i =>
  intro g k a b j;cases g with
  | zero=>omega
  | succ g =>
   rw[eJ,eJ];split
   ·next h =>
    have c:=iQ w k a;have e:=c.2.2 h.1;have d:=kt w (bQ w k).2 c.2.1;split
    ·exact i g _ d.2 (by omega) (by omega)
    ·rfl
   ·rfl
theorem ML(g:f<=w.size)(a:aQ (bQ w f).1=true)(c:((bQ w f).1.text.toList == [36,40])=true)(d:aQ (bt w (bQ w f).2).1=true) :
  aF w f=aF w (bt w (bQ w f).2).2:=by
 have b:=iQ w f g;have i:=b.2.2 a;have e:=kt w (bQ w f).2 b.2.1
 conv=>lhs;unfold aF
 rw[eJ,XA ⟨a,by simpa using c⟩,XA d,Hg w _ _ e.2 (by omega)]
theorem yC(a:aQ (bQ w f).1=true)(b:((bQ w f).1.text.toList == [36,40])=true)(c:aQ (bt w (bQ w f).2).1=false) :
  aF w f=bt w (bQ w f).2:=by
 unfold aF;rw[eJ,XA ⟨a,by simpa using b⟩,Xz (by simp[c])]
theorem vq(h:aQ (bQ w f).1=false∨((bQ w f).1.text.toList == [36,40])=false):aF w f=bQ w f:=by
 unfold aF;rw[eJ,Xz (by rintro ⟨a,b⟩;rcases h with h | h;simp[h]at a;simp[b]at h)]
theorem gU(k:Nat)(a:k<=w.size):k<=(aF w k).2/\(aF w k).2<=w.size/\(aQ (aF w k).1=true->k<(aF w k).2):=by
 unfold aF
 suffices h:∀f k,k<=w.size->k<=(eJ w f k).2/\(eJ w f k).2<=w.size/\(aQ (eJ w f k).1=true->k<(eJ w f k).2) from h _ _ a
 clear a k;intro f
 induction f with
 | zero=>intro k a;simp[eJ,a,aQ]
 | succ f e =>
  intro k a;have b:=iQ w k a;have c:=kt w (bQ w k).2 b.2.1;rw[eJ];split
  ·next h =>
   have d:=b.2.2 h.1;split
   ·have:=e (bt w (bQ w k).2).2 c.2;omega
   ·omega
  ·exact b
def lE(w:World)(r:Nat)(n d:Xr)(i:vN):Prop :=
 w.heap[r]?=some (.cells #[string i.text,int i64 i.ZbG,bool i.ZbC,string n,int i64 (bb d i.pos),int i64 (bN d i.pos)] 255)
theorem lE.cells{t:Xr}{u:Int}{f:Bool}(h:lE l b M I ⟨t,u,f,y⟩) :
  l.cell? ⟨b,0,none⟩=some (string t)/\l.cell? ⟨b,1,none⟩=some (int i64 u)/\l.cell? ⟨b,2,none⟩=some (bool f) /\
  l.cell? ⟨b,3,none⟩=some (string M)/\l.cell? ⟨b,4,none⟩=some (int i64 (bb I y))/\l.cell? ⟨b,5,none⟩=some (int i64 (bN I y)):=by
 refine⟨?_,?_,?_,?_,?_,?_⟩ <;> (rw[ab h];rfl)
theorem lE.Zbw(h:lE l b M I y1)(c:aa N l T)(a:b∉N):lE T b M I y1:=c.get h a
theorem sV(h:lE l b M I y1)(j:vN) :
  lE ((((((l.setCell ⟨b,0,none⟩ (string j.text)).setCell ⟨b,1,none⟩ (int i64 j.ZbG)).setCell ⟨b,2,none⟩ (bool j.ZbC)).setCell ⟨b,3,none⟩ (string M)).setCell ⟨b,4,none⟩ (int i64 (bb I j.pos))).setCell ⟨b,5,none⟩ (int i64 (bN I j.pos))) b M I j:=by
 have:=ae (ae (ae (ae (ae (ae h 0 (string j.text)) 1 (int i64 j.ZbG)) 2 (bool j.ZbC)) 3 (string M)) 4 (int i64 (bb I j.pos))) 5 (int i64 (bN I j.pos));unfold lE;rw[this];simp
theorem xU(h:l.heap[b]?=some y0)(a:b≠y)(c d e f g i:Value) :
  ((((((l.setCell ⟨y,0,none⟩ c).setCell ⟨y,1,none⟩ d).setCell ⟨y,2,none⟩ e).setCell ⟨y,3,none⟩ f).setCell ⟨y,4,none⟩ g).setCell ⟨y,5,none⟩ i).heap[b]?=some y0:=by
 rw[XN _ _ _ _ a,XN _ _ _ _ a,XN _ _ _ _ a,XN _ _ _ _ a,XN _ _ _ _ a,XN _ _ _ _ a];exact h
theorem uj(a:w.size<=1024):(bQ w f).1.text.size<=1024:=by
 unfold bQ;simp only;split
 ·simp[ByteArray.size]
 ·split
  ·simp[ByteArray.size]
  ·simp;omega
set_option maxRecDepth 100000
theorem F7(hd:w.size<=1024)(hk:S<=w.size)(h:cM k n x w S) :
  Calls prog 203 #[pointer (some ⟨n,0,none⟩)] k fun e w'=>e=returned (gJ x w (bt w S).1)/\cM w' n x w (bt w S).2/\aa [n] k w':=by
 have an:=ah h;go_enter func203,ntmps203;go_wp2_with fail;refine(zv n S x w _ hd hk (by exact h.Zbw (bH.alloc _) (by simp))).mono ?_;rintro e w1 ⟨rfl,h1,Y⟩;have ac:w1.heap[k.heap.size]?=some (.cells nZ 255):=Y.get (XD _ _) (by simp;omega);have ad:aa [n] k w1:=((aa.refl _ _).alloc _).trans Y;have am:=ah h1;have al:=ah ac;simp only[gJ];go_wp2
 go_loopg [] (w.size-S) (fun g wr=>∃j,j<=w.size/\g=w.size-j/\Xq (bt w S=bt w j)/\cM wr n x w (bQ w j).2/\lE wr w1.heap.size x w (bQ w j).1/\wr.heap[k.heap.size]?=some (.cells nZ 255)/\aa [n] k wr)
 ·exact⟨S,hk,rfl,rfl,h1.Zbw (bH.alloc _) (by simp),XD _ _,(bH.alloc _).get ac (by simp),ad.alloc _⟩
 obtain⟨j,hj,hg,hs,E,m,F,i⟩:=hrel;have H:=iQ w j hj;have ag:=uj w j hd;have T:Xq (_->_->_->bt w j=_):=zX w j hj;have U:Xq (_->_->_->bt w j=_):=vZ w j;have V:Xq (_->_->bt w j=_):=v9 w j;have W:Xq (_->_->bt w j=_):=yp w j;have X:Xq (_->_->bt w j=_):=uE w j;generalize hrr:bQ w j=r at *;obtain⟨⟨t,u,f,p⟩,z⟩:=r;have HR:Xq (bQ w j=(⟨t,u,f,p⟩,z)):=hrr;clear hrr;simp only at E m H ag;obtain⟨q,s,A,B,C,D⟩:=m.cells;cases I:(u==0 && !f)
 ·cases J:f
  ·have G:Xq (bt w j=(⟨t,u,false,p⟩,z)):=(by have:=W.o (by simpa [aQ] using I) J;rw[J]at this;exact this);subst J;have ai:(u==0)=false:=by simpa using I
   clear T U V W X;go_wp2_with fail;refine(dW t x u (bb w p) (bN w p) _ _).mono ?_;rintro e w2 ⟨rfl,a⟩;have d:=m.Zbw a (by simp);have l:=E.Zbw a (by simp);have c:=a.get F (by simp);have b:=i.trans (a.mono (by simp));clear q s A B C D m E F i a;obtain⟨q,s,A,B,C,D⟩:=d.cells;obtain⟨M,N,O,P,Q,R⟩:=jt c;have y:=zcW c;go_wp2;exact XG (v:=gJ x w ⟨t,u,false,p⟩) (by simp[results,results203,go_sem,gJ,M,N,O,P,Q,R]) rfl
    (by rw[hs.o,G.o];exact⟨rfl,jf l (by omega) _ _ _ _ _ _,jM b (Xy _) _ _ _ _ _ _⟩)
  ·have G:Xq (bt w j=(⟨⟨#[]⟩,3,false,p⟩,z)):=V.o (by simpa [aQ] using I) J;subst J;clear T U V W X;go_wp2_with fail;refine(dW t x u (bb w p) (bN w p) _ _).mono ?_;rintro e w2 ⟨rfl,a⟩;have d:=m.Zbw a (by simp);have l:=E.Zbw a (by simp);have c:=a.get F (by simp);have b:=i.trans (a.mono (by simp));clear q s A B C D m E F i a;obtain⟨q,s,A,B,C,D⟩:=d.cells;obtain⟨M,N,O,P,Q,R⟩:=jt c;have y:=zcW c;go_wp2;exact XG (v:=gJ x w ⟨⟨#[]⟩,3,false,p⟩) (by simp[results,results203,go_sem,gJ,M,N,O,P,Q,R]) rfl
    (by rw[hs.o,G.o];exact⟨rfl,jf l (by omega) _ _ _ _ _ _,jM b (Xy _) _ _ _ _ _ _⟩)
 ·cases hx:(t.toList == [36,41])
  ·cases hy:l8 t
   ·have G:Xq (bt w j=bt w z):=T.o I hx hy;clear T U V W X;go_wp2_with fail;refine(dW t x u (bb w p) (bN w p) _ _).mono ?_;rintro e w2 ⟨rfl,a⟩;have d:=m.Zbw a (by simp);have l:=E.Zbw a (by simp);have c:=a.get F (by simp);have b:=i.trans (a.mono (by simp));clear q s A B C D m E F i a;obtain⟨q,s,A,B,C,D⟩:=d.cells;go_wp2_with fail;refine(ym t _ (by omega)).mono ?_;rintro e w3 ⟨rfl,rfl⟩;go_wp2_with fail;refine(zv n z x w _ hd H.2.1 l).mono ?_;rintro e w4 ⟨rfl,h4,L⟩;have K:=d.Zbw L (by simp;omega);have af:=L.get c (by simp;omega);have Z:=b.trans L;have yy:=zcW K;clear q s A B C D;obtain⟨q,s,A,B,C,D⟩:=K.cells;simp only[gJ];go_wp2;go_roundg (w.size-z)
    case measure=>have:=H.2.2 I;omega
    case rel=>exact⟨z,H.2.1,rfl,hs.o.trans G.o,jf h4 (by omega) _ _ _ _ _ _,sV K _,xU af (by omega) _ _ _ _ _ _,jM Z (by omega) _ _ _ _ _ _⟩
   ·have G:Xq (bt w j=(⟨⟨#[]⟩,2,false,p⟩,z)):=U.o I hx hy;clear T U V W X;go_wp2_with fail;refine(dW t x u (bb w p) (bN w p) _ _).mono ?_;rintro e w2 ⟨rfl,a⟩;have d:=m.Zbw a (by simp);have l:=E.Zbw a (by simp);have c:=a.get F (by simp);have b:=i.trans (a.mono (by simp));clear q s A B C D m E F i a;obtain⟨q,s,A,B,C,D⟩:=d.cells;go_wp2_with fail;refine(ym t _ (by omega)).mono ?_;rintro e w3 ⟨rfl,rfl⟩;obtain⟨M,N,O,P,Q,R⟩:=jt c;have y:=zcW c;go_wp2;exact XG (v:=gJ x w ⟨⟨#[]⟩,2,false,p⟩) (by simp[results,results203,go_sem,gJ,M,N,O,P,Q,R]) rfl
     (by rw[hs.o,G.o];exact⟨rfl,jf l (by omega) _ _ _ _ _ _,jM b (Xy _) _ _ _ _ _ _⟩)
  ·have G:Xq (bt w j=(⟨t,u,f,p⟩,z)):=X.o I hx;clear T U V W X;have J:f=false:=by cases f;rfl;simp at I
   subst J;have ai:(u==0)=true:=by simpa using I
   go_wp2_with fail;refine(dW t x u (bb w p) (bN w p) _ _).mono ?_;rintro e w2 ⟨rfl,a⟩;have d:=m.Zbw a (by simp);have l:=E.Zbw a (by simp);have c:=a.get F (by simp);have b:=i.trans (a.mono (by simp));clear q s A B C D m E F i a;obtain⟨q,s,A,B,C,D⟩:=d.cells;obtain⟨M,N,O,P,Q,R⟩:=jt c;have y:=zcW c;go_wp2;exact XG (v:=gJ x w ⟨t,u,false,p⟩) (by simp[results,results203,go_sem,gJ,M,N,O,P,Q,R]) rfl
    (by rw[hs.o,G.o];exact⟨rfl,jf l (by omega) _ _ _ _ _ _,jM b (Xy _) _ _ _ _ _ _⟩)
theorem wF(hd:w.size<=1024)(hk:S<=w.size)(h:cM k n x w S) :
  Calls prog 154 #[pointer (some ⟨n,0,none⟩)] k fun e w'=>e=returned (gJ x w (aF w S).1)/\cM w' n x w (aF w S).2/\aa [n] k w':=by
 have aq:=ah h;go_enter func154,ntmps154;go_wp2_with fail;refine(zv n S x w _ hd hk (by exact h.Zbw (bH.alloc _) (by simp))).mono ?_;rintro e w1 ⟨rfl,h1,Z⟩;have ad:w1.heap[k.heap.size]?=some (.cells nZ 255):=Z.get (XD _ _) (by simp;omega);have ai:aa [n] k w1:=((aa.refl _ _).alloc _).trans Z;have ap:=ah h1;have ao:=ah ad;simp only[gJ];go_wp2
 go_loopg [4] (w.size-S) (fun g _ wr=>∃j,j<=w.size/\g=w.size-j/\Xq (aF w S=aF w j)/\cM wr n x w (bQ w j).2/\lE wr w1.heap.size x w (bQ w j).1/\wr.heap[k.heap.size]?=some (.cells nZ 255)/\aa [n] k wr)
 ·exact⟨S,hk,rfl,rfl,h1.Zbw (bH.alloc _) (by simp),XD _ _,(bH.alloc _).get ad (by simp),ai.alloc _⟩
 obtain⟨j,hj,hg,hs,L,B,T,q⟩:=hrel;have A:=iQ w j hj;have an:=uj w j hd;have L1:Xq (_->_->_->aF w j=_):=ML w j hj;have L2:Xq (_->_->_->aF w j=_):=yC w j;have U:Xq (_->aF w j=_):=vq w j;generalize hrr:bQ w j=r at *;obtain⟨⟨t,u,f,p⟩,z⟩:=r;clear hrr;simp only at L B A an;obtain⟨E,F,G,H,I,J⟩:=B.cells;cases hw:(u==0 && !f)
 ·have K:Xq (aF w j=(⟨t,u,f,p⟩,z)):=U.o (XQ hw);clear L1 L2 U;go_wp2_with fail;refine(dW t x u (bb w p) (bN w p) _ _).mono ?_;rintro e w2 ⟨rfl,a⟩;have i:=B.Zbw a (by simp);have l:=L.Zbw a (by simp);have d:=a.get T (by simp);have b:=q.trans (a.mono (by simp));clear E F G H I J B L T q a;obtain⟨E,F,G,H,I,J⟩:=i.cells;obtain⟨z0,z1,z2,z3,z4,z5⟩:=jt d;have y:=zcW d;go_wp2;exact XG (v:=gJ x w ⟨t,u,f,p⟩) (by simp[results,results154,go_sem,gJ,z0,z1,z2,z3,z4,z5]) rfl
   (by rw[hs.o,K.o];exact⟨rfl,jf l (by omega) _ _ _ _ _ _,jM b (Xy _) _ _ _ _ _ _⟩)
 ·cases hx:(t.toList == [36,40])
  ·have K:Xq (aF w j=(⟨t,u,f,p⟩,z)):=U.o (XK hx);clear L1 L2 U;go_wp2_with fail;refine(dW t x u (bb w p) (bN w p) _ _).mono ?_;rintro e w2 ⟨rfl,a⟩;have i:=B.Zbw a (by simp);have l:=L.Zbw a (by simp);have d:=a.get T (by simp);have b:=q.trans (a.mono (by simp));clear E F G H I J B L T q a;obtain⟨E,F,G,H,I,J⟩:=i.cells;obtain⟨z0,z1,z2,z3,z4,z5⟩:=jt d;have y:=zcW d;go_wp2;exact XG (v:=gJ x w ⟨t,u,f,p⟩) (by simp[results,results154,go_sem,gJ,z0,z1,z2,z3,z4,z5]) rfl
    (by rw[hs.o,K.o];exact⟨rfl,jf l (by omega) _ _ _ _ _ _,jM b (Xy _) _ _ _ _ _ _⟩)
  ·have M:=kt w z A.2.1;have L4:Xq (_->aF w j=aF w _):=fun h=>L1.o hw hx h;have L5:Xq (_->aF w j=_):=fun h=>L2.o hw hx h;clear L1 L2 U;generalize hcc:bt w z=c at *;obtain⟨⟨W,Q,V,cp⟩,R⟩:=c;have HC:Xq (bt w z=(⟨W,Q,V,cp⟩,R)):=hcc;clear hcc;simp only at M;go_wp2_with fail;refine(dW t x u (bb w p) (bN w p) _ _).mono ?_;rintro e w2 ⟨rfl,a⟩;have i:=B.Zbw a (by simp);have l:=L.Zbw a (by simp);have d:=a.get T (by simp);have b:=q.trans (a.mono (by simp));clear E F G H I J B L T q a;obtain⟨E,F,G,H,I,J⟩:=i.cells;go_wp2_with fail;refine(F7 n z x w _ hd A.2.1 l).mono ?_;rintro e w3 ⟨rfl,h3,s⟩;have Y:=i.Zbw s (by simp;omega);have af:=s.get d (by simp;omega);have C:=b.trans s;simp only[gJ];rw[HC.o];simp only;go_wp2_with fail;refine(dW W x Q (bb w cp) (bN w cp) _ _).mono ?_;rintro e w4 ⟨rfl,m⟩;have al:lE w4 w3.heap.size x w ⟨W,Q,V,cp⟩:=m.get (XD _ _) (by simp);have ag:=(Y.Zbw (bH.alloc _) (by simp)).Zbw m (by simp);have h4:=(h3.Zbw (bH.alloc _) (by simp)).Zbw m (by simp);have P:=m.get ((bH.alloc _).get af (by simp)) (by simp);have D:=(C.alloc _).trans (m.mono (by simp));rw[HC.o]at h4;simp only at h4;clear E F G H I J i d b m Y af C s h3 l;obtain⟨p0,p1,p2,p3,p4,p5⟩:=al.cells;cases X:(Q==0 && !V)
   ·have K:Xq (aF w j=(⟨W,Q,V,cp⟩,R)):=L5.o X;clear L4 L5;obtain⟨z0,z1,z2,z3,z4,z5⟩:=jt P;have y:=zcW P;go_wp2;exact XG (v:=gJ x w ⟨W,Q,V,cp⟩) (by simp[results,results154,go_sem,gJ,z0,z1,z2,z3,z4,z5]) rfl
     (by rw[hs.o,K.o];exact⟨rfl,jf h4 (by omega) _ _ _ _ _ _,jM D (Xy _) _ _ _ _ _ _⟩)
   ·have K:Xq (aF w j=aF w R):=L4.o X;clear L4 L5;go_wp2_with fail;refine(zv n R x w _ hd M.2 h4).mono ?_;rintro e w5 ⟨rfl,h5,O⟩;have N:=ag.Zbw O (by simp;omega);have am:=O.get P (by simp;omega);have ac:=D.trans O;have yy:=zcW N;obtain⟨E,F,G,H,I,J⟩:=N.cells;simp only[gJ];go_wp2;go_roundg (w.size-R)
    case measure=>have:=A.2.2 hw;omega
    case rel=>exact⟨R,M.2,rfl,hs.o.trans K.o,jf h5 (by omega) _ _ _ _ _ _,sV N _,xU am (by omega) _ _ _ _ _ _,jM ac (by omega) _ _ _ _ _ _⟩
structure Pl where
  ZbD:Xr
  ZbE:Int
  ZbF:Int
structure St where
  Zby:Int
  Zbz:Xr
  Zbe:Xs
  Zbp:List (Xr×Pl)
  ZbC:Pl
  til:Nat
structure Db where
  Zbm:Xs
  Zbg:Xs
  Zbh:Xs
  Zbn:Xs
  Zbq:Xs
  ZbA:List (Nat×Nat)
  Zbv:List St
  rbl:Xu
  Zby:Int
  Zbz:Xr
  Zbe:Xs
  Zbi:Bool
  Zbp:List (Xr×Pl)
def dc(l:Xs):List Value:=l.map string
def pairs(l:List (Nat×Nat)):List Value:=l.flatMap (fun p=>[int i64 p.1,int i64 p.2])
def eR(l:Xu):List Value:=l.map (fun(n:Nat)=>.int i64 n)
def uQ(p:Xr×Pl):List Value:=[string p.1,string p.2.ZbD,int i64 p.2.ZbE,int i64 p.2.ZbF]
def qn(l:List (Xr×Pl)):List Value:=l.flatMap uQ
def PC(s:St)(a b:Hd):List Value :=
  [int i64 s.Zby,string s.Zbz,slice a.ao s.Zbe.length a.cap,slice b.ao s.Zbp.length b.cap,string s.ZbC.ZbD,int i64 s.ZbC.ZbE,int i64 s.ZbC.ZbF,int i64 s.til]
def oG(l:List St)(H:Nat->Hd):List Value:=l.zipIdx.flatMap (fun p=>PC p.1 (H (10+2*p.2)) (H (11+2*p.2)))
def aE(l:Xs):eD:=⟨9,1,l.length,dc l⟩
def qN(l:List (Nat×Nat)):eD:=⟨337,2,l.length,pairs l⟩
def bK(l:Xu):eD:=⟨3,1,l.length,eR l⟩
def jd(l:List (Xr×Pl)):eD:=⟨229,4,l.length,qn l⟩
def jY(l:List St)(H:Nat->Hd):eD:=⟨158,8,l.length,oG l H⟩
def symsAt(l:List St)(i:Nat):Xs:=match l[i]? with | some s=>s.Zbe | none=>[]
def wL(l:List St)(i:Nat):List (Xr×Pl):=match l[i]? with | some s=>s.Zbp | none=>[]
def inner(l:List St)(n:Nat):eD:=if n % 2=0 then aE (symsAt l (n / 2)) else jd (wL l (n / 2))
def bi(d:Db)(H:Nat->Hd):Nat->eD
  | 0=>aE d.Zbm
  | 1=>aE d.Zbg
  | 2=>aE d.Zbh
  | 3=>aE d.Zbn
  | 4=>aE d.Zbq
  | 5=>qN d.ZbA
  | 6=>jY d.Zbv H
  | 7=>bK d.rbl
  | 8=>aE d.Zbe
  | 9=>jd d.Zbp
  | n+10=>inner d.Zbv n
def da(d:Db)(H:Nat->Hd):List Value :=
  [slice (H 0).ao d.Zbm.length (H 0).cap,slice (H 1).ao d.Zbg.length (H 1).cap,slice (H 2).ao d.Zbh.length (H 2).cap,slice (H 3).ao d.Zbn.length (H 3).cap,
   slice (H 4).ao d.Zbq.length (H 4).cap,slice (H 5).ao d.ZbA.length (H 5).cap,slice (H 6).ao d.Zbv.length (H 6).cap,slice (H 7).ao d.rbl.length (H 7).cap,
   int i64 d.Zby,string d.Zbz,slice (H 8).ao d.Zbe.length (H 8).cap,bool d.Zbi,slice (H 9).ao d.Zbp.length (H 9).cap]
def gj{α:Type}(H:Nat->α)(i:Nat)(h:α):Nat->α:=fun j=>if j=i then h else H j
theorem dS{α:Type}(H:Nat->α)(i:Nat)(h:α):gj H i h i=h:=by simp[gj]
theorem cJ{α:Type}(H:Nat->α)(i j:Nat)(h:α)(a:j≠i):gj H i h j=H j:=by simp[gj,a]
theorem Ug{α:Type}(H:Nat->α)(i:Nat):gj H i (H i)=H:=by funext j;unfold gj;split <;> simp_all
theorem Br(l:List St)(H a:Nat->Hd)(h:∀j,10<=j->a j=H j):oG l a=oG l H:=by
  unfold oG;congr 1;funext p;rw[h _ (by omega),h _ (by omega)]
theorem Tr(d:Db)(H:Nat->Hd)(i:Nat)(h:Hd)(a:i<10)(j:Nat):bi d (gj H i h) j=bi d H j:=by
  have e:oG d.Zbv (gj H i h)=oG d.Zbv H:=Br _ _ _ (fun j b=>cJ _ _ _ _ (by omega));unfold bi;split <;> first | rfl | (simp only[jY,e])
def eG(H:Nat->Hd)(k:Nat):Prop:=∃i,(H i).Zbx=some k
structure fB(P:Nat->Prop)(w w':World):Prop where
  os:w'.os=w.os
  tape:w'.tape=w.tape
  output:w'.output=w.output
  size:w.heap.size<=w'.heap.size
  block:∀k,k<w.heap.size->¬P k->w'.heap[k]?=w.heap[k]?
theorem fB.refl(P:Nat->Prop)(w:World):fB P w w:=⟨rfl,rfl,rfl,Xy _,fun _ _ _=>rfl⟩
theorem aa.toP(h:aa N l T){P:Nat->Prop}(b:∀k,k∈N->k<l.heap.size->P k):fB P l T :=
  ⟨h.os,h.tape,h.output,h.size,fun k a d=>h.block k a (fun c=>d (b k c a))⟩
theorem fB.get(h:fB g l T)(a:l.heap[b]?=some y0)(c:¬g b):T.heap[b]?=some y0:=(h.block b (ah a) c).trans a
theorem fB.Zbj{a:World}(h:fB g a l)(k:aa [] l T):fB g a T :=
  ⟨k.os.trans h.os,k.tape.trans h.tape,k.output.trans h.output,XF h.size k.size,fun i b c=>(k.block i (XB b h.size) (by simp)).trans (h.block i b c)⟩
theorem fB.setCell(h:fB g l T){p:Addr}(a:g p.block∨l.heap.size<=p.block)(u:Value):fB g l (T.setCell p u) :=
  ⟨h.os,h.tape,h.output,by have:=h.size;simp[World.setCell];omega,fun k c b=>by
    rw[XN _ _ _ _ (by rintro rfl;exact a.elim b (fun a=>by omega))];exact h.block k c b⟩
structure a9(w:World)(b t:Nat)(pre post:List Value)(d:Db)(H:Nat->Hd):Prop where
  Zbx:w.heap[b]?=some (.cells (pre++(da d H++post)).toArray t)
  ZbH:∀i,aD w (H i) (bi d H i)
  apart:∀i j,i≠j->(H i).Zbx=none∨(H i).Zbx≠(H j).Zbx
  off:∀i,(H i).Zbx≠some b
theorem a9.lt{a:Db}(h:a9 l b y d i a H):b<l.heap.size:=ah h.Zbx
theorem a9.free{c:Db}(h:a9 l b y d i c H)(a:Nat):l.frozen? ⟨b,a,none⟩=false:=zcW h.Zbx a
theorem a9.inlt{a:Db}(h:a9 l b y d i a H)(e:eG H zt):zt<l.heap.size:=by
  obtain⟨f,c⟩:=e;exact(h.ZbH f).lt c
theorem a9.keptP{e:Db}(h:a9 l b y d i e H)(f:fB g l T)(j:¬g b)(m:∀k,eG H k->¬g k):a9 T b y d i e H :=
  ⟨f.get h.Zbx j,fun c=>(h.ZbH c).Zbo (fun k a=>f.block k ((h.ZbH c).lt a) (m k ⟨c,a⟩)),h.apart,h.off⟩
theorem a9.Zbw{a:Db}(h:a9 l b y d i a H)(e:aa N l T)(c:b∉N)(g:∀k,eG H k->k∉N):a9 T b y d i a H :=
  h.keptP (e.toP (P:=(·∈N)) (fun _ f _=>f)) c g
theorem a9.Zbj{a:Db}(h:a9 l b y d i a H)(c:aa [] l T):a9 T b y d i a H:=h.Zbw c (by simp) (by simp)
theorem EM(b:z6.length=z8)(a:f<o.length):(z6++(o++L)).toArray[z8+f]?=o[f]?:=by
  subst b;simp[List.getElem?_append_right,List.getElem?_append_left a]
theorem MJ(u:Value)(b:z6.length=z8)(a:f<o.length):(z6++(o++L)).set (z8+f) u=z6++(o.set f u++L):=by
  subst b;rw[Zr _ _ (by omega),show z6.length+f-z6.length=f by omega,Zab _ _ a]
theorem a9.cellAt{c:Db}(h:a9 l b y d i c H)(o:Nat)(f:d.length=o)(a:Nat)(e:a<13):l.cell? ⟨b,o+a,none⟩=(da c H)[a]? :=
  (ab h.Zbx (o+a)).trans (EM d (da c H) i o a f e)
theorem a9.cells{a:Db}(h:a9 l b y d i a H)(o:Nat)(c:d.length=o) :
    l.cell? ⟨b,o,none⟩=some (slice (H 0).ao a.Zbm.length (H 0).cap)/\l.cell? ⟨b,o+1,none⟩=some (slice (H 1).ao a.Zbg.length (H 1).cap) /\
    l.cell? ⟨b,o+2,none⟩=some (slice (H 2).ao a.Zbh.length (H 2).cap)/\l.cell? ⟨b,o+3,none⟩=some (slice (H 3).ao a.Zbn.length (H 3).cap) /\
    l.cell? ⟨b,o+4,none⟩=some (slice (H 4).ao a.Zbq.length (H 4).cap)/\l.cell? ⟨b,o+5,none⟩=some (slice (H 5).ao a.ZbA.length (H 5).cap) /\
    l.cell? ⟨b,o+6,none⟩=some (slice (H 6).ao a.Zbv.length (H 6).cap)/\l.cell? ⟨b,o+7,none⟩=some (slice (H 7).ao a.rbl.length (H 7).cap) /\
    l.cell? ⟨b,o+8,none⟩=some (int i64 a.Zby)/\l.cell? ⟨b,o+9,none⟩=some (string a.Zbz)/\l.cell? ⟨b,o+10,none⟩=some (slice (H 8).ao a.Zbe.length (H 8).cap) /\
    l.cell? ⟨b,o+11,none⟩=some (bool a.Zbi)/\l.cell? ⟨b,o+12,none⟩=some (slice (H 9).ao a.Zbp.length (H 9).cap):=by
  have m:=h.cellAt o c;exact⟨m 0 (by omega),m 1 (by omega),m 2 (by omega),m 3 (by omega),m 4 (by omega),m 5 (by omega),m 6 (by omega),m 7 (by omega),m 8 (by omega),m 9 (by omega),m 10 (by omega),m 11 (by omega),m 12 (by omega)⟩
def aw(b:Nat)(w:World)(H:Nat->Hd)(w':World)(H':Nat->Hd):Prop :=
  fB (fun k=>k=b∨eG H k) w w'/\∀k,eG H' k->eG H k∨w.heap.size<=k
theorem aw.refl(H:Nat->Hd):aw S k H k H:=⟨fB.refl _ _,fun _ a=>XQ a⟩
theorem aw.trans{w1:World}{g:Nat->Hd}(a:aw b l H w1 z7)(c:aw b w1 z7 T g):aw b l H T g:=by
  refine⟨⟨c.1.os.trans a.1.os,c.1.tape.trans a.1.tape,c.1.output.trans a.1.output,XF a.1.size c.1.size,?_⟩,?_⟩
  · intro k d f
    rw[<-a.1.block k d f];refine c.1.block k (XB d a.1.size) ?_;rintro (e | i)
    · exact f (XQ e)
    · rcases a.2 k i with h | h
      · exact f (XK h)
      · omega
  · intro k d
    rcases c.2 k d with h | h
    · exact a.2 k h
    · exact XK (XF a.1.size h)
theorem aw.Zbj(a:aw b l H T z7)(c:aa [] T zf):aw b l H zf z7 :=
  a.trans ⟨c.toP (by simp),fun _ d=>XQ d⟩
theorem aw.first(c:aa [] l T)(a:aw b T H zf z7):aw b l H zf z7 :=
  aw.trans ⟨c.toP (by simp),fun _ d=>XQ d⟩ a
theorem a9.putG{B d':Db}(h:a9 l b y d i B H)(o c:Nat)(L:d.length=o)(m:Nat)(J:m<10)(n:Hd)(M:aD T n (bi d' H m))(v:l.grownBy T (H m).Zbx)(f:n.Zbx=none∨n.Zbx=(H m).Zbx∨∃g,n.Zbx=some g/\l.heap.size<=g)(z:∀j,j≠m->aD l (H j) (bi d' H j))(u:Value)(I:c<13)(K:(da B H).set c u=da d' (gj H m n)) :
    a9 (T.setCell ⟨b,o+c,none⟩ u) b y d i d' (gj H m n)/\aw b l H (T.setCell ⟨b,o+c,none⟩ u) (gj H m n):=by
  have G:=h.lt;have C:T.heap[b]?=some (.cells (d++(da B H++i)).toArray y):=(v.block b G (fun e=>h.off m e.symm)).trans h.Zbx;have t:∀j,(gj H m n j).Zbx≠some b:=by
    intro j;by_cases e:j=m
    · subst e;rw[dS];intro w
      rcases f with f | f | ⟨g,f,r⟩
      · rw[f]at w;cases w
      · exact h.off j (f ▸ w)
      · rw[f]at w;cases w;omega
    · rw[cJ _ _ _ _ e];exact h.off j
  refine⟨⟨?_,?_,?_,t⟩,⟨v.os,v.tape,v.output,by have:=v.size;simp[World.setCell];omega,?_⟩,?_⟩
  · rw[ae C,Yh,MJ d (da B H) i o c u L I,K]
  · intro j
    have q:aD T (gj H m n j) (bi d' (gj H m n) j):=by
      rw[Tr d' H m n J j];by_cases e:j=m
      · subst e;rw[dS];exact M
      · rw[cJ _ _ _ _ e]
        refine(z j e).Zbo (fun k p=>v.block k ((h.ZbH j).lt p) ?_);intro x;rcases h.apart j m e with a | a
        · rw[a]at p;cases p
        · exact a (p.trans x)
    refine q.Zbo (fun k p=>XN _ _ _ _ ?_);rintro rfl;exact t j p
  · intro j A s
    by_cases e:j=m
    · subst e
      rw[dS,cJ _ _ _ _ (fun e=>s e.symm)];rcases f with f | f | ⟨g,f,r⟩
      · exact XQ f
      · rw[f];exact h.apart j A s
      · right;rw[f];intro x;have:=(h.ZbH A).lt x.symm;omega
    · rw[cJ _ _ _ _ e]
      by_cases D:A=m
      · subst D
        rw[dS];rcases f with f | f | ⟨g,f,r⟩
        · rw[f];cases (H j).Zbx <;> simp
        · rw[f];exact h.apart j A s
        · cases w:(H j).Zbx with
          | none=>exact XQ rfl
          | some k=>right;rw[f];intro x;cases x;have:=(h.ZbH j).lt w;omega
      · rw[cJ _ _ _ _ D];exact h.apart j A s
  · intro k p F
    rw[XN _ _ _ _ (fun e=>F (XQ e))];exact v.block k p (fun e=>F (XK ⟨m,e.symm⟩))
  · intro k p
    obtain⟨j,e⟩:=p;by_cases E:j=m
    · subst E
      rw[dS]at e;rcases f with f | f | ⟨g,f,r⟩
      · rw[f]at e;cases e
      · exact XQ ⟨j,f ▸ e⟩
      · rw[f]at e;cases e;exact XK r
    · rw[cJ _ _ _ _ E]at e
      exact XQ ⟨j,e⟩
theorem a9.put{k d':Db}(h:a9 l b y d i k H)(o c:Nat)(t:d.length=o)(a:Nat)(q:a<10)(e:Hd)(v:aD T e (bi d' H a))(p:l.grownBy T (H a).Zbx)(n:e.Zbx=none∨e.Zbx=(H a).Zbx∨∃g,e.Zbx=some g/\l.heap.size<=g)(f:∀j,j≠a->bi d' H j=bi k H j)(u:Value)(m:c<13)(s:(da k H).set c u=da d' (gj H a e)) :
    a9 (T.setCell ⟨b,o+c,none⟩ u) b y d i d' (gj H a e)/\aw b l H (T.setCell ⟨b,o+c,none⟩ u) (gj H a e) :=
  h.putG o c t a q e v p n (fun j r=>by rw[f j r];exact h.ZbH j) u m s
theorem a9.set{e d':Db}(h:a9 l b y d i e H)(o c:Nat)(n:d.length=o)(a:∀j,bi d' H j=bi e H j)(u:Value)(g:c<13)(m:(da e H).set c u=da d' H) :
    a9 (l.setCell ⟨b,o+c,none⟩ u) b y d i d' H/\aw b l H (l.setCell ⟨b,o+c,none⟩ u) H:=by
  refine⟨⟨?_,?_,h.apart,h.off⟩,(fB.refl _ _).setCell (XQ (XQ rfl)) _,fun _ f=>XQ f⟩
  · rw[ae h.Zbx,Yh,MJ d (da e H) i o c u n g,m]
  · intro j
    rw[a j];refine(h.ZbH j).Zbo (fun k f=>XN _ _ _ _ ?_);rintro rfl;exact h.off j f
theorem a9.app{n d':Db}(h:a9 l b y d i n H)(o c:Nat)(v:d.length=o)(f:Nat)(x:f<10)(g a m:Nat)(r:eD)(s:aD T ⟨some ⟨g,0,none⟩,a⟩ r)(A:r=bi d' H f)(p:l.grownBy T (H f).Zbx)(k:(H f).Zbx=some g∨l.heap.size<=g)(q:∀j,j≠f->bi d' H j=bi n H j)(t:c<13)(w:Value)(B:(da n H)[c]?=some w)(z:(da n H).set c (slice (some ⟨g,0,none⟩) m a)=da d' (gj H f ⟨some ⟨g,0,none⟩,a⟩)) :
    T.cell? ⟨b,o+c,none⟩=some w/\T.frozen? ⟨b,o+c,none⟩=false /\
    Xq (a9 (T.setCell ⟨b,o+c,none⟩ (slice (some ⟨g,0,none⟩) m a)) b y d i d' (gj H f ⟨some ⟨g,0,none⟩,a⟩) /\
      aw b l H (T.setCell ⟨b,o+c,none⟩ (slice (some ⟨g,0,none⟩) m a)) (gj H f ⟨some ⟨g,0,none⟩,a⟩)):=by
  have u:=(p.block b h.lt (fun e=>h.off f e.symm)).trans h.Zbx;subst A;refine⟨((ab u (o+c)).trans (EM d (da n H) i o c v t)).trans B,zcW u _,?_⟩;exact h.put (d':=d') o c v f x ⟨some ⟨g,0,none⟩,a⟩ s p
    (by rcases k with e | e
        · exact XK (XQ e.symm)
        · exact XK (XK ⟨g,rfl,by simpa using e⟩)) q _ t z
theorem Iz(d:Db)(H:Nat->Hd)(l:Xs):∀j,j≠0->bi { d with Zbm:=l } H j=bi d H j:=by
  intro j a
  match j with
  | 0=>exact absurd rfl a
  | 1=>rfl
  | 2=>rfl
  | 3=>rfl
  | 4=>rfl
  | 5=>rfl
  | 6=>rfl
  | 7=>rfl
  | 8=>rfl
  | 9=>rfl
  | n+10=>rfl
theorem Be(d:Db)(H:Nat->Hd)(l:Xs):∀j,j≠1->bi { d with Zbg:=l } H j=bi d H j:=by
  intro j a
  match j with
  | 0=>rfl
  | 1=>exact absurd rfl a
  | 2=>rfl
  | 3=>rfl
  | 4=>rfl
  | 5=>rfl
  | 6=>rfl
  | 7=>rfl
  | 8=>rfl
  | 9=>rfl
  | n+10=>rfl
theorem Bh(d:Db)(H:Nat->Hd)(l:Xs):∀j,j≠2->bi { d with Zbh:=l } H j=bi d H j:=by
  intro j a
  match j with
  | 0=>rfl
  | 1=>rfl
  | 2=>exact absurd rfl a
  | 3=>rfl
  | 4=>rfl
  | 5=>rfl
  | 6=>rfl
  | 7=>rfl
  | 8=>rfl
  | 9=>rfl
  | n+10=>rfl
theorem yG(d:Db)(H:Nat->Hd)(l:Xs):∀j,j≠3->bi { d with Zbn:=l } H j=bi d H j:=by
  intro j a
  match j with
  | 0=>rfl
  | 1=>rfl
  | 2=>rfl
  | 3=>exact absurd rfl a
  | 4=>rfl
  | 5=>rfl
  | 6=>rfl
  | 7=>rfl
  | 8=>rfl
  | 9=>rfl
  | n+10=>rfl
theorem Bg(d:Db)(H:Nat->Hd)(l:Xs):∀j,j≠4->bi { d with Zbq:=l } H j=bi d H j:=by
  intro j a
  match j with
  | 0=>rfl
  | 1=>rfl
  | 2=>rfl
  | 3=>rfl
  | 4=>exact absurd rfl a
  | 5=>rfl
  | 6=>rfl
  | 7=>rfl
  | 8=>rfl
  | 9=>rfl
  | n+10=>rfl
theorem yH(d:Db)(H:Nat->Hd)(l:List (Nat×Nat)):∀j,j≠5->bi { d with ZbA:=l } H j=bi d H j:=by
  intro j a
  match j with
  | 0=>rfl
  | 1=>rfl
  | 2=>rfl
  | 3=>rfl
  | 4=>rfl
  | 5=>exact absurd rfl a
  | 6=>rfl
  | 7=>rfl
  | 8=>rfl
  | 9=>rfl
  | n+10=>rfl
theorem IA(d:Db)(H:Nat->Hd)(l:Xu):∀j,j≠7->bi { d with rbl:=l } H j=bi d H j:=by
  intro j a
  match j with
  | 0=>rfl
  | 1=>rfl
  | 2=>rfl
  | 3=>rfl
  | 4=>rfl
  | 5=>rfl
  | 6=>rfl
  | 7=>exact absurd rfl a
  | 8=>rfl
  | 9=>rfl
  | n+10=>rfl
theorem wS(d:Db)(H:Nat->Hd)(l:Xs):∀j,j≠8->bi { d with Zbe:=l } H j=bi d H j:=by
  intro j a
  match j with
  | 0=>rfl
  | 1=>rfl
  | 2=>rfl
  | 3=>rfl
  | 4=>rfl
  | 5=>rfl
  | 6=>rfl
  | 7=>rfl
  | 8=>exact absurd rfl a
  | 9=>rfl
  | n+10=>rfl
theorem Bf(d:Db)(H:Nat->Hd)(l:List (Xr×Pl)):∀j,j≠9->bi { d with Zbp:=l } H j=bi d H j:=by
  intro j a
  match j with
  | 0=>rfl
  | 1=>rfl
  | 2=>rfl
  | 3=>rfl
  | 4=>rfl
  | 5=>rfl
  | 6=>rfl
  | 7=>rfl
  | 8=>rfl
  | 9=>exact absurd rfl a
  | n+10=>rfl
theorem Pt(d:Db)(H:Nat->Hd)(l:Int):∀j,bi { d with Zby:=l } H j=bi d H j:=by
  intro j
  match j with
  | 0=>rfl
  | 1=>rfl
  | 2=>rfl
  | 3=>rfl
  | 4=>rfl
  | 5=>rfl
  | 6=>rfl
  | 7=>rfl
  | 8=>rfl
  | 9=>rfl
  | n+10=>rfl
theorem KU(d:Db)(H:Nat->Hd)(l:Xr):∀j,bi { d with Zbz:=l } H j=bi d H j:=by
  intro j
  match j with
  | 0=>rfl
  | 1=>rfl
  | 2=>rfl
  | 3=>rfl
  | 4=>rfl
  | 5=>rfl
  | 6=>rfl
  | 7=>rfl
  | 8=>rfl
  | 9=>rfl
  | n+10=>rfl
theorem Fc(d:Db)(H:Nat->Hd)(l:Bool):∀j,bi { d with Zbi:=l } H j=bi d H j:=by
  intro j
  match j with
  | 0=>rfl
  | 1=>rfl
  | 2=>rfl
  | 3=>rfl
  | 4=>rfl
  | 5=>rfl
  | 6=>rfl
  | 7=>rfl
  | 8=>rfl
  | 9=>rfl
  | n+10=>rfl
def aN(l:Xs)(x:Xr):Bool:=l.any (fun y=>y.toList==x.toList)
theorem Mv(h:f<v.length)(b:aN v w=aN (v.drop f) w)(a:((v[f]).toList==w.toList)=true):aN v w=true:=by
 rw[b,X0 h];simp only[aN,List.any_cons,a,Bool.true_or]
theorem GJ(h:f<v.length)(b:aN v w=aN (v.drop f) w)(a:((v[f]).toList==w.toList)=false):aN v w=aN (v.drop (f+1)) w:=by
 rw[b,X0 h];simp only[aN,List.any_cons,a,Bool.false_or]
theorem GK(h:¬f<v.length)(a:aN v w=aN (v.drop f) w):aN v w=false:=by
 rw[a,YQ (by omega)];rfl
theorem pV(h:f<v.length):(dc v)[f]?=some (string v[f]):=by simp[dc,h]
set_option maxRecDepth 512
theorem fP(j:Hd)(l:Xs)(x:Xr)(w:World)(b:aD w j (aE l))(v:l.length<=1073741824) :
  Calls prog 252 #[slice j.ao l.length j.cap,string x] w fun e y=>e=returned (bool (aN l x))/\y=w:=by
 obtain⟨z,s⟩:=j;rcases b.Zbu with ⟨m,q,_⟩ | ⟨g,t,p,_⟩
 ·have f:l.length=0:=q;have n:l=[]:=XY f;subst n
  injection m with m u
  subst m;clear b q f v u;go_enter func252,ntmps252;go_wp2;refine Zv 1 ?_;rw[ZT];go_wp2;go_ret;exact⟨rfl,rfl⟩
 ·simp only at p;subst p;go_enter func252,ntmps252;go_wp2
  go_loopg [5] l.length (fun g i wr=>∃k:Nat,k<=l.length/\g=l.length-k/\i=int i64 k/\Xq (aN l x=aN (l.drop k) x)/\wr=w)
  ·exact⟨0,by omega,by omega,rfl,rfl,rfl⟩
  obtain⟨k,C,B,rfl,c,rfl⟩:=hrel;by_cases a:k<l.length
  ·have A:=b.cell rfl k (string l[k]) (pV l k a);cases r:((l[k]).toList==x.toList)
   ·have d:Xq (aN l x=aN (l.drop (k+1)) x):=GJ l x k a c.o r;clear c b;go_wp2;go_roundg (l.length-(k+1))
    ·exact⟨k+1,by omega,rfl,by go_num,d,rfl⟩
    omega
   ·have d:Xq (aN l x=true):=Mv l x k a c.o r;clear c b;go_wp2;go_ret;exact⟨aH d.o.symm,rfl⟩
  ·have d:Xq (aN l x=false):=GK l x k a c.o;clear c b;go_wp2;go_ret;exact⟨aH d.o.symm,rfl⟩
theorem i9:(prog.info? 9).map (fun i=>(i.zero,i.size,i.bytes))=some (some (string ⟨#[]⟩),1,16):=by kernel_rfl
theorem PU:dc (v++[w])=dc v++[string w]:=by simp[dc]
theorem dy:(⟨(aE v).e,(aE v).size,(aE v).n+1,(aE v).xs++[string w]⟩:eD)=aE (v++[w]):=by
 simp[aE,PU]
set_option maxRecDepth 100000
theorem DU(d:Db)(H:Nat->Hd)(x:Xr)(w:World)(h:a9 w n S o L d H)(A:o.length=D)(V:d.Zbm.length<=1073741824) :
  Calls prog 263 #[pointer (some ⟨n,D,none⟩),string x] w fun e C=>e=returned (tuple #[])/\∃z,a9 C n S o L { d with Zbm:=d.Zbm++[x] } z/\aw n w H C z:=by
 obtain⟨G,F,q,r,s⟩:=XV i9;obtain⟨J,K,M,N,O,P,Q,R,T,U,t,v,y⟩:=h.cells D A;have p:=h.Zbj ((aa.refl [] w).alloc (.cells #[string x] 9));have b:=p.ZbH 0;go_enter func263,ntmps263;go_wp2_with (at_builtin;refine aR _ rfl (.tmp 8) (.tmp 10) 61 rfl G (string ⟨#[]⟩) 16 (H 0) (aE d.Zbm) underlying61 F q r s rfl XR rfl b ⟨w.heap.size,0,none⟩ 1 1 [string x] rfl rfl ?c1 ?c2 XR ?c3 ?c4 ?_)
 case c1=>intro j u k;match j,k with | 0,k=>simp at k;subst k;simp[Addr.add]
 case c2=>intro u B;simp at B;subst B;rfl
 case c3=>simp only[aE];unfold maxLen;omega
 case c4=>simp only[aE];omega
 ·intro g c W i f a;obtain⟨I,E,l⟩:=p.app (d':={ d with Zbm:=d.Zbm++[x] }) D 0 A 0 (by omega) g c ((aE d.Zbm).n+1) _ i (dy d.Zbm x) f (by simpa using a) (Iz d H _) (by omega) _ rfl (by simp[da,gj,aE]);simp only[Nat.add_zero]at I E l;clear p b J K M N O P Q R T U t v y i f a;go_wp2;go_end0;exact⟨rfl,_,l.o.1,l.o.2.first ((aa.refl [] w).alloc _)⟩
theorem DV(d:Db)(H:Nat->Hd)(x:Xr)(w:World)(h:a9 w n S o L d H)(A:o.length=D)(U:d.Zbq.length<=1073741824) :
  Calls prog 266 #[pointer (some ⟨n,D,none⟩),string x] w fun e C=>e=returned (tuple #[])/\∃y,a9 C n S o L { d with Zbq:=d.Zbq++[x] } y/\aw n w H C y:=by
 obtain⟨F,E,p,q,r⟩:=XV i9;obtain⟨G,I,J,K,M,N,O,P,Q,R,s,t,v⟩:=h.cells D A;have m:=h.Zbj ((aa.refl [] w).alloc (.cells #[string x] 9));have b:=m.ZbH 4;go_enter func266,ntmps266;go_wp2_with (at_builtin;refine aR _ rfl (.tmp 8) (.tmp 10) 61 rfl F (string ⟨#[]⟩) 16 (H 4) (aE d.Zbq) underlying61 E p q r rfl XR rfl b ⟨w.heap.size,0,none⟩ 1 1 [string x] rfl rfl ?c1 ?c2 XR ?c3 ?c4 ?_)
 case c1=>intro j u k;match j,k with | 0,k=>simp at k;subst k;simp[Addr.add]
 case c2=>intro u B;simp at B;subst B;rfl
 case c3=>simp only[aE];unfold maxLen;omega
 case c4=>simp only[aE];omega
 ·intro g c W i f a;obtain⟨V,T,z⟩:=m.app (d':={ d with Zbq:=d.Zbq++[x] }) D 4 A 4 (by omega) g c ((aE d.Zbq).n+1) _ i (dy d.Zbq x) f (by simpa using a) (Bg d H _) (by omega) _ rfl (by simp[da,gj,aE])
  skip
  clear m b G I J K M N O P Q R s t v i f a;go_wp2;go_end0;exact⟨rfl,_,z.o.1,z.o.2.first ((aa.refl [] w).alloc _)⟩
structure hZ(d:Db)(N:Nat):Prop where
 Zbm:d.Zbm.length<=N
 Zbg:d.Zbg.length<=N
 Zbh:d.Zbh.length<=N
 Zbn:d.Zbn.length<=N
 Zbq:d.Zbq.length<=N
 ZbA:d.ZbA.length<=N
 Zbv:d.Zbv.length<=N
 rbl:d.rbl.length<=N
 Zbe:d.Zbe.length<=N
 Zbp:d.Zbp.length<=N
theorem uh:(⟨(aE m).e,(aE m).size,(aE m).n+v.length,(aE m).xs++dc v⟩:eD)=aE (m++v):=by
 simp[aE,dc]
theorem mw:∀u∈dc v,u.oneCell'=true:=by
 intro u a;simp only[dc,List.mem_map]at a;obtain⟨x,_,rfl⟩:=a;rfl
theorem xg(d:Db)(H:Nat->Hd)(w:World)(h:a9 w n S o L d H)(C:o.length=D)(N:0<d.Zbe.length)(E:hZ d 100000000) :
  Calls prog 264 #[pointer (some ⟨n,D,none⟩),slice (H 8).ao d.Zbe.length (H 8).cap] w fun e F=>e=returned (tuple #[])/\∃x,a9 F n S o L { d with Zbg:=d.Zbg++d.Zbe } x/\aw n w H F x:=by
 obtain⟨O,I,p,q,r⟩:=XV i9;obtain⟨P,Q,R,T,U,V,W,X,Y,Z,s,t,v⟩:=h.cells D C;have b:=h.ZbH 1;have f:aD w (H 8) (aE d.Zbe):=h.ZbH 8;have K:=E.Zbg;have M:=E.Zbe;rcases f.Zbu with ⟨_,G,_⟩ | ⟨B,z,A,_⟩
 ·have:d.Zbe.length=0:=G;omega
 ·rw[A];have c:Xq (∀j u,(dc d.Zbe)[j]?=some u->w.cell? ((⟨B,0,none⟩:Addr).add j)=some u):=fun j u J=>by rw[bE];exact f.cell A j u J
  clear f;go_enter func264,ntmps264;go_wp2_with (at_builtin;refine aR _ rfl (.tmp 8) (.tmp 9) 61 rfl O (string ⟨#[]⟩) 16 (H 1) (aE d.Zbg) underlying61 I p q r rfl XR rfl b ⟨B,0,none⟩ d.Zbe.length (H 8).cap (dc d.Zbe) rfl ?c0 c.o (mw _) N ?c3 ?c4 ?_)
  case c0=>simp[dc,aE]
  case c3=>simp only[aE];unfold maxLen;omega
  case c4=>simp only[aE];omega
  ·intro g i w1 l k a;obtain⟨k0,f0,y⟩:=h.app (d':={ d with Zbg:=d.Zbg++d.Zbe }) D 1 C 1 (by omega) g i ((aE d.Zbg).n+d.Zbe.length) _ l (uh d.Zbg d.Zbe) k a (Be d H _) (by omega) _ rfl (by simp[da,gj,aE]);clear b P Q R T U V W X Y Z s t v l k a c;go_wp2;go_end0;exact⟨rfl,_,y.o.1,y.o.2⟩
def dH(v l:Xs):Xs:=l.foldl (fun v x=>if aN v x=true then v else v++[x]) v
def eK(d:Db)(k:Nat):Db:={ d with Zbn:=d.Zbn++d.Zbe,Zbh:=dH d.Zbh (d.Zbe.take k) }
theorem Qa:dH m (v++[w])=if aN (dH m v) w=true then dH m v else dH m v++[w]:=by
 unfold dH;rw[ZA];rfl
theorem Ja(v l:Xs):(dH v l).length<=v.length+l.length:=by
 induction l generalizing v with
 | nil=>simp[dH]
 | cons x l a =>
  have:=a (if aN v x=true then v else v++[x]);have e:dH v (x :: l)=dH (if aN v x=true then v else v++[x]) l:=rfl;rw[e];have b:(if aN v x=true then v else v++[x]).length<=v.length+1:=by split <;> simp
  simp only[List.length_cons];omega
theorem nt{α:Type}(l:List α)(k:Nat)(h:k<l.length):l.take (k+1)=l.take k++[l[k]]:=by simp
theorem xh(d:Db)(H:Nat->Hd)(w:World)(h:a9 w n S o L d H)(F:o.length=D)(hm:0<d.Zbe.length)(hs:hZ d 100000000) :
  Calls prog 265 #[pointer (some ⟨n,D,none⟩),slice (H 8).ao d.Zbe.length (H 8).cap] w fun e w'=>e=returned (tuple #[])/\∃H',a9 w' n S o L (eK d d.Zbe.length) H'/\aw n w H w' H':=by
 obtain⟨i0,hi,I,J,K⟩:=XV i9;obtain⟨M,N,Y,O,P,Q,R,U,V,W,s,t,v⟩:=h.cells D F;have z:=h.ZbH 3;have f:aD w (H 8) (aE d.Zbe):=h.ZbH 8;have ag:=hs.Zbn;have ai:=hs.Zbe;have al:=hs.Zbh;rcases f.Zbu with ⟨_,h0,_⟩ | ⟨g8,ac,e8,_⟩
 ·have:d.Zbe.length=0:=h0;omega
 ·rw[e8];have A:Xq (∀j u,(dc d.Zbe)[j]?=some u->w.cell? ((⟨g8,0,none⟩:Addr).add j)=some u):=fun j u hj=>by rw[bE];exact f.cell e8 j u hj
  clear f;go_enter func265,ntmps265;go_wp2_with (at_builtin;refine aR _ rfl (.tmp 9) (.tmp 10) 61 rfl i0 (string ⟨#[]⟩) 16 (H 3) (aE d.Zbn) underlying61 hi I J K rfl XR rfl z ⟨g8,0,none⟩ d.Zbe.length (H 8).cap (dc d.Zbe) rfl ?c0 A.o (mw _) hm ?c3 ?c4 ?_)
  case c0=>simp[dc,aE]
  case c3=>simp only[aE];unfold maxLen;omega
  case c4=>simp only[aE];omega
  ·intro g m w1 q p a;obtain⟨k0,f0,B⟩:=h.app (d':=eK d 0) D 3 F 3 (by omega) g m ((aE d.Zbn).n+d.Zbe.length) _ q (uh d.Zbn d.Zbe) p a (yG d H _) (by omega) _ rfl (by simp[da,gj,aE,eK,dH]);clear z M N Y O P Q R U V W s t v q p a A;go_wp2
   go_loopg [4] d.Zbe.length (fun g i wr=>∃(k:Nat) (c:Nat->Hd),k<=d.Zbe.length/\g=d.Zbe.length-k/\i=int i64 k/\c 8=H 8/\a9 wr n S o L (eK d k) c/\aw n w H wr c)
   ·exact⟨0,_,by omega,by omega,rfl,by simp[gj],B.o.1,B.o.2⟩
   obtain⟨k,c,hk,hg,rfl,h8,y,T⟩:=hrel;clear B k0 f0;by_cases E:k<d.Zbe.length
   ·obtain⟨M,N,Y,O,P,Q,R,U,V,W,s,t,v⟩:=y.cells D F;have f:aD wr (H 8) (aE d.Zbe):=(by have:=y.ZbH 8;rw[h8]at this;exact this);have c1:=f.cell e8 k (string d.Zbe[k]) (pV d.Zbe k E);have G:(eK d k).Zbh.length<=1073741824:=by
     have:=Ja d.Zbh (d.Zbe.take k);simp only[List.length_take]at this
     show(dH d.Zbh (d.Zbe.take k)).length<=_
     omega
    have X:Xq (eK d (k+1)=if aN (eK d k).Zbh d.Zbe[k]=true then eK d k else { eK d k with Zbh:=(eK d k).Zbh++[d.Zbe[k]] }):=by
     show eK d (k+1)=_;unfold eK;rw[nt d.Zbe k E,Qa];simp only;split <;> rfl
    generalize eK d k=b at *;generalize d.Zbe[k]=x at *;clear M N O P Q R U V W s t v f;cases hb:aN b.Zbh x
    ·have HT:Xq (eK d (k+1)={ b with Zbh:=b.Zbh++[x] }):=(by show eK d (k+1)=_;rw[X.o];simp[hb]);clear X;go_wp2_with fail;go_quiet ((go_at_call 252;exact XW (fP (c 2) b.Zbh x _ (y.Zbj (bH.drewN _) |>.ZbH 2) G)));obtain⟨l,r⟩:∃l,l=wr.drewN nq:=⟨_,rfl⟩
     rw[<-r];have Z:a9 l n S o L b c:=by rw[r];exact y.Zbj (bH.drewN _)
     have T2:aw n w H l c:=(by rw[r];exact T.Zbj (bH.drewN _));have ad:l.cell? ⟨g8,k,none⟩=some (string x):=(by rw[r];exact c1);clear r c1 y T Y;obtain⟨M,N,Y,O,P,Q,R,U,V,W,s,t,v⟩:=Z.cells D F;have af:=Z.lt;clear M N O P Q R U V W s t v;have hD:Xq (a9 (l.alloc (.cells #[string x] 9)).drew n S o L b c):=Z.Zbj ((aa.refl [] l).alloc _).drew;have s2:Xq (∀j u,([string x]:List Value)[j]?=some u->(l.alloc (.cells #[string x] 9)).drew.cell? ((⟨l.heap.size,0,none⟩:Addr).add j)=some u):=by
      intro j u hj;have hk:(l.alloc (.cells #[string x] 9)).drew.heap[l.heap.size]?=some (.cells #[string x] 9):=XD l _;rw[bE,ab hk];simpa using hj
     have s3:Xq (∀u∈([string x]:List Value),u.oneCell'=true):=(by intro u hu;simp at hu;subst hu;rfl);have s4:Xq ((aE b.Zbh).n+1<=maxLen):=(by show _<=_;simp only[aE];unfold maxLen;omega);have s5:Xq (((aE b.Zbh).n+1)*16<=140737488355328):=(by show _<=_;simp only[aE];omega);go_wp2_with fail;go_region_law (refine bB rfl (.tmp 34) (.tmp 39) 61 rfl i0 (string ⟨#[]⟩) 16 (c 2) (aE b.Zbh) underlying61 hi I J K rfl XR (by simp[Act.eval] <;> rfl) (hD.o.ZbH 2) ⟨l.heap.size,0,none⟩ 1 1 [string x] (by simp[Act.eval]) rfl s2.o s3.o XR s4.o s5.o ?_;intro g m w1 q p a;obtain⟨k5,f5,B⟩:=hD.o.app (d':={ b with Zbh:=b.Zbh++[x] }) D 2 F 2 (by omega) g m ((aE b.Zbh).n+1) _ q (dy b.Zbh x) p (by simpa using a) (Bh b c _) (by omega) _ rfl (by simp[da,gj,aE]);clear q p a)
     all_goals go_wp2
     all_goals
      go_roundg (d.Zbe.length-(k+1))
      ·exact⟨k+1,_,by omega,rfl,by go_num,by simp[gj,h8],by rw[HT.o];exact B.o.1,T2.trans (B.o.2.first (bH.alloc _).drew)⟩
      omega
    ·have HT:Xq (eK d (k+1)=b):=(by show eK d (k+1)=_;rw[X.o];simp[hb]);clear X;go_wp2_with fail;go_quiet ((go_at_call 252;exact XW (fP (c 2) b.Zbh x _ (y.Zbj (bH.drewN _) |>.ZbH 2) G)));go_wp2;go_roundg (d.Zbe.length-(k+1))
     ·exact⟨k+1,c,by omega,rfl,by go_num,h8,by rw[HT.o];exact y.Zbj (bH.drewN _),T.Zbj (bH.drewN _)⟩
     omega
   ·have e:k=d.Zbe.length:=(by omega);subst e;go_wp2;go_end0;exact⟨rfl,c,y,T⟩
end Go.Proofs.YtpdholcaobgofaaGreat
