import Derived.Deep.LoopGhost
import Derived.Deep.CutRange
import Derived.Deep.CutBlock
import Derived.Test.YtnbhnocdhbcbcaaGreatG01
namespace Go.Proofs.YtnbhnocdhbcbcaaGreat
open Go.RowKit Tryz
open Value IntKind Ending
set_option maxHeartbeats 0
variable{l T z6:World}{b S zt:Nat}{D i:ByteArray}{L:List Nat}{y1:sJ}{y0:Obj}{I:Nat->Prop}{v k:List Value}{H z7:Nat->Hd}(x y:Nat)(n:ByteArray)(a:List ByteArray)(w:ByteArray)(d:World)(g:List Value)(N:Nat)(o M:List Value)(zb f:Nat)
def my:Array Value:=#[string ⟨#[]⟩,int i64 0,bool false,string ⟨#[]⟩,int i64 0,int i64 0]
theorem iq(h:l.heap[b]?=some (.cells my 255)) :
  l.cell? ⟨b,0,none⟩=some (string ⟨#[]⟩)/\l.cell? ⟨b,1,none⟩=some (int i64 0)/\l.cell? ⟨b,2,none⟩=some (bool false) /\
  l.cell? ⟨b,3,none⟩=some (string ⟨#[]⟩)/\l.cell? ⟨b,4,none⟩=some (int i64 0)/\l.cell? ⟨b,5,none⟩=some (int i64 0):=by
 refine⟨?_,?_,?_,?_,?_,?_⟩ <;> (rw[aj h];rfl)
theorem ii(h:b7 l b D i zt)(a:b≠S)(c d e f g j:Value) :
  b7 ((((((l.setCell ⟨S,0,none⟩ c).setCell ⟨S,1,none⟩ d).setCell ⟨S,2,none⟩ e).setCell ⟨S,3,none⟩ f).setCell ⟨S,4,none⟩ g).setCell ⟨S,5,none⟩ j) b D i zt:=by
 unfold b7;rw[Sg _ _ _ _ a,Sg _ _ _ _ a,Sg _ _ _ _ a,Sg _ _ _ _ a,Sg _ _ _ _ a,Sg _ _ _ _ a];exact h
theorem iJ(h:aa L l T)(a:l.heap.size<=b)(c d e f g i:Value) :
  aa L l ((((((T.setCell ⟨b,0,none⟩ c).setCell ⟨b,1,none⟩ d).setCell ⟨b,2,none⟩ e).setCell ⟨b,3,none⟩ f).setCell ⟨b,4,none⟩ g).setCell ⟨b,5,none⟩ i) :=
 (((((h.setCell (RZ a) _).setCell (RZ a) _).setCell (RZ a) _).setCell (RZ a) _).setCell (RZ a) _).setCell (RZ a) _
set_option maxRecDepth 100000
theorem v7(hd:w.size<=1024)(hk:y<=w.size)(h:b7 d x n w y) :
  Calls prog 204 #[pointer (some ⟨x,0,none⟩)] d fun e w'=>e=returned (fA n w (bJ w y).1)/\b7 w' x n w (bJ w y).2/\aa [x] d w':=by
 have ao:=ae h;go_enter func204,ntmps204;go_upto_block 0 with fail
 go_cut [] from 5 (fun wc=>∃j,y<=j/\j<=w.size/\Hid (j=skip w y)/\b7 wc x n w j/\wc.heap[d.heap.size]?=some (.cells my 255)/\aa [x] d wc)
 case first =>
  go_wp2_with fail
  go_loopg [] (w.size-y) (fun g wr=>∃j,y<=j/\j<=w.size/\g=w.size-j/\Hid (skip w j=skip w y)/\b7 wr x n w j/\wr.heap[d.heap.size]?=some (.cells my 255)/\aa [x] d wr)
  case atStart=>exact⟨y,RV _,hk,rfl,rfl,b7.kept h ((aa.refl [] d).alloc _) (by simp),R2 _ _,(aa.refl _ _).alloc _⟩
  case round =>
   obtain⟨j,F,hj,hg,o,f,m,a⟩:=hrel;obtain⟨N,O,P,Q,R⟩:=f.cells;have q:=ae m;have r:=ae f;have t:d.heap.size∉[x]:=(by simp;omega);by_cases S:j<w.size/\da (aH w j)=true
   ·obtain⟨b,p⟩:=S;have c:=p;rw[bU w j b]at c;have ag:Hid (skip w (j+1)=skip w y):=(Ht w j b p).symm.trans o.out;clear p;go_wp2_with fail;go_quiet ((go_at_call 227;exact Ss (kE _ _)));go_wp2_with fail;refine(Ds x j n w _ hd b (by exact f)).mono ?_;rintro e w1 ⟨rfl,C,l⟩;go_wp2;go_roundg (w.size-(j+1))
    case measure=>omega
    case rel=>exact⟨j+1,by omega,by omega,rfl,ag,C,l.get (by exact m) t,(a.drewN nq).trans l⟩
   ·have ad:Hid (j=skip w y):=(o.out.symm.trans (tY w j S)).symm;have E:(j<w.size/\∃h:j<w.size,da ((w[j]'h).toNat:Int)=false)∨(¬j<w.size/\decide ((j:Int)<(w.size:Int))=false):=by
     by_cases b:j<w.size
     ·refine R4 ⟨b,b,?_⟩;rw[<-bU w j b];simpa using fun h=>S ⟨b,h⟩
     ·exact RZ ⟨b,by simp;omega⟩
    clear S o;rcases E with ⟨b,ai,c⟩ | ⟨b,c⟩
    all_goals
     go_wp2_with fail;go_quiet ((go_at_call 227;exact Ss (kE _ _)));go_wp2_with fail;go_meet
     case rel=>exact⟨j,F,hj,ad,by exact f,by exact m,a.drewN _⟩
 case rest =>
  obtain⟨j,F,hj,Z,f,m,a⟩:=hcut;have q:=ae m;have r:=ae f;have t:d.heap.size∉[x]:=by simp;omega
  go_wp2_with fail;refine(zv x j n w _ (by exact f)).mono ?_;rintro e u ⟨rfl,l⟩;have C:b7 u x n w j:=b7.kept (by exact f) l (by simp);have J:=l.get (by exact m) (by simp);have s:=a.trans (l.mono (by simp));have an:=ae C;have al:=ae J;have ax:=s.size;clear f m a l q r;obtain⟨N,O,P,Q,R⟩:=C.cells;go_wp2
  go_loopg [] (w.size-j) (fun g wr=>∃z,j<=z/\z<=w.size/\g=w.size-z/\Hid (cU w z=cU w j)/\b7 wr x n w z/\wr.heap[d.heap.size]?=some (.cells my 255) /\
   wr.heap[u.heap.size]?=some (.cells #[string n,int i64 (aR w j),int i64 (bC w j)] 36)/\aa [x] d wr)
  case atStart=>exact⟨j,RV _,hj,rfl,rfl,C.kept ((aa.refl [] u).alloc _) (by simp),((aa.refl [] u).alloc _).get J (by simp),R2 _ _,s.alloc _⟩
  case round =>
   clear N O P Q R;obtain⟨z,ar,hz,hg,o,f,m,A,a⟩:=hrel;obtain⟨N,O,P,Q,R⟩:=f.cells;have q:=ae m;have r:=ae f;have ac:=ae A;have e0:wr.cell? ⟨u.heap.size,0,none⟩=some (string n):=by rw[aj A];rfl
   have e1:wr.cell? ⟨u.heap.size,1,none⟩=some (int i64 (aR w j)):=(by rw[aj A];rfl);have e2:wr.cell? ⟨u.heap.size,2,none⟩=some (int i64 (bC w j)):=(by rw[aj A];rfl);rcases KL w z with ⟨k,c,I,L⟩ | ⟨k,c,I⟩ | ⟨k,c⟩ | ⟨k,c⟩
   ·have HS:Hid (cU w (z+1)=cU w j):=L.trans o.out;clear o L;go_wp2_with fail;go_quiet ((go_at_call 227;exact Ss (kE _ _)));go_wp2_with fail;go_quiet ((go_at_call 230;exact MP (pC _ _)));go_wp2_with fail;refine(Ds x z n w _ hd k (by exact f)).mono ?_;rintro e w3 ⟨rfl,h3,i⟩;go_wp2;go_roundg (w.size-(z+1))
    case measure=>omega
    case rel=>exact⟨z+1,by omega,by omega,rfl,HS,h3,i.get (by exact m) t,i.get (by exact A) (by simp;omega),((a.drewN _).trans i)⟩
   ·have B:Hid (bJ w y=(⟨⟨#[]⟩,1,false,z⟩,z)):=Dj w y j z Z.out o.out k (by rw[bU w z k];exact c) (by rw[bU w z k];exact I);clear o;go_wp2_with fail;go_quiet ((go_at_call 227;exact Ss (kE _ _)));go_wp2_with fail;go_quiet ((go_at_call 230;exact MP (pC _ _)));go_wp2_with fail;refine(zv x z n w _ (by exact f)).mono ?_;rintro e w3 ⟨rfl,i⟩;have h3:b7 w3 x n w z:=b7.kept (by exact f) i (by simp);have K:=i.get (by exact m) (by simp);have G:=(a.drewN _).trans (i.mono (by simp));clear N O P Q R f m a i q r A ac e0 e1 e2;obtain⟨T,U,V,W,X,Y⟩:=iq K;have az:=am K;go_wp2;exact Sa (v:=fA n w ⟨⟨#[]⟩,1,false,z⟩) (by simp[results,results204,go_sem,fA,T,U,V,W,X,Y]) rfl
     (by rw[B.out];exact⟨rfl,ii h3 (by omega) _ _ _ _ _ _,iJ G (RV _) _ _ _ _ _ _⟩)
   all_goals
    have M:¬(z<w.size/\da (aH w z)=false):=by
     rintro ⟨H,D⟩
     first
      | (rw[bU w z H,c]at D;cases D)
      | exact k H
    obtain⟨T,U,V,W,X,Y⟩:=iq m;have az:=am m;by_cases af:j<z
    ·have B:Hid (bJ w y=(⟨w.extract j z,0,false,j⟩,z)):=zB w y j z Z.out o.out M af;have ap:decide ((z:Int)<=(j:Int))=false:=(by simp;omega);clear o M;go_wp2_with fail;go_quiet ((go_at_call 227;exact Ss (kE _ _)));go_wp2_with fail;go_quiet (fail);go_wp2_with fail;go_region
     all_goals go_wp2
     exact Sa (v:=fA n w ⟨w.extract j z,0,false,j⟩) (by simp[results,results204,go_sem,fA,T,U,V,W,X,Y]) rfl
      (by rw[B.out];exact⟨rfl,ii (by exact f) (by omega) _ _ _ _ _ _,iJ (a.drewN _) (RV _) _ _ _ _ _ _⟩)
    ·have B:Hid (bJ w y=(⟨⟨#[]⟩,0,true,j⟩,z)):=Dk w y j z Z.out o.out M (by omega);clear o M;go_wp2_with fail;go_quiet ((go_at_call 227;exact Ss (kE _ _)));go_wp2_with fail;go_quiet (fail);go_wp2;exact Sa (v:=fA n w ⟨⟨#[]⟩,0,true,j⟩) (by simp[results,results204,go_sem,fA,T,U,V,W,X,Y]) rfl
      (by rw[B.out];exact⟨rfl,ii (by exact f) (by omega) _ _ _ _ _ _,iJ (a.drewN _) (RV _) _ _ _ _ _ _⟩)
def aK(i:sJ):Bool:=i.rule==0 && !i.fin
set_option maxRecDepth 512
theorem cY(r l c:Int)(f:Bool)(a:World) :
    Calls prog 157 #[agg #[string n,int i64 r,bool f,string w,int i64 l,int i64 c]] a fun e b=>e=returned (bool (r==0 && !f))/\aa [] a b:=by
  cases d:(r==0)
  all_goals
    go_enter func157,ntmps157;go_wp2;go_ret;exact⟨aE (by simp),(aa.refl _ _).alloc _⟩
def dn(s:ByteArray):Bool:=(List.range s.size).any (fun i=>aH s i==36)
def kL(s:ByteArray):Bool:=(List.range s.size).any (fun i=>decide (1<=i)&&(aH s (i-1)==36)&&((aH s i==40)||(aH s i==41)))
theorem mK{p:Nat->Bool}(h:f<b)(a:p f=true):(List.range b).any p=true:=by
  rw[SQ];exact⟨f,by simpa using h,a⟩
theorem uj{p:Nat->Bool}(h:∀i,i<b->p i=false):(List.range b).any p=false:=by
  rw[UV];intro i a;simp[h i (by simpa using a)]
theorem eI(o:w.size<=1073741824) :
    Calls prog 232 #[string w] d fun e l=>e=returned (bool (dn w))/\l=d:=by
  go_enter func232,ntmps232;go_wp2
  go_loopg [3] w.size (fun g i wr=>∃k:Nat,k<=w.size/\g=w.size-k/\i=int i64 k/\Hid (∀i,i<k->(aH w i==36)=false)/\wr=d)
  case atStart=>exact⟨0,by omega,by omega,rfl,fun i h=>by omega,rfl⟩
  case round =>
    obtain⟨k,n,m,rfl,a,rfl⟩:=hrel;by_cases b:k<w.size
    · cases f:((w[k].toNat:Int)==36)
      · go_wp2
        go_roundg (w.size-(k+1))
        case measure=>omega
        case rel =>
          refine⟨k+1,by omega,rfl,by go_num,?_,rfl⟩;intro i j;by_cases e:i=k
          · subst e;rw[bU w i b];exact f
          · exact a.out i (by omega)
      · have c:Hid (dn w=true):=mK k b (by rw[bU w k b];exact f)
        go_wp2;go_ret;exact⟨aE c.out.symm,rfl⟩
    · have c:Hid (dn w=false):=uj (fun i j=>a.out i (by omega))
      go_wp2;go_ret;exact⟨aE c.out.symm,rfl⟩
theorem vf(v:w.size<=1073741824) :
    Calls prog 231 #[string w] d fun e r=>e=returned (bool (kL w))/\r=d:=by
  go_enter func231,ntmps231;go_wp2
  go_loopg [3] (w.size-1) (fun g i wr=>∃k:Nat,1<=k/\(k<=w.size∨k=1)/\g=w.size-k/\i=int i64 k/\Hid (∀i,i<k->1<=i->((aH w (i-1)==36)&&((aH w i==40)||(aH w i==41)))=false)/\wr=d)
  case atStart=>exact⟨1,by omega,by omega,rfl,rfl,fun i h s=>by omega,rfl⟩
  case round =>
    obtain⟨k,l,u,t,rfl,a,rfl⟩:=hrel;by_cases c:k<w.size
    · have f:k-1<w.size:=by omega
      have n:∀b:Bool,(((w[k-1].toNat:Int)==36)&&(((w[k].toNat:Int)==40)||((w[k].toNat:Int)==41)))=b->((aH w (k-1)==36)&&((aH w k==40)||(aH w k==41)))=b :=
        fun b h=>by rw[bU w k c,bU w (k-1) f];exact h
      have m:Hid (∀b:Bool,(((w[k-1].toNat:Int)==36)&&(((w[k].toNat:Int)==40)||((w[k].toNat:Int)==41)))=b->((aH w (k-1)==36)&&((aH w k==40)||(aH w k==41)))=b):=n;clear n;go_wp2
      all_goals first
        | (go_ret
           refine⟨aE ?_,rfl⟩;refine(mK (p:=fun i=>decide (1<=i)&&(aH w (i-1)==36)&&((aH w i==40)||(aH w i==41))) k c ?_).symm;have:=m.out true (by simp_all);simp only[Bool.and_assoc,this];simp[l])
        | (go_roundg (w.size-(k+1))
           case measure=>omega
           case rel =>
             refine⟨k+1,by omega,by omega,rfl,by go_num,?_,rfl⟩;intro i q j;by_cases e:i=k
             · subst e;exact m.out false (by simp_all)
             · exact a.out i (by omega) j)
    · have o:Hid (kL w=false):=uj (fun i q=>by
        by_cases j:1<=i
        · have:=a.out i (by omega) j;simp only[Bool.and_assoc,this];simp
        · simp[j])
      go_wp2;go_ret;exact⟨aE o.out.symm,rfl⟩
theorem gZ(h:f<=w.size):f<=(bJ w f).2/\(bJ w f).2<=w.size/\(aK (bJ w f).1=true->f<(bJ w f).2):=by
 have a:=Ba w f h;have b:=sC w (skip w f) a.2;unfold bJ;simp only;split
 ·exact⟨by omega,b.2,by simp[aK]⟩
 ·split
  ·exact⟨by omega,b.2,by simp[aK]⟩
  ·exact⟨by simp only;omega,b.2,fun _=>by simp only;omega⟩
def b8(d:ByteArray):Nat->Nat->sJ×Nat
 | 0,k=>(⟨⟨#[]⟩,3,false,k⟩,k)
 | f+1,k =>
  if aK (bJ d k).1=true/\¬(bJ d k).1.text.toList=[36,41] then
   if kL (bJ d k).1.text=true then(⟨⟨#[]⟩,2,false,(bJ d k).1.pos⟩,(bJ d k).2) else b8 d f (bJ d k).2
  else if(bJ d k).1.fin=true then(⟨⟨#[]⟩,3,false,(bJ d k).1.pos⟩,(bJ d k).2) else bJ d k
def bb(d:ByteArray)(k:Nat):sJ×Nat:=b8 d (d.size-k+1) k
theorem wD(f k:Nat)(a:k<=w.size)(b:w.size-k+1<=f):b8 w f k=bb w k:=by
 unfold bb
 suffices h:∀f g k,k<=w.size->w.size-k+1<=f->w.size-k+1<=g->b8 w f k=b8 w g k from h _ _ _ a b (RV _)
 clear b a f k;intro f
 induction f with
 | zero=>intro g k _ h;omega
 | succ f e =>
  intro g k a b i;cases g with
  | zero=>omega
  | succ g =>
   rw[b8,b8];split
   ·next h =>
    have c:=gZ w k a;have d:=c.2.2 h.1;split
    ·rfl
    ·exact e g (bJ w k).2 c.2.1 (by omega) (by omega)
   ·rfl
theorem wE(e:f<=w.size)(a:aK (bJ w f).1=true)(c:((bJ w f).1.text.toList == [36,41])=false)(d:kL (bJ w f).1.text=false):bb w f=bb w (bJ w f).2:=by
 have b:=gZ w f e;have g:=b.2.2 a
 conv=>lhs;unfold bb
 rw[b8,RY ⟨a,by simpa using c⟩,RU (by simp[d]),wD w _ _ b.2.1 (by omega)]
theorem ta(a:aK (bJ w f).1=true)(b:((bJ w f).1.text.toList == [36,41])=false)(c:kL (bJ w f).1.text=true):bb w f=(⟨⟨#[]⟩,2,false,(bJ w f).1.pos⟩,(bJ w f).2):=by
 unfold bb;rw[b8,RY ⟨a,by simpa using b⟩,RY c]
theorem te(a:aK (bJ w f).1=false)(b:(bJ w f).1.fin=true):bb w f=(⟨⟨#[]⟩,3,false,(bJ w f).1.pos⟩,(bJ w f).2):=by
 unfold bb;rw[b8,RU (by simp[a]),RY b]
theorem vk(a:aK (bJ w f).1=false)(b:(bJ w f).1.fin=false):bb w f=bJ w f:=by
 unfold bb;rw[b8,RU (by simp[a]),RU (by simp[b])]
theorem rm(a:aK (bJ w f).1=true)(b:((bJ w f).1.text.toList == [36,41])=true):bb w f=bJ w f:=by
 unfold bb;rw[b8,RU (by intro h;exact h.2 (by simpa using b))];rw[RU (by intro h;simp[aK,h]at a)]
theorem ji(k:Nat)(b:k<=w.size):k<=(bb w k).2/\(bb w k).2<=w.size:=by
 unfold bb
 suffices h:∀f k,k<=w.size->k<=(b8 w f k).2/\(b8 w f k).2<=w.size from h _ _ b
 clear b k;intro f
 induction f with
 | zero=>intro k b;simp[b8,b]
 | succ f c =>
  intro k b;have a:=gZ w k b;rw[b8];split
  ·split
   ·exact⟨a.1,a.2.1⟩
   ·have:=c (bJ w k).2 a.2.1;omega
  ·split
   ·exact⟨a.1,a.2.1⟩
   ·exact⟨a.1,a.2.1⟩
def dN(d:ByteArray):Nat->Nat->sJ×Nat
 | 0,k=>(⟨⟨#[]⟩,0,true,k⟩,k)
 | f+1,k =>
  if aK (bJ d k).1=true/\(bJ d k).1.text.toList=[36,40] then
   if aK (bb d (bJ d k).2).1=true then dN d f (bb d (bJ d k).2).2 else bb d (bJ d k).2
  else bJ d k
def aA(d:ByteArray)(k:Nat):sJ×Nat:=dN d (d.size-k+1) k
theorem CS(f k:Nat)(a:k<=w.size)(b:w.size-k+1<=f):dN w f k=aA w k:=by
 unfold aA
 suffices h:∀f g k,k<=w.size->w.size-k+1<=f->w.size-k+1<=g->dN w f k=dN w g k from h _ _ _ a b (RV _)
 clear b a f k;intro f
 induction f with
 | zero=>intro g k _ h;omega
 | succ f i =>
  intro g k a b j;cases g with
  | zero=>omega
  | succ g =>
   rw[dN,dN];split
   ·next h =>
    have c:=gZ w k a;have e:=c.2.2 h.1;have d:=ji w (bJ w k).2 c.2.1;split
    ·exact i g _ d.2 (by omega) (by omega)
    ·rfl
   ·rfl
theorem GX(g:f<=w.size)(a:aK (bJ w f).1=true)(c:((bJ w f).1.text.toList == [36,40])=true)(d:aK (bb w (bJ w f).2).1=true) :
  aA w f=aA w (bb w (bJ w f).2).2:=by
 have b:=gZ w f g;have i:=b.2.2 a;have e:=ji w (bJ w f).2 b.2.1
 conv=>lhs;unfold aA
 rw[dN,RY ⟨a,by simpa using c⟩,RY d,CS w _ _ e.2 (by omega)]
theorem vq(a:aK (bJ w f).1=true)(b:((bJ w f).1.text.toList == [36,40])=true)(c:aK (bb w (bJ w f).2).1=false) :
  aA w f=bb w (bJ w f).2:=by
 unfold aA;rw[dN,RY ⟨a,by simpa using b⟩,RU (by simp[c])]
theorem rZ(h:aK (bJ w f).1=false∨((bJ w f).1.text.toList == [36,40])=false):aA w f=bJ w f:=by
 unfold aA;rw[dN,RU (by rintro ⟨a,b⟩;rcases h with h | h;simp[h]at a;simp[b]at h)]
theorem fT(k:Nat)(a:k<=w.size):k<=(aA w k).2/\(aA w k).2<=w.size/\(aK (aA w k).1=true->k<(aA w k).2):=by
 unfold aA
 suffices h:∀f k,k<=w.size->k<=(dN w f k).2/\(dN w f k).2<=w.size/\(aK (dN w f k).1=true->k<(dN w f k).2) from h _ _ a
 clear a k;intro f
 induction f with
 | zero=>intro k a;simp[dN,a,aK]
 | succ f e =>
  intro k a;have b:=gZ w k a;have c:=ji w (bJ w k).2 b.2.1;rw[dN];split
  ·next h =>
   have d:=b.2.2 h.1;split
   ·have:=e (bb w (bJ w k).2).2 c.2;omega
   ·omega
  ·exact b
def jL(w:World)(r:Nat)(n d:ByteArray)(i:sJ):Prop :=
 w.heap[r]?=some (.cells #[string i.text,int i64 i.rule,bool i.fin,string n,int i64 (aR d i.pos),int i64 (bC d i.pos)] 255)
theorem jL.cells{t:ByteArray}{u:Int}{f:Bool}(h:jL l b D i ⟨t,u,f,S⟩) :
  l.cell? ⟨b,0,none⟩=some (string t)/\l.cell? ⟨b,1,none⟩=some (int i64 u)/\l.cell? ⟨b,2,none⟩=some (bool f) /\
  l.cell? ⟨b,3,none⟩=some (string D)/\l.cell? ⟨b,4,none⟩=some (int i64 (aR i S))/\l.cell? ⟨b,5,none⟩=some (int i64 (bC i S)):=by
 refine⟨?_,?_,?_,?_,?_,?_⟩ <;> (rw[aj h];rfl)
theorem jL.kept(h:jL l b D i y1)(c:aa L l T)(a:b∉L):jL T b D i y1:=c.get h a
theorem pX(h:jL l b D i y1)(j:sJ) :
  jL ((((((l.setCell ⟨b,0,none⟩ (string j.text)).setCell ⟨b,1,none⟩ (int i64 j.rule)).setCell ⟨b,2,none⟩ (bool j.fin)).setCell ⟨b,3,none⟩ (string D)).setCell ⟨b,4,none⟩ (int i64 (aR i j.pos))).setCell ⟨b,5,none⟩ (int i64 (bC i j.pos))) b D i j:=by
 have:=ah (ah (ah (ah (ah (ah h 0 (string j.text)) 1 (int i64 j.rule)) 2 (bool j.fin)) 3 (string D)) 4 (int i64 (aR i j.pos))) 5 (int i64 (bC i j.pos));unfold jL;rw[this];simp
theorem uN(h:l.heap[b]?=some y0)(a:b≠S)(c d e f g i:Value) :
  ((((((l.setCell ⟨S,0,none⟩ c).setCell ⟨S,1,none⟩ d).setCell ⟨S,2,none⟩ e).setCell ⟨S,3,none⟩ f).setCell ⟨S,4,none⟩ g).setCell ⟨S,5,none⟩ i).heap[b]?=some y0:=by
 rw[Sg _ _ _ _ a,Sg _ _ _ _ a,Sg _ _ _ _ a,Sg _ _ _ _ a,Sg _ _ _ _ a,Sg _ _ _ _ a];exact h
theorem qR(a:w.size<=1024):(bJ w f).1.text.size<=1024:=by
 unfold bJ;simp only;split
 ·simp[ByteArray.size]
 ·split
  ·simp[ByteArray.size]
  ·simp;omega
set_option maxRecDepth 100000
theorem vj(hd:w.size<=1024)(hk:y<=w.size)(h:b7 d x n w y) :
  Calls prog 205 #[pointer (some ⟨x,0,none⟩)] d fun e w'=>e=returned (fA n w (bb w y).1)/\b7 w' x n w (bb w y).2/\aa [x] d w':=by
 have az:=ae h;go_enter func205,ntmps205;go_wp2_with fail;refine(v7 x y n w _ hd hk (by exact h.kept ((aa.refl [] _).alloc _) (by simp))).mono ?_;rintro e w1 ⟨rfl,h1,W⟩;have Y:w1.heap[d.heap.size]?=some (.cells my 255):=W.get (R2 _ _) (by simp;omega);have ac:aa [x] d w1:=((aa.refl _ _).alloc _).trans W;have ar:=ae h1;have ao:=ae Y;simp only[fA];go_wp2
 go_loopg [] (w.size-y) (fun g wr=>∃j,j<=w.size/\g=w.size-j/\Hid (bb w y=bb w j)/\b7 wr x n w (bJ w j).2/\jL wr w1.heap.size n w (bJ w j).1/\wr.heap[d.heap.size]?=some (.cells my 255)/\aa [x] d wr)
 case atStart=>exact⟨y,hk,rfl,rfl,h1.kept ((aa.refl [] _).alloc _) (by simp),R2 _ _,((aa.refl [] _).alloc _).get Y (by simp),ac.alloc _⟩
 case round =>
  obtain⟨j,hj,hg,Z,o,m,E,k⟩:=hrel;have H:=gZ w j hj;have af:=qR w j hd;have R:Hid (_->_->_->bb w j=_):=wE w j hj;have S:Hid (_->_->_->bb w j=_):=ta w j;have T:Hid (_->_->bb w j=_):=te w j;have U:Hid (_->_->bb w j=_):=vk w j;have V:Hid (_->_->bb w j=_):=rm w j;generalize hrr:bJ w j=r at *;obtain⟨⟨t,u,f,p⟩,z⟩:=r;have HR:Hid (bJ w j=(⟨t,u,f,p⟩,z)):=hrr;clear hrr;simp only at o m H af;obtain⟨q,s,A,B,C,D⟩:=m.cells;have ap:=ae E;have ax:=ae o;have an:=ae m;cases I:(u==0 && !f)
  ·cases J:f
   ·have F:Hid (bb w j=(⟨t,u,false,p⟩,z)):=(by have:=U.out (by simpa [aK] using I) J;rw[J]at this;exact this);subst J;have ag:(u==0)=false:=by simpa using I
    clear R S T U V;go_wp2_with fail;refine(cY t n u (aR w p) (bC w p) _ _).mono ?_;rintro e w2 ⟨rfl,a⟩;have i:=m.kept a (by simp);have l:=o.kept a (by simp);have c:=a.get E (by simp);have b:=k.trans (a.mono (by simp));clear q s A B C D m o E k a;obtain⟨q,s,A,B,C,D⟩:=i.cells;obtain⟨L,M,N,O,P,Q⟩:=iq c;have ai:=am c;go_wp2;exact Sa (v:=fA n w ⟨t,u,false,p⟩) (by simp[results,results205,go_sem,fA,L,M,N,O,P,Q]) rfl
     (by rw[Z.out,F.out];exact⟨rfl,ii l (by omega) _ _ _ _ _ _,iJ b (RV _) _ _ _ _ _ _⟩)
   ·have F:Hid (bb w j=(⟨⟨#[]⟩,3,false,p⟩,z)):=T.out (by simpa [aK] using I) J;subst J;clear R S T U V;go_wp2_with fail;refine(cY t n u (aR w p) (bC w p) _ _).mono ?_;rintro e w2 ⟨rfl,a⟩;have i:=m.kept a (by simp);have l:=o.kept a (by simp);have c:=a.get E (by simp);have b:=k.trans (a.mono (by simp));clear q s A B C D m o E k a;obtain⟨q,s,A,B,C,D⟩:=i.cells;obtain⟨L,M,N,O,P,Q⟩:=iq c;have ai:=am c;go_wp2;exact Sa (v:=fA n w ⟨⟨#[]⟩,3,false,p⟩) (by simp[results,results205,go_sem,fA,L,M,N,O,P,Q]) rfl
     (by rw[Z.out,F.out];exact⟨rfl,ii l (by omega) _ _ _ _ _ _,iJ b (RV _) _ _ _ _ _ _⟩)
  ·cases hx:(t.toList == [36,41])
   ·cases hy:kL t
    ·have F:Hid (bb w j=bb w z):=R.out I hx hy;clear R S T U V;go_wp2_with fail;refine(cY t n u (aR w p) (bC w p) _ _).mono ?_;rintro e w2 ⟨rfl,a⟩;have i:=m.kept a (by simp);have l:=o.kept a (by simp);have c:=a.get E (by simp);have b:=k.trans (a.mono (by simp));clear q s A B C D m o E k a;obtain⟨q,s,A,B,C,D⟩:=i.cells;go_wp2_with fail;refine(vf t _ (by omega)).mono ?_;rintro e w3 ⟨rfl,rfl⟩;go_wp2_with fail;refine(v7 x z n w _ hd H.2.1 l).mono ?_;rintro e w4 ⟨rfl,h4,K⟩;have G:=i.kept K (by simp;omega);have ad:=K.get c (by simp;omega);have X:=b.trans K;have yy:=am G;have al:=ae G;clear q s A B C D;obtain⟨q,s,A,B,C,D⟩:=G.cells;simp only[fA];go_wp2;go_roundg (w.size-z)
     case measure=>have:=H.2.2 I;omega
     case rel=>exact⟨z,H.2.1,rfl,Z.out.trans F.out,ii h4 (by omega) _ _ _ _ _ _,pX G _,uN ad (by omega) _ _ _ _ _ _,iJ X (by omega) _ _ _ _ _ _⟩
    ·have F:Hid (bb w j=(⟨⟨#[]⟩,2,false,p⟩,z)):=S.out I hx hy;clear R S T U V;go_wp2_with fail;refine(cY t n u (aR w p) (bC w p) _ _).mono ?_;rintro e w2 ⟨rfl,a⟩;have i:=m.kept a (by simp);have l:=o.kept a (by simp);have c:=a.get E (by simp);have b:=k.trans (a.mono (by simp));clear q s A B C D m o E k a;obtain⟨q,s,A,B,C,D⟩:=i.cells;go_wp2_with fail;refine(vf t _ (by omega)).mono ?_;rintro e w3 ⟨rfl,rfl⟩;obtain⟨L,M,N,O,P,Q⟩:=iq c;have ai:=am c;go_wp2;exact Sa (v:=fA n w ⟨⟨#[]⟩,2,false,p⟩) (by simp[results,results205,go_sem,fA,L,M,N,O,P,Q]) rfl
      (by rw[Z.out,F.out];exact⟨rfl,ii l (by omega) _ _ _ _ _ _,iJ b (RV _) _ _ _ _ _ _⟩)
   ·have F:Hid (bb w j=(⟨t,u,f,p⟩,z)):=V.out I hx;clear R S T U V;have J:f=false:=by cases f;rfl;simp at I
    subst J;have ag:(u==0)=true:=by simpa using I
    go_wp2_with fail;refine(cY t n u (aR w p) (bC w p) _ _).mono ?_;rintro e w2 ⟨rfl,a⟩;have i:=m.kept a (by simp);have l:=o.kept a (by simp);have c:=a.get E (by simp);have b:=k.trans (a.mono (by simp));clear q s A B C D m o E k a;obtain⟨q,s,A,B,C,D⟩:=i.cells;obtain⟨L,M,N,O,P,Q⟩:=iq c;have ai:=am c;go_wp2;exact Sa (v:=fA n w ⟨t,u,false,p⟩) (by simp[results,results205,go_sem,fA,L,M,N,O,P,Q]) rfl
     (by rw[Z.out,F.out];exact⟨rfl,ii l (by omega) _ _ _ _ _ _,iJ b (RV _) _ _ _ _ _ _⟩)
theorem tJ(hd:w.size<=1024)(hk:y<=w.size)(h:b7 d x n w y) :
  Calls prog 156 #[pointer (some ⟨x,0,none⟩)] d fun e w'=>e=returned (fA n w (aA w y).1)/\b7 w' x n w (aA w y).2/\aa [x] d w':=by
 have a6:=ae h;go_enter func156,ntmps156;go_wp2_with fail;refine(v7 x y n w _ hd hk (by exact h.kept ((aa.refl [] _).alloc _) (by simp))).mono ?_;rintro e w1 ⟨rfl,h1,ad⟩;have ag:w1.heap[d.heap.size]?=some (.cells my 255):=ad.get (R2 _ _) (by simp;omega);have ax:aa [x] d w1:=((aa.refl _ _).alloc _).trans ad;have a4:=ae h1;have a2:=ae ag;simp only[fA];go_wp2
 go_loopg [4] (w.size-y) (fun g _ wr=>∃j,j<=w.size/\g=w.size-j/\Hid (aA w y=aA w j)/\b7 wr x n w (bJ w j).2/\jL wr w1.heap.size n w (bJ w j).1/\wr.heap[d.heap.size]?=some (.cells my 255)/\aa [x] d wr)
 case atStart=>exact⟨y,hk,rfl,rfl,h1.kept ((aa.refl [] _).alloc _) (by simp),R2 _ _,((aa.refl [] _).alloc _).get ag (by simp),ax.alloc _⟩
 case round =>
  obtain⟨j,hj,hg,hs,M,D,R,q⟩:=hrel;have F:=gZ w j hj;have aS:=qR w j hd;have L1:Hid (_->_->_->aA w j=_):=GX w j hj;have L2:Hid (_->_->_->aA w j=_):=vq w j;have L3:Hid (_->aA w j=_):=rZ w j;generalize hrr:bJ w j=r at *;obtain⟨⟨t,u,f,p⟩,z⟩:=r;have HR:Hid (bJ w j=(⟨t,u,f,p⟩,z)):=hrr;clear hrr;simp only at M D F aS;obtain⟨G,H,I,J,K,L⟩:=D.cells;have a3:=ae R;have a5:=ae M;have a1:=ae D;cases hw:(u==0 && !f)
  ·have T:Hid (aA w j=(⟨t,u,f,p⟩,z)):=L3.out (R4 hw);clear L1 L2 L3;go_wp2_with fail;refine(cY t n u (aR w p) (bC w p) _ _).mono ?_;rintro e w2 ⟨rfl,a⟩;have k:=D.kept a (by simp);have m:=M.kept a (by simp);have l:=a.get R (by simp);have b:=q.trans (a.mono (by simp));clear G H I J K L D M R q a;obtain⟨G,H,I,J,K,L⟩:=k.cells;obtain⟨z0,z1,z2,z3,z4,z5⟩:=iq l;have aT:=am l;go_wp2;exact Sa (v:=fA n w ⟨t,u,f,p⟩) (by simp[results,results156,go_sem,fA,z0,z1,z2,z3,z4,z5]) rfl
    (by rw[hs.out,T.out];exact⟨rfl,ii m (by omega) _ _ _ _ _ _,iJ b (RV _) _ _ _ _ _ _⟩)
  ·cases hx:(t.toList == [36,40])
   ·have T:Hid (aA w j=(⟨t,u,f,p⟩,z)):=L3.out (RZ hx);clear L1 L2 L3;go_wp2_with fail;refine(cY t n u (aR w p) (bC w p) _ _).mono ?_;rintro e w2 ⟨rfl,a⟩;have k:=D.kept a (by simp);have m:=M.kept a (by simp);have l:=a.get R (by simp);have b:=q.trans (a.mono (by simp));clear G H I J K L D M R q a;obtain⟨G,H,I,J,K,L⟩:=k.cells;obtain⟨z0,z1,z2,z3,z4,z5⟩:=iq l;have aT:=am l;go_wp2;exact Sa (v:=fA n w ⟨t,u,f,p⟩) (by simp[results,results156,go_sem,fA,z0,z1,z2,z3,z4,z5]) rfl
     (by rw[hs.out,T.out];exact⟨rfl,ii m (by omega) _ _ _ _ _ _,iJ b (RV _) _ _ _ _ _ _⟩)
   ·have W:=ji w z F.2.1;have L4:Hid (_->aA w j=aA w _):=fun h=>L1.out hw hx h;have L5:Hid (_->aA w j=_):=fun h=>L2.out hw hx h;clear L1 L2 L3;generalize hcc:bb w z=c at *;obtain⟨⟨U,S,Z,N⟩,cz⟩:=c;have HC:Hid (bb w z=(⟨U,S,Z,N⟩,cz)):=hcc;clear hcc;simp only at W;cases ac:(S==0 && !Z)
    ·have T:Hid (aA w j=(⟨U,S,Z,N⟩,cz)):=L5.out ac;clear L4 L5;go_wp2_with fail;refine(cY t n u (aR w p) (bC w p) _ _).mono ?_;rintro e w2 ⟨rfl,a⟩;have k:=D.kept a (by simp);have m:=M.kept a (by simp);have l:=a.get R (by simp);have b:=q.trans (a.mono (by simp));clear G H I J K L D M R q a;obtain⟨G,H,I,J,K,L⟩:=k.cells;go_wp2_with fail;refine(vj x z n w _ hd F.2.1 m).mono ?_;rintro e w3 ⟨rfl,V,o⟩;have A:=k.kept o (by simp;omega);have B:=o.get l (by simp;omega);have s:=b.trans o;have ap:=ae V;have ai:=ae A;have an:=ae B;simp only[fA];rw[HC.out];simp only;go_wp2_with fail;refine(cY U n S (aR w N) (bC w N) _ _).mono ?_;rintro e w4 ⟨rfl,i⟩;have Y:jL w4 w3.heap.size n w ⟨U,S,Z,N⟩:=i.get (R2 _ _) (by simp);have P:=(A.kept ((aa.refl [] _).alloc _) (by simp)).kept i (by simp);have O:=(V.kept ((aa.refl [] _).alloc _) (by simp)).kept i (by simp);have C:=i.get (((aa.refl [] _).alloc _).get B (by simp)) (by simp);have E:=(s.alloc _).trans (i.mono (by simp));rw[HC.out]at O;simp only at O;have ar:=ae O;have al:=ae P;have ao:=ae C;clear G H I J K L k l b i A B s o V m;obtain⟨p0,p1,p2,p3,p4,p5⟩:=Y.cells;obtain⟨z0,z1,z2,z3,z4,z5⟩:=iq C;have aT:=am C;go_wp2;exact Sa (v:=fA n w ⟨U,S,Z,N⟩) (by simp[results,results156,go_sem,fA,z0,z1,z2,z3,z4,z5]) rfl
      (by rw[hs.out,T.out];exact⟨rfl,ii O (by omega) _ _ _ _ _ _,iJ E (RV _) _ _ _ _ _ _⟩)
    ·have T:Hid (aA w j=aA w cz):=L4.out ac;clear L4 L5;go_wp2_with fail;refine(cY t n u (aR w p) (bC w p) _ _).mono ?_;rintro e w2 ⟨rfl,a⟩;have k:=D.kept a (by simp);have m:=M.kept a (by simp);have l:=a.get R (by simp);have b:=q.trans (a.mono (by simp));clear G H I J K L D M R q a;obtain⟨G,H,I,J,K,L⟩:=k.cells;go_wp2_with fail;refine(vj x z n w _ hd F.2.1 m).mono ?_;rintro e w3 ⟨rfl,V,o⟩;have A:=k.kept o (by simp;omega);have B:=o.get l (by simp;omega);have s:=b.trans o;have ap:=ae V;have ai:=ae A;have an:=ae B;simp only[fA];rw[HC.out];simp only;go_wp2_with fail;refine(cY U n S (aR w N) (bC w N) _ _).mono ?_;rintro e w4 ⟨rfl,i⟩;have Y:jL w4 w3.heap.size n w ⟨U,S,Z,N⟩:=i.get (R2 _ _) (by simp);have P:=(A.kept ((aa.refl [] _).alloc _) (by simp)).kept i (by simp);have O:=(V.kept ((aa.refl [] _).alloc _) (by simp)).kept i (by simp);have C:=i.get (((aa.refl [] _).alloc _).get B (by simp)) (by simp);have E:=(s.alloc _).trans (i.mono (by simp));rw[HC.out]at O;simp only at O;have ar:=ae O;have al:=ae P;have ao:=ae C;clear G H I J K L k l b i A B s o V m;obtain⟨p0,p1,p2,p3,p4,p5⟩:=Y.cells;go_wp2_with fail;refine(v7 x cz n w _ hd W.2 O).mono ?_;rintro e w5 ⟨rfl,h5,X⟩;have Q:=P.kept X (by simp;omega);have az:=X.get C (by simp;omega);have af:=E.trans X;have yy:=am Q;have a0:=ae Q;obtain⟨G,H,I,J,K,L⟩:=Q.cells;simp only[fA];go_wp2;go_roundg (w.size-cz)
     case measure=>have:=F.2.2 hw;omega
     case rel=>exact⟨cz,W.2,rfl,hs.out.trans T.out,ii h5 (by omega) _ _ _ _ _ _,pX Q _,uN az (by omega) _ _ _ _ _ _,iJ af (by omega) _ _ _ _ _ _⟩
structure Pl where
  file:ByteArray
  line:Int
  col:Int
structure St where
  kind:Int
  label:ByteArray
  We:List ByteArray
  Wp:List (ByteArray×Pl)
  fin:Pl
  til:Nat
structure Db where
  Wm:List ByteArray
  Wg:List ByteArray
  Wh:List ByteArray
  Wn:List ByteArray
  Wq:List ByteArray
  blocks:List (Nat×Nat)
  Wv:List St
  rbl:List Nat
  kind:Int
  label:ByteArray
  We:List ByteArray
  Wi:Bool
  Wp:List (ByteArray×Pl)
def eS(l:List ByteArray):List Value:=l.map string
def qh(l:List (Nat×Nat)):List Value:=l.flatMap (fun p=>[int i64 p.1,int i64 p.2])
def km(l:List Nat):List Value:=l.map (fun(n:Nat)=>.int i64 n)
def rF(p:ByteArray×Pl):List Value:=[string p.1,string p.2.file,int i64 p.2.line,int i64 p.2.col]
def nY(l:List (ByteArray×Pl)):List Value:=l.flatMap rF
def Kk(s:St)(a b:Hd):List Value :=
  [int i64 s.kind,string s.label,slice a.ao s.We.length a.cap,slice b.ao s.Wp.length b.cap,string s.fin.file,int i64 s.fin.line,int i64 s.fin.col,int i64 s.til]
def mT(l:List St)(H:Nat->Hd):List Value:=l.zipIdx.flatMap (fun p=>Kk p.1 (H (10+2*p.2)) (H (11+2*p.2)))
def aG(l:List ByteArray):eB:=⟨9,1,l.length,eS l⟩
def oy(l:List (Nat×Nat)):eB:=⟨337,2,l.length,qh l⟩
def bL(l:List Nat):eB:=⟨3,1,l.length,km l⟩
def ic(l:List (ByteArray×Pl)):eB:=⟨229,4,l.length,nY l⟩
def iW(l:List St)(H:Nat->Hd):eB:=⟨158,8,l.length,mT l H⟩
def symsAt(l:List St)(i:Nat):List ByteArray:=match l[i]? with | some s=>s.We | none=>[]
def tO(l:List St)(i:Nat):List (ByteArray×Pl):=match l[i]? with | some s=>s.Wp | none=>[]
def inner(l:List St)(n:Nat):eB:=if n % 2=0 then aG (symsAt l (n / 2)) else ic (tO l (n / 2))
def aY(d:Db)(H:Nat->Hd):Nat->eB
  | 0=>aG d.Wm
  | 1=>aG d.Wg
  | 2=>aG d.Wh
  | 3=>aG d.Wn
  | 4=>aG d.Wq
  | 5=>oy d.blocks
  | 6=>iW d.Wv H
  | 7=>bL d.rbl
  | 8=>aG d.We
  | 9=>ic d.Wp
  | n+10=>inner d.Wv n
def cr(d:Db)(H:Nat->Hd):List Value :=
  [slice (H 0).ao d.Wm.length (H 0).cap,slice (H 1).ao d.Wg.length (H 1).cap,slice (H 2).ao d.Wh.length (H 2).cap,slice (H 3).ao d.Wn.length (H 3).cap,
   slice (H 4).ao d.Wq.length (H 4).cap,slice (H 5).ao d.blocks.length (H 5).cap,slice (H 6).ao d.Wv.length (H 6).cap,slice (H 7).ao d.rbl.length (H 7).cap,
   int i64 d.kind,string d.label,slice (H 8).ao d.We.length (H 8).cap,bool d.Wi,slice (H 9).ao d.Wp.length (H 9).cap]
def ip{α:Type}(H:Nat->α)(i:Nat)(h:α):Nat->α:=fun j=>if j=i then h else H j
theorem dw{α:Type}(H:Nat->α)(i:Nat)(h:α):ip H i h i=h:=by simp[ip]
theorem bX{α:Type}(H:Nat->α)(i j:Nat)(h:α)(a:j≠i):ip H i h j=H j:=by simp[ip,a]
theorem Nz{α:Type}(H:Nat->α)(i:Nat):ip H i (H i)=H:=by funext j;unfold ip;split <;> simp_all
theorem xP(l:List St)(H a:Nat->Hd)(h:∀j,10<=j->a j=H j):mT l a=mT l H:=by
  unfold mT;congr 1;funext p;rw[h _ (by omega),h _ (by omega)]
theorem M8(d:Db)(H:Nat->Hd)(i:Nat)(h:Hd)(a:i<10)(j:Nat):aY d (ip H i h) j=aY d H j:=by
  have e:mT d.Wv (ip H i h)=mT d.Wv H:=xP _ _ _ (fun j b=>bX _ _ _ _ (by omega));unfold aY;split <;> first | rfl | (simp only[iW,e])
def gO(H:Nat->Hd)(k:Nat):Prop:=∃i,(H i).blk=some k
structure fy(P:Nat->Prop)(w w':World):Prop where
  os:w'.os=w.os
  tape:w'.tape=w.tape
  output:w'.output=w.output
  size:w.heap.size<=w'.heap.size
  block:∀k,k<w.heap.size->¬P k->w'.heap[k]?=w.heap[k]?
theorem fy.refl(P:Nat->Prop)(w:World):fy P w w:=⟨rfl,rfl,rfl,RV _,fun _ _ _=>rfl⟩
theorem aa.toP(h:aa L l T){P:Nat->Prop}(b:∀k,k∈L->k<l.heap.size->P k):fy P l T :=
  ⟨h.os,h.tape,h.output,h.size,fun k a d=>h.block k a (fun c=>d (b k c a))⟩
theorem fy.get(h:fy I l T)(a:l.heap[b]?=some y0)(c:¬I b):T.heap[b]?=some y0:=(h.block b (ae a) c).trans a
theorem fy.Wj(h:fy I l T)(k:aa [] T z6):fy I l z6 :=
  ⟨k.os.trans h.os,k.tape.trans h.tape,k.output.trans h.output,Sc h.size k.size,fun i a b=>(k.block i (R6 a h.size) (by simp)).trans (h.block i a b)⟩
theorem fy.setCell(h:fy I l T){p:Addr}(a:I p.block∨l.heap.size<=p.block)(u:Value):fy I l (T.setCell p u) :=
  ⟨h.os,h.tape,h.output,by have:=h.size;simp[World.setCell];omega,fun k c b=>by
    rw[Sg _ _ _ _ (by rintro rfl;exact a.elim b (fun a=>by omega))];exact h.block k c b⟩
structure aV(w:World)(b t:Nat)(pre post:List Value)(d:Db)(H:Nat->Hd):Prop where
  blk:w.heap[b]?=some (.cells (pre++(cr d H++post)).toArray t)
  own:∀i,aC w (H i) (aY d H i)
  apart:∀i j,i≠j->(H i).blk=none∨(H i).blk≠(H j).blk
  off:∀i,(H i).blk≠some b
theorem aV.lt{d:Db}(h:aV l b S v k d H):b<l.heap.size:=ae h.blk
theorem aV.free{d:Db}(h:aV l b S v k d H)(i:Nat):l.frozen? ⟨b,i,none⟩=false:=am h.blk i
theorem aV.inlt{d:Db}(h:aV l b S v k d H)(c:gO H zt):zt<l.heap.size:=by
  obtain⟨i,a⟩:=c;exact(h.own i).lt a
theorem aV.keptP{d:Db}(h:aV l b S v k d H)(e:fy I l T)(f:¬I b)(g:∀c,gO H c->¬I c):aV T b S v k d H :=
  ⟨e.get h.blk f,fun i=>(h.own i).Wo (fun c a=>e.block c ((h.own i).lt a) (g c ⟨i,a⟩)),h.apart,h.off⟩
theorem aV.kept{d:Db}(h:aV l b S v k d H)(e:aa L l T)(c:b∉L)(g:∀a,gO H a->a∉L):aV T b S v k d H :=
  h.keptP (e.toP (P:=(·∈L)) (fun _ f _=>f)) c g
theorem aV.Wj{d:Db}(h:aV l b S v k d H)(a:aa [] l T):aV T b S v k d H:=h.kept a (by simp) (by simp)
theorem AN(b:g.length=zb)(a:f<o.length):(g++(o++M)).toArray[zb+f]?=o[f]?:=by
  subst b;simp[List.getElem?_append_right,List.getElem?_append_left a]
theorem GV(u:Value)(b:g.length=zb)(a:f<o.length):(g++(o++M)).set (zb+f) u=g++(o.set f u++M):=by
  subst b;rw[Uq _ _ (by omega),show g.length+f-g.length=f by omega,UY _ _ a]
theorem aV.cellAt{d:Db}(h:aV l b S v k d H)(o:Nat)(c:v.length=o)(i:Nat)(a:i<13):l.cell? ⟨b,o+i,none⟩=(cr d H)[i]? :=
  (aj h.blk (o+i)).trans (AN v (cr d H) k o i c a)
theorem aV.cells{d:Db}(h:aV l b S v k d H)(o:Nat)(a:v.length=o) :
    l.cell? ⟨b,o,none⟩=some (slice (H 0).ao d.Wm.length (H 0).cap)/\l.cell? ⟨b,o+1,none⟩=some (slice (H 1).ao d.Wg.length (H 1).cap) /\
    l.cell? ⟨b,o+2,none⟩=some (slice (H 2).ao d.Wh.length (H 2).cap)/\l.cell? ⟨b,o+3,none⟩=some (slice (H 3).ao d.Wn.length (H 3).cap) /\
    l.cell? ⟨b,o+4,none⟩=some (slice (H 4).ao d.Wq.length (H 4).cap)/\l.cell? ⟨b,o+5,none⟩=some (slice (H 5).ao d.blocks.length (H 5).cap) /\
    l.cell? ⟨b,o+6,none⟩=some (slice (H 6).ao d.Wv.length (H 6).cap)/\l.cell? ⟨b,o+7,none⟩=some (slice (H 7).ao d.rbl.length (H 7).cap) /\
    l.cell? ⟨b,o+8,none⟩=some (int i64 d.kind)/\l.cell? ⟨b,o+9,none⟩=some (string d.label)/\l.cell? ⟨b,o+10,none⟩=some (slice (H 8).ao d.We.length (H 8).cap) /\
    l.cell? ⟨b,o+11,none⟩=some (bool d.Wi)/\l.cell? ⟨b,o+12,none⟩=some (slice (H 9).ao d.Wp.length (H 9).cap):=by
  have m:=h.cellAt o a;exact⟨m 0 (by omega),m 1 (by omega),m 2 (by omega),m 3 (by omega),m 4 (by omega),m 5 (by omega),m 6 (by omega),m 7 (by omega),m 8 (by omega),m 9 (by omega),m 10 (by omega),m 11 (by omega),m 12 (by omega)⟩
def aB(b:Nat)(w:World)(H:Nat->Hd)(w':World)(H':Nat->Hd):Prop :=
  fy (fun k=>k=b∨gO H k) w w'/\∀k,gO H' k->gO H k∨w.heap.size<=k
theorem aB.refl(H:Nat->Hd):aB y d H d H:=⟨fy.refl _ _,fun _ a=>R4 a⟩
theorem aB.trans{w1:World}{g:Nat->Hd}(a:aB b l H w1 z7)(c:aB b w1 z7 T g):aB b l H T g:=by
  refine⟨⟨c.1.os.trans a.1.os,c.1.tape.trans a.1.tape,c.1.output.trans a.1.output,Sc a.1.size c.1.size,?_⟩,?_⟩
  · intro k d f
    rw[<-a.1.block k d f];refine c.1.block k (R6 d a.1.size) ?_;rintro (e | i)
    · exact f (R4 e)
    · rcases a.2 k i with h | h
      · exact f (RZ h)
      · omega
  · intro k d
    rcases c.2 k d with h | h
    · exact a.2 k h
    · exact RZ (Sc a.1.size h)
theorem aB.Wj(a:aB b l H T z7)(c:aa [] T z6):aB b l H z6 z7 :=
  a.trans ⟨c.toP (by simp),fun _ d=>R4 d⟩
theorem aB.first(c:aa [] l T)(a:aB b T H z6 z7):aB b l H z6 z7 :=
  aB.trans ⟨c.toP (by simp),fun _ d=>R4 d⟩ a
theorem aV.putG{d d':Db}(h:aV l b S v k d H)(o c:Nat)(K:v.length=o)(i:Nat)(I:i<10)(m:Hd)(L:aC T m (aY d' H i))(t:l.grownBy T (H i).blk)(f:m.blk=none∨m.blk=(H i).blk∨∃g,m.blk=some g/\l.heap.size<=g)(z:∀j,j≠i->aC l (H j) (aY d' H j))(u:Value)(G:c<13)(J:(cr d H).set c u=cr d' (ip H i m)) :
    aV (T.setCell ⟨b,o+c,none⟩ u) b S v k d' (ip H i m)/\aB b l H (T.setCell ⟨b,o+c,none⟩ u) (ip H i m):=by
  have F:=h.lt;have B:T.heap[b]?=some (.cells (v++(cr d H++k)).toArray S):=(t.block b F (fun e=>h.off i e.symm)).trans h.blk;have s:∀j,(ip H i m j).blk≠some b:=by
    intro j;by_cases e:j=i
    · subst e;rw[dw];intro w
      rcases f with f | f | ⟨g,f,p⟩
      · rw[f]at w;cases w
      · exact h.off j (f ▸ w)
      · rw[f]at w;cases w;omega
    · rw[bX _ _ _ _ e];exact h.off j
  refine⟨⟨?_,?_,?_,s⟩,⟨t.os,t.tape,t.output,by have:=t.size;simp[World.setCell];omega,?_⟩,?_⟩
  · rw[ah B,SV,GV v (cr d H) k o c u K G,J]
  · intro j
    have q:aC T (ip H i m j) (aY d' (ip H i m) j):=by
      rw[M8 d' H i m I j];by_cases e:j=i
      · subst e;rw[dw];exact L
      · rw[bX _ _ _ _ e]
        refine(z j e).Wo (fun x n=>t.block x ((h.own j).lt n) ?_);intro y;rcases h.apart j i e with a | a
        · rw[a]at n;cases n
        · exact a (n.trans y)
    refine q.Wo (fun x n=>Sg _ _ _ _ ?_);rintro rfl;exact s j n
  · intro j A r
    by_cases e:j=i
    · subst e
      rw[dw,bX _ _ _ _ (fun e=>r e.symm)];rcases f with f | f | ⟨g,f,p⟩
      · exact R4 f
      · rw[f];exact h.apart j A r
      · right;rw[f];intro y;have:=(h.own A).lt y.symm;omega
    · rw[bX _ _ _ _ e]
      by_cases C:A=i
      · subst C
        rw[dw];rcases f with f | f | ⟨g,f,p⟩
        · rw[f];cases (H j).blk <;> simp
        · rw[f];exact h.apart j A r
        · cases w:(H j).blk with
          | none=>exact R4 rfl
          | some x=>right;rw[f];intro y;cases y;have:=(h.own j).lt w;omega
      · rw[bX _ _ _ _ C];exact h.apart j A r
  · intro x n E
    rw[Sg _ _ _ _ (fun e=>E (R4 e))];exact t.block x n (fun e=>E (RZ ⟨i,e.symm⟩))
  · intro x n
    obtain⟨j,e⟩:=n;by_cases D:j=i
    · subst D
      rw[dw]at e;rcases f with f | f | ⟨g,f,p⟩
      · rw[f]at e;cases e
      · exact R4 ⟨j,f ▸ e⟩
      · rw[f]at e;cases e;exact RZ p
    · rw[bX _ _ _ _ D]at e
      exact R4 ⟨j,e⟩
theorem aV.put{d d':Db}(h:aV l b S v k d H)(o c:Nat)(s:v.length=o)(i:Nat)(p:i<10)(a:Hd)(t:aC T a (aY d' H i))(n:l.grownBy T (H i).blk)(m:a.blk=none∨a.blk=(H i).blk∨∃g,a.blk=some g/\l.heap.size<=g)(e:∀j,j≠i->aY d' H j=aY d H j)(u:Value)(f:c<13)(r:(cr d H).set c u=cr d' (ip H i a)) :
    aV (T.setCell ⟨b,o+c,none⟩ u) b S v k d' (ip H i a)/\aB b l H (T.setCell ⟨b,o+c,none⟩ u) (ip H i a) :=
  h.putG o c s i p a t n m (fun j q=>by rw[e j q];exact h.own j) u f r
theorem aV.set{d d':Db}(h:aV l b S v k d H)(o c:Nat)(i:v.length=o)(a:∀j,aY d' H j=aY d H j)(u:Value)(f:c<13)(g:(cr d H).set c u=cr d' H) :
    aV (l.setCell ⟨b,o+c,none⟩ u) b S v k d' H/\aB b l H (l.setCell ⟨b,o+c,none⟩ u) H:=by
  refine⟨⟨?_,?_,h.apart,h.off⟩,(fy.refl _ _).setCell (R4 (R4 rfl)) _,fun _ e=>R4 e⟩
  · rw[ah h.blk,SV,GV v (cr d H) k o c u i f,g]
  · intro j
    rw[a j];refine(h.own j).Wo (fun m e=>Sg _ _ _ _ ?_);rintro rfl;exact h.off j e
theorem aV.app{d d':Db}(h:aV l b S v k d H)(o c:Nat)(u:v.length=o)(i:Nat)(x:i<10)(g a m:Nat)(r:eB)(q:aC T ⟨some ⟨g,0,none⟩,a⟩ r)(z:r=aY d' H i)(n:l.grownBy T (H i).blk)(f:(H i).blk=some g∨l.heap.size<=g)(p:∀j,j≠i->aY d' H j=aY d H j)(s:c<13)(w:Value)(A:(cr d H)[c]?=some w)(y:(cr d H).set c (slice (some ⟨g,0,none⟩) m a)=cr d' (ip H i ⟨some ⟨g,0,none⟩,a⟩)) :
    T.cell? ⟨b,o+c,none⟩=some w/\T.frozen? ⟨b,o+c,none⟩=false /\
    Hid (aV (T.setCell ⟨b,o+c,none⟩ (slice (some ⟨g,0,none⟩) m a)) b S v k d' (ip H i ⟨some ⟨g,0,none⟩,a⟩) /\
      aB b l H (T.setCell ⟨b,o+c,none⟩ (slice (some ⟨g,0,none⟩) m a)) (ip H i ⟨some ⟨g,0,none⟩,a⟩)):=by
  have t:=(n.block b h.lt (fun e=>h.off i e.symm)).trans h.blk;subst z;refine⟨((aj t (o+c)).trans (AN v (cr d H) k o c u s)).trans A,am t _,?_⟩;exact h.put (d':=d') o c u i x ⟨some ⟨g,0,none⟩,a⟩ q n
    (by rcases f with e | e
        · exact RZ (R4 e.symm)
        · exact RZ (RZ ⟨g,rfl,by simpa using e⟩)) p _ s y
theorem Dh(d:Db)(H:Nat->Hd)(l:List ByteArray):∀j,j≠0->aY { d with Wm:=l } H j=aY d H j:=by
  intro j a
  match j with
  | 0=>exact absurd rfl a
  | 1=>rfl
  | 2=>rfl
  | 3=>rfl
  | 4=>rfl
  | 5=>rfl
  | 6=>rfl
  | 7=>rfl
  | 8=>rfl
  | 9=>rfl
  | n+10=>rfl
theorem xE(d:Db)(H:Nat->Hd)(l:List ByteArray):∀j,j≠1->aY { d with Wg:=l } H j=aY d H j:=by
  intro j a
  match j with
  | 0=>rfl
  | 1=>exact absurd rfl a
  | 2=>rfl
  | 3=>rfl
  | 4=>rfl
  | 5=>rfl
  | 6=>rfl
  | 7=>rfl
  | 8=>rfl
  | 9=>rfl
  | n+10=>rfl
theorem xH(d:Db)(H:Nat->Hd)(l:List ByteArray):∀j,j≠2->aY { d with Wh:=l } H j=aY d H j:=by
  intro j a
  match j with
  | 0=>rfl
  | 1=>rfl
  | 2=>exact absurd rfl a
  | 3=>rfl
  | 4=>rfl
  | 5=>rfl
  | 6=>rfl
  | 7=>rfl
  | 8=>rfl
  | 9=>rfl
  | n+10=>rfl
theorem vv(d:Db)(H:Nat->Hd)(l:List ByteArray):∀j,j≠3->aY { d with Wn:=l } H j=aY d H j:=by
  intro j a
  match j with
  | 0=>rfl
  | 1=>rfl
  | 2=>rfl
  | 3=>exact absurd rfl a
  | 4=>rfl
  | 5=>rfl
  | 6=>rfl
  | 7=>rfl
  | 8=>rfl
  | 9=>rfl
  | n+10=>rfl
theorem xG(d:Db)(H:Nat->Hd)(l:List ByteArray):∀j,j≠4->aY { d with Wq:=l } H j=aY d H j:=by
  intro j a
  match j with
  | 0=>rfl
  | 1=>rfl
  | 2=>rfl
  | 3=>rfl
  | 4=>exact absurd rfl a
  | 5=>rfl
  | 6=>rfl
  | 7=>rfl
  | 8=>rfl
  | 9=>rfl
  | n+10=>rfl
theorem vw(d:Db)(H:Nat->Hd)(l:List (Nat×Nat)):∀j,j≠5->aY { d with blocks:=l } H j=aY d H j:=by
  intro j b
  match j with
  | 0=>rfl
  | 1=>rfl
  | 2=>rfl
  | 3=>rfl
  | 4=>rfl
  | 5=>exact absurd rfl b
  | 6=>rfl
  | 7=>rfl
  | 8=>rfl
  | 9=>rfl
  | n+10=>rfl
theorem Di(d:Db)(H:Nat->Hd)(l:List Nat):∀j,j≠7->aY { d with rbl:=l } H j=aY d H j:=by
  intro j a
  match j with
  | 0=>rfl
  | 1=>rfl
  | 2=>rfl
  | 3=>rfl
  | 4=>rfl
  | 5=>rfl
  | 6=>rfl
  | 7=>exact absurd rfl a
  | 8=>rfl
  | 9=>rfl
  | n+10=>rfl
theorem tV(d:Db)(H:Nat->Hd)(l:List ByteArray):∀j,j≠8->aY { d with We:=l } H j=aY d H j:=by
  intro j a
  match j with
  | 0=>rfl
  | 1=>rfl
  | 2=>rfl
  | 3=>rfl
  | 4=>rfl
  | 5=>rfl
  | 6=>rfl
  | 7=>rfl
  | 8=>exact absurd rfl a
  | 9=>rfl
  | n+10=>rfl
theorem xF(d:Db)(H:Nat->Hd)(l:List (ByteArray×Pl)):∀j,j≠9->aY { d with Wp:=l } H j=aY d H j:=by
  intro j a
  match j with
  | 0=>rfl
  | 1=>rfl
  | 2=>rfl
  | 3=>rfl
  | 4=>rfl
  | 5=>rfl
  | 6=>rfl
  | 7=>rfl
  | 8=>rfl
  | 9=>exact absurd rfl a
  | n+10=>rfl
theorem Kd(d:Db)(H:Nat->Hd)(l:Int):∀j,aY { d with kind:=l } H j=aY d H j:=by
  intro j
  match j with
  | 0=>rfl
  | 1=>rfl
  | 2=>rfl
  | 3=>rfl
  | 4=>rfl
  | 5=>rfl
  | 6=>rfl
  | 7=>rfl
  | 8=>rfl
  | 9=>rfl
  | n+10=>rfl
theorem Fu(d:Db)(H:Nat->Hd)(l:ByteArray):∀j,aY { d with label:=l } H j=aY d H j:=by
  intro j
  match j with
  | 0=>rfl
  | 1=>rfl
  | 2=>rfl
  | 3=>rfl
  | 4=>rfl
  | 5=>rfl
  | 6=>rfl
  | 7=>rfl
  | 8=>rfl
  | 9=>rfl
  | n+10=>rfl
theorem A7(d:Db)(H:Nat->Hd)(l:Bool):∀j,aY { d with Wi:=l } H j=aY d H j:=by
  intro j
  match j with
  | 0=>rfl
  | 1=>rfl
  | 2=>rfl
  | 3=>rfl
  | 4=>rfl
  | 5=>rfl
  | 6=>rfl
  | 7=>rfl
  | 8=>rfl
  | 9=>rfl
  | n+10=>rfl
def aJ(l:List ByteArray)(x:ByteArray):Bool:=l.any (fun y=>y.toList==x.toList)
theorem GK(h:f<a.length)(c:aJ a w=aJ (a.drop f) w)(b:((a[f]).toList==w.toList)=true):aJ a w=true:=by
 rw[c,Sq h];simp only[aJ,List.any_cons,b,Bool.true_or]
theorem Cu(h:f<a.length)(c:aJ a w=aJ (a.drop f) w)(b:((a[f]).toList==w.toList)=false):aJ a w=aJ (a.drop (f+1)) w:=by
 rw[c,Sq h];simp only[aJ,List.any_cons,b,Bool.false_or]
theorem Cv(h:¬f<a.length)(b:aJ a w=aJ (a.drop f) w):aJ a w=false:=by
 rw[b,Tv (by omega)];rfl
theorem t9(h:f<a.length):(eS a)[f]?=some (string a[f]):=by simp[eS,h]
set_option maxRecDepth 512
theorem ff(j:Hd)(l:List ByteArray)(x:ByteArray)(w:World)(b:aC w j (aG l))(u:l.length<=1073741824) :
  Calls prog 254 #[slice j.ao l.length j.cap,string x] w fun e v=>e=returned (bool (aJ l x))/\v=w:=by
 obtain⟨y,r⟩:=j;rcases b.Wu with ⟨m,p,_⟩ | ⟨g,s,o,_⟩
 ·have f:l.length=0:=p;have n:l=[]:=Sw f;subst n
  injection m with m t
  subst m;clear b p f u t;go_enter func254,ntmps254;go_wp2;refine Uh 1 ?_;rw[UD];go_wp2;go_ret;exact⟨rfl,rfl⟩
 ·simp only at o;subst o;go_enter func254,ntmps254;go_wp2
  go_loopg [5] l.length (fun g i wr=>∃k:Nat,k<=l.length/\g=l.length-k/\i=int i64 k/\Hid (aJ l x=aJ (l.drop k) x)/\wr=w)
  case atStart=>exact⟨0,by omega,by omega,rfl,rfl,rfl⟩
  case round =>
   obtain⟨k,B,A,rfl,c,rfl⟩:=hrel;by_cases a:k<l.length
   ·have z:=b.cell rfl k (string l[k]) (t9 l k a);cases q:((l[k]).toList==x.toList)
    ·have d:Hid (aJ l x=aJ (l.drop (k+1)) x):=Cu l x k a c.out q;clear c b;go_wp2;go_roundg (l.length-(k+1))
     case measure=>omega
     case rel=>exact⟨k+1,by omega,rfl,by go_num,d,rfl⟩
    ·have d:Hid (aJ l x=true):=GK l x k a c.out q;clear c b;go_wp2;go_ret;exact⟨aE d.out.symm,rfl⟩
   ·have d:Hid (aJ l x=false):=Cv l x k a c.out;clear c b;go_wp2;go_ret;exact⟨aE d.out.symm,rfl⟩
theorem lA:(prog.info? 9).map (fun i=>(i.zero,i.size,i.bytes))=some (some (string ⟨#[]⟩),1,16):=by kernel_rfl
theorem Ku:eS (a++[w])=eS a++[string w]:=by simp[eS]
theorem fj:(⟨(aG a).e,(aG a).size,(aG a).n+1,(aG a).xs++[string w]⟩:eB)=aG (a++[w]):=by
 simp[aG,Ku]
set_option maxRecDepth 100000
theorem z8(d:Db)(H:Nat->Hd)(c:ByteArray)(w:World)(h:aV w x y o M d H)(C:o.length=N)(Y:d.Wm.length<=1073741824) :
  Calls prog 265 #[pointer (some ⟨x,N,none⟩),string c] w fun e E=>e=returned (tuple #[])/\∃B,aV E x y o M { d with Wm:=d.Wm++[c] } B/\aB x w H E B:=by
 obtain⟨K,J,r,s,t⟩:=Sr lA;obtain⟨O,P,Q,R,S,T,U,V,W,X,v,z,A⟩:=h.cells N C;have q:=h.free;have I:=h.lt;have p:=h.Wj ((aa.refl [] w).alloc (.cells #[string c] 9));have b:=p.own 0;go_enter func265,ntmps265;go_wp2_with (at_builtin;refine aO _ rfl (.tmp 8) (.tmp 10) 61 rfl K (string ⟨#[]⟩) 16 (H 0) (aG d.Wm) underlying61 J r s t rfl So rfl b ⟨w.heap.size,0,none⟩ 1 1 [string c] rfl rfl ?c1 ?c2 So ?c3 ?c4 ?_)
 case c1=>intro j u l;match j,l with | 0,l=>simp at l;subst l;simp[Addr.add]
 case c2=>intro u D;simp at D;subst D;rfl
 case c3=>simp only[aG];unfold maxLen;omega
 case c4=>simp only[aG];omega
 ·intro g f Z k i a;obtain⟨L,G,m⟩:=p.app (d':={ d with Wm:=d.Wm++[c] }) N 0 C 0 (by omega) g f ((aG d.Wm).n+1) _ k (fj d.Wm c) i (by simpa using a) (Dh d H _) (by omega) _ rfl (by simp[cr,ip,aG]);simp only[Nat.add_zero]at L G m;clear p b O P Q R S T U V W X v z A k i a q;go_wp2;go_end0;exact⟨rfl,_,m.out.1,m.out.2.first ((aa.refl [] w).alloc _)⟩
theorem z9(d:Db)(H:Nat->Hd)(c:ByteArray)(w:World)(h:aV w x y o M d H)(C:o.length=N)(X:d.Wq.length<=1073741824) :
  Calls prog 268 #[pointer (some ⟨x,N,none⟩),string c] w fun e E=>e=returned (tuple #[])/\∃A,aV E x y o M { d with Wq:=d.Wq++[c] } A/\aB x w H E A:=by
 obtain⟨J,I,q,r,s⟩:=Sr lA;obtain⟨K,L,O,P,Q,R,S,T,U,V,t,v,z⟩:=h.cells N C;have p:=h.free;have G:=h.lt;have m:=h.Wj ((aa.refl [] w).alloc (.cells #[string c] 9));have b:=m.own 4;go_enter func268,ntmps268;go_wp2_with (at_builtin;refine aO _ rfl (.tmp 8) (.tmp 10) 61 rfl J (string ⟨#[]⟩) 16 (H 4) (aG d.Wq) underlying61 I q r s rfl So rfl b ⟨w.heap.size,0,none⟩ 1 1 [string c] rfl rfl ?c1 ?c2 So ?c3 ?c4 ?_)
 case c1=>intro j u l;match j,l with | 0,l=>simp at l;subst l;simp[Addr.add]
 case c2=>intro u D;simp at D;subst D;rfl
 case c3=>simp only[aG];unfold maxLen;omega
 case c4=>simp only[aG];omega
 ·intro g f Z k i a;obtain⟨Y,W,B⟩:=m.app (d':={ d with Wq:=d.Wq++[c] }) N 4 C 4 (by omega) g f ((aG d.Wq).n+1) _ k (fj d.Wq c) i (by simpa using a) (xG d H _) (by omega) _ rfl (by simp[cr,ip,aG])
  skip
  clear m b K L O P Q R S T U V t v z k i a p;go_wp2;go_end0;exact⟨rfl,_,B.out.1,B.out.2.first ((aa.refl [] w).alloc _)⟩
end Go.Proofs.YtnbhnocdhbcbcaaGreat
