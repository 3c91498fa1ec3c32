import Derived.Test.YtnbalopedcgpcaaGreatG02
namespace Go.Proofs.YtnbalopedcgpcaaGreat
open Go.RowKit Tryz
open Value renaming int->Xx,string->Xy,slice->Xz,pointer->XA,agg->XB,bool->XC,tuple->XD
open Obj renaming cells->XE
open IntKind renaming i64->XF
open Ending renaming returned->XH
open World renaming cell?->XI
open Option renaming none->XJ,some->XK
open Bool renaming true->XL,false->XM
open Go.RowKit renaming Hid->XN
open Go renaming Calls->XO,World->XP,Value->XQ
set_option maxHeartbeats 0
variable{b T:Nat}{H n m:XP}{M D:ByteArray}{y0:oq}{z8:Obj}{L:Nat->Prop}{x v:List XQ}{l z6:Nat->Hd}(d i:Nat)(y:ByteArray)(k:List ByteArray)(w:ByteArray)(a:XP)(g:List XQ)(N:Nat)(o I:List XQ)(z7 f:Nat)
def aF(i:oq):Bool:=i.rule==0 && !i.fin
theorem cJ(r l c:Int)(f:Bool)(a:XP) :
    XO prog 135 #[XB #[Xy y,Xx XF r,XC f,Xy w,Xx XF l,Xx XF c]] a fun e b=>e=XH (XC (r==0 && !f))/\aa [] a b:=by
  cases d:(r==0)
  · go_enter func135,ntmps135
    go_wp2;go_ret;exact⟨aH (by simp),(aa.refl _ _).alloc _⟩
  · go_enter func135,ntmps135
    go_wp2;go_ret;exact⟨aH (by simp),(aa.refl _ _).alloc _⟩
def dz(s:ByteArray):Bool:=(List.range s.size).any (fun i=>ar s i==36)
def ji(s:ByteArray):Bool:=(List.range s.size).any (fun i=>decide (1<=i)&&(ar s (i-1)==36)&&((ar s i==40)||(ar s i==41)))
theorem oz{p:Nat->Bool}(h:f<b)(a:p f=XL):(List.range b).any p=XL:=by
  rw[SZ];exact⟨f,by simpa using h,a⟩
theorem rZ{p:Nat->Bool}(h:∀i,i<b->p i=XM):(List.range b).any p=XM:=by
  rw[Rv];intro i a;simp[h i (by simpa using a)]
theorem dt(o:w.size<=1073741824) :
    XO prog 171 #[Xy w] a fun e l=>e=XH (XC (dz w))/\l=a:=by
  go_enter func171,ntmps171;go_wp2
  go_loopg [3] w.size (fun g i wr=>∃k:Nat,k<=w.size/\g=w.size-k/\i=Xx XF k/\XN (∀i,i<k->(ar w i==36)=XM)/\wr=a)
  case atStart=>exact⟨0,by omega,by omega,rfl,fun i h=>by omega,rfl⟩
  case round =>
    obtain⟨k,n,m,rfl,b,rfl⟩:=hrel;by_cases c:k<w.size
    · cases f:((w[k].toNat:Int)==36)
      · go_wp2
        go_roundg (w.size-(k+1))
        case measure=>omega
        case rel =>
          refine⟨k+1,by omega,rfl,by go_num,?_,rfl⟩;intro i j;by_cases e:i=k
          · subst e;rw[aY w i c];exact f
          · exact b.out i (by omega)
      · have d:XN (dz w=XL):=oz k c (by rw[aY w k c];exact f)
        go_wp2;go_ret;exact⟨aH d.out.symm,rfl⟩
    · have d:XN (dz w=XM):=rZ (fun i j=>b.out i (by omega))
      go_wp2;go_ret;exact⟨aH d.out.symm,rfl⟩
theorem qI(v:w.size<=1073741824) :
    XO prog 170 #[Xy w] a fun e r=>e=XH (XC (ji w))/\r=a:=by
  go_enter func170,ntmps170;go_wp2
  go_loopg [3] (w.size-1) (fun g i wr=>∃k:Nat,1<=k/\(k<=w.size∨k=1)/\g=w.size-k/\i=Xx XF k/\XN (∀i,i<k->1<=i->((ar w (i-1)==36)&&((ar w i==40)||(ar w i==41)))=XM)/\wr=a)
  case atStart=>exact⟨1,by omega,by omega,rfl,rfl,fun i h s=>by omega,rfl⟩
  case round =>
    obtain⟨k,l,u,t,rfl,c,rfl⟩:=hrel;by_cases d:k<w.size
    · have f:k-1<w.size:=by omega
      have n:∀b:Bool,(((w[k-1].toNat:Int)==36)&&(((w[k].toNat:Int)==40)||((w[k].toNat:Int)==41)))=b->((ar w (k-1)==36)&&((ar w k==40)||(ar w k==41)))=b :=
        fun b h=>by rw[aY w k d,aY w (k-1) f];exact h
      have m:XN (∀b:Bool,(((w[k-1].toNat:Int)==36)&&(((w[k].toNat:Int)==40)||((w[k].toNat:Int)==41)))=b->((ar w (k-1)==36)&&((ar w k==40)||(ar w k==41)))=b):=n;clear n;go_wp2
      all_goals first
        | (go_ret
           refine⟨aH ?_,rfl⟩;refine(oz (p:=fun i=>decide (1<=i)&&(ar w (i-1)==36)&&((ar w i==40)||(ar w i==41))) k d ?_).symm;have:=m.out XL (by simp_all);simp only[Bool.and_assoc,this];simp[l])
        | (go_roundg (w.size-(k+1))
           case measure=>omega
           case rel =>
             refine⟨k+1,by omega,by omega,rfl,by go_num,?_,rfl⟩;intro i q j;by_cases e:i=k
             · subst e;exact m.out XM (by simp_all)
             · exact c.out i (by omega) j)
    · have o:XN (ji w=XM):=rZ (fun i q=>by
        by_cases j:1<=i
        · have:=c.out i (by omega) j;simp only[Bool.and_assoc,this];simp
        · simp[j])
      go_wp2;go_ret;exact⟨aH o.out.symm,rfl⟩
theorem eR(h:f<=w.size):f<=(aU w f).2/\(aU w f).2<=w.size/\(aF (aU w f).1=XL->f<(aU w f).2):=by
 have a:=jH w f h;have b:=gM w (skip w f) a.2;unfold aU;simp only;split
 ·exact⟨by omega,b.2,by simp[aF]⟩
 ·split
  ·exact⟨by omega,b.2,by simp[aF]⟩
  ·exact⟨by simp only;omega,b.2,fun _=>by simp only;omega⟩
def bT(d:ByteArray):Nat->Nat->oq×Nat
 | 0,k=>(⟨⟨#[]⟩,3,XM,k⟩,k)
 | f+1,k =>
  if aF (aU d k).1=XL/\¬(aU d k).1.text.toList=[36,41] then
   if ji (aU d k).1.text=XL then(⟨⟨#[]⟩,2,XM,(aU d k).1.pos⟩,(aU d k).2) else bT d f (aU d k).2
  else if(aU d k).1.fin=XL then(⟨⟨#[]⟩,3,XM,(aU d k).1.pos⟩,(aU d k).2) else aU d k
def aI(d:ByteArray)(k:Nat):oq×Nat:=bT d (d.size-k+1) k
theorem sr(f k:Nat)(a:k<=w.size)(b:w.size-k+1<=f):bT w f k=aI w k:=by
 unfold aI
 suffices h:∀f g k,k<=w.size->w.size-k+1<=f->w.size-k+1<=g->bT w f k=bT w g k from h _ _ _ a b (PQ _)
 clear b a f k;intro f
 induction f with
 | zero=>intro g k _ h;omega
 | succ f e =>
  intro g k a b i;cases g with
  | zero=>omega
  | succ g =>
   rw[bT,bT];split
   ·next h =>
    have c:=eR w k a;have d:=c.2.2 h.1;split
    ·rfl
    ·exact e g (aU w k).2 c.2.1 (by omega) (by omega)
   ·rfl
theorem nA(e:f<=w.size)(a:aF (aU w f).1=XL)(c:((aU w f).1.text.toList == [36,41])=XM)(d:ji (aU w f).1.text=XM):aI w f=aI w (aU w f).2:=by
 have b:=eR w f e;have g:=b.2.2 a
 conv=>lhs;unfold aI
 rw[bT,PZ ⟨a,by simpa using c⟩,PV (by simp[d]),sr w _ _ b.2.1 (by omega)]
theorem kt(a:aF (aU w f).1=XL)(b:((aU w f).1.text.toList == [36,41])=XM)(c:ji (aU w f).1.text=XL):aI w f=(⟨⟨#[]⟩,2,XM,(aU w f).1.pos⟩,(aU w f).2):=by
 unfold aI;rw[bT,PZ ⟨a,by simpa using b⟩,PZ c]
theorem kx(a:aF (aU w f).1=XM)(b:(aU w f).1.fin=XL):aI w f=(⟨⟨#[]⟩,3,XM,(aU w f).1.pos⟩,(aU w f).2):=by
 unfold aI;rw[bT,PV (by simp[a]),PZ b]
theorem lI(a:aF (aU w f).1=XM)(b:(aU w f).1.fin=XM):aI w f=aU w f:=by
 unfold aI;rw[bT,PV (by simp[a]),PV (by simp[b])]
theorem jL(a:aF (aU w f).1=XL)(b:((aU w f).1.text.toList == [36,41])=XL):aI w f=aU w f:=by
 unfold aI;rw[bT,PV (by intro h;exact h.2 (by simpa using b))];rw[PV (by intro h;simp[aF,h]at a)]
theorem eF(k:Nat)(b:k<=w.size):k<=(aI w k).2/\(aI w k).2<=w.size:=by
 unfold aI
 suffices h:∀f k,k<=w.size->k<=(bT w f k).2/\(bT w f k).2<=w.size from h _ _ b
 clear b k;intro f
 induction f with
 | zero=>intro k b;simp[bT,b]
 | succ f c =>
  intro k b;have a:=eR w k b;rw[bT];split
  ·split
   ·exact⟨a.1,a.2.1⟩
   ·have:=c (aU w k).2 a.2.1;omega
  ·split
   ·exact⟨a.1,a.2.1⟩
   ·exact⟨a.1,a.2.1⟩
def cU(d:ByteArray):Nat->Nat->oq×Nat
 | 0,k=>(⟨⟨#[]⟩,0,XL,k⟩,k)
 | f+1,k =>
  if aF (aU d k).1=XL/\(aU d k).1.text.toList=[36,40] then
   if aF (aI d (aU d k).2).1=XL then cU d f (aI d (aU d k).2).2 else aI d (aU d k).2
  else aU d k
def an(d:ByteArray)(k:Nat):oq×Nat:=cU d (d.size-k+1) k
theorem lX(f k:Nat)(a:k<=w.size)(b:w.size-k+1<=f):cU w f k=an w k:=by
 unfold an
 suffices h:∀f g k,k<=w.size->w.size-k+1<=f->w.size-k+1<=g->cU w f k=cU w g k from h _ _ _ a b (PQ _)
 clear b a f k;intro f
 induction f with
 | zero=>intro g k _ h;omega
 | succ f i =>
  intro g k a b j;cases g with
  | zero=>omega
  | succ g =>
   rw[cU,cU];split
   ·next h =>
    have c:=eR w k a;have e:=c.2.2 h.1;have d:=eF w (aU w k).2 c.2.1;split
    ·exact i g _ d.2 (by omega) (by omega)
    ·rfl
   ·rfl
theorem xc(g:f<=w.size)(a:aF (aU w f).1=XL)(c:((aU w f).1.text.toList == [36,40])=XL)(d:aF (aI w (aU w f).2).1=XL) :
  an w f=an w (aI w (aU w f).2).2:=by
 have b:=eR w f g;have i:=b.2.2 a;have e:=eF w (aU w f).2 b.2.1
 conv=>lhs;unfold an
 rw[cU,PZ ⟨a,by simpa using c⟩,PZ d,lX w _ _ e.2 (by omega)]
theorem lY(a:aF (aU w f).1=XL)(b:((aU w f).1.text.toList == [36,40])=XL)(c:aF (aI w (aU w f).2).1=XM) :
  an w f=aI w (aU w f).2:=by
 unfold an;rw[cU,PZ ⟨a,by simpa using b⟩,PV (by simp[c])]
theorem fL(h:aF (aU w f).1=XM∨((aU w f).1.text.toList == [36,40])=XM):an w f=aU w f:=by
 unfold an;rw[cU,PV (by rintro ⟨a,b⟩;rcases h with h | h;simp[h]at a;simp[b]at h)]
theorem dG(k:Nat)(a:k<=w.size):k<=(an w k).2/\(an w k).2<=w.size/\(aF (an w k).1=XL->k<(an w k).2):=by
 unfold an
 suffices h:∀f k,k<=w.size->k<=(cU w f k).2/\(cU w f k).2<=w.size/\(aF (cU w f k).1=XL->k<(cU w f k).2) from h _ _ a
 clear a k;intro f
 induction f with
 | zero=>intro k a;simp[cU,a,aF]
 | succ f e =>
  intro k a;have b:=eR w k a;have c:=eF w (aU w k).2 b.2.1;rw[cU];split
  ·next h =>
   have d:=b.2.2 h.1;split
   ·have:=e (aI w (aU w k).2).2 c.2;omega
   ·omega
  ·exact b
def gG(w:XP)(r:Nat)(n d:ByteArray)(i:oq):Prop :=
 w.heap[r]?=XK (XE #[Xy i.text,Xx XF i.rule,XC i.fin,Xy n,Xx XF (aL d i.pos),Xx XF (bA d i.pos)] 223)
theorem gG.cells{t:ByteArray}{u:Int}{f:Bool}(h:gG H b M D ⟨t,u,f,T⟩) :
  XI H ⟨b,0,XJ⟩=XK (Xy t)/\XI H ⟨b,1,XJ⟩=XK (Xx XF u)/\XI H ⟨b,2,XJ⟩=XK (XC f) /\
  XI H ⟨b,3,XJ⟩=XK (Xy M)/\XI H ⟨b,4,XJ⟩=XK (Xx XF (aL D T))/\XI H ⟨b,5,XJ⟩=XK (Xx XF (bA D T)):=by
 refine⟨?_,?_,?_,?_,?_,?_⟩ <;> (rw[ab h];rfl)
theorem gG.kept{S:List Nat}(h:gG H b M D y0)(c:aa S H n)(a:b∉S):gG n b M D y0:=c.get h a
theorem lS(h:gG H b M D y0)(j:oq) :
  gG ((((((H.setCell ⟨b,0,XJ⟩ (Xy j.text)).setCell ⟨b,1,XJ⟩ (Xx XF j.rule)).setCell ⟨b,2,XJ⟩ (XC j.fin)).setCell ⟨b,3,XJ⟩ (Xy M)).setCell ⟨b,4,XJ⟩ (Xx XF (aL D j.pos))).setCell ⟨b,5,XJ⟩ (Xx XF (bA D j.pos))) b M D j:=by
 have:=af (af (af (af (af (af h 0 (Xy j.text)) 1 (Xx XF j.rule)) 2 (XC j.fin)) 3 (Xy M)) 4 (Xx XF (aL D j.pos))) 5 (Xx XF (bA D j.pos));unfold gG;rw[this];simp
theorem qt(h:H.heap[b]?=XK z8)(a:b≠T)(c d e f g i:XQ) :
  ((((((H.setCell ⟨T,0,XJ⟩ c).setCell ⟨T,1,XJ⟩ d).setCell ⟨T,2,XJ⟩ e).setCell ⟨T,3,XJ⟩ f).setCell ⟨T,4,XJ⟩ g).setCell ⟨T,5,XJ⟩ i).heap[b]?=XK z8:=by
 rw[P9 _ _ _ _ a,P9 _ _ _ _ a,P9 _ _ _ _ a,P9 _ _ _ _ a,P9 _ _ _ _ a,P9 _ _ _ _ a];exact h
theorem mJ(a:w.size<=1024):(aU w f).1.text.size<=1024:=by
 unfold aU;simp only;split
 ·simp[ByteArray.size]
 ·split
  ·simp[ByteArray.size]
  ·simp;omega
set_option maxRecDepth 100000
theorem yw(hd:w.size<=1024)(hk:i<=w.size)(h:bF a d y w i) :
  XO prog 153 #[XA (XK ⟨d,0,XJ⟩)] a fun e w'=>e=XH (dZ y w (aI w i).1)/\bF w' d y w (aI w i).2/\aa [d] a w':=by
 have a0:=ae h;go_enter func153,ntmps153;go_wp2_with fail;refine(rO d i y w _ hd hk (by exact h.kept ((aa.refl [] _).alloc _) (by simp))).mono ?_;rintro e w1 ⟨rfl,h1,W⟩;have Y:w1.heap[a.heap.size]?=XK (XE iQ 223):=W.get (PM _ _) (by simp;omega);have ac:aa [d] a w1:=((aa.refl _ _).alloc _).trans W;have av:=ae h1;have ap:=ae Y;simp only[dZ];go_wp2
 go_loopg [] (w.size-i) (fun g wr=>∃j,j<=w.size/\g=w.size-j/\XN (aI w i=aI w j)/\bF wr d y w (aU w j).2/\gG wr w1.heap.size y w (aU w j).1/\wr.heap[a.heap.size]?=XK (XE iQ 223)/\aa [d] a wr)
 case atStart=>exact⟨i,hk,rfl,rfl,h1.kept ((aa.refl [] _).alloc _) (by simp),PM _ _,((aa.refl [] _).alloc _).get Y (by simp),ac.alloc _⟩
 case round =>
  obtain⟨j,hj,hg,Z,q,o,E,m⟩:=hrel;have H:=eR w j hj;have ag:=mJ w j hd;have R:XN (_->_->_->aI w j=_):=nA w j hj;have S:XN (_->_->_->aI w j=_):=kt w j;have T:XN (_->_->aI w j=_):=kx w j;have U:XN (_->_->aI w j=_):=lI w j;have V:XN (_->_->aI w j=_):=jL w j;generalize hrr:aU w j=r at *;obtain⟨⟨t,u,f,p⟩,z⟩:=r;have HR:XN (aU w j=(⟨t,u,f,p⟩,z)):=hrr;clear hrr;simp only at q o H ag;obtain⟨s,x,A,B,C,D⟩:=o.cells;have aq:=ae E;have az:=ae q;have ao:=ae o;cases I:(u==0 && !f)
  ·cases J:f
   ·have F:XN (aI w j=(⟨t,u,XM,p⟩,z)):=(by have:=U.out (by simpa [aF] using I) J;rw[J]at this;exact this);subst J;have ah:(u==0)=XM:=by simpa using I
    clear R S T U V;go_wp2_with fail;refine(cJ t y u (aL w p) (bA w p) _ _).mono ?_;rintro e w2 ⟨rfl,b⟩;have l:=o.kept b (by simp);have n:=q.kept b (by simp);have k:=b.get E (by simp);have c:=m.trans (b.mono (by simp));clear s x A B C D o q E m b;obtain⟨s,x,A,B,C,D⟩:=l.cells;obtain⟨L,M,N,O,P,Q⟩:=fg k;have ai:=aw k;go_wp2;exact Qg (v:=dZ y w ⟨t,u,XM,p⟩) (by simp[results,results153,go_sem,dZ,L,M,N,O,P,Q]) rfl
     (by rw[Z.out,F.out];exact⟨rfl,eY n (by omega) _ _ _ _ _ _,eX c (PQ _) _ _ _ _ _ _⟩)
   ·have F:XN (aI w j=(⟨⟨#[]⟩,3,XM,p⟩,z)):=T.out (by simpa [aF] using I) J;subst J;clear R S T U V;go_wp2_with fail;refine(cJ t y u (aL w p) (bA w p) _ _).mono ?_;rintro e w2 ⟨rfl,b⟩;have l:=o.kept b (by simp);have n:=q.kept b (by simp);have k:=b.get E (by simp);have c:=m.trans (b.mono (by simp));clear s x A B C D o q E m b;obtain⟨s,x,A,B,C,D⟩:=l.cells;obtain⟨L,M,N,O,P,Q⟩:=fg k;have ai:=aw k;go_wp2;exact Qg (v:=dZ y w ⟨⟨#[]⟩,3,XM,p⟩) (by simp[results,results153,go_sem,dZ,L,M,N,O,P,Q]) rfl
     (by rw[Z.out,F.out];exact⟨rfl,eY n (by omega) _ _ _ _ _ _,eX c (PQ _) _ _ _ _ _ _⟩)
  ·cases hx:(t.toList == [36,41])
   ·cases hy:ji t
    ·have F:XN (aI w j=aI w z):=R.out I hx hy;clear R S T U V;go_wp2_with fail;refine(cJ t y u (aL w p) (bA w p) _ _).mono ?_;rintro e w2 ⟨rfl,b⟩;have l:=o.kept b (by simp);have n:=q.kept b (by simp);have k:=b.get E (by simp);have c:=m.trans (b.mono (by simp));clear s x A B C D o q E m b;obtain⟨s,x,A,B,C,D⟩:=l.cells;go_wp2_with fail;refine(qI t _ (by omega)).mono ?_;rintro e w3 ⟨rfl,rfl⟩;go_wp2_with fail;refine(rO d z y w _ hd H.2.1 n).mono ?_;rintro e w4 ⟨rfl,h4,K⟩;have G:=l.kept K (by simp;omega);have ad:=K.get k (by simp;omega);have X:=c.trans K;have yy:=aw G;have am:=ae G;clear s x A B C D;obtain⟨s,x,A,B,C,D⟩:=G.cells;simp only[dZ];go_wp2;go_roundg (w.size-z)
     case measure=>have:=H.2.2 I;omega
     case rel=>exact⟨z,H.2.1,rfl,Z.out.trans F.out,eY h4 (by omega) _ _ _ _ _ _,lS G _,qt ad (by omega) _ _ _ _ _ _,eX X (by omega) _ _ _ _ _ _⟩
    ·have F:XN (aI w j=(⟨⟨#[]⟩,2,XM,p⟩,z)):=S.out I hx hy;clear R S T U V;go_wp2_with fail;refine(cJ t y u (aL w p) (bA w p) _ _).mono ?_;rintro e w2 ⟨rfl,b⟩;have l:=o.kept b (by simp);have n:=q.kept b (by simp);have k:=b.get E (by simp);have c:=m.trans (b.mono (by simp));clear s x A B C D o q E m b;obtain⟨s,x,A,B,C,D⟩:=l.cells;go_wp2_with fail;refine(qI t _ (by omega)).mono ?_;rintro e w3 ⟨rfl,rfl⟩;obtain⟨L,M,N,O,P,Q⟩:=fg k;have ai:=aw k;go_wp2;exact Qg (v:=dZ y w ⟨⟨#[]⟩,2,XM,p⟩) (by simp[results,results153,go_sem,dZ,L,M,N,O,P,Q]) rfl
      (by rw[Z.out,F.out];exact⟨rfl,eY n (by omega) _ _ _ _ _ _,eX c (PQ _) _ _ _ _ _ _⟩)
   ·have F:XN (aI w j=(⟨t,u,f,p⟩,z)):=V.out I hx;clear R S T U V;have J:f=XM:=by cases f;rfl;simp at I
    subst J;have ah:(u==0)=XL:=by simpa using I
    go_wp2_with fail;refine(cJ t y u (aL w p) (bA w p) _ _).mono ?_;rintro e w2 ⟨rfl,b⟩;have l:=o.kept b (by simp);have n:=q.kept b (by simp);have k:=b.get E (by simp);have c:=m.trans (b.mono (by simp));clear s x A B C D o q E m b;obtain⟨s,x,A,B,C,D⟩:=l.cells;obtain⟨L,M,N,O,P,Q⟩:=fg k;have ai:=aw k;go_wp2;exact Qg (v:=dZ y w ⟨t,u,XM,p⟩) (by simp[results,results153,go_sem,dZ,L,M,N,O,P,Q]) rfl
     (by rw[Z.out,F.out];exact⟨rfl,eY n (by omega) _ _ _ _ _ _,eX c (PQ _) _ _ _ _ _ _⟩)
theorem ph(hd:w.size<=1024)(hk:i<=w.size)(h:bF a d y w i) :
  XO prog 134 #[XA (XK ⟨d,0,XJ⟩)] a fun e w'=>e=XH (dZ y w (an w i).1)/\bF w' d y w (an w i).2/\aa [d] a w':=by
 have a9:=ae h;go_enter func134,ntmps134;go_wp2_with fail;refine(rO d i y w _ hd hk (by exact h.kept ((aa.refl [] _).alloc _) (by simp))).mono ?_;rintro e w1 ⟨rfl,h1,ac⟩;have ag:w1.heap[a.heap.size]?=XK (XE iQ 223):=ac.get (PM _ _) (by simp;omega);have ah:aa [d] a w1:=((aa.refl _ _).alloc _).trans ac;have a5:=ae h1;have a1:=ae ag;simp only[dZ];go_wp2
 go_loopg [4] (w.size-i) (fun g _ wr=>∃j,j<=w.size/\g=w.size-j/\XN (an w i=an w j)/\bF wr d y w (aU w j).2/\gG wr w1.heap.size y w (aU w j).1/\wr.heap[a.heap.size]?=XK (XE iQ 223)/\aa [d] a wr)
 case atStart=>exact⟨i,hk,rfl,rfl,h1.kept ((aa.refl [] _).alloc _) (by simp),PM _ _,((aa.refl [] _).alloc _).get ag (by simp),ah.alloc _⟩
 case round =>
  obtain⟨j,hj,hg,hs,D,s,Q,q⟩:=hrel;have C:=eR w j hj;have ao:=mJ w j hd;have L1:XN (_->_->_->an w j=_):=xc w j hj;have L2:XN (_->_->_->an w j=_):=lY w j;have U:XN (_->an w j=_):=fL w j;generalize hrr:aU w j=r at *;obtain⟨⟨t,u,f,p⟩,z⟩:=r;have HR:XN (aU w j=(⟨t,u,f,p⟩,z)):=hrr;clear hrr;simp only at D s C ao;obtain⟨G,H,I,J,K,L⟩:=s.cells;have a4:=ae Q;have a8:=ae D;have a0:=ae s;cases hw:(u==0 && !f)
  ·have M:XN (an w j=(⟨t,u,f,p⟩,z)):=U.out (P0 hw);clear L1 L2 U;go_wp2_with fail;refine(cJ t y u (aL w p) (bA w p) _ _).mono ?_;rintro e w2 ⟨rfl,b⟩;have m:=s.kept b (by simp);have n:=D.kept b (by simp);have l:=b.get Q (by simp);have k:=q.trans (b.mono (by simp));clear G H I J K L s D Q q b;obtain⟨G,H,I,J,K,L⟩:=m.cells;obtain⟨z0,z1,z2,z3,z4,z5⟩:=fg l;have ap:=aw l;go_wp2;exact Qg (v:=dZ y w ⟨t,u,f,p⟩) (by simp[results,results134,go_sem,dZ,z0,z1,z2,z3,z4,z5]) rfl
    (by rw[hs.out,M.out];exact⟨rfl,eY n (by omega) _ _ _ _ _ _,eX k (PQ _) _ _ _ _ _ _⟩)
  ·cases hx:(t.toList == [36,40])
   ·have M:XN (an w j=(⟨t,u,f,p⟩,z)):=U.out (P7 hx);clear L1 L2 U;go_wp2_with fail;refine(cJ t y u (aL w p) (bA w p) _ _).mono ?_;rintro e w2 ⟨rfl,b⟩;have m:=s.kept b (by simp);have n:=D.kept b (by simp);have l:=b.get Q (by simp);have k:=q.trans (b.mono (by simp));clear G H I J K L s D Q q b;obtain⟨G,H,I,J,K,L⟩:=m.cells;obtain⟨z0,z1,z2,z3,z4,z5⟩:=fg l;have ap:=aw l;go_wp2;exact Qg (v:=dZ y w ⟨t,u,f,p⟩) (by simp[results,results134,go_sem,dZ,z0,z1,z2,z3,z4,z5]) rfl
     (by rw[hs.out,M.out];exact⟨rfl,eY n (by omega) _ _ _ _ _ _,eX k (PQ _) _ _ _ _ _ _⟩)
   ·have N:=eF w z C.2.1;have L4:XN (_->an w j=an w _):=fun h=>L1.out hw hx h;have L5:XN (_->an w j=_):=fun h=>L2.out hw hx h;clear L1 L2 U;generalize hcc:aI w z=c at *;obtain⟨⟨W,S,V,cp⟩,T⟩:=c;have HC:XN (aI w z=(⟨W,S,V,cp⟩,T)):=hcc;clear hcc;simp only at N;go_wp2_with fail;refine(cJ t y u (aL w p) (bA w p) _ _).mono ?_;rintro e w2 ⟨rfl,b⟩;have m:=s.kept b (by simp);have n:=D.kept b (by simp);have l:=b.get Q (by simp);have k:=q.trans (b.mono (by simp));clear G H I J K L s D Q q b;obtain⟨G,H,I,J,K,L⟩:=m.cells;go_wp2_with fail;refine(yw d z y w _ hd C.2.1 n).mono ?_;rintro e w3 ⟨rfl,h3,A⟩;have O:=m.kept A (by simp;omega);have R:=A.get l (by simp;omega);have E:=k.trans A;have a6:=ae h3;have aq:=ae O;have a2:=ae R;simp only[dZ];rw[HC.out];simp only;go_wp2_with fail;refine(cJ W y S (aL w cp) (bA w cp) _ _).mono ?_;rintro e w4 ⟨rfl,o⟩;have ai:gG w4 w3.heap.size y w ⟨W,S,V,cp⟩:=o.get (PM _ _) (by simp);have Z:=(O.kept ((aa.refl [] _).alloc _) (by simp)).kept o (by simp);have X:=(h3.kept ((aa.refl [] _).alloc _) (by simp)).kept o (by simp);have B:=o.get (((aa.refl [] _).alloc _).get R (by simp)) (by simp);have F:=(E.alloc _).trans (o.mono (by simp));rw[HC.out]at X;simp only at X;have a7:=ae X;have av:=ae Z;have a3:=ae B;clear G H I J K L m l k o O R E A h3 n;obtain⟨p0,p1,p2,p3,p4,p5⟩:=ai.cells;cases Y:(S==0 && !V)
    ·have M:XN (an w j=(⟨W,S,V,cp⟩,T)):=L5.out Y;clear L4 L5;obtain⟨z0,z1,z2,z3,z4,z5⟩:=fg B;have ap:=aw B;go_wp2;exact Qg (v:=dZ y w ⟨W,S,V,cp⟩) (by simp[results,results134,go_sem,dZ,z0,z1,z2,z3,z4,z5]) rfl
      (by rw[hs.out,M.out];exact⟨rfl,eY X (by omega) _ _ _ _ _ _,eX F (PQ _) _ _ _ _ _ _⟩)
    ·have M:XN (an w j=an w T):=L4.out Y;clear L4 L5;go_wp2_with fail;refine(rO d T y w _ hd N.2 X).mono ?_;rintro e w5 ⟨rfl,h5,P⟩;have x:=Z.kept P (by simp;omega);have am:=P.get B (by simp;omega);have ad:=F.trans P;have yy:=aw x;have az:=ae x;obtain⟨G,H,I,J,K,L⟩:=x.cells;simp only[dZ];go_wp2;go_roundg (w.size-T)
     case measure=>have:=C.2.2 hw;omega
     case rel=>exact⟨T,N.2,rfl,hs.out.trans M.out,eY h5 (by omega) _ _ _ _ _ _,lS x _,qt am (by omega) _ _ _ _ _ _,eX ad (by omega) _ _ _ _ _ _⟩
structure Pl where
  file:ByteArray
  line:Int
  col:Int
structure St where
  kind:Int
  label:ByteArray
  Um:List ByteArray
  Ux:List (ByteArray×Pl)
  fin:Pl
  til:Nat
structure Db where
  Uu:List ByteArray
  Uo:List ByteArray
  Up:List ByteArray
  Uv:List ByteArray
  Uy:List ByteArray
  blocks:List (Nat×Nat)
  UD:List St
  rbl:List Nat
  kind:Int
  label:ByteArray
  Um:List ByteArray
  Uq:Bool
  Ux:List (ByteArray×Pl)
def strs(l:List ByteArray):List XQ:=l.map Xy
def lZ(l:List (Nat×Nat)):List XQ:=l.flatMap (fun p=>[Xx XF p.1,Xx XF p.2])
def fV(l:List Nat):List XQ:=l.map (fun(n:Nat)=>.int XF n)
def ni(p:ByteArray×Pl):List XQ:=[Xy p.1,Xy p.2.file,Xx XF p.2.line,Xx XF p.2.col]
def jQ(l:List (ByteArray×Pl)):List XQ:=l.flatMap ni
def Gu(s:St)(a b:Hd):List XQ :=
  [Xx XF s.kind,Xy s.label,Xz a.ao s.Um.length a.cap,Xz b.ao s.Ux.length b.cap,Xy s.fin.file,Xx XF s.fin.line,Xx XF s.fin.col,Xx XF s.til]
def jb(l:List St)(H:Nat->Hd):List XQ:=l.zipIdx.flatMap (fun p=>Gu p.1 (H (10+2*p.2)) (H (11+2*p.2)))
def au(l:List ByteArray):fe:=⟨9,1,l.length,strs l⟩
def kh(l:List (Nat×Nat)):fe:=⟨273,2,l.length,lZ l⟩
def bQ(l:List Nat):fe:=⟨3,1,l.length,fV l⟩
def eU(l:List (ByteArray×Pl)):fe:=⟨235,4,l.length,jQ l⟩
def fA(l:List St)(H:Nat->Hd):fe:=⟨110,8,l.length,jb l H⟩
def symsAt(l:List St)(i:Nat):List ByteArray:=match l[i]? with | some s=>s.Um | none=>[]
def px(l:List St)(i:Nat):List (ByteArray×Pl):=match l[i]? with | some s=>s.Ux | none=>[]
def inner(l:List St)(n:Nat):fe:=if n % 2=0 then au (symsAt l (n / 2)) else eU (px l (n / 2))
def aT(d:Db)(H:Nat->Hd):Nat->fe
  | 0=>au d.Uu
  | 1=>au d.Uo
  | 2=>au d.Up
  | 3=>au d.Uv
  | 4=>au d.Uy
  | 5=>kh d.blocks
  | 6=>fA d.UD H
  | 7=>bQ d.rbl
  | 8=>au d.Um
  | 9=>eU d.Ux
  | n+10=>inner d.UD n
def bM(d:Db)(H:Nat->Hd):List XQ :=
  [Xz (H 0).ao d.Uu.length (H 0).cap,Xz (H 1).ao d.Uo.length (H 1).cap,Xz (H 2).ao d.Up.length (H 2).cap,Xz (H 3).ao d.Uv.length (H 3).cap,
   Xz (H 4).ao d.Uy.length (H 4).cap,Xz (H 5).ao d.blocks.length (H 5).cap,Xz (H 6).ao d.UD.length (H 6).cap,Xz (H 7).ao d.rbl.length (H 7).cap,
   Xx XF d.kind,Xy d.label,Xz (H 8).ao d.Um.length (H 8).cap,XC d.Uq,Xz (H 9).ao d.Ux.length (H 9).cap]
def cX{α:Type}(H:Nat->α)(i:Nat)(h:α):Nat->α:=fun j=>if j=i then h else H j
theorem cG{α:Type}(H:Nat->α)(i:Nat)(h:α):cX H i h i=h:=by simp[cX]
theorem bD{α:Type}(H:Nat->α)(i j:Nat)(h:α)(a:j≠i):cX H i h j=H j:=by simp[cX,a]
theorem Kb{α:Type}(H:Nat->α)(i:Nat):cX H i (H i)=H:=by funext j;unfold cX;split <;> simp_all
theorem tT(l:List St)(H a:Nat->Hd)(h:∀j,10<=j->a j=H j):jb l a=jb l H:=by
  unfold jb;congr 1;funext p;rw[h _ (by omega),h _ (by omega)]
theorem JD(d:Db)(H:Nat->Hd)(i:Nat)(h:Hd)(a:i<10)(j:Nat):aT d (cX H i h) j=aT d H j:=by
  have e:jb d.UD (cX H i h)=jb d.UD H:=tT _ _ _ (fun j b=>bD _ _ _ _ (by omega));unfold aT;split <;> first | rfl | (simp only[fA,e])
def cD(H:Nat->Hd)(k:Nat):Prop:=∃i,(H i).blk=XK k
structure dA(P:Nat->Prop)(w w':XP):Prop where
  os:w'.os=w.os
  tape:w'.tape=w.tape
  output:w'.output=w.output
  size:w.heap.size<=w'.heap.size
  block:∀k,k<w.heap.size->¬P k->w'.heap[k]?=w.heap[k]?
theorem dA.refl(P:Nat->Prop)(w:XP):dA P w w:=⟨rfl,rfl,rfl,PQ _,fun _ _ _=>rfl⟩
theorem aa.toP{S:List Nat}(h:aa S H n){P:Nat->Prop}(b:∀k,k∈S->k<H.heap.size->P k):dA P H n :=
  ⟨h.os,h.tape,h.output,h.size,fun k a d=>h.block k a (fun c=>d (b k c a))⟩
theorem dA.get(h:dA L H n)(a:H.heap[b]?=XK z8)(c:¬L b):n.heap[b]?=XK z8:=(h.block b (ae a) c).trans a
theorem dA.Ur(h:dA L H n)(k:aa [] n m):dA L H m :=
  ⟨k.os.trans h.os,k.tape.trans h.tape,k.output.trans h.output,Qk h.size k.size,fun i a b=>(k.block i (PY a h.size) (by simp)).trans (h.block i a b)⟩
theorem dA.setCell(h:dA L H n){p:Addr}(a:L p.block∨H.heap.size<=p.block)(u:XQ):dA L H (n.setCell p u) :=
  ⟨h.os,h.tape,h.output,by have:=h.size;simp[World.setCell];omega,fun k c b=>by
    rw[P9 _ _ _ _ (by rintro rfl;exact a.elim b (fun a=>by omega))];exact h.block k c b⟩
structure aO(w:XP)(b t:Nat)(pre post:List XQ)(d:Db)(H:Nat->Hd):Prop where
  blk:w.heap[b]?=XK (XE (pre++(bM d H++post)).toArray t)
  own:∀i,aE w (H i) (aT d H i)
  apart:∀i j,i≠j->(H i).blk=XJ∨(H i).blk≠(H j).blk
  off:∀i,(H i).blk≠XK b
theorem aO.lt{d:Db}(h:aO H b T x v d l):b<H.heap.size:=ae h.blk
theorem aO.free{d:Db}(h:aO H b T x v d l)(i:Nat):H.frozen? ⟨b,i,XJ⟩=XM:=aw h.blk i
theorem aO.inlt{d:Db}(h:aO H b T x v d l){k:Nat}(c:cD l k):k<H.heap.size:=by
  obtain⟨i,a⟩:=c;exact(h.own i).lt a
theorem aO.keptP{d:Db}(h:aO H b T x v d l)(c:dA L H n)(e:¬L b)(f:∀k,cD l k->¬L k):aO n b T x v d l :=
  ⟨c.get h.blk e,fun i=>(h.own i).Uw (fun k a=>c.block k ((h.own i).lt a) (f k ⟨i,a⟩)),h.apart,h.off⟩
theorem aO.kept{d:Db}{S:List Nat}(h:aO H b T x v d l)(c:aa S H n)(a:b∉S)(f:∀k,cD l k->k∉S):aO n b T x v d l :=
  h.keptP (c.toP (P:=(·∈S)) (fun _ e _=>e)) a f
theorem aO.Ur{d:Db}(h:aO H b T x v d l)(a:aa [] H n):aO n b T x v d l:=h.kept a (by simp) (by simp)
theorem wX(b:g.length=z7)(a:f<o.length):(g++(o++I)).toArray[z7+f]?=o[f]?:=by
  subst b;simp[List.getElem?_append_right,List.getElem?_append_left a]
theorem DO(u:XQ)(b:g.length=z7)(a:f<o.length):(g++(o++I)).set (z7+f) u=g++(o.set f u++I):=by
  subst b;rw[RB _ _ (by omega),show g.length+f-g.length=f by omega,So _ _ a]
theorem aO.cellAt{d:Db}(h:aO H b T x v d l)(o:Nat)(c:x.length=o)(i:Nat)(a:i<13):XI H ⟨b,o+i,XJ⟩=(bM d l)[i]? :=
  (ab h.blk (o+i)).trans (wX x (bM d l) v o i c a)
theorem aO.cells{d:Db}(h:aO H b T x v d l)(o:Nat)(a:x.length=o) :
    XI H ⟨b,o,XJ⟩=XK (Xz (l 0).ao d.Uu.length (l 0).cap)/\XI H ⟨b,o+1,XJ⟩=XK (Xz (l 1).ao d.Uo.length (l 1).cap) /\
    XI H ⟨b,o+2,XJ⟩=XK (Xz (l 2).ao d.Up.length (l 2).cap)/\XI H ⟨b,o+3,XJ⟩=XK (Xz (l 3).ao d.Uv.length (l 3).cap) /\
    XI H ⟨b,o+4,XJ⟩=XK (Xz (l 4).ao d.Uy.length (l 4).cap)/\XI H ⟨b,o+5,XJ⟩=XK (Xz (l 5).ao d.blocks.length (l 5).cap) /\
    XI H ⟨b,o+6,XJ⟩=XK (Xz (l 6).ao d.UD.length (l 6).cap)/\XI H ⟨b,o+7,XJ⟩=XK (Xz (l 7).ao d.rbl.length (l 7).cap) /\
    XI H ⟨b,o+8,XJ⟩=XK (Xx XF d.kind)/\XI H ⟨b,o+9,XJ⟩=XK (Xy d.label)/\XI H ⟨b,o+10,XJ⟩=XK (Xz (l 8).ao d.Um.length (l 8).cap) /\
    XI H ⟨b,o+11,XJ⟩=XK (XC d.Uq)/\XI H ⟨b,o+12,XJ⟩=XK (Xz (l 9).ao d.Ux.length (l 9).cap):=by
  have m:=h.cellAt o a;exact⟨m 0 (by omega),m 1 (by omega),m 2 (by omega),m 3 (by omega),m 4 (by omega),m 5 (by omega),m 6 (by omega),m 7 (by omega),m 8 (by omega),m 9 (by omega),m 10 (by omega),m 11 (by omega),m 12 (by omega)⟩
def aj(b:Nat)(w:XP)(H:Nat->Hd)(w':XP)(H':Nat->Hd):Prop :=
  dA (fun k=>k=b∨cD H k) w w'/\∀k,cD H' k->cD H k∨w.heap.size<=k
theorem aj.refl(H:Nat->Hd):aj i a H a H:=⟨dA.refl _ _,fun _ b=>P0 b⟩
theorem aj.trans{w1:XP}{g:Nat->Hd}(a:aj b H l w1 z6)(c:aj b w1 z6 n g):aj b H l n g:=by
  refine⟨⟨c.1.os.trans a.1.os,c.1.tape.trans a.1.tape,c.1.output.trans a.1.output,Qk a.1.size c.1.size,?_⟩,?_⟩
  · intro k d f
    rw[<-a.1.block k d f];refine c.1.block k (PY d a.1.size) ?_;rintro (e | i)
    · exact f (P0 e)
    · rcases a.2 k i with h | h
      · exact f (P7 h)
      · omega
  · intro k d
    rcases c.2 k d with h | h
    · exact a.2 k h
    · exact P7 (Qk a.1.size h)
theorem aj.Ur(a:aj b H l n z6)(c:aa [] n m):aj b H l m z6 :=
  a.trans ⟨c.toP (by simp),fun _ d=>P0 d⟩
theorem aj.first(c:aa [] H n)(a:aj b n l m z6):aj b H l m z6 :=
  aj.trans ⟨c.toP (by simp),fun _ d=>P0 d⟩ a
theorem aO.putG{d d':Db}(h:aO H b T x v d l)(o c:Nat)(L:x.length=o)(i:Nat)(J:i<10)(m:Hd)(M:aE n m (aT d' l i))(w:H.grownBy n (l i).blk)(f:m.blk=XJ∨m.blk=(l i).blk∨∃g,m.blk=XK g/\H.heap.size<=g)(A:∀j,j≠i->aE H (l j) (aT d' l j))(u:XQ)(I:c<13)(K:(bM d l).set c u=bM d' (cX l i m)) :
    aO (n.setCell ⟨b,o+c,XJ⟩ u) b T x v d' (cX l i m)/\aj b H l (n.setCell ⟨b,o+c,XJ⟩ u) (cX l i m):=by
  have G:=h.lt;have C:n.heap[b]?=XK (XE (x++(bM d l++v)).toArray T):=(w.block b G (fun e=>h.off i e.symm)).trans h.blk;have t:∀j,(cX l i m j).blk≠XK b:=by
    intro j;by_cases e:j=i
    · subst e;rw[cG];intro y
      rcases f with f | f | ⟨g,f,r⟩
      · rw[f]at y;cases y
      · exact h.off j (f ▸ y)
      · rw[f]at y;cases y;omega
    · rw[bD _ _ _ _ e];exact h.off j
  refine⟨⟨?_,?_,?_,t⟩,⟨w.os,w.tape,w.output,by have:=w.size;simp[World.setCell];omega,?_⟩,?_⟩
  · rw[af C,QQ,DO x (bM d l) v o c u L I,K]
  · intro j
    have q:aE n (cX l i m j) (aT d' (cX l i m) j):=by
      rw[JD d' l i m J j];by_cases e:j=i
      · subst e;rw[cG];exact M
      · rw[bD _ _ _ _ e]
        refine(A j e).Uw (fun k p=>w.block k ((h.own j).lt p) ?_);intro z;rcases h.apart j i e with a | a
        · rw[a]at p;cases p
        · exact a (p.trans z)
    refine q.Uw (fun k p=>P9 _ _ _ _ ?_);rintro rfl;exact t j p
  · intro j B s
    by_cases e:j=i
    · subst e
      rw[cG,bD _ _ _ _ (fun e=>s e.symm)];rcases f with f | f | ⟨g,f,r⟩
      · exact P0 f
      · rw[f];exact h.apart j B s
      · right;rw[f];intro z;have:=(h.own B).lt z.symm;omega
    · rw[bD _ _ _ _ e]
      by_cases D:B=i
      · subst D
        rw[cG];rcases f with f | f | ⟨g,f,r⟩
        · rw[f];cases (l j).blk <;> simp
        · rw[f];exact h.apart j B s
        · cases y:(l j).blk with
          | none=>exact P0 rfl
          | some k=>right;rw[f];intro z;cases z;have:=(h.own j).lt y;omega
      · rw[bD _ _ _ _ D];exact h.apart j B s
  · intro k p F
    rw[P9 _ _ _ _ (fun e=>F (P0 e))];exact w.block k p (fun e=>F (P7 ⟨i,e.symm⟩))
  · intro k p
    obtain⟨j,e⟩:=p;by_cases E:j=i
    · subst E
      rw[cG]at e;rcases f with f | f | ⟨g,f,r⟩
      · rw[f]at e;cases e
      · exact P0 ⟨j,f ▸ e⟩
      · rw[f]at e;cases e;exact P7 r
    · rw[bD _ _ _ _ E]at e
      exact P0 ⟨j,e⟩
theorem aO.put{d d':Db}(h:aO H b T x v d l)(o c:Nat)(s:x.length=o)(i:Nat)(p:i<10)(a:Hd)(t:aE n a (aT d' l i))(m:H.grownBy n (l i).blk)(k:a.blk=XJ∨a.blk=(l i).blk∨∃g,a.blk=XK g/\H.heap.size<=g)(e:∀j,j≠i->aT d' l j=aT d l j)(u:XQ)(f:c<13)(r:(bM d l).set c u=bM d' (cX l i a)) :
    aO (n.setCell ⟨b,o+c,XJ⟩ u) b T x v d' (cX l i a)/\aj b H l (n.setCell ⟨b,o+c,XJ⟩ u) (cX l i a) :=
  h.putG o c s i p a t m k (fun j q=>by rw[e j q];exact h.own j) u f r
theorem aO.set{d d':Db}(h:aO H b T x v d l)(o c:Nat)(i:x.length=o)(a:∀j,aT d' l j=aT d l j)(u:XQ)(f:c<13)(g:(bM d l).set c u=bM d' l) :
    aO (H.setCell ⟨b,o+c,XJ⟩ u) b T x v d' l/\aj b H l (H.setCell ⟨b,o+c,XJ⟩ u) l:=by
  refine⟨⟨?_,?_,h.apart,h.off⟩,(dA.refl _ _).setCell (P0 (P0 rfl)) _,fun _ e=>P0 e⟩
  · rw[af h.blk,QQ,DO x (bM d l) v o c u i f,g]
  · intro j
    rw[a j];refine(h.own j).Uw (fun k e=>P9 _ _ _ _ ?_);rintro rfl;exact h.off j e
theorem aO.app{d d':Db}(h:aO H b T x v d l)(o c:Nat)(u:x.length=o)(i:Nat)(y:i<10)(g a m:Nat)(r:fe)(q:aE n ⟨XK ⟨g,0,XJ⟩,a⟩ r)(A:r=aT d' l i)(k:H.grownBy n (l i).blk)(f:(l i).blk=XK g∨H.heap.size<=g)(p:∀j,j≠i->aT d' l j=aT d l j)(s:c<13)(w:XQ)(B:(bM d l)[c]?=XK w)(z:(bM d l).set c (Xz (XK ⟨g,0,XJ⟩) m a)=bM d' (cX l i ⟨XK ⟨g,0,XJ⟩,a⟩)) :
    XI n ⟨b,o+c,XJ⟩=XK w/\n.frozen? ⟨b,o+c,XJ⟩=XM /\
    XN (aO (n.setCell ⟨b,o+c,XJ⟩ (Xz (XK ⟨g,0,XJ⟩) m a)) b T x v d' (cX l i ⟨XK ⟨g,0,XJ⟩,a⟩) /\
      aj b H l (n.setCell ⟨b,o+c,XJ⟩ (Xz (XK ⟨g,0,XJ⟩) m a)) (cX l i ⟨XK ⟨g,0,XJ⟩,a⟩)):=by
  have t:=(k.block b h.lt (fun e=>h.off i e.symm)).trans h.blk;subst A;refine⟨((ab t (o+c)).trans (wX x (bM d l) v o c u s)).trans B,aw t _,?_⟩;exact h.put (d':=d') o c u i y ⟨XK ⟨g,0,XJ⟩,a⟩ q k
    (by rcases f with e | e
        · exact P7 (P0 e.symm)
        · exact P7 (P7 ⟨g,rfl,by simpa using e⟩)) p _ s z
theorem Ac(d:Db)(H:Nat->Hd)(l:List ByteArray):∀j,j≠0->aT { d with Uu:=l } H j=aT d H j:=by
  intro j a
  match j with
  | 0=>exact absurd rfl a
  | 1=>rfl
  | 2=>rfl
  | 3=>rfl
  | 4=>rfl
  | 5=>rfl
  | 6=>rfl
  | 7=>rfl
  | 8=>rfl
  | 9=>rfl
  | n+10=>rfl
theorem tJ(d:Db)(H:Nat->Hd)(l:List ByteArray):∀j,j≠1->aT { d with Uo:=l } H j=aT d H j:=by
  intro j a
  match j with
  | 0=>rfl
  | 1=>exact absurd rfl a
  | 2=>rfl
  | 3=>rfl
  | 4=>rfl
  | 5=>rfl
  | 6=>rfl
  | 7=>rfl
  | 8=>rfl
  | 9=>rfl
  | n+10=>rfl
theorem tM(d:Db)(H:Nat->Hd)(l:List ByteArray):∀j,j≠2->aT { d with Up:=l } H j=aT d H j:=by
  intro j a
  match j with
  | 0=>rfl
  | 1=>rfl
  | 2=>exact absurd rfl a
  | 3=>rfl
  | 4=>rfl
  | 5=>rfl
  | 6=>rfl
  | 7=>rfl
  | 8=>rfl
  | 9=>rfl
  | n+10=>rfl
theorem qW(d:Db)(H:Nat->Hd)(l:List ByteArray):∀j,j≠3->aT { d with Uv:=l } H j=aT d H j:=by
  intro j a
  match j with
  | 0=>rfl
  | 1=>rfl
  | 2=>rfl
  | 3=>exact absurd rfl a
  | 4=>rfl
  | 5=>rfl
  | 6=>rfl
  | 7=>rfl
  | 8=>rfl
  | 9=>rfl
  | n+10=>rfl
theorem tL(d:Db)(H:Nat->Hd)(l:List ByteArray):∀j,j≠4->aT { d with Uy:=l } H j=aT d H j:=by
  intro j a
  match j with
  | 0=>rfl
  | 1=>rfl
  | 2=>rfl
  | 3=>rfl
  | 4=>exact absurd rfl a
  | 5=>rfl
  | 6=>rfl
  | 7=>rfl
  | 8=>rfl
  | 9=>rfl
  | n+10=>rfl
theorem qX(d:Db)(H:Nat->Hd)(l:List (Nat×Nat)):∀j,j≠5->aT { d with blocks:=l } H j=aT d H j:=by
  intro j b
  match j with
  | 0=>rfl
  | 1=>rfl
  | 2=>rfl
  | 3=>rfl
  | 4=>rfl
  | 5=>exact absurd rfl b
  | 6=>rfl
  | 7=>rfl
  | 8=>rfl
  | 9=>rfl
  | n+10=>rfl
theorem Ad(d:Db)(H:Nat->Hd)(l:List Nat):∀j,j≠7->aT { d with rbl:=l } H j=aT d H j:=by
  intro j a
  match j with
  | 0=>rfl
  | 1=>rfl
  | 2=>rfl
  | 3=>rfl
  | 4=>rfl
  | 5=>rfl
  | 6=>rfl
  | 7=>exact absurd rfl a
  | 8=>rfl
  | 9=>rfl
  | n+10=>rfl
theorem pC(d:Db)(H:Nat->Hd)(l:List ByteArray):∀j,j≠8->aT { d with Um:=l } H j=aT d H j:=by
  intro j a
  match j with
  | 0=>rfl
  | 1=>rfl
  | 2=>rfl
  | 3=>rfl
  | 4=>rfl
  | 5=>rfl
  | 6=>rfl
  | 7=>rfl
  | 8=>exact absurd rfl a
  | 9=>rfl
  | n+10=>rfl
theorem tK(d:Db)(H:Nat->Hd)(l:List (ByteArray×Pl)):∀j,j≠9->aT { d with Ux:=l } H j=aT d H j:=by
  intro j a
  match j with
  | 0=>rfl
  | 1=>rfl
  | 2=>rfl
  | 3=>rfl
  | 4=>rfl
  | 5=>rfl
  | 6=>rfl
  | 7=>rfl
  | 8=>rfl
  | 9=>exact absurd rfl a
  | n+10=>rfl
theorem Gh(d:Db)(H:Nat->Hd)(l:Int):∀j,aT { d with kind:=l } H j=aT d H j:=by
  intro j
  match j with
  | 0=>rfl
  | 1=>rfl
  | 2=>rfl
  | 3=>rfl
  | 4=>rfl
  | 5=>rfl
  | 6=>rfl
  | 7=>rfl
  | 8=>rfl
  | 9=>rfl
  | n+10=>rfl
theorem CF(d:Db)(H:Nat->Hd)(l:ByteArray):∀j,aT { d with label:=l } H j=aT d H j:=by
  intro j
  match j with
  | 0=>rfl
  | 1=>rfl
  | 2=>rfl
  | 3=>rfl
  | 4=>rfl
  | 5=>rfl
  | 6=>rfl
  | 7=>rfl
  | 8=>rfl
  | 9=>rfl
  | n+10=>rfl
theorem xt(d:Db)(H:Nat->Hd)(l:Bool):∀j,aT { d with Uq:=l } H j=aT d H j:=by
  intro j
  match j with
  | 0=>rfl
  | 1=>rfl
  | 2=>rfl
  | 3=>rfl
  | 4=>rfl
  | 5=>rfl
  | 6=>rfl
  | 7=>rfl
  | 8=>rfl
  | 9=>rfl
  | n+10=>rfl
def aM(l:List ByteArray)(x:ByteArray):Bool:=l.any (fun y=>y.toList==x.toList)
theorem DH(h:f<k.length)(b:aM k w=aM (k.drop f) w)(a:((k[f]).toList==w.toList)=XL):aM k w=XL:=by
 rw[b,Qr h];simp only[aM,List.any_cons,a,Bool.true_or]
theorem zd(h:f<k.length)(b:aM k w=aM (k.drop f) w)(a:((k[f]).toList==w.toList)=XM):aM k w=aM (k.drop (f+1)) w:=by
 rw[b,Qr h];simp only[aM,List.any_cons,a,Bool.false_or]
theorem zf(h:¬f<k.length)(a:aM k w=aM (k.drop f) w):aM k w=XM:=by
 rw[a,Q4 (by omega)];rfl
theorem mL(h:f<k.length):(strs k)[f]?=XK (Xy k[f]):=by simp[strs,h]
set_option maxRecDepth 512
theorem dL(j:Hd)(l:List ByteArray)(x:ByteArray)(w:XP)(b:aE w j (au l))(u:l.length<=1073741824) :
  XO prog 188 #[Xz j.ao l.length j.cap,Xy x] w fun e v=>e=XH (XC (aM l x))/\v=w:=by
 obtain⟨y,r⟩:=j;rcases b.UC with ⟨m,p,_⟩ | ⟨g,s,o,_⟩
 ·have f:l.length=0:=p;have n:l=[]:=Ql f;subst n
  injection m with m t
  subst m;clear b p f u t;go_enter func188,ntmps188;go_wp2;refine Rg 1 ?_;rw[RM];go_wp2;go_ret;exact⟨rfl,rfl⟩
 ·simp only at o;subst o;go_enter func188,ntmps188;go_wp2
  go_loopg [5] l.length (fun g i wr=>∃k:Nat,k<=l.length/\g=l.length-k/\i=Xx XF k/\XN (aM l x=aM (l.drop k) x)/\wr=w)
  case atStart=>exact⟨0,by omega,by omega,rfl,rfl,rfl⟩
  case round =>
   obtain⟨k,B,A,rfl,c,rfl⟩:=hrel;by_cases a:k<l.length
   ·have z:=b.cell rfl k (Xy l[k]) (mL l k a);cases q:((l[k]).toList==x.toList)
    ·have d:XN (aM l x=aM (l.drop (k+1)) x):=zd l x k a c.out q;clear c b;go_wp2;go_roundg (l.length-(k+1))
     case measure=>omega
     case rel=>exact⟨k+1,by omega,rfl,by go_num,d,rfl⟩
    ·have d:XN (aM l x=XL):=DH l x k a c.out q;clear c b;go_wp2;go_ret;exact⟨aH d.out.symm,rfl⟩
   ·have d:XN (aM l x=XM):=zf l x k a c.out;clear c b;go_wp2;go_ret;exact⟨aH d.out.symm,rfl⟩
theorem ey:(prog.info? 9).map (fun i=>(i.zero,i.size,i.bytes))=XK (XK (Xy ⟨#[]⟩),1,16):=by kernel_rfl
theorem Gy:strs (k++[w])=strs k++[Xy w]:=by simp[strs]
theorem bJ:(⟨(au k).e,(au k).size,(au k).n+1,(au k).xs++[Xy w]⟩:fe)=au (k++[w]):=by
 simp[au,Gy]
set_option maxRecDepth 100000
theorem wg(c:Db)(H:Nat->Hd)(x:ByteArray)(w:XP)(h:aO w d i o I c H)(C:o.length=N)(Y:c.Uu.length<=1073741824) :
  XO prog 201 #[XA (XK ⟨d,N,XJ⟩),Xy x] w fun e E=>e=XH (XD #[])/\∃B,aO E d i o I { c with Uu:=c.Uu++[x] } B/\aj d w H E B:=by
 obtain⟨L,K,s,t,v⟩:=Qq ey;obtain⟨O,P,Q,R,S,T,U,V,W,X,y,z,A⟩:=h.cells N C;have r:=h.free;have J:=h.lt;have q:=h.Ur ((aa.refl [] w).alloc (XE #[Xy x] 9));have b:=q.own 0;go_enter func201,ntmps201;go_wp2_with (at_builtin;refine aD _ rfl (.tmp 8) (.tmp 10) 22 rfl L (Xy ⟨#[]⟩) 16 (H 0) (au c.Uu) underlying22 K s t v rfl Qf rfl b ⟨w.heap.size,0,XJ⟩ 1 1 [Xy x] rfl rfl ?c1 ?c2 Qf ?c3 ?c4 ?_)
 case c1=>intro j u m;match j,m with | 0,m=>simp at m;subst m;simp[Addr.add]
 case c2=>intro u D;simp at D;subst D;rfl
 case c3=>simp only[au];unfold maxLen;omega
 case c4=>simp only[au];omega
 ·intro g f Z l k a;obtain⟨M,G,p⟩:=q.app (d':={ c with Uu:=c.Uu++[x] }) N 0 C 0 (by omega) g f ((au c.Uu).n+1) _ l (bJ c.Uu x) k (by simpa using a) (Ac c H _) (by omega) _ rfl (by simp[bM,cX,au]);simp only[Nat.add_zero]at M G p;clear q b O P Q R S T U V W X y z A l k a r;go_wp2;go_end0;exact⟨rfl,_,p.out.1,p.out.2.first ((aa.refl [] w).alloc _)⟩
theorem wi(c:Db)(H:Nat->Hd)(x:ByteArray)(w:XP)(h:aO w d i o I c H)(C:o.length=N)(X:c.Uy.length<=1073741824) :
  XO prog 204 #[XA (XK ⟨d,N,XJ⟩),Xy x] w fun e E=>e=XH (XD #[])/\∃A,aO E d i o I { c with Uy:=c.Uy++[x] } A/\aj d w H E A:=by
 obtain⟨K,J,r,s,t⟩:=Qq ey;obtain⟨L,M,O,P,Q,R,S,T,U,V,v,y,z⟩:=h.cells N C;have q:=h.free;have G:=h.lt;have p:=h.Ur ((aa.refl [] w).alloc (XE #[Xy x] 9));have b:=p.own 4;go_enter func204,ntmps204;go_wp2_with (at_builtin;refine aD _ rfl (.tmp 8) (.tmp 10) 22 rfl K (Xy ⟨#[]⟩) 16 (H 4) (au c.Uy) underlying22 J r s t rfl Qf rfl b ⟨w.heap.size,0,XJ⟩ 1 1 [Xy x] rfl rfl ?c1 ?c2 Qf ?c3 ?c4 ?_)
 case c1=>intro j u m;match j,m with | 0,m=>simp at m;subst m;simp[Addr.add]
 case c2=>intro u D;simp at D;subst D;rfl
 case c3=>simp only[au];unfold maxLen;omega
 case c4=>simp only[au];omega
 ·intro g f Z l k a;obtain⟨Y,W,B⟩:=p.app (d':={ c with Uy:=c.Uy++[x] }) N 4 C 4 (by omega) g f ((au c.Uy).n+1) _ l (bJ c.Uy x) k (by simpa using a) (tL c H _) (by omega) _ rfl (by simp[bM,cX,au])
  skip
  clear p b L M O P Q R S T U V v y z l k a q;go_wp2;go_end0;exact⟨rfl,_,B.out.1,B.out.2.first ((aa.refl [] w).alloc _)⟩
end Go.Proofs.YtnbalopedcgpcaaGreat
