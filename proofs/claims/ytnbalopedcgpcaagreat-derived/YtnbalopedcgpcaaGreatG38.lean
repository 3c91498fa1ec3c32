import Derived.Test.YtnbalopedcgpcaaGreatG29
namespace Go.Proofs.YtnbalopedcgpcaaGreat
open Go.RowKit Tryz
open Value renaming int->Xx,slice->Xz,pointer->XA,bool->XC
open Obj renaming cells->XE
open IntKind renaming i64->XF
open Ending renaming returned->XH
open World renaming cell?->XI
open Option renaming none->XJ,some->XK
open Bool renaming true->XL,false->XM
open Go.RowKit renaming Hid->XN
open Go renaming Calls->XO,World->XP
set_option maxHeartbeats 0
variable{p:Nat->Nat}{b H o M:Nat}{m:ByteArray}{E B z0:List ByteArray}{F:List St}(A z u s:Nat)(N:Nat->Nat->Nat)(c:Nat)(z1:ByteArray)(x:Nat)(t:Int)(T:Nat)(I:XP)(G:List ByteArray)(q:Nat->Nat)(y:Nat)
def sm(f:Nat->Nat):Nat->Nat
 | 0=>0
 | n+1=>sm f n+f n
theorem ra{g:Nat->Nat}{n:Nat}(h:∀k,k<n->p k=g k):sm p n=sm g n:=by
 induction n with
 | zero=>rfl
 | succ n a=>show sm p n+p n=sm g n+g n;rw[a (fun k b=>h k (by omega)),h n (by omega)]
theorem JS{f g:Nat->Nat}{n:Nat}(h:∀k,k<n->f k<=g k):sm f n<=sm g n:=by
 induction n with
 | zero=>exact PQ _
 | succ n a=>exact Nat.add_le_add (a (fun k b=>h k (by omega))) (h n (by omega))
theorem NL(g:Nat->Nat)(n:Nat):sm (fun k=>q k+g k) n=sm q n+sm g n:=by
 induction n with
 | zero=>rfl
 | succ n a=>show sm _ n+(q n+g n)=(sm q n+q n)+(sm g n+g n);rw[a];omega
theorem JT(n:Nat):sm (fun k=>T*q k) n=T*sm q n:=by
 induction n with
 | zero=>rfl
 | succ n a=>show sm _ n+T*q n=T*(sm q n+q n);rw[a,Nat.mul_add]
theorem Mj:sm (fun k=>q k*T) y=sm q y*T:=by
 rw[R6,<-JT];exact ra (fun k _=>R6 _ _)
theorem xA{n:Nat}(h:∀k,k<n->p k=0):sm p n=0:=by
 induction n with
 | zero=>rfl
 | succ n a=>show sm p n+p n=0;rw[a (fun k b=>h k (by omega)),h n (by omega)]
theorem Mk(n m:Nat):sm (fun i=>sm (fun j=>N i j) m) n=sm (fun j=>sm (fun i=>N i j) n) m:=by
 induction n with
 | zero=>exact(xA (fun _ _=>rfl)).symm
 | succ n a=>show sm _ n+sm _ m=sm (fun j=>sm (fun i=>N i j) n+N n j) m;rw[a,NL]
theorem rc{f:Nat->Nat}{n k:Nat}(b:k<n):f k<=sm f n:=by
 induction n with
 | zero=>omega
 | succ n a =>
  show f k<=sm f n+f n;by_cases e:k=n
  ·rw[e];omega
  ·have:=a (by omega);omega
theorem NM{f:Nat->Nat}{n:Nat}(g:b<n)(i:H<n)(c:b≠H):f b+f H<=sm f n:=by
 induction n with
 | zero=>omega
 | succ n d =>
  show f b+f H<=sm f n+f n;by_cases e:b=n
  ·have:=rc (f:=f) (n:=n) (k:=H) (by omega);rw[e];omega
  ·by_cases a:H=n
   ·have:=rc (f:=f) (n:=n) (k:=b) (by omega);rw[a];omega
   ·have:=d (by omega) (by omega);omega
theorem xB{f:Nat->Nat}{n:Nat}(h:0<sm f n):∃k,k<n/\0<f k:=by
 induction n with
 | zero=>exact absurd h (by show ¬0<0;omega)
 | succ n b =>
  have h:0<sm f n+f n:=h;by_cases e:0<f n
  ·exact⟨n,by omega,e⟩
  ·obtain⟨k,c,a⟩:=b (by omega);exact⟨k,by omega,a⟩
theorem MZ{n:Nat}(g:b<n)(h:∀i,i<n->i≠b->p i=0):sm p n=p b:=by
 induction n with
 | zero=>omega
 | succ n f =>
  show sm p n+p n=p b;by_cases e:b=n
  ·subst e;rw[xA (fun i a=>h i (by omega) (by omega))];omega
  ·rw[f (by omega) (fun i a d=>h i (by omega) d),h n (by omega) (fun c=>e c.symm)];omega
def cp(n:Nat):Nat:=if 2<n then 2 else n
theorem oM:cp y<=2:=by unfold cp;split <;> omega
theorem lj(h:b<=2):cp b=b:=by unfold cp;rw[PV (by omega)]
theorem KU(h:b<=H):cp b<=cp H:=by unfold cp;split <;> split <;> omega
theorem Hy:cp (T+y)=cp (cp T+cp y):=by unfold cp;(repeat' split) <;> omega
theorem Dq:cp (T+y)=cp (cp T+y):=by unfold cp;(repeat' split) <;> omega
theorem Dr:cp (T+y)=cp (T+cp y):=by unfold cp;(repeat' split) <;> omega
theorem Hz:cp (T*y)=cp (cp T*cp y):=by
 by_cases b:T<=2
 ·by_cases a:y<=2
  ·rw[lj b,lj a]
  ·have e:cp y=2:=(by unfold cp;rw[PZ (by omega)]);rw[lj b,e];have:T=0∨T=1∨T=2:=by omega
   rcases this with rfl | rfl | rfl
   ·simp
   ·rw[Nat.one_mul,e];rfl
   ·unfold cp;rw[PZ (by omega)];rfl
 ·have e:cp T=2:=by unfold cp;rw[PZ (by omega)]
  rw[e];by_cases a:y<=2
  ·rw[lj a];have:y=0∨y=1∨y=2:=(by omega);rcases this with rfl | rfl | rfl
   ·simp
   ·rw[Th,e];rfl
   ·unfold cp;rw[PZ (by omega)];rfl
  ·have c:cp y=2:=(by unfold cp;rw[PZ (by omega)]);rw[c];have:2*y<=T*y:=RS y (by omega);have d:cp (2*2)=2:=rfl;rw[d];unfold cp;rw[PZ (by omega)]
theorem MN(n:Nat):cp (sm q n)=cp (sm (fun k=>cp (q k)) n):=by
 induction n with
 | zero=>rfl
 | succ n a=>show cp (sm q n+q n)=cp (sm (fun k=>cp (q k)) n+cp (q n));rw[Hy,a,<-Hy,Dr]
theorem Nj:cp b=1 ↔ b=1:=by unfold cp;split <;> omega
theorem wo:0<cp b ↔ 0<b:=by unfold cp;split <;> omega
section
variable {α:Type} (S:Nat) (f:α->Nat->Nat->Nat)
def wy:List α->Nat->Nat->Nat
 | [],i,j=>if i=j then 1 else 0
 | a :: r,i,j=>sm (fun m=>f a i m*wy r m j) S
end
section
variable {α:Type} {S:Nat} {f g:α->Nat->Nat->Nat}
theorem Kl(a b:List α)(i j:Nat)(c:i<S):wy S f (a++b) i j=sm (fun m=>wy S f a i m*wy S f b m j) S:=by
 induction a generalizing i with
 | nil =>
  rw[RV,MZ c (fun m _ g=>by show(if i=m then 1 else 0)*_=0;rw[PV (fun e=>g e.symm)];simp)];show _=(if i=i then 1 else 0)*_;rw[PZ rfl,Nat.one_mul]
 | cons x r l =>
  show sm (fun m=>f x i m*wy S f (r++b) m j) S=sm (fun m=>sm (fun k=>f x i k*wy S f r k m) S*wy S f b m j) S;rw[ra (fun m d=>by rw[l m d]),show sm (fun m=>sm (fun k=>f x i k*wy S f r k m) S*wy S f b m j) S=sm (fun m=>sm (fun k=>f x i k*wy S f r k m*wy S f b m j) S) S from ra (fun m _=>(Mj _ _ _).symm),Mk];refine ra (fun m _=>?_);rw[<-JT];exact ra (fun k _=>(Nat.mul_assoc _ _ _).symm)
theorem N2(x:α)(i j:Nat)(a:j<S):wy S f [x] i j=f x i j:=by
 show sm (fun m=>f x i m*(if m=j then 1 else 0)) S=_;rw[MZ a (fun m _ b=>by rw[PV b,Ub]),PZ rfl,Th]
theorem MD(a:List α)(x:α)(i j:Nat)(b:i<S)(c:j<S):wy S f (a++[x]) i j=sm (fun m=>wy S f a i m*f x m j) S:=by
 rw[Kl a [x] i j b];exact ra (fun m _=>by rw[N2 x m j c])
theorem xO(a:List α)(h:∀x∈a,∀i j,i<S->j<S->f x i j<=g x i j)(i j:Nat)(c:i<S):wy S f a i j<=wy S g a i j:=by
 induction a generalizing i with
 | nil=>exact PQ _
 | cons x r e=>exact JS (fun m b=>Q3 (h x (by simp) i m c b) (e (fun y d=>h y (by simp[d])) m b))
theorem Kn(a:List α)(h:∀x∈a,∀i j,j<i->f x i j=0)(i j:Nat)(d:j<i):wy S f a i j=0:=by
 induction a generalizing i with
 | nil=>show(if i=j then 1 else 0)=0;rw[PV (by omega)]
 | cons x r c =>
  refine xA (fun m _=>?_);by_cases e:m<i
  ·rw[h x (by simp) i m e,Tr]
  ·rw[c (fun y b=>h y (by simp[b])) m (by omega),Ub]
theorem Km(a:List α)(k i j:Nat)(b:i<S):wy S f a i j=sm (fun m=>wy S f (a.take k) i m*wy S f (a.drop k) m j) S:=by
 rw[<-Kl _ _ _ _ b,RC]
theorem rU(a:List α)(k m j:Nat)(b:k<a.length):wy S f (a.drop k) m j=sm (fun q=>f a[k] m q*wy S f (a.drop (k+1)) q j) S:=by
 rw[Qr b];rfl
theorem xP(a:List α)(k i q:Nat)(c:k<a.length)(b:i<S)(d:q<S):wy S f (a.take (k+1)) i q=sm (fun m=>wy S f (a.take k) i m*f a[k] m q) S:=by
 rw[QE c,MD _ _ _ _ b d]
theorem tj(h:b*H=1):b=1/\H=1:=⟨Nat.eq_one_of_mul_eq_one_right h,Nat.eq_one_of_mul_eq_one_left h⟩
theorem vM(h:sm p b=1):∃m,m<b/\p m=1/\∀q,q<b->0<p q->q=m:=by
 obtain⟨m,a,i⟩:=xB (f:=p) (n:=b) (by omega);have e:=rc (f:=p) a;refine⟨m,a,by omega,fun q d g=>?_⟩;refine Ro (fun c=>?_);have:=NM (f:=p) d a c;omega
theorem H8(a:List α)(i j:Nat)(e:i<S)(b:wy S f a i j=1)(k:Nat):∃m,m<S/\wy S f (a.take k) i m=1/\wy S f (a.drop k) m j=1/\∀q,q<S->0<wy S f (a.take k) i q->0<wy S f (a.drop k) q j->q=m:=by
 rw[Km a k i j e]at b;obtain⟨m,g,l,o⟩:=vM b;obtain⟨p,r⟩:=tj l;exact⟨m,g,p,r,fun q n c d=>o q n (Uj c d)⟩
theorem Ia(a:List α)(i j:Nat)(c:i<S)(s:wy S f a i j=1)(k:Nat)(d:k<a.length)(m q:Nat)(t:m<S)(v:q<S)(n:wy S f (a.take k) i m=1)(b:wy S f (a.drop k) m j=1)(w:wy S f (a.take (k+1)) i q=1)(x:wy S f (a.drop (k+1)) q j=1):f a[k] m q=1:=by
 rw[rU a k m j d]at b;obtain⟨z,g,u,-⟩:=vM b;obtain⟨l,A⟩:=tj u;have o:0<wy S f (a.take (k+1)) i z:=by
  rw[xP a k i z d c g];have:=rc (f:=fun m=>wy S f (a.take k) i m*f a[k] m z) t;simp only[n,l]at this;omega
 obtain⟨y,-,-,-,e⟩:=H8 a i j c s (k+1);have p:=e z g o (by omega);have r:=e q v (by omega) (by omega);rw[r,<-p];exact l
theorem El(a:List α)(i j:Nat)(e:i<S)(h:0<wy S f a i j)(k:Nat)(g:k<a.length):∃m q,m<S/\q<S/\0<wy S f (a.take k) i m/\0<f a[k] m q/\0<wy S f (a.drop (k+1)) q j:=by
 rw[Km a k i j e]at h;obtain⟨m,l,d⟩:=xB h;have c:0<wy S f (a.drop k) m j:=SN d;rw[rU a k m j g]at c;obtain⟨q,n,b⟩:=xB c;exact⟨m,q,l,n,SA d,SA b,SN b⟩
end
structure cY where
 label:ByteArray
 code:ByteArray
 body:List ByteArray
 vars:List ByteArray
 types:List ByteArray
abbrev kn:=ByteArray->Nat->Nat->Nat
def cr(tx:List ByteArray)(C:kn)(P:cY)(s:ByteArray)(i j:Nat):Nat :=
 match aZ P.vars s with
 | some v=>C (P.types.getD v ⟨#[]⟩) i j
 | none=>if j=i+1/\i<tx.length/\((tx.getD i ⟨#[]⟩).toList==s.toList)=XL then 1 else 0
def jS(tx:List ByteArray)(C:kn)(P:cY)(i j:Nat):Nat:=wy (tx.length+1) (cr tx C P) P.body i j
def qZ(f:cY->Nat):List cY->Nat
 | []=>0
 | P :: r=>f P+qZ f r
def om(tx:List ByteArray)(C:kn)(c:ByteArray)(i j:Nat)(P:cY):Nat:=if P.code.toList==c.toList then jS tx C P i j else 0
def FC(tx:List ByteArray)(Ps:List cY)(C:kn):kn:=fun c i j=>cp (qZ (om tx C c i j) Ps)
def pS(tx:List ByteArray)(Ps:List cY):Nat->kn
 | 0=>fun _ _ _=>0
 | n+1=>FC tx Ps (pS tx Ps n)
def xZ(S:Nat)(C D:kn):Prop:=∀c i j,i<S->j<S->C c i j<=D c i j
theorem CK{f g:cY->Nat}{l:List cY}(h:∀P∈l,f P<=g P):qZ f l<=qZ g l:=by
 induction l with
 | nil=>exact PQ _
 | cons P r b=>exact Nat.add_le_add (h P (by simp)) (b (fun Q a=>h Q (by simp[a])))
theorem xy{f:cY->Nat}{l:List cY}(k:Nat)(a:k<l.length):f l[k]<=qZ f l:=by
 induction l generalizing k with
 | nil=>simp at a
 | cons P r b =>
  cases k with
  | zero=>show f P<=f P+_;omega
  | succ k=>show f (r[k]'(by simpa using a))<=f P+qZ f r;have:=b k (by simpa using a);omega
theorem Mi{f:cY->Nat}{l:List cY}(k m:Nat)(a:k<l.length)(b:m<l.length)(c:k≠m):f l[k]+f l[m]<=qZ f l:=by
 induction l generalizing k m with
 | nil=>simp at a
 | cons P r d =>
  cases k with
  | zero =>
   cases m with
   | zero=>exact absurd rfl c
   | succ m=>show f P+f (r[m]'(by simpa using b))<=f P+qZ f r;have:=xy (f:=f) m (show m<r.length by simpa using b);omega
  | succ k =>
   cases m with
   | zero=>show f (r[k]'(by simpa using a))+f P<=f P+qZ f r;have:=xy (f:=f) k (show k<r.length by simpa using a);omega
   | succ m=>show f (r[k]'(by simpa using a))+f (r[m]'(by simpa using b))<=f P+qZ f r;have:=d k m (by simpa using a) (by simpa using b) (by omega);omega
theorem xz{f:cY->Nat}{l:List cY}(h:0<qZ f l):∃k,∃a:k<l.length,0<f l[k]:=by
 induction l with
 | nil=>exact absurd h (R8 _)
 | cons P r c =>
  by_cases e:0<f P
  ·exact⟨0,by simp,e⟩
  ·have h:0<f P+qZ f r:=h;obtain⟨k,a,b⟩:=c (by omega);exact⟨k+1,by simpa using a,b⟩
theorem Mh(f:cY->Nat)(a b:List cY):qZ f (a++b)=qZ f a+qZ f b:=by
 induction a with
 | nil=>simp[qZ]
 | cons P r c=>show f P+qZ f (r++b)=f P+qZ f r+qZ f b;rw[c];omega
section
variable {tx:List ByteArray} {Ps:List cY} {C D:kn}
theorem my(P:cY)(s:ByteArray)(h:xZ (tx.length+1) C D)(i j:Nat)(a:i<tx.length+1)(b:j<tx.length+1):cr tx C P s i j<=cr tx D P s i j:=by
 unfold cr;split
 ·exact h _ _ _ a b
 ·exact PQ _
theorem AM(P:cY)(h:xZ (tx.length+1) C D)(i j:Nat)(e:i<tx.length+1):jS tx C P i j<=jS tx D P i j :=
 xO _ (fun s _ a b c d=>my P s h a b c d) i j e
theorem Kk(P:cY)(h:xZ (tx.length+1) C D)(i j:Nat)(a:i<tx.length+1):om tx C z1 i j P<=om tx D z1 i j P:=by
 unfold om;split
 ·exact AM P h i j a
 ·exact PQ _
theorem rB(h:xZ (tx.length+1) C D):xZ (tx.length+1) (FC tx Ps C) (FC tx Ps D):=fun c i j a _=>KU (CK (fun P _=>Kk c P h i j a))
theorem Of(n:Nat):xZ (tx.length+1) (pS tx Ps n) (pS tx Ps (n+1)):=by
 induction n with
 | zero=>exact fun _ _ _ _ _=>Qx _
 | succ n a=>exact rB a
theorem xZ.trans{A B E:kn}(h:xZ b A B)(g:xZ b B E):xZ b A E:=fun c i j a d=>Qk (h c i j a d) (g c i j a d)
structure uL(tx:List ByteArray)(Ps:List cY)(C:kn):Prop where
 fix:∀c i j,i<tx.length+1->j<tx.length+1->C c i j=FC tx Ps C c i j
 low:∃n,xZ (tx.length+1) C (pS tx Ps n)
theorem uL.above(h:uL tx Ps C)(n:Nat):xZ (tx.length+1) (pS tx Ps n) C:=by
 induction n with
 | zero=>exact fun _ _ _ _ _=>Qx _
 | succ n d=>intro c i j a b;rw[h.fix c i j a b];exact rB d c i j a b
theorem uL.prod(h:uL tx Ps C)(o:b<tx.length+1)(p:H<tx.length+1)(n:C m b H=1) :
  ∃k,∃c:k<Ps.length,(Ps[k].code.toList==m.toList)=XL/\jS tx C Ps[k] b H=1/\∀a,∀i:a<Ps.length,(Ps[a].code.toList==m.toList)=XL->0<jS tx C Ps[a] b H->a=k:=by
 have e:=h.fix m b H o p;rw[n]at e;have e:=Nj.1 e.symm;obtain⟨k,c,j⟩:=xz (f:=om tx C m b H) (l:=Ps) (by omega);have g:(Ps[k].code.toList==m.toList)=XL:=by
  unfold om at j;split at j
  ·next q=>exact q
  ·omega
 have s:om tx C m b H Ps[k]=jS tx C Ps[k] b H:=by unfold om;rw[PZ g]
 have:=xy (f:=om tx C m b H) k c;refine⟨k,c,g,by rw[<-s];omega,fun a i d u=>?_⟩;refine Ro (fun r=>?_);have v:=Mi (f:=om tx C m b H) a k i c r;have t:om tx C m b H Ps[a]=jS tx C Ps[a] b H:=by unfold om;rw[PZ d]
 omega
end
def nB(tx:List ByteArray)(C:kn)(P:cY)(i j k:Nat):Nat :=
 ((List.range (tx.length+1)).find? (fun m=>decide (0<wy (tx.length+1) (cr tx C P) (P.body.take k) i m)&&decide (0<wy (tx.length+1) (cr tx C P) (P.body.drop k) m j))).getD 0
def ol(P:cY)(v:Nat):Nat:=((List.range P.body.length).find? (fun k=>aZ P.vars (P.body.getD k ⟨#[]⟩)==XK v)).getD 0
def rd(tx:List ByteArray)(C:kn)(P:cY)(i j v:Nat):Nat×Nat:=(nB tx C P i j (ol P v),nB tx C P i j (ol P v+1))
def MX(tx:List ByteArray)(Ps:List cY)(C:kn)(c:ByteArray)(i j:Nat):Option cY:=Ps.find? (fun P=>(P.code.toList==c.toList)&&decide (0<jS tx C P i j))
def pP(tx:List ByteArray)(Ps:List cY)(C:kn):Nat->ByteArray->Nat->Nat->List ByteArray
 | 0,_,_,_=>[]
 | n+1,c,i,j =>
  match MX tx Ps C c i j with
  | none=>[]
  | some P=>((List.range P.vars.length).map (fun v=>pP tx Ps C n (P.types.getD v ⟨#[]⟩) (rd tx C P i j v).1 (rd tx C P i j v).2)).flatten++[P.label]
structure kZ(P:cY):Prop where
 len:P.types.length=P.vars.length
 occ:∀v,v<P.vars.length->∃k,k<P.body.length/\aZ P.vars (P.body.getD k ⟨#[]⟩)=XK v
 one:∀v a b,a<P.body.length->b<P.body.length->aZ P.vars (P.body.getD a ⟨#[]⟩)=XK v->aZ P.vars (P.body.getD b ⟨#[]⟩)=XK v->a=b
section
variable {tx:List ByteArray} {Ps:List cY} {C:kn} {P:cY} {i j:Nat}
theorem g7(p:i<tx.length+1)(n:jS tx C P i j=1)(k:Nat):nB tx C P i j k<tx.length+1/\wy (tx.length+1) (cr tx C P) (P.body.take k) i (nB tx C P i j k)=1/\wy (tx.length+1) (cr tx C P) (P.body.drop k) (nB tx C P i j k) j=1 /\
  ∀q,q<tx.length+1->0<wy (tx.length+1) (cr tx C P) (P.body.take k) i q->0<wy (tx.length+1) (cr tx C P) (P.body.drop k) q j->q=nB tx C P i j k:=by
 obtain⟨m,g,c,d,l⟩:=H8 (S:=tx.length+1) (f:=cr tx C P) P.body i j p n k;have e:nB tx C P i j k=m:=by
  unfold nB;cases b:(List.range (tx.length+1)).find? (fun m=>decide (0<wy (tx.length+1) (cr tx C P) (P.body.take k) i m)&&decide (0<wy (tx.length+1) (cr tx C P) (P.body.drop k) m j)) with
  | none =>
   have:=Rc.1 b m (Qe.2 g);simp[c,d]at this
  | some z =>
   have a:=Rp b;have o:=Qe.1 (Qm b);simp only[Bool.and_eq_true,decide_eq_true_eq]at a;exact l z o a.1 a.2
 rw[e];exact⟨g,c,d,l⟩
theorem KY(b:i<tx.length+1)(a:jS tx C P i j=1):nB tx C P i j 0=i :=
 ((g7 b a 0).2.2.2 i b (by show 0<(if i=i then 1 else 0);rw[PZ rfl];omega) (by rw[List.drop_zero];unfold jS at a;omega)).symm
theorem Ds(b:i<tx.length+1)(c:j<tx.length+1)(a:jS tx C P i j=1):nB tx C P i j P.body.length=j :=
 ((g7 b a P.body.length).2.2.2 j c (by rw[QJ];unfold jS at a;omega) (by rw[List.drop_length];show 0<(if j=j then 1 else 0);rw[PZ rfl];omega)).symm
theorem wt(b:i<tx.length+1)(a:jS tx C P i j=1)(k:Nat)(c:k<P.body.length):cr tx C P P.body[k] (nB tx C P i j k) (nB tx C P i j (k+1))=1 :=
 Ia P.body i j b a k c _ _ (g7 b a k).1 (g7 b a (k+1)).1 (g7 b a k).2.1 (g7 b a k).2.2.1 (g7 b a (k+1)).2.1 (g7 b a (k+1)).2.2.1
theorem yi(e:kZ P){v:Nat}(d:v<P.vars.length):ol P v<P.body.length/\aZ P.vars (P.body.getD (ol P v) ⟨#[]⟩)=XK v:=by
 obtain⟨k,b,c⟩:=e.occ v d;unfold ol;cases a:(List.range P.body.length).find? (fun k=>aZ P.vars (P.body.getD k ⟨#[]⟩)==XK v) with
 | none =>
  have:=Rc.1 a k (Qe.2 b);rw[c]at this;simp at this
 | some z=>exact⟨Qe.1 (Qm a),by simpa using Rp a⟩
theorem MM(a:kZ P)(c:b<P.vars.length)(d:H<P.body.length)(e:aZ P.vars (P.body.getD H ⟨#[]⟩)=XK b):ol P b=H:=a.one b _ _ (yi a c).1 d (yi a c).2 e
theorem fT(a:y<G.length):G.getD y ⟨#[]⟩=G[y]:=by rw[PK,PJ a];rfl
theorem oW(h:aZ P.vars m=XK b):cr tx C P m H o=C (P.types.getD b ⟨#[]⟩) H o:=by unfold cr;rw[h]
theorem uL.pick(h:uL tx Ps C)(p:i<tx.length+1)(q:j<tx.length+1)(o:C m i j=1) :
  ∃k,∃d:k<Ps.length,MX tx Ps C m i j=XK Ps[k]/\(Ps[k].code.toList==m.toList)=XL/\jS tx C Ps[k] i j=1/\∀a,∀g:a<Ps.length,(Ps[a].code.toList==m.toList)=XL->0<jS tx C Ps[a] i j->a=k:=by
 obtain⟨k,d,f,n,l⟩:=h.prod p q o;refine⟨k,d,?_,f,n,l⟩;unfold MX;cases c:Ps.find? (fun P=>(P.code.toList==m.toList)&&decide (0<jS tx C P i j)) with
 | none =>
  have:=Rc.1 c Ps[k] (PT d);simp only[f,n]at this;simp at this
 | some Q =>
  have b:=Rp c;simp only[Bool.and_eq_true,decide_eq_true_eq]at b;obtain⟨a,g,rfl⟩:=QN (Qm c);have e:=l a g b.1 b.2;subst e;rfl
theorem uL.kids(h:uL tx Ps C)(X:∀P∈Ps,kZ P)(g:i<tx.length+1)(R:j<tx.length+1)(O:C m i j=1)(U:0<pS tx Ps (b+1) m i j)(Q:MX tx Ps C m i j=XK P)(v:Nat)(W:v<P.vars.length) :
  (rd tx C P i j v).1<tx.length+1/\(rd tx C P i j v).2<tx.length+1/\C (P.types.getD v ⟨#[]⟩) (rd tx C P i j v).1 (rd tx C P i j v).2=1/\0<pS tx Ps b (P.types.getD v ⟨#[]⟩) (rd tx C P i j v).1 (rd tx C P i j v).2:=by
 obtain⟨k,S,H,hc,t,V⟩:=h.pick g R O;rw[Q]at H;cases H
 have F:=X Ps[k] (PT S);obtain⟨p,o⟩:=yi F W;rw[fT _ _ p]at o;have I:=wt g t (ol Ps[k] v) p;rw[oW o]at I;refine⟨(g7 g t _).1,(g7 g t _).1,I,?_⟩;have B:0<FC tx Ps (pS tx Ps b) m i j:=U;obtain⟨c,T,e⟩:=xz (wo.1 B);have r:(Ps[c].code.toList==m.toList)=XL:=by
  unfold om at e;split at e
  ·next q=>exact q
  ·omega
 have u:0<jS tx (pS tx Ps b) Ps[c] i j:=by unfold om at e;rw[PZ r]at e;exact e
 have w:=h.above b;have A:=V c T r (PY u (AM _ w i j g));subst A;obtain⟨a,l,n,d,Y,G,Z⟩:=El Ps[c].body i j g u (ol Ps[c] v) p;have J:0<wy (tx.length+1) (cr tx C Ps[c]) (Ps[c].body.take (ol Ps[c] v)) i a:=PY Y (xO _ (fun s _ x y D E=>my _ s w x y D E) i a g);have K:0<cr tx C Ps[c] (Ps[c].body[ol Ps[c] v]) a l:=PY G (my _ _ w a l n d);have L:0<wy (tx.length+1) (cr tx C Ps[c]) (Ps[c].body.drop (ol Ps[c] v+1)) l j:=PY Z (xO _ (fun s _ x y D E=>my _ s w x y D E) l j d)
 have M:a=nB tx C Ps[c] i j (ol Ps[c] v):=(g7 g t _).2.2.2 a n J (by
  rw[rU _ _ _ _ p];exact PY (Uj K L) (rc (f:=fun q=>cr tx C Ps[c] (Ps[c].body[ol Ps[c] v]) a q*wy (tx.length+1) (cr tx C Ps[c]) (Ps[c].body.drop (ol Ps[c] v+1)) q j) d))
 have N:l=nB tx C Ps[c] i j (ol Ps[c] v+1):=(g7 g t _).2.2.2 l d (by
  rw[xP _ _ _ _ p g d];exact PY (Uj J K) (rc (f:=fun z=>wy (tx.length+1) (cr tx C Ps[c]) (Ps[c].body.take (ol Ps[c] v)) i z*cr tx C Ps[c] (Ps[c].body[ol Ps[c] v]) z l) n)) L
 rw[oW o]at G;show 0<pS tx Ps b _ (nB tx C Ps[c] i j (ol Ps[c] v)) (nB tx C Ps[c] i j (ol Ps[c] v+1));rw[<-M,<-N];exact G
end
section
variable {α:Type} {S:Nat} {f g:α->Nat->Nat->Nat}
theorem N4(a:List α)(i j:Nat)(l:i<S)(d:∀x∈a,∀p q,q<p->f x p q=0)(k:∀x∈a,∀p q,q<p->g x p q=0)(h:∀x∈a,∀p q,i<=p->p<S->q<S->f x p q=g x p q):wy S f a i j=wy S g a i j:=by
 induction a generalizing i with
 | nil=>rfl
 | cons x r n =>
  refine ra (fun m c=>?_);by_cases e:m<i
  ·rw[d x (by simp) i m e,k x (by simp) i m e,Tr,Tr]
  ·rw[h x (by simp) i m (PQ _) l c,n m c (fun y b=>d y (by simp[b])) (fun y b=>k y (by simp[b])) (fun y b p q o=>h y (by simp[b]) p q (by omega))]
theorem JU{f:Nat->Nat}(n:Nat)(h:∀m,m<y->f m=0):sm f (y+n)=sm (fun d=>f (y+d)) n:=by
 induction n with
 | zero=>exact xA h
 | succ n a=>show sm f (y+n)+f (y+n)=sm (fun d=>f (y+d)) n+f (y+n);rw[a]
end
def iZ(C:kn):Prop:=∀c i j,j<i->C c i j=0
section
variable {tx:List ByteArray} {Ps:List cY} {C D:kn}
theorem jW(P:cY)(t:iZ C)(s:ByteArray)(i j:Nat)(h:j<i):cr tx C P s i j=0:=by
 unfold cr;split
 ·exact t _ _ _ h
 ·rw[PV (by omega)]
theorem Ep(P:cY)(t:iZ C)(i j:Nat)(h:j<i):jS tx C P i j=0:=Kn _ (fun s _ a b c=>jW P t s a b c) i j h
theorem Ed{f:cY->Nat}{l:List cY}(h:∀P∈l,f P=0):qZ f l=0:=by
 induction l with
 | nil=>rfl
 | cons P r b=>show f P+qZ f r=0;rw[h P (by simp),b (fun Q a=>h Q (by simp[a]))]
theorem JR{f g:cY->Nat}{l:List cY}(h:∀P∈l,f P=g P):qZ f l=qZ g l :=
 Nat.le_antisymm (CK (fun P a=>To (h P a))) (CK (fun P a=>To (h P a).symm))
theorem AU(t:iZ C):iZ (FC tx Ps C):=fun c i j h=>by
 unfold FC;rw[Ed (fun P _=>by unfold om;split <;> first | exact Ep P t i j h | rfl)];rfl
theorem MC(P:cY)(g:iZ C)(k:iZ D)(i j:Nat)(e:i<tx.length+1)(h:∀c p q,i<=p->p<tx.length+1->q<tx.length+1->C c p q=D c p q):jS tx C P i j=jS tx D P i j:=by
 refine N4 _ i j e (fun s _ p q b=>jW P g s p q b) (fun s _ p q b=>jW P k s p q b) (fun s _ p q f a d=>?_);unfold cr;split
 ·exact h _ _ _ f a d
 ·rfl
theorem M9(b:iZ C)(d:iZ D)(c:ByteArray)(i j:Nat)(a:i<tx.length+1)(h:∀c p q,i<=p->p<tx.length+1->q<tx.length+1->C c p q=D c p q):FC tx Ps C c i j=FC tx Ps D c i j:=by
 unfold FC;rw[JR (g:=om tx D c i j) (fun P _=>by unfold om;rw[MC P b d i j a h])]
theorem Na:FC tx Ps C z1 T y<=2:=oM _
structure ko(tx:List ByteArray)(Ps:List cY)(C:kn)(b:Nat):Prop where
 two:∀c i j,C c i j<=2
 tri:iZ C
 nil:∀c i j,i<b->C c i j=0
 low:∃n,xZ (tx.length+1) C (pS tx Ps n)
 fix:∀c i j,b<=i->i<tx.length+1->j<tx.length+1->C c i j=FC tx Ps C c i j
theorem ko.first:ko tx Ps (fun _ _ _=>0) (tx.length+1):=⟨fun _ _ _=>Qx _,fun _ _ _ _=>rfl,fun _ _ _ _=>rfl,⟨0,fun _ _ _ _ _=>PQ _⟩,fun _ _ _ a b=>by omega⟩
theorem ko.done(h:ko tx Ps C 0):uL tx Ps C:=⟨fun c i j a b=>h.fix c i j (Qx _) a b,h.low⟩
structure Es(tx:List ByteArray)(Ps:List cY)(C:kn)(b:Nat):Prop where
 two:∀c i j,C c i j<=2
 tri:iZ C
 nil:∀c i j,i<b->C c i j=0
 low:∃n,xZ (tx.length+1) C (pS tx Ps n)
 fix:∀c i j,b<i->i<tx.length+1->j<tx.length+1->C c i j=FC tx Ps C c i j
 up:∀c j,j<tx.length+1->C c b j<=FC tx Ps C c b j
theorem ko.row(h:ko tx Ps C (b+1)):Es tx Ps C b :=
 ⟨h.two,h.tri,fun c i j a=>h.nil c i j (by omega),h.low,fun c i j a=>h.fix c i j (by omega),fun c j _=>by rw[h.nil c b j (by omega)];exact Qx _⟩
theorem Es.done(h:Es tx Ps C b)(f:∀c j,j<tx.length+1->FC tx Ps C c b j<=C c b j):ko tx Ps C b :=
 ⟨h.two,h.tri,h.nil,h.low,fun c i j g a d=>by
  by_cases e:i=b
  ·subst e;exact Nat.le_antisymm (h.up c j d) (f c j d)
  ·exact h.fix c i j (by omega) a d⟩
theorem Es.step(h:Es tx Ps C b)(s:b<tx.length+1)(g:∀c j,j<tx.length+1->D c b j=FC tx Ps C c b j)(d:∀c i j,i≠b∨¬j<tx.length+1->D c i j=C c i j):Es tx Ps D b:=by
 have t:xZ (tx.length+1) C D:=fun c i j f a=>by
  by_cases e:i=b
  ·subst e;rw[g c j a];exact h.up c j a
  ·rw[d c i j (P0 e)];exact PQ _
 have o:iZ D:=fun c i j a=>by
  by_cases e:i=b/\j<tx.length+1
  ·obtain⟨rfl,l⟩:=e;rw[g c j l];exact AU h.tri c i j a
  ·rw[d c i j (by rcases Classical.em (i=b) with q | q;exact P7 (fun r=>e ⟨q,r⟩);exact P0 q)];exact h.tri c i j a
 refine⟨fun c i j=>?_,o,fun c i j f=>by rw[d c i j (P0 (by omega))];exact h.nil c i j f,?_,fun c i j f k a=>?_,fun c j a=>?_⟩
 ·by_cases e:i=b/\j<tx.length+1
  ·obtain⟨rfl,l⟩:=e;rw[g c j l];exact Na c i j
  ·rw[d c i j (by rcases Classical.em (i=b) with q | q;exact P7 (fun r=>e ⟨q,r⟩);exact P0 q)];exact h.two c i j
 ·obtain⟨n,m⟩:=h.low;refine⟨n+1,fun c i j f a=>?_⟩;by_cases e:i=b
  ·subst e;rw[g c j a];exact rB m c i j f a
  ·rw[d c i j (P0 e)];exact(m.trans (Of n)) c i j f a
 ·rw[d c i j (P0 (by omega)),h.fix c i j f k a];exact M9 h.tri o c i j k (fun c p q u _ _=>(d c p q (P0 (by omega))).symm)
 ·rw[g c j a];exact rB t c b j s a
structure PG(tx:List ByteArray)(Ps:List cY)(C:kn):Prop where
 two:∀c i j,C c i j<=2
 tri:iZ C
 low:∃n,xZ (tx.length+1) C (pS tx Ps n)
 up:xZ (tx.length+1) C (FC tx Ps C)
end
def CG(codes:List ByteArray)(G:Nat->Nat->Nat->Nat):kn:=fun c i j =>
 match aZ codes c with
 | some k=>G k i j
 | none=>0
section
variable {tx:List ByteArray} {Ps:List cY} {C:kn} {P:cY}
def Bz(tx:List ByteArray)(C:kn)(P:cY)(b k m e:Nat):Nat:=cp (sm (fun d=>cp (wy (tx.length+1) (cr tx C P) (P.body.take k) b (b+d))*cr tx C P (P.body.getD k ⟨#[]⟩) (b+d) e) m)
theorem wH:Bz tx C P c x (T+1) y=cp (Bz tx C P c x T y+cp (wy (tx.length+1) (cr tx C P) (P.body.take x) c (c+T))*cr tx C P (P.body.getD x ⟨#[]⟩) (c+T) y):=Dq _ _
theorem Lq(t:iZ C)(b k e:Nat)(g:k<P.body.length)(c:b<tx.length+1)(j:e<tx.length+1):Bz tx C P b k (tx.length+1-b) e=cp (wy (tx.length+1) (cr tx C P) (P.body.take (k+1)) b e):=by
 rw[xP _ _ _ _ g c j];have i:sm (fun m=>wy (tx.length+1) (cr tx C P) (P.body.take k) b m*cr tx C P P.body[k] m e) (tx.length+1)=sm (fun d=>wy (tx.length+1) (cr tx C P) (P.body.take k) b (b+d)*cr tx C P P.body[k] (b+d) e) (tx.length+1-b):=by
  have:=JU (f:=fun m=>wy (tx.length+1) (cr tx C P) (P.body.take k) b m*cr tx C P P.body[k] m e) b (tx.length+1-b) (fun m l=>by show _*_=0;rw[Kn _ (fun s _ a b c=>jW P t s a b c) b m l,Tr]);rw[show b+(tx.length+1-b)=tx.length+1 by omega]at this;exact this
 unfold Bz;rw[i,MN,MN (fun d=>wy (tx.length+1) (cr tx C P) (P.body.take k) b (b+d)*cr tx C P P.body[k] (b+d) e),fT _ _ g];congr 1;refine ra (fun d _=>?_);rw[Hz,Hz (wy (tx.length+1) (cr tx C P) (P.body.take k) b (b+d)),lj (oM (wy (tx.length+1) (cr tx C P) (P.body.take k) b (b+d)))]
theorem Lr(t:iZ C)(b k m e:Nat)(h:e<b+m):Bz tx C P b k (m+1) e=Bz tx C P b k m e:=by
 rw[wH,jW P t _ _ _ h,Ub,QT];exact lj (oM _)
theorem Is(h:∀c i j,C c i j<=2)(s:ByteArray)(i j:Nat):cr tx C P s i j<=2:=by
 unfold cr;split
 ·exact h _ _ _
 ·split <;> omega
end
def jx(n:Nat):Nat:=if n<64 then n else 64
structure vZ(G n:Nat)(ls t:List ByteArray)(n':Nat)(ls':List ByteArray):Prop where
 a:n+t.length<=64->n'=n+t.length/\ls'=ls++t
 b:64<n+t.length->64<n'
 c:n<n'
 d:n'<=n+1+G*(jx n'-jx n)
 e:ls'.length<=ls.length+(jx n'-jx n)
structure KG(G k n:Nat)(ls t:List ByteArray)(n':Nat)(ls':List ByteArray):Prop where
 a:n+t.length<=64->n'=n+t.length/\ls'=ls++t
 b:64<n+t.length->64<n'
 c:n<=n'
 d:n'<=n+k+G*(jx n'-jx n)
 e:ls'.length<=ls.length+(jx n'-jx n)
theorem KG.first:KG x 0 T G [] T G :=
 ⟨fun _=>⟨rfl,by simp⟩,fun h=>by have:64<T+0:=h;omega,PQ _,by omega,by omega⟩
theorem s9(h:b<=H):jx b<=jx H:=by unfold jx;split <;> split <;> omega
theorem KG.next{f:Nat}{j k:List ByteArray}(h:KG b H o E B M j)(g:vZ b M j z0 f k):KG b (H+1) o E (B++z0) f k:=by
 have r:=s9 h.c;have s:=s9 (QU g.c);have n:b*(jx f-jx o)=b*(jx M-jx o)+b*(jx f-jx M):=by rw[<-Nat.mul_add];congr 1;omega
 have w:=h.c;have t:=g.c;have x:=h.d;have u:=g.d;have y:=h.e;have v:=g.e;refine⟨fun q=>?_,fun q=>?_,by omega,by rw[n];omega,by omega⟩
 ·rw[Qa]at q;obtain⟨l,i⟩:=h.a (by omega);obtain⟨p,m⟩:=g.a (by omega);exact⟨by rw[Qa];omega,by rw[m,i,QY]⟩
 ·rw[Qa]at q;by_cases z:o+B.length<=64
  ·obtain⟨l,i⟩:=h.a z;exact g.b (by omega)
  ·have:=h.b (by omega);omega
theorem vZ.node(h:KG b H (o+1) E B M z0)(t:H<=b)(n:o<64):vZ b o E (B++[m]) M (z0++[m]):=by
 have s:=h.c;have k:=h.d;have l:=h.e;have f:jx o=o:=by unfold jx;rw[PZ n]
 have r:o+1<=jx M:=by unfold jx;split <;> omega
 have g:jx (o+1)=o+1:=by unfold jx;split <;> omega
 have j:b*(jx M-o)=b+b*(jx M-(o+1)):=by
  rw[show jx M-o=1+(jx M-(o+1)) by omega,Nat.mul_add,Th]
 refine⟨fun q=>?_,fun q=>?_,by omega,?_,?_⟩
 ·rw[Qa]at q;replace q:o+(B.length+1)<=64:=q;obtain⟨p,i⟩:=h.a (by omega);exact⟨by rw[Qa];show M=o+(B.length+1);omega,by rw[i,QY]⟩
 ·rw[Qa]at q;replace q:64<o+(B.length+1):=q;exact h.b (by omega)
 ·rw[g]at k;rw[f,j];omega
 ·rw[g]at l;rw[Qa,f];show z0.length+1<=_;omega
theorem vZ.late(a:64<=H)(c:0<B.length):vZ b H E B (H+1) E :=
 ⟨fun q=>by omega,fun _=>by omega,by omega,by omega,by omega⟩
section
variable {tx:List ByteArray} {Ps:List cY} {C:kn} {i j:Nat}
theorem CW(h:uL tx Ps C){r:Nat}(b:i<tx.length+1)(c:j<tx.length+1)(a:C m i j=1):0<(pP tx Ps C (r+1) m i j).length:=by
 obtain⟨k,e,d,-⟩:=h.pick b c a;show 0<(match MX tx Ps C m i j with | none=>[] | some P=>_:List ByteArray).length;rw[d];simp
theorem xH{P:cY}(a:MX tx Ps C m i j=XK P):pP tx Ps C (b+1) m i j=((List.range P.vars.length).map (fun v=>pP tx Ps C b (P.types.getD v ⟨#[]⟩) (rd tx C P i j v).1 (rd tx C P i j v).2)).flatten++[P.label]:=by
 show(match MX tx Ps C m i j with | none=>[] | some P=>_:List ByteArray)=_
 rw[a]
end
def o8(f:Nat->List ByteArray)(k:Nat):List ByteArray:=((List.range k).map f).flatten
theorem vg(f:Nat->List ByteArray)(k:Nat):o8 f (k+1)=o8 f k++f k:=by
 unfold o8;rw[QM,QA,List.flatten_append];simp
section
variable {tx:List ByteArray} {Ps:List cY} {C D:kn}
def uu(tx:List ByteArray)(Ps:List cY)(C:kn)(r:Nat)(c:ByteArray):Int×List ByteArray :=
 if C c 0 tx.length=0 then(10,[])
 else if C c 0 tx.length=1 then(if 64<(pP tx Ps C r c 0 tx.length).length then(3,[]) else(0,pP tx Ps C r c 0 tx.length))
 else(11,[])
def qG(tx:List ByteArray)(Ps:List cY)(c:ByteArray)(res:Int×List ByteArray):Prop:=∃C r,uL tx Ps C/\(C c 0 tx.length=1->0<pS tx Ps r c 0 tx.length)/\res=uu tx Ps C r c
theorem LM(is:uL tx Ps C)(c:ByteArray):∃r,C c 0 tx.length=1->0<pS tx Ps r c 0 tx.length:=by
 obtain⟨n,a⟩:=is.low;exact⟨n,fun h=>by have:=a c 0 tx.length (by omega) (by omega);omega⟩
end
section
variable {d:Db}
def Pz:St:=⟨0,⟨#[]⟩,[],[],⟨⟨#[]⟩,0,0⟩,0⟩
def bL(l:List St)(n:Nat):St:=(l[n]?).getD Pz
theorem dO(h:b<F.length):bL F b=F[b]:=by unfold bL;rw[PJ h];rfl
def jN(L:List ByteArray)(x:ByteArray):Nat:=L.countP (fun y=>y.toList==x.toList)
def BN(s:St):cY:=⟨s.label,ax s,[ak s],[],[]⟩
def md(l:List St)(n:Nat):cY:=⟨(bL l n).label,ax (bL l n),(bL l n).Um.drop 1,(al l n).map (fun h=>ak (bL l h)),(al l n).map (fun h=>ax (bL l h))⟩
def j8(l:List St)(n:Nat):Bool:=(bN l n).isEmpty&&(al l n).all (fun h=>((bL l h).kind==2)&&(jN ((bL l n).Um.drop 1) (ak (bL l h))==1))
def dp(l:List St)(a:Nat):List cY:=((al l a).filter (fun h=>(bL l h).kind==2)).map (fun h=>BN (bL l h))++((List.range a).filter (fun n=>((bL l n).kind==4)&&j8 l n)).map (md l)
theorem Ns{α β:Type}{f:α->Option β}{g:α->β}{l:List α}(h:∀x∈l,f x=XK (g x)):l.filterMap f=l.map g:=by
 induction l with
 | nil=>rfl
 | cons x r b=>rw[QO,h x (by simp),Ru,b (fun y a=>h y (by simp[a]))]
theorem EG{α:Type}(L:List α)(p:α->Bool)(a b:Nat)(c:a<L.length)(g:b<L.length)(i:a≠b)(e:p L[a]=XL)(f:p L[b]=XL):2<=L.countP p:=by
 have d:∀(L:List α) (a:Nat) (c:a<L.length),p L[a]=XL->1<=L.countP p:=fun L a c h=>List.countP_pos_iff.2 ⟨_,PT c,h⟩
 induction L generalizing a b with
 | nil=>simp at c
 | cons y r j =>
  cases a with
  | zero =>
   cases b with
   | zero=>exact absurd rfl i
   | succ b =>
    rw[TU (show p y=XL from e)];have:=d r b (by simpa using g) f;omega
  | succ a =>
   cases b with
   | zero =>
    rw[TU (show p y=XL from f)];have:=d r a (by simpa using c) e;omega
   | succ b =>
    have:=j a b (by simpa using c) (by simpa using g) (by omega) e f;rw[List.countP_cons];omega
theorem j7(h:H∈al F b):H<F.length/\((bL F H).kind=2∨(bL F H).kind=3):=by
 unfold al cI at h;obtain⟨c,a⟩:=QL.1 h;have c:=Qe.1 c;refine⟨c,?_⟩;rw[dO c];rw[vk _ _ _ _ c,Qw]at a;have a:=a.2;unfold jp at a;split at a
 ·next d=>exact P0 (by simpa using d)
 ·exact P7 (by simpa using a)
theorem DZ(F:N6 d)(P:cY)(x:P∈dp d.UD b):kZ P:=by
 rcases Qo.1 x with h | h
 ·obtain⟨n,-,rfl⟩:=Qu.1 h;exact⟨rfl,(fun v a=>by exact absurd a (SE _)),fun v b p _ _ f=>by cases f⟩
 ·obtain⟨n,o,rfl⟩:=Qu.1 h;have g:=(QL.1 o).2;rw[Qw]at g;have g:=g.2;unfold j8 at g;rw[Qw,QR]at g;have u:(al d.UD n).map (fun h=>ak (bL d.UD h))=bt d.UD (al d.UD n):=by
   unfold bt;refine(Ns (fun h t=>?_)).symm;have m:=(j7 t).1;have c:=g.2 h t;rw[Qw]at c;unfold eK;rw[PJ m,dO m];rw[dO m]at c;simp[c.1]
  have i:ug (md d.UD n).vars:=by show ug ((al d.UD n).map _);rw[u];exact F.vsd
  have l:∀v,v<(md d.UD n).vars.length->jN (md d.UD n).body ((md d.UD n).vars.getD v ⟨#[]⟩)=1:=fun v a=>by
   have j:v<(al d.UD n).length:=(by have:v<((al d.UD n).map (fun h=>ak (bL d.UD h))).length:=a;simpa using this);have c:=g.2 _ (PT j);rw[Qw]at c;have e:(md d.UD n).vars.getD v ⟨#[]⟩=ak (bL d.UD (al d.UD n)[v]):=by
    show((al d.UD n).map (fun h=>ak (bL d.UD h))).getD v ⟨#[]⟩=_
    rw[PK,Qt,PJ j];rfl
   rw[e];exact Rr c.2
  refine⟨by show((al d.UD n).map _).length=((al d.UD n).map _).length;simp,fun v a=>?_,fun v b p r s f q=>?_⟩
  ·have f:=l v a;unfold jN at f;have:0<(md d.UD n).body.countP (fun y=>y.toList==((md d.UD n).vars.getD v ⟨#[]⟩).toList):=by omega
   obtain⟨y,A,z⟩:=List.countP_pos_iff.1 this;obtain⟨k,c,rfl⟩:=QN A;refine⟨k,c,?_⟩;rw[fT _ _ c,qj i a];exact mn (ed z).symm
  ·have a:v<(md d.UD n).vars.length:=Qe.1 (Qm f);rw[fT _ _ r,qj i a]at f;rw[fT _ _ s,qj i a]at q;refine Ro (fun o=>?_);have w:=l v a;unfold jN at w;have:=EG (md d.UD n).body (fun y=>y.toList==((md d.UD n).vars.getD v ⟨#[]⟩).toList) b p r s o (mn (ed f).symm) (mn (ed q).symm);omega
end
def iq(L K:Nat)(f:Nat->Nat->Nat):List Nat:=(List.range (L*K)).map (fun t=>f (t / K) (t % K))
theorem mA(a:b<o)(c:H<M):b*M+H<o*M:=by
 have:(b+1)*M<=o*M:=RS _ a;rw[SL]at this;omega
theorem lO(a:H<o):(b*o+H) / o=b:=by
 rw[R6,Uf (by omega),TQ a,QT]
theorem lP(a:H<o):(b*o+H) % o=H:=by
 rw[R6,Nat.mul_add_mod,Nat.mod_eq_of_lt a]
theorem p9:(iq u s N).length=u*s:=by simp[iq]
theorem ID(c:b<o)(a:H<M):(iq o M N)[b*M+H]?=XK (N b H):=by
 have:=mA c a;simp[iq,this,lO a,lP a]
def iW(f:Nat->Nat->Nat)(l c v:Nat):Nat->Nat->Nat:=fun a b=>if a=l/\b=c then v else f a b
theorem E7(k:b<o)(a:H<M):(iq o M N).set (b*M+H) y=iq o M (iW N b H y):=by
 have c:=mA k a;apply Q9;intro t;rw[R9];by_cases d:t<o*M
 ·have e:(iq o M (iW N b H y))[t]?=XK (iW N b H y (t / M) (t % M)):=by simp[iq,d]
  rw[e,p9];by_cases h:b*M+H=t
  ·subst h;rw[PZ rfl,PZ c,lO a,lP a];simp[iW]
  ·rw[PV h];have l:¬(t / M=b/\t % M=H):=by
    rintro ⟨i,j⟩;have:=Nat.div_add_mod t M;rw[i,j,R6]at this;exact h this
   simp[iq,d,iW,l]
 ·have f:(iq o M N)[t]?=XJ:=QP (by rw[p9];omega);have g:(iq o M (iW N b H y))[t]?=XJ:=QP (by rw[p9];omega);rw[f,g,PV (by omega)]
theorem E6{f g:Nat->Nat->Nat}(h:∀l c,l<b->c<H->f l c=g l c):iq b H f=iq b H g:=by
 refine QX (fun t a=>?_);have a:=Qe.1 a;have d:0<H:=Nat.pos_of_ne_zero (fun e=>by rw[e,Ub]at a;omega);exact h _ _ (Tk (by rw[R6];exact a)) (Nat.mod_lt _ d)
structure bC(w:XP)(g a L K:Nat)(f:Nat->Nat->Nat):Prop where
 blk:w.heap[g]?=XK (XE #[Xx XF L,Xx XF K,Xz (XK ⟨a,0,XJ⟩) (L*K) (L*K)] 211)
 arr:Oe w a (iq L K f)
 ne:a≠g
section
variable {w w':XP} {g a L K:Nat} {f f':Nat->Nat->Nat}
theorem bC.kept{S:List Nat}(h:bC w g a L K f)(k:aa S w w')(b:g∉S)(c:a∉S):bC w' g a L K f:=⟨k.get h.blk b,k.get h.arr c,h.ne⟩
theorem bC.Ur(h:bC w g a L K f)(k:aa [] w w'):bC w' g a L K f:=h.kept k (by simp) (by simp)
theorem bC.ext(h:bC w g a L K f)(e:∀l c,l<L->c<K->f l c=f' l c):bC w g a L K f':=⟨h.blk,by rw[<-E6 e];exact h.arr,h.ne⟩
theorem bC.lt(h:bC w g a L K f):g<w.heap.size/\a<w.heap.size:=⟨ae h.blk,ae h.arr⟩
theorem bC.cells(h:bC w g a L K f):XI w ⟨g,0,XJ⟩=XK (Xx XF L)/\XI w ⟨g,1,XJ⟩=XK (Xx XF K)/\XI w ⟨g,2,XJ⟩=XK (Xz (XK ⟨a,0,XJ⟩) (L*K) (L*K)):=by
 refine⟨?_,?_,?_⟩ <;> (rw[ab h.blk];rfl)
theorem bC.cell(h:bC w g a L K f)(d:b<L)(c:H<K):XI w ⟨a,b*K+H,XJ⟩=XK (Xx XF (f b H)):=by
 rw[ab h.arr];simp[fV,ID f d c]
theorem bC.set(h:bC w g a L K f)(v:Nat)(d:b<L)(c:H<K):bC (w.setCell ⟨a,b*K+H,XJ⟩ (Xx XF v)) g a L K (iW f b H v):=by
 refine⟨?_,?_,h.ne⟩
 ·rw[P9 _ _ _ _ (fun e=>h.ne e.symm)];exact h.blk
 ·show _=_;rw[af h.arr,QQ,<-E7 f v d c];simp[fV,List.map_set]
end
theorem lW(u:x<=1000000)(t:T<=1000) :
  XO prog 103 #[Xx XF x,Xx XF T] I fun e p=>∃g a,e=XH (XA (XK ⟨g,0,XJ⟩))/\bC p g a x T (fun _ _=>0)/\I.heap.size<=g/\I.heap.size<=a/\aa [] I p:=by
 obtain⟨y,i,j,k,l⟩:=Qq IJ;have v:x*T<=1000000*1000:=Q3 u t;have r:XN (iq x T (fun _ _=>0)=List.replicate (x*T) 0):=by
  show _=_;unfold iq;rw[List.map_const'];simp
 obtain⟨n,d⟩:∃n,x*T=n:=⟨_,rfl⟩
 have w:(x:Int)*(T:Int)=(n:Int):=by rw[<-d];simp
 have A:=fun I=>bR (P:=prog) I 46 3 y _ underlying46 i j n 1 k (by rw[l];omega) (by omega);obtain⟨b,c⟩:∃b,XN (madeCells (Xx XF 0).cells (n*1)=b):=⟨_,rfl⟩
 have f:XN (b=(fV (iq x T (fun _ _=>0))).toArray):=by show _=_;rw[r.out,d,<-c.out,Fq]
 rw[c.out]at A;rw[d]at v;have q:XN _:=d;clear d;go_enter func103,ntmps103;go_wp2;go_ret;have z:aa [] I (I.alloc (XE b 3)):=(aa.refl [] _).alloc _;have o:aa [] (I.alloc (XE b 3)) ((I.alloc (XE b 3)).alloc (XE #[Xx XF x,Xx XF T,Xz (XK ⟨I.heap.size,0,XJ⟩) n n] 211)):=(aa.refl [] _).alloc _;have s:(I.alloc (XE b 3)).heap[I.heap.size]?=XK (XE b 3):=PM _ _;have m:=PM (I.alloc (XE b 3)) (XE #[Xx XF x,Xx XF T,Xz (XK ⟨I.heap.size,0,XJ⟩) n n] 211);rw[show(I.alloc (XE b 3)).heap.size=I.heap.size+1 by simp]at m;refine⟨I.heap.size+1,I.heap.size,rfl,⟨by rw[q.out];exact m,?_,by omega⟩,by omega,by omega,z.trans o⟩;show _=_;rw[<-f.out];exact o.get s (by simp)
theorem zi(h:bC I A z u s N)(k:u<=1000000)(c:s<=1000)(m:x<u)(l:T<s) :
  XO prog 128 #[XA (XK ⟨A,0,XJ⟩),Xx XF x,Xx XF T] I fun e g=>e=XH (Xx XF (x*s+T:Nat))/\g=I:=by
 obtain⟨i,j,-⟩:=h.cells;have d:=h.lt.1;have a:x*s<=1000000*1000:=Q3 (by omega) c;obtain⟨q,b⟩:∃q,x*s=q:=⟨_,rfl⟩
 have f:(x:Int)*(s:Int)=(q:Int):=by rw[<-b];simp
 rw[b]at a ⊢;clear h b;go_enter func128,ntmps128;go_wp2;go_ret;exact⟨ay (by go_num),rfl⟩
theorem Fb(b:t<0) :
  XO prog 128 #[XA (XK ⟨x,0,XJ⟩),Xx XF t,Xx XF T] I fun e a=>e=XH (Xx XF (-1))/\a=I:=by
 go_enter func128,ntmps128;go_wp2;go_ret;exact⟨rfl,rfl⟩
theorem uM(h:bC I A z u s N)(g:u<=1000000)(f:s<=1000)(d:x<u)(c:T<s) :
  XO prog 106 #[XA (XK ⟨A,0,XJ⟩),Xx XF x,Xx XF T] I fun e o=>e=XH (Xx XF (N x T))/\o=I:=by
 have b:XN _:=zi A z u s N x T I h g f d c;obtain⟨-,-,p⟩:=h.cells;have r:=h.cell d c;obtain⟨k,i⟩:=h.lt;have l:=mA d c;have j:u*s<=1000000*1000:=Q3 g f;generalize x*s+T=q at *;generalize u*s=n at *;generalize N x T=v at *;have m:(q:Int)<(n:Int):=by omega
 clear h;go_enter func106,ntmps106;go_wp2_with (go_at_call 128;refine PU b.out ?_;rintro e t ⟨rfl,a⟩;rw[a];clear a);go_ret;exact⟨rfl,rfl⟩
theorem Nf(c:t<0) :
  XO prog 106 #[XA (XK ⟨x,0,XJ⟩),Xx XF t,Xx XF T] I fun e d=>e=XH (Xx XF 0)/\d=I:=by
 have b:XN _:=Fb x t T I c;go_enter func106,ntmps106;go_wp2_with (go_at_call 128;refine PU b.out ?_;rintro e f ⟨rfl,a⟩;rw[a];clear a);go_ret;exact⟨rfl,rfl⟩
def qY(v:Nat)(m:Int):Nat:=if 0<m then cp (v+m.toNat) else v
theorem qk(h:bC I A z u s N)(G:u<=1000000)(F:s<=1000)(m:c<u)(l:x<s)(S:N c x<=2)(Y:-2<=t/\t<=4) :
  XO prog 127 #[XA (XK ⟨A,0,XJ⟩),Xx XF c,Xx XF x,Xx XF t] I fun e H=>e=XH (XC (decide (0<t) && !(N c x==2)))/\bC H A z u s (iW N c x (qY (N c x) t))/\aa [z] I H:=by
 have d:XN _:=zi A z u s N c x I h G F m l;obtain⟨V,W,M⟩:=h.cells;have E:=h.cell m l;obtain⟨P,O⟩:=h.lt;have Q:=h.ne;have o:=mA m l;have w:u*s<=1000000*1000:=Q3 G F;have f:XN (∀v:Nat,bC (I.setCell ⟨z,c*s+x,XJ⟩ (Xx XF v)) A z u s (iW N c x v)):=fun v=>h.set v m l;have g:XN (∀v r:Nat,bC ((I.setCell ⟨z,c*s+x,XJ⟩ (Xx XF v)).setCell ⟨z,c*s+x,XJ⟩ (Xx XF r)) A z u s (iW N c x r)):=fun v r=>((h.set v m l).set r m l).ext (fun T y _ _=>by unfold iW;split <;> rfl);have b:XN (N c x=qY (N c x) t->bC I A z u s (iW N c x (qY (N c x) t))):=fun e=>h.ext (fun T y _ _=>by unfold iW;split <;> first | (next q=>rw[q.1,q.2];exact e) | rfl);have B:I.frozen? ⟨z,c*s+x,XJ⟩=XM:=aw h.arr _;have U:XN _:=h;obtain⟨v,L⟩:∃v,XN (N c x=v):=⟨_,rfl⟩
 rw[L.out]at E S b ⊢;obtain⟨q,K⟩:∃q,XN (c*s+x=q):=⟨_,rfl⟩
 rw[K.out]at E o d f g B;obtain⟨n,J⟩:∃n,XN (u*s=n):=⟨_,rfl⟩
 rw[J.out]at M o w;have R:(q:Int)<(n:Int):=by omega
 clear h;by_cases k:0<t
 ·by_cases p:v=2
  ·have C:((v:Int)==2)=XL:=(by simp[p]);have i:XN (v=qY v t):=(by show _=_;unfold qY;rw[PZ k,p];unfold cp;rw[PZ (by omega)]);have j:XN ((decide (0<t) && !(v==2))=XM):=(by show _=_;simp[p]);go_enter func127,ntmps127;go_wp2_with (go_at_call 128;refine PU d.out ?_;rintro e D ⟨rfl,a⟩;rw[a];clear a);go_ret;exact⟨aH j.out.symm,b.out i.out,aa.refl _ _⟩
  ·have C:((v:Int)==2)=XM:=Qi.2 (by omega);have j:XN ((decide (0<t) && !(v==2))=XL):=(by show _=_;simp[p,k]);by_cases X:2<(v:Int)+t
   ·have i:XN (qY v t=2):=(by show _=_;unfold qY cp;rw[PZ k,PZ (by omega)]);go_enter func127,ntmps127;go_wp2_with (go_at_call 128;refine PU d.out ?_;rintro e D ⟨rfl,a⟩;rw[a];clear a);go_ret;refine⟨aH j.out.symm,?_,((aa.refl [z] I).setCell (P0 (by simp)) _).setCell (P0 (by simp)) _⟩;have:=g.out (v+t.toNat) 2;rw[show(((v+t.toNat:Nat)):Int)=(v:Int)+t by omega]at this;rw[i.out];exact this
   ·have i:XN ((qY v t:Int)=v+t):=(by show _=_;unfold qY cp;rw[PZ k,PV (by omega)];omega);go_enter func127,ntmps127;go_wp2_with (go_at_call 128;refine PU d.out ?_;rintro e D ⟨rfl,a⟩;rw[a];clear a);go_ret;refine⟨aH j.out.symm,?_,(aa.refl [z] I).setCell (P0 (by simp)) _⟩;have:=f.out (qY v t);rw[i.out]at this;exact this
 ·have i:XN (v=qY v t):=by show _=_;unfold qY;rw[PV k]
  have j:XN ((decide (0<t) && !(v==2))=XM):=by show _=_;simp[k]
  go_enter func127,ntmps127;go_wp2_with (go_at_call 128;refine PU d.out ?_;rintro e D ⟨rfl,a⟩;rw[a];clear a);go_ret;exact⟨aH j.out.symm,b.out i.out,aa.refl _ _⟩
end Go.Proofs.YtnbalopedcgpcaaGreat
