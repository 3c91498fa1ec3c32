import Derived.Test.YtpdholcaobgofaaGreatP07
namespace Go.Proofs.YtpdholcaobgofaaGreat
open Go.RowKit Tryz
open Value IntKind Ending
set_option maxHeartbeats 0
variable{d:Nat->Nat}{w H y o:Nat}{b:Xr}{I L m:Xs}(s:Xr)(M x:Nat)(N:Xs)(a:Nat->Nat)(T:Nat)
def sm(f:Nat->Nat):Nat->Nat
 | 0=>0
 | n+1=>sm f n+f n
theorem uM{g:Nat->Nat}{n:Nat}(h:∀k,k<n->d k=g k):sm d n=sm g n:=by
 induction n with
 | zero=>rfl
 | succ n a=>show sm d n+d n=sm g n+g n;rw[a (fun k b=>h k (by omega)),h n (by omega)]
theorem Dy{f g:Nat->Nat}{n:Nat}(h:∀k,k<n->f k<=g k):sm f n<=sm g n:=by
 induction n with
 | zero=>exact Xy _
 | succ n a=>exact Nat.add_le_add (a (fun k b=>h k (by omega))) (h n (by omega))
theorem zbe(g:Nat->Nat)(n:Nat):sm (fun k=>a k+g k) n=sm a n+sm g n:=by
 induction n with
 | zero=>rfl
 | succ n b=>show sm _ n+(a n+g n)=(sm a n+a n)+(sm g n+g n);rw[b];omega
theorem TF(n:Nat):sm (fun k=>x*a k) n=x*sm a n:=by
 induction n with
 | zero=>rfl
 | succ n b=>show sm _ n+x*a n=x*(sm a n+a n);rw[b,Nat.mul_add]
theorem Wr:sm (fun k=>a k*x) T=sm a T*x:=by
 rw[ZF,<-TF];exact uM (fun k _=>ZF _ _)
theorem Bm{n:Nat}(h:∀k,k<n->d k=0):sm d n=0:=by
 induction n with
 | zero=>rfl
 | succ n a=>show sm d n+d n=0;rw[a (fun k b=>h k (by omega)),h n (by omega)]
theorem Ws(f:Nat->Nat->Nat)(n m:Nat):sm (fun i=>sm (fun j=>f i j) m) n=sm (fun j=>sm (fun i=>f i j) n) m:=by
 induction n with
 | zero=>exact(Bm (fun _ _=>rfl)).symm
 | succ n a=>show sm _ n+sm _ m=sm (fun j=>sm (fun i=>f i j) n+f n j) m;rw[a,zbe]
theorem yJ{f:Nat->Nat}{n k:Nat}(b:k<n):f k<=sm f n:=by
 induction n with
 | zero=>omega
 | succ n a =>
  show f k<=sm f n+f n;by_cases e:k=n
  ·rw[e];omega
  ·have:=a (by omega);omega
theorem zbf{f:Nat->Nat}{n:Nat}(d:w<n)(g:H<n)(b:w≠H):f w+f H<=sm f n:=by
 induction n with
 | zero=>omega
 | succ n c =>
  show f w+f H<=sm f n+f n;by_cases e:w=n
  ·have:=yJ (f:=f) (n:=n) (k:=H) (by omega);rw[e];omega
  ·by_cases a:H=n
   ·have:=yJ (f:=f) (n:=n) (k:=w) (by omega);rw[a];omega
   ·have:=c (by omega) (by omega);omega
theorem Li{f:Nat->Nat}{n:Nat}(h:0<sm f n):∃k,k<n/\0<f k:=by
 induction n with
 | zero=>exact absurd h (by show ¬0<0;omega)
 | succ n b =>
  have h:0<sm f n+f n:=h;by_cases e:0<f n
  ·exact⟨n,by omega,e⟩
  ·obtain⟨k,c,a⟩:=b (by omega);exact⟨k,by omega,a⟩
theorem TE{n k:Nat}(g:k<n)(h:∀i,i<n->i≠k->d i=0):sm d n=d k:=by
 induction n with
 | zero=>omega
 | succ n f =>
  show sm d n+d n=d k;by_cases e:k=n
  ·subst e;rw[Bm (fun i a=>h i (by omega) (by omega))];omega
  ·rw[f (by omega) (fun i a b=>h i (by omega) b),h n (by omega) (fun c=>e c.symm)];omega
def cp(n:Nat):Nat:=if 2<n then 2 else n
theorem oY:cp T<=2:=by unfold cp;split <;> omega
theorem pL(h:w<=2):cp w=w:=by unfold cp;rw[Xz (by omega)]
theorem UV(h:w<=H):cp w<=cp H:=by unfold cp;split <;> split <;> omega
theorem Q8:cp (x+T)=cp (cp x+cp T):=by unfold cp;(repeat' split) <;> omega
theorem zn:cp (x+T)=cp (cp x+T):=by unfold cp;(repeat' split) <;> omega
theorem Eg:cp (x+T)=cp (x+cp T):=by unfold cp;(repeat' split) <;> omega
theorem Eh:cp (x*T)=cp (cp x*cp T):=by
 by_cases b:x<=2
 ·by_cases a:T<=2
  ·rw[pL b,pL a]
  ·have e:cp T=2:=(by unfold cp;rw[XA (by omega)]);rw[pL b,e];have:x=0∨x=1∨x=2:=by omega
   rcases this with rfl | rfl | rfl
   ·simp
   ·rw[Nat.one_mul,e];rfl
   ·unfold cp;rw[XA (by omega)];rfl
 ·have e:cp x=2:=by unfold cp;rw[XA (by omega)]
  rw[e];by_cases a:T<=2
  ·rw[pL a];have:T=0∨T=1∨T=2:=(by omega);rcases this with rfl | rfl | rfl
   ·simp
   ·rw[ZN,e];rfl
   ·unfold cp;rw[XA (by omega)];rfl
  ·have c:cp T=2:=(by unfold cp;rw[XA (by omega)]);rw[c];have:2*T<=x*T:=ZM T (by omega);have d:cp (2*2)=2:=rfl;rw[d];unfold cp;rw[XA (by omega)]
theorem Mi(n:Nat):cp (sm a n)=cp (sm (fun k=>cp (a k)) n):=by
 induction n with
 | zero=>rfl
 | succ n b=>show cp (sm a n+a n)=cp (sm (fun k=>cp (a k)) n+cp (a n));rw[Q8,b,<-Q8,Eg]
theorem Q9:cp w=1 ↔ w=1:=by unfold cp;split <;> omega
theorem Ra:0<cp w ↔ 0<w:=by unfold cp;split <;> omega
section
variable {α:Type} (S:Nat) (f:α->Nat->Nat->Nat)
def wy:List α->Nat->Nat->Nat
 | [],i,j=>if i=j then 1 else 0
 | a :: r,i,j=>sm (fun m=>f a i m*wy r m j) S
end
section
variable {α:Type} {S:Nat} {f g:α->Nat->Nat->Nat}
theorem Ut(a b:List α)(i j:Nat)(c:i<S):wy S f (a++b) i j=sm (fun m=>wy S f a i m*wy S f b m j) S:=by
 induction a generalizing i with
 | nil =>
  rw[ZJ,TE c (fun m _ g=>by show(if i=m then 1 else 0)*_=0;rw[Xz (fun e=>g e.symm)];simp)];show _=(if i=i then 1 else 0)*_;rw[XA rfl,Nat.one_mul]
 | cons x r l =>
  show sm (fun m=>f x i m*wy S f (r++b) m j) S=sm (fun m=>sm (fun k=>f x i k*wy S f r k m) S*wy S f b m j) S;rw[uM (fun m d=>by rw[l m d]),show sm (fun m=>sm (fun k=>f x i k*wy S f r k m) S*wy S f b m j) S=sm (fun m=>sm (fun k=>f x i k*wy S f r k m*wy S f b m j) S) S from uM (fun m _=>(Wr _ _ _).symm),Ws];refine uM (fun m _=>?_);rw[<-TF];exact uM (fun k _=>(Nat.mul_assoc _ _ _).symm)
theorem zbu(x:α)(i j:Nat)(a:j<S):wy S f [x] i j=f x i j:=by
 show sm (fun m=>f x i m*(if m=j then 1 else 0)) S=_;rw[TE a (fun m _ b=>by rw[Xz b,Zar]),XA rfl,ZN]
theorem WO(a:List α)(x:α)(i j:Nat)(b:i<S)(c:j<S):wy S f (a++[x]) i j=sm (fun m=>wy S f a i m*f x m j) S:=by
 rw[Ut a [x] i j b];exact uM (fun m _=>by rw[zbu x m j c])
theorem wZ(a:List α)(h:∀x∈a,∀i j,i<S->j<S->f x i j<=g x i j)(i j:Nat)(c:i<S):wy S f a i j<=wy S g a i j:=by
 induction a generalizing i with
 | nil=>exact Xy _
 | cons x r e=>exact Dy (fun m b=>YF (h x (by simp) i m c b) (e (fun y d=>h y (by simp[d])) m b))
theorem BJ(a:List α)(h:∀x∈a,∀i j,j<i->f x i j=0)(i j:Nat)(d:j<i):wy S f a i j=0:=by
 induction a generalizing i with
 | nil=>show(if i=j then 1 else 0)=0;rw[Xz (by omega)]
 | cons x r c =>
  refine Bm (fun m _=>?_);by_cases e:m<i
  ·rw[h x (by simp) i m e,Zn]
  ·rw[c (fun y b=>h y (by simp[b])) m (by omega),Zar]
theorem Uu(a:List α)(k i j:Nat)(b:i<S):wy S f a i j=sm (fun m=>wy S f (a.take k) i m*wy S f (a.drop k) m j) S:=by
 rw[<-Ut _ _ _ _ b,Z5]
theorem zy(a:List α)(k m j:Nat)(b:k<a.length):wy S f (a.drop k) m j=sm (fun q=>f a[k] m q*wy S f (a.drop (k+1)) q j) S:=by
 rw[X0 b];rfl
theorem zz(a:List α)(k i q:Nat)(c:k<a.length)(b:i<S)(d:q<S):wy S f (a.take (k+1)) i q=sm (fun m=>wy S f (a.take k) i m*f a[k] m q) S:=by
 rw[Yc c,WO _ _ _ _ b d]
theorem vn(h:w*H=1):w=1/\H=1:=⟨Nat.eq_one_of_mul_eq_one_right h,Nat.eq_one_of_mul_eq_one_left h⟩
theorem Dx(h:sm d w=1):∃m,m<w/\d m=1/\∀q,q<w->0<d q->q=m:=by
 obtain⟨m,a,i⟩:=Li (f:=d) (n:=w) (by omega);have e:=yJ (f:=d) a;refine⟨m,a,by omega,fun q c g=>?_⟩;refine ZI (fun b=>?_);have:=zbf (f:=d) c a b;omega
theorem Rc(a:List α)(i j:Nat)(e:i<S)(b:wy S f a i j=1)(k:Nat):∃m,m<S/\wy S f (a.take k) i m=1/\wy S f (a.drop k) m j=1/\∀q,q<S->0<wy S f (a.take k) i q->0<wy S f (a.drop k) q j->q=m:=by
 rw[Uu a k i j e]at b;obtain⟨m,g,l,o⟩:=Dx b;obtain⟨p,r⟩:=vn l;exact⟨m,g,p,r,fun q n c d=>o q n (Nat.mul_pos c d)⟩
theorem Rd(a:List α)(i j:Nat)(c:i<S)(s:wy S f a i j=1)(k:Nat)(d:k<a.length)(m q:Nat)(t:m<S)(v:q<S)(n:wy S f (a.take k) i m=1)(b:wy S f (a.drop k) m j=1)(w:wy S f (a.take (k+1)) i q=1)(x:wy S f (a.drop (k+1)) q j=1):f a[k] m q=1:=by
 rw[zy a k m j d]at b;obtain⟨z,g,u,-⟩:=Dx b;obtain⟨l,A⟩:=vn u;have o:0<wy S f (a.take (k+1)) i z:=by
  rw[zz a k i z d c g];have:=yJ (f:=fun m=>wy S f (a.take k) i m*f a[k] m z) t;simp only[n,l]at this;omega
 obtain⟨y,-,-,-,e⟩:=Rc a i j c s (k+1);have p:=e z g o (by omega);have r:=e q v (by omega) (by omega);rw[r,<-p];exact l
theorem WH(a:List α)(i j:Nat)(e:i<S)(h:0<wy S f a i j)(k:Nat)(g:k<a.length):∃m q,m<S/\q<S/\0<wy S f (a.take k) i m/\0<f a[k] m q/\0<wy S f (a.drop (k+1)) q j:=by
 rw[Uu a k i j e]at h;obtain⟨m,l,d⟩:=Li h;have c:0<wy S f (a.drop k) m j:=ZaV d;rw[zy a k m j g]at c;obtain⟨q,n,b⟩:=Li c;exact⟨m,q,l,n,ZaR d,ZaR b,ZaV b⟩
end
structure dZ where
 Zbz:Xr
 code:Xr
 body:Xs
 vars:Xs
 types:Xs
abbrev pB:=ByteArray->Nat->Nat->Nat
def bX(tx:Xs)(C:pB)(P:dZ)(s:Xr)(i j:Nat):Nat :=
 match bZ P.vars s with
 | some v=>C (P.types.getD v ⟨#[]⟩) i j
 | none=>if j=i+1/\i<tx.length/\((tx.getD i ⟨#[]⟩).toList==s.toList)=true then 1 else 0
def mI(tx:Xs)(C:pB)(P:dZ)(i j:Nat):Nat:=wy (tx.length+1) (bX tx C P) P.body i j
def ze(f:dZ->Nat):List dZ->Nat
 | []=>0
 | P :: r=>f P+ze f r
def xc(tx:Xs)(C:pB)(c:Xr)(i j:Nat)(P:dZ):Nat:=if P.code.toList==c.toList then mI tx C P i j else 0
def FC(tx:Xs)(Ps:List dZ)(C:pB):pB:=fun c i j=>cp (ze (xc tx C c i j) Ps)
def BK(tx:Xs)(Ps:List dZ):Nat->pB
 | 0=>fun _ _ _=>0
 | n+1=>FC tx Ps (BK tx Ps n)
def DO(S:Nat)(C D:pB):Prop:=∀c i j,i<S->j<S->C c i j<=D c i j
theorem Lg{f g:dZ->Nat}{l:List dZ}(h:∀P∈l,f P<=g P):ze f l<=ze g l:=by
 induction l with
 | nil=>exact Xy _
 | cons P r b=>exact Nat.add_le_add (h P (by simp)) (b (fun Q a=>h Q (by simp[a])))
theorem Lf{f:dZ->Nat}{l:List dZ}(k:Nat)(a:k<l.length):f l[k]<=ze f l:=by
 induction l generalizing k with
 | nil=>simp at a
 | cons P r b =>
  cases k with
  | zero=>show f P<=f P+_;omega
  | succ k=>show f (r[k]'(by simpa using a))<=f P+ze f r;have:=b k (by simpa using a);omega
theorem Wq{f:dZ->Nat}{l:List dZ}(k m:Nat)(c:k<l.length)(d:m<l.length)(e:k≠m):f l[k]+f l[m]<=ze f l:=by
 induction l generalizing k m with
 | nil=>simp at c
 | cons P r g =>
  cases k with
  | zero =>
   cases m with
   | zero=>exact absurd rfl e
   | succ m=>show f P+f (r[m]'(by a b d))<=f P+ze f r;have:=Lf (f:=f) m (by a b d:m<r.length);omega
  | succ k =>
   cases m with
   | zero=>show f (r[k]'(by a b c))+f P<=f P+ze f r;have:=Lf (f:=f) k (by a b c:k<r.length);omega
   | succ m=>show f (r[k]'(by a b c))+f (r[m]'(by a b d))<=f P+ze f r;have:=g k m (by a b c) (by a b d) (by omega);omega
theorem Na{f:dZ->Nat}{l:List dZ}(h:0<ze f l):∃k,∃a:k<l.length,0<f l[k]:=by
 induction l with
 | nil=>exact absurd h (Z1 _)
 | cons P r c =>
  by_cases e:0<f P
  ·exact⟨0,by simp,e⟩
  ·have h:0<f P+ze f r:=h;obtain⟨k,a,b⟩:=c (by omega);exact⟨k+1,by simpa using a,b⟩
theorem M8(f:dZ->Nat)(a b:List dZ):ze f (a++b)=ze f a+ze f b:=by
 induction a with
 | nil=>simp[ze]
 | cons P r c=>show f P+ze f (r++b)=f P+ze f r+ze f b;rw[c];omega
section
variable {tx:Xs} {Ps:List dZ} {C D:pB}
theorem oK(P:dZ)(s:Xr)(h:DO (tx.length+1) C D)(i j:Nat)(a:i<tx.length+1)(b:j<tx.length+1):bX tx C P s i j<=bX tx D P s i j:=by
 unfold bX;split
 ·exact h _ _ _ a b
 ·exact Xy _
theorem Jk(P:dZ)(h:DO (tx.length+1) C D)(i j:Nat)(e:i<tx.length+1):mI tx C P i j<=mI tx D P i j :=
 wZ _ (fun s _ a b c d=>oK P s h a b c d) i j e
theorem Ur(P:dZ)(h:DO (tx.length+1) C D)(i j:Nat)(a:i<tx.length+1):xc tx C s i j P<=xc tx D s i j P:=by
 unfold xc;split
 ·exact Jk P h i j a
 ·exact Xy _
theorem rd(h:DO (tx.length+1) C D):DO (tx.length+1) (FC tx Ps C) (FC tx Ps D):=fun c i j a _=>UV (Lg (fun P _=>Ur c P h i j a))
theorem WQ(n:Nat):DO (tx.length+1) (BK tx Ps n) (BK tx Ps (n+1)):=by
 induction n with
 | zero=>exact fun _ _ _ _ _=>XX _
 | succ n a=>exact rd a
theorem DO.trans{A B E:pB}(h:DO w A B)(g:DO w B E):DO w A E:=fun c i j a b=>XF (h c i j a b) (g c i j a b)
structure yT(tx:Xs)(Ps:List dZ)(C:pB):Prop where
 fix:∀c i j,i<tx.length+1->j<tx.length+1->C c i j=FC tx Ps C c i j
 low:∃n,DO (tx.length+1) C (BK tx Ps n)
theorem yT.above(h:yT tx Ps C)(n:Nat):DO (tx.length+1) (BK tx Ps n) C:=by
 induction n with
 | zero=>exact fun _ _ _ _ _=>XX _
 | succ n d=>intro c i j a b;rw[h.fix c i j a b];exact rd d c i j a b
theorem yT.uniq(h:yT tx Ps C)(g:yT tx Ps D)(c:Xr)(i j:Nat)(a:i<tx.length+1)(b:j<tx.length+1):C c i j=D c i j:=by
 obtain⟨n,e⟩:=h.low;obtain⟨m,d⟩:=g.low;exact Z0 (((e.trans (g.above n))) c i j a b) ((d.trans (h.above m)) c i j a b)
theorem xx(P:dZ)(s:Xr)(h:∀c i j,i<tx.length+1->j<tx.length+1->C c i j=D c i j)(i j:Nat)(a:i<tx.length+1)(b:j<tx.length+1):bX tx C P s i j=bX tx D P s i j :=
 Z0 (oK P s (fun c i j a b=>Y5 (h c i j a b)) i j a b) (oK P s (fun c i j a b=>Y5 (h c i j a b).symm) i j a b)
theorem yT.prod(h:yT tx Ps C)(n:w<tx.length+1)(o:H<tx.length+1)(j:C b w H=1) :
  ∃k,∃a:k<Ps.length,(Ps[k].code.toList==b.toList)=true/\mI tx C Ps[k] w H=1/\∀m,∀g:m<Ps.length,(Ps[m].code.toList==b.toList)=true->0<mI tx C Ps[m] w H->m=k:=by
 have e:=h.fix b w H n o;rw[j]at e;have e:=Q9.1 e.symm;obtain⟨k,a,i⟩:=Na (f:=xc tx C b w H) (l:=Ps) (by omega);have d:(Ps[k].code.toList==b.toList)=true:=by
  unfold xc at i;split at i
  ·next q=>exact q
  ·omega
 have r:xc tx C b w H Ps[k]=mI tx C Ps[k] w H:=by unfold xc;rw[XA d]
 have:=Lf (f:=xc tx C b w H) k a;refine⟨k,a,d,by rw[<-r];omega,fun m g c t=>?_⟩;refine ZI (fun p=>?_);have u:=Wq (f:=xc tx C b w H) m k g a p;have s:xc tx C b w H Ps[m]=mI tx C Ps[m] w H:=by unfold xc;rw[XA c]
 omega
end
def od(tx:Xs)(C:pB)(P:dZ)(i j k:Nat):Nat :=
 ((List.range (tx.length+1)).find? (fun m=>decide (0<wy (tx.length+1) (bX tx C P) (P.body.take k) i m)&&decide (0<wy (tx.length+1) (bX tx C P) (P.body.drop k) m j))).getD 0
def sx(P:dZ)(v:Nat):Nat:=((List.range P.body.length).find? (fun k=>bZ P.vars (P.body.getD k ⟨#[]⟩)==some v)).getD 0
def pn(tx:Xs)(C:pB)(P:dZ)(i j v:Nat):Nat×Nat:=(od tx C P i j (sx P v),od tx C P i j (sx P v+1))
def MS(tx:Xs)(Ps:List dZ)(C:pB)(c:Xr)(i j:Nat):Option dZ:=Ps.find? (fun P=>(P.code.toList==c.toList)&&decide (0<mI tx C P i j))
def pJ(tx:Xs)(Ps:List dZ)(C:pB):Nat->Xr->Nat->Nat->Xs
 | 0,_,_,_=>[]
 | n+1,c,i,j =>
  match MS tx Ps C c i j with
  | none=>[]
  | some P=>((List.range P.vars.length).map (fun v=>pJ tx Ps C n (P.types.getD v ⟨#[]⟩) (pn tx C P i j v).1 (pn tx C P i j v).2)).flatten++[P.Zbz]
structure ki(P:dZ):Prop where
 len:P.types.length=P.vars.length
 occ:∀v,v<P.vars.length->∃k,k<P.body.length/\bZ P.vars (P.body.getD k ⟨#[]⟩)=some v
 one:∀v a b,a<P.body.length->b<P.body.length->bZ P.vars (P.body.getD a ⟨#[]⟩)=some v->bZ P.vars (P.body.getD b ⟨#[]⟩)=some v->a=b
section
variable {tx:Xs} {Ps:List dZ} {C:pB} {P:dZ} {i j:Nat}
theorem lm(p:i<tx.length+1)(n:mI tx C P i j=1)(k:Nat):od tx C P i j k<tx.length+1/\wy (tx.length+1) (bX tx C P) (P.body.take k) i (od tx C P i j k)=1/\wy (tx.length+1) (bX tx C P) (P.body.drop k) (od tx C P i j k) j=1 /\
  ∀q,q<tx.length+1->0<wy (tx.length+1) (bX tx C P) (P.body.take k) i q->0<wy (tx.length+1) (bX tx C P) (P.body.drop k) q j->q=od tx C P i j k:=by
 obtain⟨m,g,c,d,l⟩:=Rc (S:=tx.length+1) (f:=bX tx C P) P.body i j p n k;have e:od tx C P i j k=m:=by
  unfold od;cases b:(List.range (tx.length+1)).find? (fun m=>decide (0<wy (tx.length+1) (bX tx C P) (P.body.take k) i m)&&decide (0<wy (tx.length+1) (bX tx C P) (P.body.drop k) m j)) with
  | none =>
   have:=YD.1 b m (XI.2 g);simp[c,d]at this
  | some z =>
   have a:=Zd b;have o:=XI.1 (XS b);simp only[Bool.and_eq_true,decide_eq_true_eq]at a;exact l z o a.1 a.2
 rw[e];exact⟨g,c,d,l⟩
theorem U0(b:i<tx.length+1)(a:mI tx C P i j=1):od tx C P i j 0=i :=
 ((lm b a 0).2.2.2 i b (by show 0<(if i=i then 1 else 0);rw[XA rfl];omega) (by rw[ZaJ];unfold mI at a;omega)).symm
theorem UW(b:i<tx.length+1)(c:j<tx.length+1)(a:mI tx C P i j=1):od tx C P i j P.body.length=j :=
 ((lm b a P.body.length).2.2.2 j c (by rw[Yl];unfold mI at a;omega) (by rw[ZaW];show 0<(if j=j then 1 else 0);rw[XA rfl];omega)).symm
theorem wg(b:i<tx.length+1)(a:mI tx C P i j=1)(k:Nat)(c:k<P.body.length):bX tx C P P.body[k] (od tx C P i j k) (od tx C P i j (k+1))=1 :=
 Rd P.body i j b a k c _ _ (lm b a k).1 (lm b a (k+1)).1 (lm b a k).2.1 (lm b a k).2.2.1 (lm b a (k+1)).2.1 (lm b a (k+1)).2.2.1
theorem yl(e:ki P){v:Nat}(d:v<P.vars.length):sx P v<P.body.length/\bZ P.vars (P.body.getD (sx P v) ⟨#[]⟩)=some v:=by
 obtain⟨k,b,c⟩:=e.occ v d;unfold sx;cases a:(List.range P.body.length).find? (fun k=>bZ P.vars (P.body.getD k ⟨#[]⟩)==some v) with
 | none =>
  have:=YD.1 a k (XI.2 b);rw[c]at this;simp at this
 | some z=>exact⟨XI.1 (XS a),by simpa using Zd a⟩
theorem WV(a:ki P)(b:w<P.vars.length)(c:H<P.body.length)(d:bZ P.vars (P.body.getD H ⟨#[]⟩)=some w):sx P w=H:=a.one w _ _ (yl a b).1 c (yl a b).2 d
theorem kK(a:T<N.length):N.getD T ⟨#[]⟩=N[T]:=by rw[Xw,Xv a];rfl
theorem qB(h:bZ P.vars b=some w):bX tx C P b H y=C (P.types.getD w ⟨#[]⟩) H y:=by unfold bX;rw[h]
theorem yT.pick(h:yT tx Ps C)(p:i<tx.length+1)(q:j<tx.length+1)(o:C b i j=1) :
  ∃k,∃d:k<Ps.length,MS tx Ps C b i j=some Ps[k]/\(Ps[k].code.toList==b.toList)=true/\mI tx C Ps[k] i j=1/\∀m,∀g:m<Ps.length,(Ps[m].code.toList==b.toList)=true->0<mI tx C Ps[m] i j->m=k:=by
 obtain⟨k,d,f,n,l⟩:=h.prod p q o;refine⟨k,d,?_,f,n,l⟩;unfold MS;cases c:Ps.find? (fun P=>(P.code.toList==b.toList)&&decide (0<mI tx C P i j)) with
 | none =>
  have:=YD.1 c Ps[k] (XM d);simp only[f,n]at this;simp at this
 | some Q =>
  have a:=Zd c;simp only[Bool.and_eq_true,decide_eq_true_eq]at a;obtain⟨m,g,rfl⟩:=Yr (XS c);have e:=l m g a.1 a.2;subst e;rfl
theorem yT.kids(h:yT tx Ps C)(X:∀P∈Ps,ki P)(e:i<tx.length+1)(R:j<tx.length+1)(O:C b i j=1)(U:0<BK tx Ps (w+1) b i j)(Q:MS tx Ps C b i j=some P)(v:Nat)(W:v<P.vars.length) :
  (pn tx C P i j v).1<tx.length+1/\(pn tx C P i j v).2<tx.length+1/\C (P.types.getD v ⟨#[]⟩) (pn tx C P i j v).1 (pn tx C P i j v).2=1/\0<BK tx Ps w (P.types.getD v ⟨#[]⟩) (pn tx C P i j v).1 (pn tx C P i j v).2:=by
 obtain⟨k,S,H,hc,r,V⟩:=h.pick e R O;rw[Q]at H;cases H
 have F:=X Ps[k] (XM S);obtain⟨o,n⟩:=yl F W;rw[kK _ _ o]at n;have I:=wg e r (sx Ps[k] v) o;rw[qB n]at I;refine⟨(lm e r _).1,(lm e r _).1,I,?_⟩;have B:0<FC tx Ps (BK tx Ps w) b i j:=U;obtain⟨m,T,d⟩:=Na (Ra.1 B);have p:(Ps[m].code.toList==b.toList)=true:=by
  unfold xc at d;split at d
  ·next q=>exact q
  ·omega
 have t:0<mI tx (BK tx Ps w) Ps[m] i j:=by unfold xc at d;rw[XA p]at d;exact d
 have u:=h.above w;have A:=V m T p (XB t (Jk _ u i j e));subst A;obtain⟨a,g,l,c,Y,G,Z⟩:=WH Ps[m].body i j e t (sx Ps[m] v) o;have J:0<wy (tx.length+1) (bX tx C Ps[m]) (Ps[m].body.take (sx Ps[m] v)) i a:=XB Y (wZ _ (fun s _ x y D E=>oK _ s u x y D E) i a e);have K:0<bX tx C Ps[m] (Ps[m].body[sx Ps[m] v]) a g:=XB G (oK _ _ u a g l c);have L:0<wy (tx.length+1) (bX tx C Ps[m]) (Ps[m].body.drop (sx Ps[m] v+1)) g j:=XB Z (wZ _ (fun s _ x y D E=>oK _ s u x y D E) g j c)
 have M:a=od tx C Ps[m] i j (sx Ps[m] v):=(lm e r _).2.2.2 a l J (by
  rw[zy _ _ _ _ o];exact XB (Nat.mul_pos K L) (yJ (f:=fun q=>bX tx C Ps[m] (Ps[m].body[sx Ps[m] v]) a q*wy (tx.length+1) (bX tx C Ps[m]) (Ps[m].body.drop (sx Ps[m] v+1)) q j) c))
 have N:g=od tx C Ps[m] i j (sx Ps[m] v+1):=(lm e r _).2.2.2 g c (by
  rw[zz _ _ _ _ o e c];exact XB (Nat.mul_pos J K) (yJ (f:=fun z=>wy (tx.length+1) (bX tx C Ps[m]) (Ps[m].body.take (sx Ps[m] v)) i z*bX tx C Ps[m] (Ps[m].body[sx Ps[m] v]) z g) l)) L
 rw[qB n]at G;show 0<BK tx Ps w _ (od tx C Ps[m] i j (sx Ps[m] v)) (od tx C Ps[m] i j (sx Ps[m] v+1));rw[<-M,<-N];exact G
end
section
variable {α:Type} {S:Nat} {f g:α->Nat->Nat->Nat}
theorem zbv(a:List α)(i j:Nat)(l:i<S)(d:∀x∈a,∀p q,q<p->f x p q=0)(k:∀x∈a,∀p q,q<p->g x p q=0)(h:∀x∈a,∀p q,i<=p->p<S->q<S->f x p q=g x p q):wy S f a i j=wy S g a i j:=by
 induction a generalizing i with
 | nil=>rfl
 | cons x r n =>
  refine uM (fun m c=>?_);by_cases e:m<i
  ·rw[d x (by simp) i m e,k x (by simp) i m e,Zn,Zn]
  ·rw[h x (by simp) i m (Xy _) l c,n m c (fun y b=>d y (by simp[b])) (fun y b=>k y (by simp[b])) (fun y b p q o=>h y (by simp[b]) p q (by omega))]
theorem IM{f:Nat->Nat}(n:Nat)(h:∀m,m<T->f m=0):sm f (T+n)=sm (fun d=>f (T+d)) n:=by
 induction n with
 | zero=>exact Bm h
 | succ n a=>show sm f (T+n)+f (T+n)=sm (fun d=>f (T+d)) n+f (T+n);rw[a]
theorem Wt{f:Nat->Nat}{n m:Nat}(d:n<=m)(h:∀k,n<=k->k<m->f k=0):sm f m=sm f n:=by
 induction m with
 | zero =>
      obtain rfl:n=0:=(by omega);rfl
 | succ m b =>
  by_cases e:n=m+1
  ·rw[e]
  ·show sm f m+f m=sm f n;rw[b (by omega) (fun k a c=>h k a (by omega)),h m (by omega) (by omega)];rfl
end
def l4(C:pB):Prop:=∀c i j,j<i->C c i j=0
section
variable {tx:Xs} {Ps:List dZ} {C D:pB}
theorem kB(P:dZ)(t:l4 C)(s:Xr)(i j:Nat)(h:j<i):bX tx C P s i j=0:=by
 unfold bX;split
 ·exact t _ _ _ h
 ·rw[Xz (by omega)]
theorem No(P:dZ)(t:l4 C)(i j:Nat)(h:j<i):mI tx C P i j=0:=BJ _ (fun s _ a b c=>kB P t s a b c) i j h
theorem M9{f:dZ->Nat}{l:List dZ}(h:∀P∈l,f P=0):ze f l=0:=by
 induction l with
 | nil=>rfl
 | cons P r b=>show f P+ze f r=0;rw[h P (by simp),b (fun Q a=>h Q (by simp[a]))]
theorem TA{f g:dZ->Nat}{l:List dZ}(h:∀P∈l,f P=g P):ze f l=ze g l :=
 Z0 (Lg (fun P a=>Y5 (h P a))) (Lg (fun P a=>Y5 (h P a).symm))
theorem DN(t:l4 C):l4 (FC tx Ps C):=fun c i j h=>by
 unfold FC;rw[M9 (fun P _=>by unfold xc;split <;> first | exact No P t i j h | rfl)];rfl
theorem WN(P:dZ)(g:l4 C)(k:l4 D)(i j:Nat)(e:i<tx.length+1)(h:∀c p q,i<=p->p<tx.length+1->q<tx.length+1->C c p q=D c p q):mI tx C P i j=mI tx D P i j:=by
 refine zbv _ i j e (fun s _ p q b=>kB P g s p q b) (fun s _ p q b=>kB P k s p q b) (fun s _ p q f a d=>?_);unfold bX;split
 ·exact h _ _ _ f a d
 ·rfl
theorem Xo(b:l4 C)(d:l4 D)(c:Xr)(i j:Nat)(a:i<tx.length+1)(h:∀c p q,i<=p->p<tx.length+1->q<tx.length+1->C c p q=D c p q):FC tx Ps C c i j=FC tx Ps D c i j:=by
 unfold FC;rw[TA (g:=xc tx D c i j) (fun P _=>by unfold xc;rw[WN P b d i j a h])]
theorem Jt:FC tx Ps C s x T<=2:=oY _
structure rg(tx:Xs)(Ps:List dZ)(C:pB)(b:Nat):Prop where
 two:∀c i j,C c i j<=2
 tri:l4 C
 nil:∀c i j,i<b->C c i j=0
 low:∃n,DO (tx.length+1) C (BK tx Ps n)
 fix:∀c i j,b<=i->i<tx.length+1->j<tx.length+1->C c i j=FC tx Ps C c i j
theorem rg.first:rg tx Ps (fun _ _ _=>0) (tx.length+1):=⟨fun _ _ _=>XX _,fun _ _ _ _=>rfl,fun _ _ _ _=>rfl,⟨0,fun _ _ _ _ _=>Xy _⟩,fun _ _ _ a b=>by omega⟩
theorem rg.done(h:rg tx Ps C 0):yT tx Ps C:=⟨fun c i j a b=>h.fix c i j (XX _) a b,h.low⟩
structure Nt(tx:Xs)(Ps:List dZ)(C:pB)(b:Nat):Prop where
 two:∀c i j,C c i j<=2
 tri:l4 C
 nil:∀c i j,i<b->C c i j=0
 low:∃n,DO (tx.length+1) C (BK tx Ps n)
 fix:∀c i j,b<i->i<tx.length+1->j<tx.length+1->C c i j=FC tx Ps C c i j
 up:∀c j,j<tx.length+1->C c b j<=FC tx Ps C c b j
theorem rg.row(h:rg tx Ps C (w+1)):Nt tx Ps C w :=
 ⟨h.two,h.tri,fun c i j a=>h.nil c i j (by omega),h.low,fun c i j a=>h.fix c i j (by omega),fun c j _=>by rw[h.nil c w j (by omega)];exact XX _⟩
theorem Nt.done(h:Nt tx Ps C w)(d:∀c j,j<tx.length+1->FC tx Ps C c w j<=C c w j):rg tx Ps C w :=
 ⟨h.two,h.tri,h.nil,h.low,fun c i j f a b=>by
  by_cases e:i=w
  ·subst e;exact Z0 (h.up c j b) (d c j b)
  ·exact h.fix c i j (by omega) a b⟩
theorem Nt.step(h:Nt tx Ps C w)(s:w<tx.length+1)(g:∀c j,j<tx.length+1->D c w j=FC tx Ps C c w j)(d:∀c i j,i≠w∨¬j<tx.length+1->D c i j=C c i j):Nt tx Ps D w:=by
 have t:DO (tx.length+1) C D:=fun c i j f b=>by
  a e:i=w
  ·subst e;rw[g c j b];exact h.up c j b
  ·rw[d c i j (XQ e)];exact Xy _
 have o:l4 D:=fun c i j b=>by
  a e:i=w/\j<tx.length+1
  ·obtain⟨rfl,l⟩:=e;rw[g c j l];exact DN h.tri c i j b
  ·rw[d c i j (by a q:i=w;exact XK (fun r=>e ⟨q,r⟩);exact XQ q)];exact h.tri c i j b
 refine⟨fun c i j=>?_,o,fun c i j f=>by rw[d c i j (XQ (by omega))];exact h.nil c i j f,?_,fun c i j f k b=>?_,fun c j b=>?_⟩
 ·a e:i=w/\j<tx.length+1
  ·obtain⟨rfl,l⟩:=e;rw[g c j l];exact Jt c i j
  ·rw[d c i j (by a q:i=w;exact XK (fun r=>e ⟨q,r⟩);exact XQ q)];exact h.two c i j
 ·obtain⟨n,m⟩:=h.low;refine⟨n+1,fun c i j f b=>?_⟩
  a e:i=w
  ·subst e;rw[g c j b];exact rd m c i j f b
  ·rw[d c i j (XQ e)];exact(m.trans (WQ n)) c i j f b
 ·rw[d c i j (XQ (by omega)),h.fix c i j f k b];exact Xo h.tri o c i j k (fun c p q u _ _=>(d c p q (XQ (by omega))).symm)
 ·rw[g c j b];exact rd t c w j s b
structure Uw(tx:Xs)(Ps:List dZ)(C:pB):Prop where
 two:∀c i j,C c i j<=2
 tri:l4 C
 low:∃n,DO (tx.length+1) C (BK tx Ps n)
 up:DO (tx.length+1) C (FC tx Ps C)
theorem Uw.first:Uw tx Ps (fun _ _ _=>0):=⟨fun _ _ _=>XX _,fun _ _ _ _=>rfl,⟨0,fun _ _ _ _ _=>Xy _⟩,fun _ _ _ _ _=>XX _⟩
theorem Uw.done(h:Uw tx Ps C)(d:DO (tx.length+1) (FC tx Ps C) C):yT tx Ps C:=⟨fun c i j a b=>Z0 (h.up c i j a b) (d c i j a b),h.low⟩
theorem Uw.step(h:Uw tx Ps C)(d:∀c i j,D c i j=C c i j∨(i<tx.length+1/\j<tx.length+1/\D c i j=FC tx Ps C c i j)):Uw tx Ps D:=by
 have g:DO (tx.length+1) C D:=fun c i j b a=>by
  rcases d c i j with e | ⟨-,-,e⟩
  ·rw[e];exact Xy _
  ·rw[e];exact h.up c i j b a
 refine⟨fun c i j=>?_,fun c i j a=>?_,?_,fun c i j b a=>?_⟩
 ·rcases d c i j with e | ⟨-,-,e⟩
  ·rw[e];exact h.two c i j
  ·rw[e];exact Jt c i j
 ·rcases d c i j with e | ⟨-,-,e⟩
  ·rw[e];exact h.tri c i j a
  ·rw[e];exact DN h.tri c i j a
 ·obtain⟨n,f⟩:=h.low;refine⟨n+1,fun c i j b a=>?_⟩;rcases d c i j with e | ⟨-,-,e⟩
  ·rw[e];exact(f.trans (WQ n)) c i j b a
  ·rw[e];exact rd f c i j b a
 ·rcases d c i j with e | ⟨-,-,e⟩
  ·rw[e];exact XF (h.up c i j b a) (rd g c i j b a)
  ·rw[e];exact rd g c i j b a
end
def CG(codes:Xs)(G:Nat->Nat->Nat->Nat):pB:=fun c i j =>
 match bZ codes c with
 | some k=>G k i j
 | none=>0
section
variable {tx:Xs} {Ps:List dZ} {C:pB} {P:dZ}
theorem zal(t:l4 C)(s:Xr)(r:Xs)(i j:Nat)(l:j<tx.length+1)(f:bZ P.vars s=none) :
  wy (tx.length+1) (bX tx C P) (s :: r) i j=if i<j/\((tx.getD i ⟨#[]⟩).toList==s.toList)=true then wy (tx.length+1) (bX tx C P) r (i+1) j else 0:=by
 show sm (fun m=>bX tx C P s i m*wy (tx.length+1) (bX tx C P) r m j) (tx.length+1)=_;have c:∀m,bX tx C P s i m=if m=i+1/\i<tx.length/\((tx.getD i ⟨#[]⟩).toList==s.toList)=true then 1 else 0:=fun m=>by unfold bX;rw[f]
 by_cases h:i<j/\((tx.getD i ⟨#[]⟩).toList==s.toList)=true
 ·rw[XA h,TE (k:=i+1) (by omega) (fun m _ e=>by rw[c,Xz (fun q=>e q.1),Zn]),c,XA ⟨rfl,by omega,h.2⟩,Nat.one_mul]
 ·rw[Xz h];refine Bm (fun m _=>?_);rw[c];split
  ·next q =>
   obtain⟨rfl,-,g⟩:=q;have n:¬i<j:=fun z=>h ⟨z,g⟩;rw[BJ r (fun s _ a b d=>kB P t s a b d) (i+1) j (by omega),Zar]
  ·exact Zn _
theorem zam(t:l4 C)(s:Xr)(r:Xs)(i j v:Nat)(f:i<=j)(o:j<tx.length+1)(k:bZ P.vars s=some v) :
  cp (wy (tx.length+1) (bX tx C P) (s :: r) i j)=cp (sm (fun d=>C (P.types.getD v ⟨#[]⟩) i (i+d)*cp (wy (tx.length+1) (bX tx C P) r (i+d) j)) (j+1-i)):=by
 have c:wy (tx.length+1) (bX tx C P) (s :: r) i j=sm (fun d=>C (P.types.getD v ⟨#[]⟩) i (i+d)*wy (tx.length+1) (bX tx C P) r (i+d) j) (j+1-i):=by
  show sm (fun m=>bX tx C P s i m*wy (tx.length+1) (bX tx C P) r m j) (tx.length+1)=_;rw[Wt (n:=j+1) (by omega) (fun m l _=>by rw[BJ r (fun s _ a b e=>kB P t s a b e) m j (by omega),Zar])];rw[show j+1=i+(j+1-i) by omega,IM i (j+1-i) (fun m g=>by rw[kB P t s i m g,Zn]),show i+(j+1-i)-i=j+1-i by omega];exact uM (fun d _=>by rw[qB k])
 rw[c,Mi,Mi (fun d=>C (P.types.getD v ⟨#[]⟩) i (i+d)*cp (wy (tx.length+1) (bX tx C P) r (i+d) j))];congr 1;refine uM (fun d _=>?_);rw[Eh,Eh (C (P.types.getD v ⟨#[]⟩) i (i+d)) (cp _),pL (oY (wy (tx.length+1) (bX tx C P) r (i+d) j))]
def J1(tx:Xs)(C:pB)(P:dZ)(b k m e:Nat):Nat:=cp (sm (fun d=>cp (wy (tx.length+1) (bX tx C P) (P.body.take k) b (b+d))*bX tx C P (P.body.getD k ⟨#[]⟩) (b+d) e) m)
theorem Ep(e:Nat):J1 tx C P M x (T+1) e=cp (J1 tx C P M x T e+cp (wy (tx.length+1) (bX tx C P) (P.body.take x) M (M+T))*bX tx C P (P.body.getD x ⟨#[]⟩) (M+T) e):=zn _ _
theorem Vk(t:l4 C)(b k e:Nat)(g:k<P.body.length)(c:b<tx.length+1)(j:e<tx.length+1):J1 tx C P b k (tx.length+1-b) e=cp (wy (tx.length+1) (bX tx C P) (P.body.take (k+1)) b e):=by
 rw[zz _ _ _ _ g c j];have i:sm (fun m=>wy (tx.length+1) (bX tx C P) (P.body.take k) b m*bX tx C P P.body[k] m e) (tx.length+1)=sm (fun d=>wy (tx.length+1) (bX tx C P) (P.body.take k) b (b+d)*bX tx C P P.body[k] (b+d) e) (tx.length+1-b):=by
  have:=IM (f:=fun m=>wy (tx.length+1) (bX tx C P) (P.body.take k) b m*bX tx C P P.body[k] m e) b (tx.length+1-b) (fun m l=>by show _*_=0;rw[BJ _ (fun s _ a b c=>kB P t s a b c) b m l,Zn]);rw[show b+(tx.length+1-b)=tx.length+1 by omega]at this;exact this
 unfold J1;rw[i,Mi,Mi (fun d=>wy (tx.length+1) (bX tx C P) (P.body.take k) b (b+d)*bX tx C P P.body[k] (b+d) e),kK _ _ g];congr 1;refine uM (fun d _=>?_);rw[Eh,Eh (wy (tx.length+1) (bX tx C P) (P.body.take k) b (b+d)),pL (oY (wy (tx.length+1) (bX tx C P) (P.body.take k) b (b+d)))]
theorem Vl(t:l4 C)(b k m e:Nat)(h:e<b+m):J1 tx C P b k (m+1) e=J1 tx C P b k m e:=by
 rw[Ep,kB P t _ _ _ h,Zar,YM];exact pL (oY _)
theorem Ro(h:∀c i j,C c i j<=2)(s:Xr)(i j:Nat):bX tx C P s i j<=2:=by
 unfold bX;split
 ·exact h _ _ _
 ·split <;> omega
end
def pH(n:Nat):Nat:=if n<64 then n else 64
structure DQ(G n:Nat)(ls t:Xs)(n':Nat)(ls':Xs):Prop where
 a:n+t.length<=64->n'=n+t.length/\ls'=ls++t
 b:64<n+t.length->64<n'
 c:n<n'
 d:n'<=n+1+G*(pH n'-pH n)
 e:ls'.length<=ls.length+(pH n'-pH n)
structure DP(G k n:Nat)(ls t:Xs)(n':Nat)(ls':Xs):Prop where
 a:n+t.length<=64->n'=n+t.length/\ls'=ls++t
 b:64<n+t.length->64<n'
 c:n<=n'
 d:n'<=n+k+G*(pH n'-pH n)
 e:ls'.length<=ls.length+(pH n'-pH n)
theorem DP.first:DP M 0 x N [] x N :=
 ⟨fun _=>⟨rfl,by simp⟩,fun h=>by have:64<x+0:=h;omega,Xy _,by omega,by omega⟩
theorem AA(h:w<=H):pH w<=pH H:=by unfold pH;split <;> split <;> omega
theorem DP.next{f:Nat}{j k:Xs}(h:DP w H y I L o j)(g:DQ w o j m f k):DP w (H+1) y I (L++m) f k:=by
 have s:=AA h.c;have t:=AA (Ys g.c);have p:w*(pH f-pH y)=w*(pH o-pH y)+w*(pH f-pH o):=by rw[<-Nat.mul_add];congr 1;omega
 have A:=h.c;have u:=g.c;have B:=h.d;have v:=g.d;have C:=h.e;have x:=g.e;refine⟨fun q=>?_,fun q=>?_,by omega,by rw[p];omega,by omega⟩
 ·rw[XC]at q;obtain⟨l,i⟩:=h.a (by omega);obtain⟨r,n⟩:=g.a (by omega);exact⟨by rw[XC];omega,by rw[n,i,Y2]⟩
 ·rw[XC]at q;by_cases z:y+L.length<=64
  ·obtain⟨l,i⟩:=h.a z;exact g.b (by omega)
  ·have:=h.b (by omega);omega
theorem DQ.node(h:DP w H (y+1) I L o m)(t:H<=w)(n:y<64):DQ w y I (L++[b]) o (m++[b]):=by
 have s:=h.c;have k:=h.d;have l:=h.e;have f:pH y=y:=by unfold pH;rw[XA n]
 have r:y+1<=pH o:=by unfold pH;split <;> omega
 have g:pH (y+1)=y+1:=by unfold pH;split <;> omega
 have j:w*(pH o-y)=w+w*(pH o-(y+1)):=by
  rw[show pH o-y=1+(pH o-(y+1)) by omega,Nat.mul_add,ZN]
 refine⟨fun q=>?_,fun q=>?_,by omega,?_,?_⟩
 ·rw[XC]at q;replace q:y+(L.length+1)<=64:=q;obtain⟨p,i⟩:=h.a (by omega);exact⟨by rw[XC];show o=y+(L.length+1);omega,by rw[i,Y2]⟩
 ·rw[XC]at q;replace q:64<y+(L.length+1):=q;exact h.b (by omega)
 ·rw[g]at k;rw[f,j];omega
 ·rw[g]at l;rw[XC,f];show m.length+1<=_;omega
theorem DQ.late(a:64<=H)(b:0<L.length):DQ w H I L (H+1) I :=
 ⟨fun q=>by omega,fun _=>by omega,by omega,by omega,by omega⟩
section
variable {tx:Xs} {Ps:List dZ} {C:pB} {i j:Nat}
theorem Ue(h:yT tx Ps C){r:Nat}(c:i<tx.length+1)(d:j<tx.length+1)(a:C b i j=1):0<(pJ tx Ps C (r+1) b i j).length:=by
 obtain⟨k,f,e,-⟩:=h.pick c d a;show 0<(match MS tx Ps C b i j with | none=>[] | some P=>_:Xs).length;rw[e];simp
theorem rN{P:dZ}(a:MS tx Ps C b i j=some P):pJ tx Ps C (w+1) b i j=((List.range P.vars.length).map (fun v=>pJ tx Ps C w (P.types.getD v ⟨#[]⟩) (pn tx C P i j v).1 (pn tx C P i j v).2)).flatten++[P.Zbz]:=by
 show(match MS tx Ps C b i j with | none=>[] | some P=>_:Xs)=_
 rw[a]
end
def kT(f:Nat->Xs)(k:Nat):Xs:=((List.range k).map f).flatten
theorem qG(f:Nat->Xs)(k:Nat):kT f (k+1)=kT f k++f k:=by
 unfold kT;rw[YG,Yj,List.flatten_append];simp
section
variable {tx:Xs} {Ps:List dZ} {C D:pB}
theorem Ft{α:Type}{f g:α->Nat->Nat->Nat}(a:List α)(h:∀x∈a,∀i j,i<w->j<w->f x i j=g x i j)(i j:Nat)(b:i<w):wy w f a i j=wy w g a i j :=
 Z0 (wZ a (fun x d i j b c=>Y5 (h x d i j b c)) i j b) (wZ a (fun x d i j b c=>Y5 (h x d i j b c).symm) i j b)
def FG(S:Nat)(C D:pB):Prop:=∀c i j,i<S->j<S->C c i j=D c i j
theorem Us(h:FG (tx.length+1) C D)(P:dZ)(i j:Nat)(e:i<tx.length+1):mI tx C P i j=mI tx D P i j:=Ft _ (fun s _ a b c d=>xx P s h a b c d) i j e
theorem CV{α:Type}{l:List α}{p q:α->Bool}(h:∀x∈l,p x=q x):l.find? p=l.find? q:=by
 induction l with
 | nil=>rfl
 | cons y r b=>rw[Zak,Zak,h y (by simp),b (fun z a=>h z (by simp[a]))]
theorem Gf(h:FG (tx.length+1) C D)(P:dZ)(i j k:Nat)(f:i<tx.length+1):od tx C P i j k=od tx D P i j k:=by
 unfold od;congr 1;refine CV (fun m e=>?_);have e:=XI.1 e;rw[Ft _ (fun s _ a b c d=>xx P s h a b c d) i m f,Ft _ (fun s _ a b c d=>xx P s h a b c d) m j e]
theorem SG(h:FG (tx.length+1) C D)(c:Xr)(i j:Nat)(a:i<tx.length+1):MS tx Ps C c i j=MS tx Ps D c i j:=by
 unfold MS;exact CV (fun P _=>by rw[Us h P i j a])
theorem WC(h:FG (tx.length+1) C D)(is:yT tx Ps C)(s:∀P∈Ps,ki P):∀(r:Nat) (c:Xr) (i j:Nat),i<tx.length+1->j<tx.length+1->C c i j=1->0<BK tx Ps r c i j->pJ tx Ps C r c i j=pJ tx Ps D r c i j:=by
 intro r
 induction r with
 | zero=>intro c i j _ _ _ _;rfl
 | succ r q =>
  intro c i j a l g b;obtain⟨k,t,d,-⟩:=is.pick a l g;rw[rN d,rN (by rw[<-SG h c i j a];exact d)];congr 2;refine YU (fun v f=>?_);have f:=XI.1 f;obtain⟨m,n,o,p⟩:=is.kids s a l g b d v f;have e:pn tx C Ps[k] i j v=pn tx D Ps[k] i j v:=by unfold pn;rw[Gf h _ i j _ a,Gf h _ i j _ a]
  rw[q _ _ _ m n o p,e]
theorem Xm(is:yT tx Ps C)(t:∀P∈Ps,ki P):∀(r q:Nat) (c:Xr) (i j:Nat),r<=q->i<tx.length+1->j<tx.length+1->C c i j=1->0<BK tx Ps r c i j->pJ tx Ps C r c i j=pJ tx Ps C q c i j:=by
 intro r
 induction r with
 | zero=>intro q c i j _ _ _ _ p;exact absurd p (Z1 _)
 | succ r s =>
  intro q c i j w f g e a;obtain⟨q,rfl⟩:∃z,q=z+1:=⟨q-1,by omega⟩
  obtain⟨k,u,b,-⟩:=is.pick f g e;rw[rN b,rN b];congr 2;refine YU (fun v d=>?_);have d:=XI.1 d;obtain⟨l,m,n,o⟩:=is.kids t f g e a b v d;exact s q _ _ _ (by omega) l m n o
theorem zbp(is:yT tx Ps C)(e:∀P∈Ps,ki P)(c:w<tx.length+1)(d:H<tx.length+1)(a:C b w H=1)(g:0<BK tx Ps y b w H)(f:0<BK tx Ps o b w H):pJ tx Ps C y b w H=pJ tx Ps C o b w H:=by
 by_cases h:y<=o
 ·exact Xm is e _ _ _ _ _ h c d a g
 ·exact(Xm is e _ _ _ _ _ (by omega) c d a f).symm
def wH(tx:Xs)(Ps:List dZ)(C:pB)(r:Nat)(c:Xr):Int×Xs :=
 if C c 0 tx.length=0 then(10,[])
 else if C c 0 tx.length=1 then(if 64<(pJ tx Ps C r c 0 tx.length).length then(3,[]) else(0,pJ tx Ps C r c 0 tx.length))
 else(11,[])
def sF(tx:Xs)(Ps:List dZ)(c:Xr)(res:Int×Xs):Prop:=∃C r,yT tx Ps C/\(C c 0 tx.length=1->0<BK tx Ps r c 0 tx.length)/\res=wH tx Ps C r c
theorem SB(g:∀P∈Ps,ki P){x y:Int×Xs}(n:sF tx Ps b x)(o:sF tx Ps b y):x=y:=by
 obtain⟨C,r,d,m,rfl⟩:=n;obtain⟨D,q,id,f,rfl⟩:=o;have h:FG (tx.length+1) C D:=fun b i j k l=>d.uniq id b i j k l;unfold wH;rw[h b 0 tx.length (by omega) (by omega)];by_cases c:D b 0 tx.length=1
 ·have a:C b 0 tx.length=1:=by rw[h b 0 tx.length (by omega) (by omega)];exact c
  have e:pJ tx Ps C r b 0 tx.length=pJ tx Ps D q b 0 tx.length:=(zbp d g (by omega) (by omega) a (m a) (f c)).trans (WC h d g _ _ _ _ (by omega) (by omega) a (f c));rw[e]
 ·rw[Xz c,Xz c]
theorem MO(is:yT tx Ps C)(c:Xr):∃r,C c 0 tx.length=1->0<BK tx Ps r c 0 tx.length:=by
 obtain⟨n,a⟩:=is.low;exact⟨n,fun h=>by have:=a c 0 tx.length (by omega) (by omega);omega⟩
end
end Go.Proofs.YtpdholcaobgofaaGreat
