import Derived.Test.YtpddjjabfbfifaaGreatG10
import Derived.Test.YtpddjjabfbfifaaGreatG15
import Derived.Test.YtpddjjabfbfifaaGreatG19
namespace Go.Proofs.YtpddjjabfbfifaaGreat
open Go.RowKit Tryz
set_option maxRecDepth 100000
set_option maxHeartbeats 40000000
variable{l:List Sm}{b n y0:Nat}{z6:Sm}{f:List St}{x:List Nat}{a:St}{o:ByteArray}{z1:List UInt8}{z0:Int}{d:List ByteArray}{y9:Db}{zt:Fs}{y5:FN}{z7:List Tk×List Bool}{y7:List Tk}(y6 y:Tk)(D:List Tk)(zb:List Bool)(L:Tk)(S:List Tk)(M:List St)(N:Nat)(v:List ByteArray)(I:Nat)(z3:List Nat)(z4:List Bool)(k:List Sm)(z5:Sm)(g:Nat)(y8:Db)(w:Fs)(T:ByteArray)(i:Int)(H:Nat)
def nt(S:List Sm)(j:Nat):Bool:=((au S j).k.toList == [36,100])||((au S j).k.toList == [36,102])||((au S j).k.toList == [36,101])||((au S j).k.toList == [36,97])||((au S j).k.toList == [36,112])
def lU(S:List Sm):List Nat:=(List.range S.length).filter (nt S)
def bR(S:List Sm)(n:Nat):Nat:=(lU S).getD n S.length
theorem Lx(a:H<k.length):nt (k++[z5]) H=nt k H:=by
 unfold nt;rw[jL k [z5] H a]
theorem nW:lU (k++[z5])=lU k++(if nt (k++[z5]) k.length=true then [k.length] else []):=by
 unfold lU;rw[cg,R4,RU,dW (fun j a=>Lx k z5 j a)]
 congr 1
 cases h:nt (k++[z5]) k.length <;> simp[h]
theorem N1(h:(lU l)[b]?=some n):n<l.length:=by
 have:=R2 h;exact Q9.1 (RG.1 this).1
theorem N0(h:b<(lU l).length):bR l b<l.length:=by
 have e:(lU l)[b]?=some (bR l b):=by unfold bR;rw[QP,QO h];rfl
 exact N1 e
theorem L9:bR k (lU k).length=k.length:=by
 unfold bR;rw[QP,Rv (QQ _)];rfl
theorem L8(h:b<(lU l).length):bR (l++[z6]) b=bR l b:=by
 unfold bR;rw[nW,QP,QP,Q6 h,QO h];rfl
theorem nV{S:List Sm}{n a:Nat}(h:n<a)(b:a<(lU S).length):bR S n<bR S a:=by
 have c:(lU S).Pairwise (· < ·):=List.Pairwise.filter _ Uh;have:=UI.1 c n a (by omega) b h;unfold bR;rw[QP,QP,QO b,QO (by omega)];exact this
theorem rU(a:b<=n)(c:n<=l.length):aV (l++[z6]) b n=aV l b n:=by
 unfold aV;rw[Sf (by omega),Sn (by rw[RQ];omega)]
theorem qh(a:b<=l.length):bb (l++[z6]) b=bb l b:=by
 unfold bb;rw[Sn a]
theorem FS(a:b<=l.length):aV (l++[z6]) b (l.length+1)=(aV l b l.length&&decide (bb l b<=aO (bb l l.length) z6.k)):=by
 rw[rV (l++[z6]) b l.length a (by rw[cg];omega),rU a (QQ _),qh a,hZ]
theorem zx(a:b<=l.length)(h:aV l b l.length=true):bb l b<=bb l l.length:=DC l b l.length a (QQ _) h l.length a (QQ _)
theorem nK(a:b<=l.length)(c:∀o,o<=aO o z6.k):aV (l++[z6]) b (l.length+1)=aV l b l.length:=by
 rw[FS a]
 cases h:aV l b l.length
 ·rfl
 ·have:=zx a h
  have:=c (bb l l.length);simp;omega
structure nk(S:List Sm)(l:List St)(rb:List Nat):Prop where
 len:l.length=(lU S).length
 til:∀(n:Nat) (s:St),l[n]?=some s->qO s.kind=false->∀a,n<a->a<=l.length->(s.til==0||decide (a<s.til))=aV S (bR S n) (bR S a)
 le:∀(n:Nat) (s:St),l[n]?=some s->s.til<=l.length
 dep:bb S S.length=(rb.length:Int)
 rbl:∀i,i<rb.length->rb.getD i 0<=l.length/\∀n,n<l.length->aV S (bR S n) S.length=true->(rb.getD i 0<=n ↔ (i:Int)<bb S (bR S n))
theorem nk.nil:nk [] [] []:=⟨rfl,(fun n s h=>by cases h),(fun n s h=>by cases h),rfl,fun i h=>by cases h⟩
theorem nk.at_(h:nk l f x)(a:b<f.length):bR l b<l.length:=N0 (by rw[<-h.len];exact a)
theorem nk.ix(h:nk l f x)(s:Sm)(a:b<f.length):bR (l++[s]) b=bR l b:=L8 (by rw[<-h.len];exact a)
theorem nk.ixEnd(h:nk l f x):bR l f.length=l.length:=by rw[h.len];exact L9 l
theorem nk.now(h:nk l f x)(c:f[b]?=some a)(e:qO a.kind=false):(a.til==0)=aV l (bR l b) l.length:=by
 have d:=(Q7.1 c).1;have:=h.til b a c e f.length d (QQ _);rw[h.ixEnd]at this;rw[<-this];have:=h.le b a c;rw[Sa (by omega),Sy]
theorem nk.other(h:nk l f x)(s:Sm)(D:nt (l++[s]) l.length=false)(v:∀o,o<=aO o s.k)(d:List Nat)(B:aO (bb l l.length) s.k=(d.length:Int))(H:d=x∨d=x++[f.length]):nk (l++[s]) f d:=by
 have e:lU (l++[s])=lU l:=by rw[nW,QS (by rw[D];simp),Rk]
 have E:bR (l++[s]) f.length=l.length+1:=by
  unfold bR;rw[e,QP,Rv (by rw[h.len];exact QQ _)];exact cg l s
 refine⟨by rw[e];exact h.len,fun n t r y a g m=>?_,h.le,by rw[cg,hZ];exact B,fun i j=>?_⟩
 ·have c:=(Q7.1 r).1
  have p:=h.at_ c;rw[h.ix s c]
  by_cases G:a=f.length
  ·subst G
   rw[E,nK (by omega) v,h.til n t r y _ g m,h.ixEnd]
  ·have b:a<f.length:=by omega
   have:=h.at_ b;have u:bR l n<=bR l a:=RK (nV g (by rw[<-h.len];exact b));rw[h.ix s b,rU u (by omega)];exact h.til n t r y a g m
 ·rw[cg]
  have q:∀i,i<x.length->x.getD i 0<=f.length/\∀n,n<f.length->aV (l++[s]) (bR (l++[s]) n) (l.length+1)=true->(x.getD i 0<=n ↔ (i:Int)<bb (l++[s]) (bR (l++[s]) n)):=fun i j=>by
   obtain⟨A,C⟩:=h.rbl i j;refine⟨A,fun n c b=>?_⟩;have p:=h.at_ c;rw[h.ix s c]at b ⊢;rw[nK (by omega) v]at b;rw[qh (by omega)];exact C n c b
  rcases H with rfl | rfl
  ·exact q i j
  ·rw[QZ]at j
   replace j:i<x.length+1:=j
   by_cases z:i<x.length
   ·have w:(x++[f.length]).getD i 0=x.getD i 0:=by rw[QP,QP,Q6 z]
    rw[w];exact q i z
   ·have w:i=x.length:=by omega
    subst w;have F:(x++[f.length]).getD x.length 0=f.length:=by rw[QP,Q4 (QQ _),RV];rfl
    rw[F];refine⟨QQ _,fun n c b=>?_⟩;have p:=h.at_ c;rw[h.ix s c]at b ⊢;rw[nK (by omega) v]at b;rw[qh (by omega)];have:=zx (by omega) b;have:=h.dep;omega
theorem nk.kept(h:nk l f x)(s:Sm)(J:nt (l++[s]) l.length=true)(C:∀o,aO o s.k=o)(t:St)(F:t.til=0):nk (l++[s]) (f++[t]) x:=by
 have d:∀o,o<=aO o s.k:=fun o=>by rw[C o];exact TI _
 have e:lU (l++[s])=lU l++[l.length]:=by rw[nW,QV J]
 have p:(f++[t]).length=f.length+1:=by rw[QZ];rfl
 have q:bR (l++[s]) f.length=l.length:=by
  unfold bR;rw[e,h.len,QP,Q4 (QQ _),RV];rfl
 have B:bR (l++[s]) (f.length+1)=l.length+1:=by
  unfold bR;rw[e,QP,Rv (by rw[QZ,h.len];exact QQ _)];exact cg l s
 have c:aV (l++[s]) l.length (l.length+1)=true:=by
  rw[nK (QQ _) d];exact A7 l l.length
 refine⟨by rw[p,e,QZ,h.len];rfl,fun n u b r a j w=>?_,fun n u b=>?_,by rw[cg,hZ,C];exact h.dep,fun i E=>?_⟩
 ·rw[p]at w
  by_cases g:n<f.length
  ·rw[Q6 g]at b
   have A:=h.at_ g;have K:=h.le n u b;rw[h.ix s g]
   by_cases m:a<f.length
   ·have:=h.at_ m
    have z:bR l n<=bR l a:=RK (nV j (by rw[<-h.len];exact m));rw[h.ix s m,rU z (by omega)];exact h.til n u b r a j (by omega)
   ·by_cases D:a=f.length
    ·subst D
     rw[q,rU (by omega) (QQ _),<-h.now b r,Sa (by omega),Sy]
    ·have M:a=f.length+1:=by omega
     subst M;rw[B,nK (by omega) d,<-h.now b r,Sa (by omega),Sy]
  ·have G:n=f.length:=by omega
   have m:a=f.length+1:=by omega
   subst G m;rw[Q4 (QQ _),RV]at b
   cases b
   rw[q,B,c,F];rfl
 ·rw[p]
  by_cases g:n<f.length
  ·rw[Q6 g]at b
   have:=h.le n u b;omega
  ·have:=(Q7.1 b).1
   rw[p]at this;rw[Q4 (by omega),show n-f.length=0 by omega]at b
   cases b
   omega
 ·obtain⟨H,I⟩:=h.rbl i E
  rw[p,cg];refine⟨by omega,fun n g v=>?_⟩
  by_cases y:n<f.length
  ·have A:=h.at_ y
   rw[h.ix s y]at v ⊢;rw[nK (by omega) d]at v;rw[qh (by omega)];exact I n y v
  ·have L:n=f.length:=by omega
   subst L;rw[q,qh (QQ _),h.dep]
   constructor
   ·intro _;omega
   ·intro _;exact H
theorem qi(h:(gy f b)[n]?=some a):∃v,f[n]?=some v/\a=(if b<=n/\n<f.length then lL f.length v else v):=by
 unfold gy at h;rw[mq]at h
 cases e:f[n]? with
 | none=>rw[e]at h;cases h
 | some v=>rw[e]at h;simp only[UT,Option.some.injEq]at h;exact⟨v,rfl,h.symm⟩
theorem nk.pop(h:nk l f (x++[b]))(s:Sm)(M:nt (l++[s]) l.length=false)(K:∀o,aO o s.k=o-1):nk (l++[s]) (gy f b) x:=by
 have e:lU (l++[s])=lU l:=by rw[nW,QS (by rw[M];simp),Rk]
 have y:(gy f b).length=f.length:=jg f b f.length
 have N:bR (l++[s]) f.length=l.length+1:=by
  unfold bR;rw[e,QP,Rv (by rw[h.len];exact QQ _)];exact cg l s
 have O:bb l l.length=(x.length:Int)+1:=by rw[h.dep,QZ];rfl
 obtain⟨A,t⟩:=h.rbl x.length (by rw[QZ];exact Nat.lt_succ_self _);have Q:(x++[b]).getD x.length 0=b:=by rw[QP,Q4 (QQ _),RV];rfl
 rw[Q]at A t
 have I:∀n,n<f.length->aV (l++[s]) (bR l n) (l.length+1)=(aV l (bR l n) l.length&&decide (n<b)):=fun n d=>by
  have r:=h.at_ d;rw[FS (by omega)]
  cases j:aV l (bR l n) l.length
  ·rfl
  ·have q:=t n d j
   have:=zx (by omega) j;rw[K,Su,Su]
   by_cases c:n<b
   ·rw[SL c]
    exact SL (by omega)
   ·rw[Sa c]
    exact Sa (by omega)
 refine⟨by rw[y,e];exact h.len,fun n u D p a w C=>?_,fun n u D=>?_,by rw[cg,hZ,K,O];omega,fun i G=>?_⟩
 ·obtain⟨v,m,rfl⟩:=qi D
  have d:=(Q7.1 m).1;have r:=h.at_ d;rw[y]at C
  have g:qO v.kind=false:=by
   split at p
   ·unfold lL at p;split at p <;> exact p
   ·exact p
  have B:=h.now m g;rw[h.ix s d];have P:=h.le n v m
  by_cases E:a<f.length
  ·have:=h.at_ E
   have F:bR l n<=bR l a:=RK (nV w (by rw[<-h.len];exact E));rw[h.ix s E,rU F (by omega),<-h.til n v m g a w (by omega)]
   split
   ·unfold lL
    split
    ·next c=>rw[c.1];simp;omega
    ·rfl
   ·rfl
  ·have L:a=f.length:=by omega
   subst L;rw[N,I n d,<-B]
   by_cases c:b<=n
   ·rw[QV ⟨c,d⟩,Sa (show ¬n<b by omega),Bool.and_false]
    unfold lL
    by_cases z:v.til=0
    ·rw[QV ⟨z,g⟩]
     show(f.length==0||decide (f.length<f.length))=false
     rw[Rg.2 (show f.length≠0 by omega),Sa (Nat.lt_irrefl _)];rfl
    ·rw[QS (fun q=>z q.1)]
     have:(v.til==0)=false:=Rg.2 z;rw[this,Sa (show ¬f.length<v.til by omega)];rfl
   ·rw[QS (fun q=>c q.1),SL (show n<b by omega),Bool.and_true,Sa (show ¬f.length<v.til by omega),Sy]
 ·obtain⟨v,m,rfl⟩:=qi D
  have:=h.le n v m;rw[y]
  split
  ·unfold lL
   split
   ·exact QQ _
   ·exact this
  ·exact this
 ·obtain⟨H,J⟩:=h.rbl i (by rw[QZ];exact Nat.lt_succ_of_lt G)
  have R:(x++[b]).getD i 0=x.getD i 0:=by rw[QP,QP,Q6 G]
  rw[R]at H J;rw[y,cg];refine⟨H,fun n d j=>?_⟩;have r:=h.at_ d;rw[h.ix s d]at j ⊢;rw[I n d,Rf]at j;rw[qh (by omega)];exact J n d j.1
def NE(k:Int):Bool:=decide (2<=k/\k<=6)
structure kO(T:List Tk)(d:Db):Prop where
 hel:nk (aj T) d.sts d.rbl
 ct:∀(n:Nat) (s:St),d.sts[n]?=some s->eZ (au (aj T) (bR (aj T) n)).k.toList s.kind/\s.label=bG T (au (aj T) (bR (aj T) n))/\s.U5=bu T (au (aj T) (bR (aj T) n)).h/\cU T (au (aj T) (bR (aj T) n)).h
 lab:d.label=if NE d.kind=true then tS T (fA T) else⟨#[]⟩
section
variable {T:List Tk} {t:Tk} {d d':Db}
theorem wy:nt (k++[z5]) k.length=(((z5.k.toList == [36,100])||(z5.k.toList == [36,102])||(z5.k.toList == [36,101])||(z5.k.toList == [36,97])||(z5.k.toList == [36,112]))):=by
 unfold nt;rw[lW]
theorem kO.old(R:kO T d)(m:il T (aj T) (aj T).length){M:List Sm}{c:St}(n:b<d.sts.length)(j:d.sts[b]?=some a)(e:bR (aj T++M) b=bR (aj T) b)(o:c.kind=a.kind)(r:c.label=a.label)(l:c.U5=a.U5) :
  eZ (au (aj T++M) (bR (aj T++M) b)).k.toList c.kind/\c.label=bG (T++[t]) (au (aj T++M) (bR (aj T++M) b))/\c.U5=bu (T++[t]) (au (aj T++M) (bR (aj T++M) b)).h/\cU (T++[t]) (au (aj T++M) (bR (aj T++M) b)).h:=by
 obtain⟨q,i,p,g⟩:=R.ct b a j;have f:=R.hel.at_ n;rw[e,jL _ _ _ f,o,r,l];refine⟨q,?_,?_,JU T [t] _ g⟩
 ·rw[i]
  unfold bG;rw[fI T [t] _ (m.a _ f)]
 ·rw[p,se T [t] _ g]
theorem kO.Va(R:kO T d)(f:il T (aj T) (aj T).length)(i:bS t.s=false)(c:d'.sts=d.sts)(j:d'.rbl=d.rbl)(e:d'.label=if NE d'.kind=true then tS (T++[t]) (fA T) else⟨#[]⟩):kO (T++[t]) d':=by
 obtain⟨b,g⟩:=mE (T:=T) (t:=t) i;refine⟨by rw[b,c,j];exact R.hel,fun n s a=>?_,by rw[g];exact e⟩;rw[c]at a;have h:=(Q7.1 a).1;rw[b];have:=R.old (t:=t) f (M:=[]) h a (by rw[Rk]) rfl rfl rfl;rw[Rk]at this;exact this
theorem kO.other(R:kO T d)(l:il T (aj T) (aj T).length)(s:Sm)(b:aj (T++[t])=aj T++[s])(h:nt (aj T++[s]) (aj T).length=false)(i:∀o,o<=aO o s.k)(g:aO (bb (aj T) (aj T).length) s.k=(d'.rbl.length:Int))(m:d'.rbl=d.rbl∨d'.rbl=d.rbl++[d.sts.length])(e:d'.sts=d.sts)(j:d'.label=⟨#[]⟩)(f:d'.kind=0):kO (T++[t]) d':=by
 refine⟨by rw[b,e];exact R.hel.other s h i d'.rbl g m,fun n u a=>?_,by rw[j,f];rfl⟩;rw[e]at a;have c:=(Q7.1 a).1;rw[b];exact R.old l c a (R.hel.ix s c) rfl rfl rfl
theorem kO.kept(R:kO T d)(y:il T (aj T) (aj T).length)(s:Sm)(g:aj (T++[t])=aj T++[s])(c:nt (aj T++[s]) (aj T).length=true)(w:∀o,aO o s.k=o)(u:St)(m:u.til=0)(r:eZ s.k.toList u.kind)(l:u.label=bG (T++[t]) s)(z:u.U5=bu (T++[t]) s.h)(i:cU (T++[t]) s.h)(f:d'.sts=d.sts++[u])(p:d'.rbl=d.rbl)(x:d'.label=⟨#[]⟩)(q:d'.kind=0):kO (T++[t]) d':=by
 refine⟨by rw[g,f,p];exact R.hel.kept s c w u m,fun n v a=>?_,by rw[x,q];rfl⟩;rw[f]at a;rw[g]
 by_cases b:n<d.sts.length
 ·rw[Q6 b]at a
  exact R.old y b a (R.hel.ix s b) rfl rfl rfl
 ·have e:n=d.sts.length:=by
   have:=(Q7.1 a).1;rw[QZ]at this;have:n<d.sts.length+1:=this;omega
  subst e;rw[Q4 (QQ _),RV]at a
  cases a
  have j:bR (aj T++[s]) d.sts.length=(aj T).length:=by
   unfold bR;rw[nW,QV c,R.hel.len,QP,Q4 (QQ _),RV];rfl
  rw[j,lW];exact⟨r,l,z,i⟩
theorem kO.pop(R:kO T d)(y:il T (aj T) (aj T).length)(s:Sm)(g:aj (T++[t])=aj T++[s])(i:nt (aj T++[s]) (aj T).length=false)(r:∀o,aO o s.k=o-1)(p:d.rbl=x++[b])(c:d'.sts=gy d.sts b)(l:d'.rbl=x)(w:d'.label=⟨#[]⟩)(m:d'.kind=0):kO (T++[t]) d':=by
 have h:=R.hel;rw[p]at h;refine⟨by rw[g,c,l];exact h.pop s i r,fun n u e=>?_,by rw[w,m];rfl⟩;rw[c]at e;obtain⟨v,f,j⟩:=qi e;have a:=(Q7.1 f).1
 have q:u.kind=v.kind/\u.label=v.label/\u.U5=v.U5:=by
  rw[j]
  split
  ·unfold lL;split <;> exact⟨rfl,rfl,rfl⟩
  ·exact⟨rfl,rfl,rfl⟩
 rw[g];exact R.old y a f (R.hel.ix s a) q.1 q.2.1 q.2.2
end
section
variable {T:List Tk} {t:Tk} {d:Db}
theorem zM(h:dA o=false):bS o=false:=by
 cases a:bS o
 ·rfl
 ·have:=(kL a).1
  rw[ia,h]at this;cases this
theorem lQ(h:(o.toList==z1)=true)(a:((z1 == [36,46])||(z1 == [36,123])||(z1 == [36,125]))=false):bS o=false:=by
 rw[(ka (dd h)).2.2];exact a
theorem kO.first(R:kO T d)(b:il T (aj T) (aj T).length)(B:bb (aj T) (aj T).length=(d.blocks.length:Int))(u:fA T=T.length)(j:d.kind=0)(a:(av d t.s).1=0):kO (T++[t]) (av d t.s).2:=by
 have c:d.label=⟨#[]⟩:=by rw[R.lab,j];rfl
 unfold av at *
 by_cases f:(t.s.toList == [36,123])=true
 ·rw[QV f]
  obtain⟨r,-⟩:=qn (T:=T) (t:=t) u (by rw[(ka (dd f)).2.2];decide);have i:∀o,aO o t.s=o+1:=fun o=>by rw[rm (dd f)];rfl
  refine R.other b _ r (by rw[wy];simp only;rw[dd f];decide) (fun o=>by show o<=aO o t.s;rw[i];omega) ?_ (QU rfl) rfl c j
  show aO _ t.s=_
  rw[i,R.hel.dep];simp only[QZ,Ro,Rr];omega
 rw[QS f]at a ⊢
 by_cases g:(t.s.toList == [36,125])=true
 ·rw[QV g]at a ⊢
  cases p:d.blocks.getLast? with
  | none=>rw[p]at a;cases a
  | some q =>
   simp only;obtain⟨r,-⟩:=qn (T:=T) (t:=t) u (by rw[(ka (dd g)).2.2];decide);have i:∀o,aO o t.s=o-1:=fun o=>by rw[rm (dd g)];rfl
   have h:d.rbl≠[]:=by
    intro e;have:=R.hel.dep;rw[B,e]at this;have:d.blocks=[]:=Rj (by simpa using this);rw[this]at p;cases p
   have y:d.rbl=d.rbl.dropLast++[d.rbl.getLast h]:=(Uu h).symm;have x:d.rbl.getLast?=some (d.rbl.getLast h):=SZ h;unfold cw;rw[x];exact R.pop b _ r (by rw[wy];simp only;rw[dd g];decide) (fun o=>i o) y rfl rfl c j
 rw[QS g]at a ⊢
 by_cases m:(t.s.toList == [36,99])=true
 ·rw[QV m]at a ⊢
  by_cases v:0<d.blocks.length
  ·rw[QV v]at a;cases a
  ·rw[QS v];exact R.Va b (lQ m (by decide)) rfl rfl c
 rw[QS m]at a ⊢
 by_cases n:(t.s.toList == [36,118])=true
 ·rw[QV n];exact R.Va b (lQ n (by decide)) rfl rfl c
 rw[QS n]at a ⊢
 by_cases l:(t.s.toList == [36,100])=true
 ·rw[QV l];exact R.Va b (lQ l (by decide)) rfl rfl c
 rw[QS l]at a ⊢
 split at a
 ·cases a
 ·next w =>
  rw[QS w];unfold bI at *
  cases k:dA t.s
  ·rw[k,QS (by simp)]at a
   split at a
   ·cases a
   ·next z =>
    split at a
    ·cases a
    ·next A =>
     rw[QS (by simp),QS z,QS A];exact R.Va b (zM k) rfl rfl (by show t.s=tS (T++[t]) (fA T);rw[u,oU])
  ·rw[k,QV rfl]at a;cases a
theorem kO.key(R:kO T d)(b:il T (aj T) (aj T).length)(k:fA T+1=T.length)(f:d.kind=6)(a:(aH d t.s).1=0):kO (T++[t]) (aH d t.s).2:=by
 have c:d.label=tS (T++[t]) (fA T):=by rw[R.lab,f,fI T [t] _ (by omega)];rfl
 unfold aH at *
 split
 ·next h=>exact R.Va b (lQ h (by decide)) rfl rfl c
 ·next i =>
  rw[QS i]at a
  split
  ·next h=>exact R.Va b (lQ h (by decide)) rfl rfl c
  ·next e =>
   rw[QS e]at a
   split
   ·next h=>exact R.Va b (lQ h (by decide)) rfl rfl c
   ·next g =>
    rw[QS g]at a
    split
    ·next h=>exact R.Va b (lQ h (by decide)) rfl rfl c
    ·next j=>rw[QS j]at a;cases a
theorem LA(h:eZ z1 z0):((z1 == [36,100])||(z1 == [36,102])||(z1 == [36,101])||(z1 == [36,97])||(z1 == [36,112]))=!((z0==7)||(z0==8)):=by
 cases h <;> decide
theorem Lz(h:eZ o.toList z0):(aC o||aG o)=NE z0:=by
 have e:=ka (k:=o) rfl;rw[e.1,e.2.1];generalize o.toList=l at h
 cases h <;> decide
theorem kO.body(R:kO T d)(m:il T (aj T) (aj T).length)(C:ew T (fA T)=(o,b))(A:fA T<b)(x:b<=T.length)(i:eZ o.toList d.kind)(E:fa T b T.length=d)(B:d.U5=d.takeWhile kz)(p:Pl)(c:(aX d t.s p).1=0):kO (T++[t]) (aX d t.s p).2:=by
 have r:d.label=if NE d.kind=true then tS (T++[t]) (fA T) else⟨#[]⟩:=by rw[R.lab,fI T [t] _ (by omega)]
 rw[qz i]at *
 by_cases l:(t.s.toList == [36,46])=true
 ·rw[QV l]at *
  obtain⟨G,-⟩:=Gs l;obtain⟨w,-⟩:=oQ T t;rw[QV G,sN C A x i]at w;simp only at w
  have h:bu (T++[t]) b=d.U5:=by
   unfold bu;rw[Sf x,vN _ t (fun u F=>?_) l,B,<-E,mZ];have:=yS T b (by omega) u F;unfold bS at this;simp only[R0]at this;exact this.1.1
  have y:cU (T++[t]) b:=⟨T.length,x,by simp,by rw[oU];unfold mL;rw[l];simp⟩;have e:=i.dep.1;have f:nt (aj T++[(⟨fA T,T.length+1,b,o⟩:Sm)]) (aj T).length=!((d.kind==7)||(d.kind==8)):=by rw[wy];exact LA i
  unfold lK at *
  split at c
  ·cases c
  ·next D =>
   rw[QS D]
   split at c
   ·cases c
   ·next k =>
    rw[QS k];simp only
    cases a:((d.kind==7)||(d.kind==8))
    ·rw[a]at f
     simp only[R0]at a
     have j:(aY d p).sts=d.sts++[⟨d.kind,d.label,d.U5,d.proof,p,0⟩]/\(aY d p).rbl=d.rbl:=by
      unfold aY mX mN;rw[a.1,a.2];simp only[Rs,Sq]
      split <;> exact⟨rfl,rfl⟩
     refine R.kept m _ w f (fun n=>e n) ⟨d.kind,d.label,d.U5,d.proof,p,0⟩ rfl i ?_ h.symm y j.1 j.2 rfl rfl
     show d.label=bG (T++[t]) ⟨fA T,T.length+1,b,o⟩
     unfold bG;simp only;rw[Lz i];exact r
    ·rw[a]at f
     have j:(aY d p).sts=d.sts/\(aY d p).rbl=d.rbl:=by
      unfold aY dO;rw[Rz]at a
      split
      ·exact⟨rfl,rfl⟩
      ·next q =>
       rw[QV (a.resolve_left q)];exact⟨rfl,rfl⟩
     refine R.other m _ w f (fun n=>by show n<=aO n o;rw[e];exact TI _) ?_ (Q0 j.2) j.1 rfl rfl
     show aO _ o=_
     rw[e,R.hel.dep]
     show _=((aY d p).rbl.length:Int)
     rw[j.2]
 ·rw[QS l]at *
  by_cases z:(t.s.toList == [36,61])=true/\(d.kind==5)=true/\d.U9=false
  ·rw[QV z]at *
   unfold b7 at *
   split at c
   ·cases c
   ·next g=>rw[QS g];exact R.Va m (lQ z.1 (by decide)) rfl rfl r
  ·rw[QS z]at *
   cases v:dA t.s
   ·rw[v,QS (by simp)]at c
    rw[QS (by simp)]
    split at c
    ·next g=>rw[QV g];exact R.Va m (zM v) rfl rfl r
    ·next g =>
     rw[QS g]
     split at c
     ·next k=>rw[QV k];exact R.Va m (zM v) rfl rfl r
     ·next k=>simp only at c;rw[c]at k;exact absurd rfl k
   ·rw[v,QV rfl]at c;cases c
theorem kO.step(o:tE T d)(x:rQ T (aj T) d)(n:∀j,j<T.length->bh T (aj T) j=0)(R:kO T d)(z:T.length<=100000)(p:Pl)(f:(aX d t.s p).1=0):kO (T++[t]) (aX d t.s p).2:=by
 obtain⟨i,-⟩:=Am T z n
 rcases o with ⟨h,a,b,c,l⟩ | ⟨h,a,b,c,l,w,y⟩ | ⟨u,k,B,a,g,m,v,q,c,b,r,l,A⟩
 ·have e:aX d t.s p=av d t.s:=by unfold aX;rw[a];rfl
  rw[e]at f ⊢;exact R.first i (Bt x) h a f
 ·have e:aX d t.s p=aH d t.s:=by unfold aX;rw[a];rfl
  rw[e]at f ⊢;exact R.key i h a f
 ·exact R.body i a g m v q b p f
end
theorem fS(h:eZ z1 z0):(z0==3)=(z1 == [36,101])/\(z0==2)=(z1 == [36,102])/\(z0==1)=(z1 == [36,100])/\qO z0=((z1 == [36,97])||(z1 == [36,112])):=by
 cases h <;> decide
theorem wP:lU k=(List.range (lU k).length).map (bR k):=by
 apply Sp
 intro n;rw[Rp]
 by_cases h:n<(lU k).length
 ·rw[Ux h,QO h]
  show _=some (bR k n)
  unfold bR;rw[QP,QO h];rfl
 ·rw[Rv (by omega),Rv (by rw[Te];omega)];rfl
theorem ua(a:b=(lU l).length){p q:Nat->Bool}(d:∀j,j<l.length->p j=true->nt l j=true)(e:∀n,n<b->q n=p (bR l n)):((List.range b).filter q).map (bR l)=(List.range l.length).filter p:=by
 have g:(List.range l.length).filter p=(lU l).filter p:=by
  unfold lU;rw[UF]
  apply dW
  intro j c
  cases h:p j
  ·rfl
  ·rw[d j c h];rfl
 rw[g,wP l,<-a,List.filter_map]
 congr 1
 apply dW
 intro n f;exact e n f
theorem sD(h:n<=b)(p:Nat->Bool):(List.range b).filter (fun j=>decide (j<n)&&p j)=(List.range n).filter p:=by
 have e:List.range b=List.range n++(List.range (b-n)).map (n + ·):=by
  have:=@List.range_add n (b-n);rwa [show n+(b-n)=b by omega]at this
 have c:(List.range n).filter (fun j=>decide (j<n)&&p j)=(List.range n).filter p:=dW (fun j a=>by rw[SL a,Su])
 have d:((List.range (b-n)).map (n + ·)).filter (fun j=>decide (j<n)&&p j)=[]:=by
  rw[Tg];intro j a;obtain⟨i,-,rfl⟩:=Sh.1 a;rw[Sa (by omega)];simp
 rw[e,RU,c,d,Rk]
section
variable {T:List Tk} {d:Db}
theorem kO.held(R:kO T d)(c:d.sts[b]?=some a)(f:qO a.kind=false)(j:n<d.sts.length):g7 d.sts b n=(decide (bR (aj T) b<bR (aj T) n)&&aV (aj T) (bR (aj T) b) (bR (aj T) n)):=by
 have i:=(Q7.1 c).1;have g:=R.hel.len;unfold g7;rw[c];simp only
 by_cases h:b<n
 ·rw[SL h,SL (nV h (by omega)),R.hel.til b a c f n h (by omega)]
 ·have:¬bR (aj T) b<bR (aj T) n:=by
   by_cases e:b=n
   ·rw[e];omega
   ·have:=nV (S:=aj T) (n:=n) (a:=b) (by omega) (by omega)
    omega
  rw[Sa h,Sa this];rfl
theorem kO.get(R:kO T d)(a:b<d.sts.length):∃s,d.sts[b]?=some s/\eZ (au (aj T) (bR (aj T) b)).k.toList s.kind/\s.label=bG T (au (aj T) (bR (aj T) b))/\s.U5=bu T (au (aj T) (bR (aj T) b)).h:=by
 refine⟨d.sts[b],QO a,?_⟩;obtain⟨f,c,e,-⟩:=R.ct b _ (QO a);exact⟨f,c,e⟩
theorem kO.symsAt(R:kO T d)(c:b<d.sts.length):symsAt d.sts b=bu T (au (aj T) (bR (aj T) b)).h:=by
 obtain⟨s,a,-,-,h⟩:=R.get c;unfold Go.Proofs.YtpddjjabfbfifaaGreat.symsAt;rw[a];exact h
theorem kO.syms(R:kO T d)(f:b<d.sts.length):f8 d.sts b=Dh T (aj T) (bR (aj T) b):=by
 have m:=R.hel.len;have a:=R.hel.at_ f
 have g:((List.range d.sts.length).filter (zO d.sts b)).map (bR (aj T))=(List.range (bR (aj T) b)).filter (xW (aj T) (bR (aj T) b)):=by
  rw[<-sD (RK a)];refine ua m (fun j o h=>?_) (fun n c=>?_)
  ·unfold xW at h
   simp only[Rf]at h;unfold nt;rw[h.2.1];simp
  ·obtain⟨s,i,l,-,-⟩:=R.get c
   unfold zO xW;rw[i];simp only;rw[(fS l).1]
   cases e:((au (aj T) (bR (aj T) n)).k.toList == [36,101])
   ·simp
   ·have a:qO s.kind=false:=by
     rw[(fS l).2.2.2,ci e,ci e];decide
    rw[R.held i a f,Su,Su]
 unfold f8 eJ Dh lC;rw[R.symsAt f,<-g,List.flatMap_map]
 congr 1
 apply dx
 intro n c;exact R.symsAt (Q9.1 (RG.1 c).1)
def PK(T:List Tk)(S:List Sm):Prop:=∀j,j<S.length->((au S j).k.toList == [36,102])=true->2<=(bu T (au S j).h).length/\(bu T (au S j).h).getD 1 ⟨#[]⟩=tS T ((au S j).h+1)
theorem kO.hyps(R:kO T d)(F:PK T (aj T))(e:b<d.sts.length):(aK d.sts b).map (bR (aj T))=bW T (aj T) (bR (aj T) b):=by
 have p:=R.hel.len;have a:=R.hel.at_ e;unfold aK dG bW;rw[R.syms e,<-sD (RK a)];refine ua p (fun j y h=>?_) (fun n i=>?_)
 ·unfold sI at h
  simp only[Rf,Rz]at h;unfold nt
  rcases h.2.2 with h | h
  ·rw[h];simp
  ·rw[h.1];simp
 ·obtain⟨s,g,u,-,o⟩:=R.get i
  have q:=R.hel.at_ i;obtain⟨t,m,x,l⟩:=fS u;unfold l5 sI pM;rw[g];simp only;rw[m]
  cases c:((au (aj T) (bR (aj T) n)).k.toList == [36,102])
  ·rw[QS (by simp),t]
   cases f:((au (aj T) (bR (aj T) n)).k.toList == [36,101])
   ·simp
   ·have a:qO s.kind=false:=by rw[l,ci f,ci f];decide
    rw[R.held g a e];simp
  ·have a:qO s.kind=false:=by rw[l,ci c,ci c];decide
   have f:((au (aj T) (bR (aj T) n)).k.toList == [36,101])=false:=by rw[ci c];decide
   obtain⟨v,w⟩:=F _ q c
   have r:aL s=tS T ((au (aj T) (bR (aj T) n)).h+1):=by
    unfold aL;rw[QV ⟨by rw[m];exact c,by rw[o];exact v⟩,o,w]
   rw[QV rfl,R.held g a e,r,f,So,Su,UX]
end
theorem Ha:∀i,i<(kc S).length->(kc S)[i]?=S[i]?.map (·.s):=by
 induction S with
 | nil=>intro i a;cases a
 | cons t S b =>
  intro i a;unfold kc at a ⊢
  split
  ·next h=>rw[QV h]at a;cases a
  ·next h =>
   rw[QS h]at a
   cases i with
   | zero=>rfl
   | succ i=>exact b i (by simpa using a)
theorem Bg(a:H<(bu S g).length):(bu S g).getD H ⟨#[]⟩=tS S (g+H):=by
 unfold bu at *;have:=Ha (S.drop g) H a;unfold tS;rw[QP,this,SU,QP]
 cases S[g+H]? <;> rfl
section
variable {T:List Tk} {t:Tk} {d d':Db}
def vr(s:St):ByteArray:=s.U5.getD 1 ⟨#[]⟩
structure xy(d:Db):Prop where
 fl:∀(n:Nat) (s:St),d.sts[n]?=some s->s.kind=2->2<=s.U5.length
 ds:∀(n m:Nat) (s u:St),d.sts[n]?=some s->d.sts[m]?=some u->s.kind=2->u.kind=2->n<m->(s.til=0∨m<s.til)->((vr s).toList==(vr u).toList)=false
 op:d.kind=2->2<=d.U5.length->aJ d.typed (d.U5.getD 1 ⟨#[]⟩)=false
theorem kO.typed(R:kO T d)(E:rQ T (aj T) d)(F:xy d)(e:d.sts[b]?=some a)(f:a.kind=2)(m:a.til=0):aJ d.typed (vr a)=true:=by
 have n:=(Q7.1 e).1;obtain⟨o,-,g,-⟩:=R.ct b a e;have i:qO a.kind=false:=by rw[f];rfl
 have c:=R.hel.now e i;rw[m]at c;have h:=R.hel.at_ n;have j:((au (aj T) (bR (aj T) b)).k.toList == [36,102])=true:=by rw[<-(fS o).2.1,f];rfl
 rw[E.typ.l,nN,RB];refine⟨bR (aj T) b,RG.2 ⟨Q9.2 h,c.symm⟩,?_⟩;unfold Ge;rw[QV j,rt];have p:=F.fl b a e f;unfold vr;rw[g,Bg T _ 1 (by rw[<-g];omega)];simp
theorem xy.same(F:xy d)(b:d'.sts=d.sts)(e:d'.kind=2->2<=d'.U5.length->aJ d'.typed (d'.U5.getD 1 ⟨#[]⟩)=false):xy d' :=
 ⟨fun n s a=>by rw[b]at a;exact F.fl n s a,fun n m s u a c=>by rw[b]at a c;exact F.ds n m s u a c,e⟩
theorem xy.ended(F:xy d)(b:Nat)(w:d'.sts=gy d.sts b)(z:d'.kind=0):xy d':=by
 have q:∀(n:Nat) (s:St),d'.sts[n]?=some s->∃v,d.sts[n]?=some v/\s.kind=v.kind/\s.U5=v.U5/\(s.til=v.til∨(v.til=0/\s.til=d.sts.length)):=fun n s a=>by
  rw[w]at a;obtain⟨v,f,t⟩:=qi a;refine⟨v,f,?_⟩;rw[t]
  split
  ·unfold lL
   split
   ·next c=>exact⟨rfl,rfl,QU ⟨c.1,rfl⟩⟩
   ·exact⟨rfl,rfl,Q0 rfl⟩
  ·exact⟨rfl,rfl,Q0 rfl⟩
 refine⟨fun n s a g=>?_,fun n m s u a y g l i p=>?_,fun h=>by rw[z]at h;cases h⟩
 ·obtain⟨v,f,j,k,-⟩:=q n s a
  rw[k];exact F.fl n v f (by rw[<-j];exact g)
 ·obtain⟨v,f,j,k,e⟩:=q n s a
  obtain⟨x,o,r,A,-⟩:=q m u y;have B:=(Q7.1 o).1;unfold vr;rw[k,A];refine F.ds n m v x f o (by rw[<-j];exact g) (by rw[<-r];exact l) i ?_
  rcases e with e | ⟨e,-⟩
  ·rw[<-e];exact p
  ·exact Q0 e
theorem xy.more(R:kO T d)(E:rQ T (aj T) d)(F:xy d)(u:St)(l:u.kind=2->2<=u.U5.length/\aJ d.typed (vr u)=false)(r:d'.sts=d.sts++[u])(t:d'.kind=0):xy d':=by
 have q:∀(n:Nat) (s:St),d'.sts[n]?=some s->(n<d.sts.length/\d.sts[n]?=some s)∨(n=d.sts.length/\s=u):=fun n s a=>by
  rw[r]at a
  by_cases f:n<d.sts.length
  ·rw[Q6 f]at a;exact Q0 ⟨f,a⟩
  ·have:=(Q7.1 a).1
   rw[QZ]at this;have:n<d.sts.length+1:=this;rw[Q4 (by omega),show n-d.sts.length=0 by omega]at a
   cases a
   exact QU ⟨by omega,rfl⟩
 refine⟨fun n s a b=>?_,fun n m s x a A b c i o=>?_,fun h=>by rw[t]at h;cases h⟩
 ·rcases q n s a with ⟨-,h⟩ | ⟨-,rfl⟩
  ·exact F.fl n s h b
  ·exact(l b).1
 ·rcases q m x A with ⟨w,p⟩ | ⟨w,rfl⟩
  ·rcases q n s a with ⟨-,g⟩ | ⟨f,-⟩
   ·exact F.ds n m s x g p b c i o
   ·omega
  ·rcases q n s a with ⟨-,g⟩ | ⟨f,-⟩
   ·have v:=R.hel.le n s g
    have z:s.til=0:=by omega
    have k:=R.typed E F g b z;have j:=(l c).2
    cases y:((vr s).toList==(vr x).toList)
    ·rfl
    ·have e:(vr s).toList=(vr x).toList:=by simpa using y
     unfold aJ at k j;rw[e]at k;rw[k]at j;cases j
   ·omega
theorem xy.step(y:tE T d)(J:rQ T (aj T) d)(R:kO T d)(F:xy d)(p:Pl)(g:(aX d t.s p).1=0):xy (aX d t.s p).2:=by
 rcases y with ⟨I,j,k,n,x⟩ | ⟨I,j,k,n,x,G,K⟩ | ⟨C,v,B,j,D,M,E,O,n,k,A,x,N⟩
 ·have e:aX d t.s p=av d t.s:=by unfold aX;rw[j];rfl
  rw[e]at g ⊢;unfold av bI cw at *;have l:∀i:Db,i.sts=d.sts->i.kind≠2->xy i:=fun i m r=>F.same m (fun h=>absurd h r)
  repeat' split
  all_goals first
   | exact F
   | exact F.ended _ rfl j
   | exact l _ rfl (by rw[show _=_ from j];decide)
   | exact l _ rfl (by simp only;decide)
   | exact l _ rfl (by simp only;rw[j];decide)
   | exact l _ rfl (by show d.kind≠2;rw[j];decide)
 ·have e:aX d t.s p=aH d t.s:=by unfold aX;rw[j];rfl
  rw[e]at g ⊢;have l:∀i:Db,i.sts=d.sts->i.U5=d.U5->xy i:=fun i m r=>F.same m (fun _ h=>by rw[r,k]at h;simp at h)
  unfold aH
  repeat' split
  all_goals exact l _ rfl rfl
 ·rw[qz E]at g ⊢
  by_cases w:(t.s.toList == [36,46])=true
  ·rw[QV w]at g ⊢
   unfold lK at *
   split at g
   ·cases g
   ·next o =>
    rw[QS o]
    split at g
    ·cases g
    ·next L =>
     rw[QS L];simp only
     cases c:((d.kind==7)||(d.kind==8))
     ·simp only[R0]at c
      have u:(aY d p).sts=d.sts++[⟨d.kind,d.label,d.U5,d.proof,p,0⟩]:=by
       unfold aY mX mN;rw[c.1,c.2];simp only[Rs,Sq]
       split <;> rfl
      refine xy.more R J F ⟨d.kind,d.label,d.U5,d.proof,p,0⟩ (fun b=>?_) u rfl;replace b:d.kind=2:=b
      have a:2<=d.U5.length:=by
       unfold l4 at o;rw[QV (QU (by rw[b];rfl))]at o;omega
      exact⟨a,F.op b a⟩
     ·have u:(aY d p).sts=d.sts:=by
       unfold aY dO;rw[Rz]at c
       split
       ·rfl
       ·next q=>rw[QV (c.resolve_left q)]
      exact F.same u (fun h=>by cases h)
  ·rw[QS w]at g ⊢
   split
   ·unfold b7
    split <;> exact F.same rfl F.op
   ·split
    ·exact F
    ·split
     ·exact F.same rfl F.op
     ·split
      ·next z =>
       refine F.same rfl (fun b a=>?_);replace b:d.kind=2:=b;replace a:2<=(d.U5++[t.s]).length:=a;rw[QZ]at a;replace a:2<=d.U5.length+1:=a;have f:aZ d t.s=0:=by simpa using z
       unfold aZ at f;rw[b,QS (by decide),QS (by decide),QS (by decide),QS (by omega),QV (by rfl)]at f;unfold fC at f
       split at f
       ·cases f
       ·next P =>
        split at f
        ·cases f
        ·split at f
         ·cases f
         ·next H =>
          show aJ d.typed ((d.U5++[t.s]).getD 1 ⟨#[]⟩)=false
          have m:(d.U5++[t.s]).getD 1 ⟨#[]⟩=t.s:=by
           rw[QP,Q4 (by omega),show 1-d.U5.length=0 by omega];rfl
          rw[m];simpa using H
      ·exact F
theorem kO.flo(R:kO T d)(F:xy d):PK T (aj T):=by
 intro j f c;have a:j∈lU (aj T):=RG.2 ⟨Q9.2 f,by unfold nt;rw[c];simp⟩;rw[wP]at a;obtain⟨n,b,rfl⟩:=Sh.1 a;have b:n<d.sts.length:=by rw[R.hel.len];exact Q9.1 b
 obtain⟨s,g,i,-,k⟩:=R.get b
 have h:s.kind=2:=by
  have:=(fS i).2.1;rw[c]at this;simpa using this
 have e:=F.fl n s g h;rw[k]at e;exact⟨e,Bg T _ 1 (by omega)⟩
end
section
variable {T:List Tk} {t:Tk} {d:Db}
structure oi(T:List Tk)(d:Db):Prop where
 e:rQ T (aj T) d
 o:tE T d
 u:∀j,j<T.length->bh T (aj T) j=0
 b:jz T=(d.blocks.length:Int)
 r:kO T d
 f:xy d
theorem Bs:jz (D++[L])=aO (jz D) L.s:=by
 unfold jz;rw[Sv];rfl
theorem oi.step(I:oi T d)(n:T.length<=100000)(M:(t.s.toList == [])=false)(p:Pl):bh (T++[t]) (aj (T++[t])) T.length=(aX d t.s p).1/\((aX d t.s p).1=0->oi (T++[t]) (aX d t.s p).2):=by
 obtain⟨x,v⟩:=Am T n I.u;have z:=Bi T t n I.u
 have g:bh (T++[t]) (aj (T++[t])) T.length=(aX d t.s p).1/\((aX d t.s p).1=0->rQ (T++[t]) (aj (T++[t])) (aX d t.s p).2/\tE (T++[t]) (aX d t.s p).2):=by
  rcases I.o with ⟨m,i,c,a,k⟩ | ⟨m,i,c,a,k,w,y⟩ | ⟨g,C,B,i,l,A,E,D,a,c,q,k,K⟩
  ·have e:aX d t.s p=av d t.s:=by unfold aX;rw[i];rfl
   rw[z,QV m.symm,e];exact Fj x v I.e m i c a k M
  ·have e:aX d t.s p=aH d t.s:=by unfold aX;rw[i];rfl
   obtain⟨H,F⟩:=Mu (t:=t) x v I.e m c a k w y;rw[z,QS (by omega),H,QV (by simp),e];exact F
  ·rw[z,QS (by omega),sN i l A E,QS (by simp only;omega)]
   simp only;rw[D];exact JP x v I.e i l A E D a c q k K p
 refine⟨g.1,fun h=>?_⟩;obtain⟨G,J⟩:=g.2 h;refine⟨G,J,fun j L=>?_,?_,kO.step I.o I.e I.u I.r n p h,xy.step I.o I.e I.r I.f p h⟩
 ·rw[QZ,Ro,Rr]at L
  by_cases e:j<T.length
  ·exact rk T [t] n I.u j e
  ·have e:j=T.length:=by omega
   rw[e,g.1];exact h
 ·rw[Bs,I.b,C9 I.o t.s p h]
theorem Gr(h:0<S.length):∃u,S.getLast?=some u/\u.s=tS S (S.length-1):=by
 rw[SN,QO (by omega)];refine⟨_,rfl,?_⟩;unfold tS;rw[QP,QO (by omega)];rfl
theorem oi.open(I:oi T d):ko d=!dg T:=by
 have p:=fw T;have x:=I.b
 have a:fA T<T.length->dg T=false:=fun h=>by
  obtain⟨u,i,j⟩:=Gr T (by omega);have:=p.n (T.length-1) (by unfold fA at h;omega) (by omega);unfold dg;rw[i];simp only;rw[j,this];rfl
 unfold ko
 rcases I.o with ⟨G,g,f,c,v⟩ | ⟨G,g,f,c,v,F,H⟩ | ⟨m,t,B,g,D,K,r,L,c,f,A,v,M⟩
 ·rw[g]
  have E:(bne (0:Int) 0)=false:=rfl;rw[E,So]
  by_cases J:T.length=0
  ·have e:T=[]:=Rj J
   rw[e]at x ⊢
   have:d.blocks.length=0:=by
    have h:jz []=0:=rfl;omega
   rw[this];rfl
  ·obtain⟨u,i,j⟩:=Gr T (by omega)
   have y:0<(aj T).length:=by
    rcases Nat.eq_zero_or_pos (aj T).length with h | h
    ·have:=EJ T
     rw[h]at this;unfold kt at this;rw[QS (by omega)]at this;omega
    ·exact h
   have q:(au (aj T) ((aj T).length-1)).z=T.length:=by
    have:=EJ T;unfold kt at this;rw[QV y]at this;omega
   have w:=(p.s ((aj T).length-1) (by omega)).1.e;rw[q]at w;unfold dg;rw[i];simp only;rw[j,w,Su,x]
   by_cases q:d.blocks.length=0
   ·rw[q];rfl
   ·have C:((d.blocks.length:Int)==0)=false:=UU (by omega)
    rw[C,SL (show 0<d.blocks.length by omega)];rfl
 ·rw[g,a (by omega)];rfl
 ·rw[a (by omega)]
  have:(d.kind != 0)=true:=by
   generalize d.kind=k at r ⊢;generalize m.toList=l at r
   (rcases r with ⟨rfl,rfl⟩ | ⟨rfl,rfl⟩ | ⟨rfl,rfl⟩ | ⟨rfl,rfl⟩ | ⟨rfl,rfl⟩ | ⟨rfl,rfl⟩ | ⟨rfl,rfl⟩) <;> rfl
  rw[this];rfl
theorem Lk(h:y9=⟨[],[],[],[],[],[],[],[],0,⟨#[]⟩,[],false,[]⟩):oi [] y9:=by
 subst h;refine⟨⟨rfl,fun x=>rfl,⟨rfl,rfl,fun i a=>(by simp at a)⟩,⟨rfl,rfl,fun i a=>(by simp at a)⟩⟩,tE.none rfl rfl rfl rfl rfl,fun j b=>(by simp at b),rfl,⟨nk.nil,(fun n s h=>by cases h),rfl⟩,⟨(fun n s h=>by cases h),(fun n m s u h=>by cases h),fun h=>by cases h⟩⟩
end
section
variable (rec:Nat->List Bool->List Tk->List Tk×List Bool) (fs:Fs)
theorem GD(h:((y.rule==0)&&(y.s.toList == []))=true):cv rec fs (y :: D) zb S=((if dg S=true then S else S++[qN y 7]),zb):=by
 rw[cv.eq_def];exact QV h
theorem wQ(h:((y.rule==0)&&(y.s.toList == []))=false)(a:(y.s.toList == [36,91])=false):cv rec fs (y :: D) zb S=cv rec fs D zb (S++[y]):=by
 rw[cv.eq_def];simp only;rw[QS (by rw[h];simp),QV a]
theorem Ma(h:((y.rule==0)&&(y.s.toList == []))=false)(b:(y.s.toList == [36,91])=true)(a:dg S=false):cv rec fs (y :: D) zb S=(S++[qN y 4],zb):=by
 rw[cv.eq_def];simp only;rw[QS (by rw[h];simp),QS (by rw[b];simp),QV a]
theorem GE(h:((y6.rule==0)&&(y6.s.toList == []))=false)(b:(y6.s.toList == [36,91])=true)(a:dg S=true):cv rec fs [y6,y] zb S=(S++[qN y (dm fs y.s y.rule)],zb):=by
 rw[cv.eq_def];simp only;rw[QS (by rw[h];simp),QS (by rw[b];simp),QS (by rw[a];simp)]
theorem GF(a:List Tk)(h:((y6.rule==0)&&(y6.s.toList == []))=false)(c:(y6.s.toList == [36,91])=true)(b:dg a=true):cv rec fs (y6 :: y :: L :: S) z4 a =
  if(dm fs y.s y.rule==0)=false then(a++[qN y (dm fs y.s y.rule)],z4)
  else if(dI L.s L.rule==0)=false then(a++[qN L (dI L.s L.rule)],z4)
  else if z4.getD (bF fs y.s).toNat true=true then cv rec fs S z4 a
  else if eu (rec (bF fs y.s).toNat z4 a).1=true then rec (bF fs y.s).toNat z4 a
  else cv rec fs S (rec (bF fs y.s).toNat z4 a).2 (rec (bF fs y.s).toNat z4 a).1:=by
 rw[cv.eq_def];simp only;rw[QS (by rw[h];simp),QS (by rw[c];simp),QS (by rw[b];simp)]
theorem As(g:∀j d c,∃V,(rec j d c).1=c++V)(n:Nat):∀L,L.length<=n->∀d c,∃V,(cv rec fs L d c).1=c++V:=by
 induction n with
 | zero =>
  intro L f d c;have:L=[]:=Rj (by omega);subst this;exact⟨[],by rw[cv.eq_def];simp⟩
 | succ n m =>
  intro L f d c
  cases L with
  | nil=>exact⟨[],by rw[cv.eq_def];simp⟩
  | cons t r =>
   simp only[Ro]at f
   cases h:((t.rule==0)&&(t.s.toList == []))
   ·cases e:(t.s.toList == [36,91])
    ·rw[wQ rec fs t r d c h e]
     obtain⟨V,i⟩:=m r (by omega) d (c++[t]);exact⟨t :: V,by rw[i];simp⟩
    ·cases k:dg c
     ·rw[Ma rec fs t r d c h e k];exact⟨_,rfl⟩
     ·match r,f with
      | [],_ =>
       refine⟨[],?_⟩;rw[cv.eq_def];simp only;rw[QS (by rw[h];simp),QS (by rw[e];simp),QS (by rw[k];simp)];simp
      | [a],_=>rw[GE rec fs t a d c h e k];exact⟨_,rfl⟩
      | a :: b :: r',f =>
       simp only[Ro]at f;rw[GF rec fs t a b r' d c h e k]
       split
       ·exact⟨_,rfl⟩
       ·split
        ·exact⟨_,rfl⟩
        ·split
         ·exact m r' (by omega) d c
         ·obtain⟨V,i⟩:=g (bF fs a.s).toNat d c
          split
          ·exact⟨V,i⟩
          ·obtain⟨o,l⟩:=m r' (by omega) (rec (bF fs a.s).toNat d c).2 (rec (bF fs a.s).toNat d c).1
           exact⟨V++o,by rw[l,i];simp⟩
   ·rw[GD rec fs t r d c h]
    simp only
    split
    ·exact⟨[],by simp⟩
    ·exact⟨_,rfl⟩
end
theorem ub:∀j b a,∃V,(dQ w H j b a).1=a++V:=by
 induction H with
 | zero=>intro j b a;exact⟨[],by simp[dQ]⟩
 | succ H c=>intro j b a;rw[dQ];exact As (dQ w H) w c _ _ (QQ _) _ _
def GT(L:List Tk):Prop:=∀t∈L,t.rule=0
def MV(t:Tk):Pl:=⟨t.file,t.line,t.col⟩
structure OI(fs:Fs)(bg sn:List Bool):Prop where
 b:bg.length=4
 s:sn.length=fs.length
 e:∀j,j<fs.length->bg.getD j true=sn.getD j true
theorem OI.set{c a:List Bool}(h:OI zt c a)(f:zt.length<=4)(k:Nat)(g:k<zt.length):OI zt (c.set k true) (a.set k true):=by
 refine⟨by rw[Ru];exact h.b,by rw[Ru];exact h.s,fun j d=>?_⟩;have:=h.b;have:=h.s;rw[QP,QP,RT,RT]
 by_cases e:k=j
 ·rw[QV e,QV e,QV (by omega),QV (by omega)]
 ·rw[QS e,QS e]
  have:=h.e j d;rw[QP,QP]at this;exact this
def qB(fs:Fs)(N:Nat)(res:FN)(R:List Tk×List Bool):Prop :=
 (res.1=cY/\oi R.1 res.2.2/\GT R.1/\OI fs res.2.1 R.2/\R.1.length+1025*aQ R.2<=N) ∨
 (∃(W:List Tk) (u:Tk) (d:Db),R.1=W++[u]/\(u.rule==0)=false/\oi W d/\GT W/\res.1=(u.rule,MV u)) ∨
 ∃(W:List Tk) (t:Tk) (V:List Tk) (d:Db) (r:Int),R.1=W++t :: V/\t.rule=0/\oi W d/\W.length+1<=N/\bh (W++[t]) (aj (W++[t])) W.length=r/\(r==0)=false/\res.1=(r,MV t)
theorem qB.good(c:y5.1=cY)(a:oi z7.1 y5.2.2)(d:GT z7.1)(f:OI zt y5.2.1 z7.2)(e:z7.1.length+1025*aQ z7.2<=b):qB zt b y5 z7:=Q0 ⟨c,a,d,f,e⟩
theorem qB.ends(c:z7.1=D++[L])(a:(L.rule==0)=false)(d:oi D y8)(f:GT D)(e:y5.1=(L.rule,MV L)):qB zt b y5 z7:=QU (Q0 ⟨D,L,y8,c,a,d,f,e⟩)
theorem qB.rule(d:z7.1=D++L :: S)(c:L.rule=0)(f:oi D y8)(h:D.length+1<=b)(g:bh (D++[L]) (aj (D++[L])) D.length=i)(a:(i==0)=false)(e:y5.1=(i,MV L)):qB zt b y5 z7:=QU (QU ⟨D,L,S,y8,i,d,c,f,h,g,a,e⟩)
theorem yb(h:GT y7):eu y7=false:=by
 unfold eu
 cases e:y7.getLast? with
 | none=>rfl
 | some t =>
  have:=h t (List.mem_of_getLast? e);simp[this]
theorem t8(a:H<=T.size):(aI (ay T H).1=true->((ay T H).1.text.toList == [])=false/\(ay T H).1.rule=0)/\(aI (ay T H).1=false->(ay T H).1.text=⟨#[]⟩/\((ay T H).1.fin=true->(ay T H).1.rule=0)):=by
 have e:∀f H,H<=T.size->aI (bX T f H).1=false->(bX T f H).1.text=⟨#[]⟩/\((bX T f H).1.fin=true->(bX T f H).1.rule=0):=by
  intro f
  induction f with
  | zero=>intro H _ _;exact⟨rfl,fun h=>by cases h⟩
  | succ f d =>
   intro H a h;have c:=gq T H a;rw[bX]at h ⊢
   split
   ·next g =>
    rw[QV g]at h
    split
    ·exact⟨rfl,fun h=>by cases h⟩
    ·next b =>
     rw[QS b]at h;exact d _ c.2.1 h
   ·next g =>
    rw[QS g]at h
    split
    ·exact⟨rfl,fun h=>by cases h⟩
    ·next b =>
     rw[QS b]at h;exact(tq T H a).2 h
 unfold ay
 suffices hs:∀f H,H<=T.size->(aI (dH T f H).1=true->((dH T f H).1.text.toList == [])=false/\(dH T f H).1.rule=0)/\(aI (dH T f H).1=false->(dH T f H).1.text=⟨#[]⟩/\((dH T f H).1.fin=true->(dH T f H).1.rule=0)) from hs _ _ a
 clear a H;intro f
 induction f with
 | zero=>intro H a;exact⟨fun h=>by simp[dH,aI]at h,fun _=>⟨rfl,fun _=>rfl⟩⟩
 | succ f d =>
  intro H a;have c:=gq T H a;have i:=i9 T (bC T H).2 c.2.1;rw[dH]
  split
  ·split
   ·exact d _ i.2
   ·next b =>
    refine⟨fun h=>absurd h b,fun h=>?_⟩;exact e _ _ c.2.1 h
  ·exact tq T H a
theorem IQ(h:(i==0)=false):dm w T i=i:=by unfold dm;exact QV h
theorem IR(h:i=0)(a:T=⟨#[]⟩):dm w T i=7:=by
 subst h a;unfold dm;rw[QS (by simp),QV oG]
theorem ED(h:i=0)(a:(T.toList == [])=false):dm w T i=if dA T=true then 5 else if bF w T<0 then 6 else 0:=by
 subst h;unfold dm;rw[QS (by simp),QS (by rw[a];simp),ia]
theorem DL(h:(i==0)=false):dI T i=i:=by unfold dI;exact QV h
theorem DM(h:i=0)(a:T=⟨#[]⟩):dI T i=7:=by
 subst h a;unfold dI;rw[QS (by simp),QV oG]
theorem Bk(h:i=0)(a:(T.toList == [])=false):dI T i=if(T.toList == [36,93])=false then 5 else 0:=by
 subst h;unfold dI;rw[QS (by simp),QS (by rw[a];simp)]
theorem Md(ax:w.length<=4)(ar:∀j,j<w.length->(ak w j).size<=1024)(f:Nat):∀n x k c y d b N,x<w.length->k<=(ak w x).size->OI w c y->aQ y<=n ->
  ((ak w x).size-k+1)+1025*aQ y<=f->oi b d->GT b->b.length+((ak w x).size-k+1)+1025*aQ y<=N->N<=100000 ->
  qB w N (bq w f x k c d) (cv (dQ w n) w (lY (aE w x) (ak w x) k) y b):=by
 induction f with
 | zero=>intro n x k c y d b N _ _ _ _ h;omega
 | succ f ih =>
  intro n x k c y d b N hx hk hS hn hf O Z hN X;have hl:=fG (ak w x) k hk;obtain⟨t1,t2⟩:=t8 (ak w x) k hk;have C:=O.open
  cases D:aI (ay (ak w x) k).1
  ·-- the file ends,or a word's stead is taken
   obtain⟨x1,x2⟩:=t2 D;rw[j5 _ _ k D]
   cases G:(ay (ak w x) k).1.fin
   ·have hr:((ay (ak w x) k).1.rule==0)=false:=kl D G
    have P:((lG (aE w x) (ak w x) (ay (ak w x) k).1).rule==0&&((lG (aE w x) (ak w x) (ay (ak w x) k).1).s.toList == []))=false:=by simp only[lG];rw[hr];rfl
    have e2:((lG (aE w x) (ak w x) (ay (ak w x) k).1).s.toList == [36,91])=false:=by simp only[lG];rw[x1];decide +kernel
    rw[wQ _ _ _ _ _ _ P e2,wj w f x k c d D (by rw[G];simp)];refine qB.ends b _ d (by rw[cv.eq_def]) hr O Z ?_;simp[iK,G,lG,MV,kJ]
   ·have P:((lG (aE w x) (ak w x) (ay (ak w x) k).1).rule==0&&((lG (aE w x) (ak w x) (ay (ak w x) k).1).s.toList == []))=true:=by simp only[lG];rw[x1,x2 G,oG];rfl
    rw[GD _ _ _ _ _ _ P]
    cases Q:dg b
    ·rw[Q]at C
     rw[wj w f x k c d D (by rw[C];simp)];refine qB.ends b (qN (lG (aE w x) (ak w x) (ay (ak w x) k).1) 7) d (by simp) rfl O Z ?_;simp[iK,G,lG,MV,kJ,qN]
    ·rw[Q]at C
     rw[zU w f x k c d D G C];exact qB.good rfl (by simp only[TY];exact O) (by simp only[TY];exact Z) hS (by simp only[TY];omega)
  ·have ap:=hl.2.2 D
   obtain⟨x1,x2⟩:=t1 D;rw[j6 _ _ k hk D];have P:((lG (aE w x) (ak w x) (ay (ak w x) k).1).rule==0&&((lG (aE w x) (ak w x) (ay (ak w x) k).1).s.toList == []))=false:=by simp only[lG];rw[x1];simp
   cases hi:((ay (ak w x) k).1.text.toList == [36,91])
   ·-- a word is taken
    rw[wQ _ _ _ _ _ _ P (by exact hi)]
    have L:fZ w f x k c d=((if((aX d (ay (ak w x) k).1.text (kJ (aE w x) (ak w x) (ay (ak w x) k).1.pos)).1==0)=true then cY else((aX d (ay (ak w x) k).1.text (kJ (aE w x) (ak w x) (ay (ak w x) k).1.pos)).1,kJ (aE w x) (ak w x) (ay (ak w x) k).1.pos),c,(aX d (ay (ak w x) k).1.text (kJ (aE w x) (ak w x) (ay (ak w x) k).1.pos)).2),(ay (ak w x) k).2):=by
     unfold fZ jN;rw[hi];simp
    obtain⟨g1,g2⟩:=O.step (t:=lG (aE w x) (ak w x) (ay (ak w x) k).1) (by omega) x1 (kJ (aE w x) (ak w x) (ay (ak w x) k).1.pos);have e3:(lG (aE w x) (ak w x) (ay (ak w x) k).1).s=(ay (ak w x) k).1.text:=rfl;rw[e3]at g1 g2
    cases h2:((aX d (ay (ak w x) k).1.text (kJ (aE w x) (ak w x) (ay (ak w x) k).1.pos)).1==0)
    ·rw[ov w f x k c d D (by rw[L,h2];simpa using h2),L,h2]
     obtain⟨V,hV⟩:=As (dQ w n) w (ub w n) _ _ (QQ _) y (b++[lG (aE w x) (ak w x) (ay (ak w x) k).1]);exact qB.rule b (lG (aE w x) (ak w x) (ay (ak w x) k).1) V d _ (by rw[hV];simp) x2 O (by omega) g1 h2 (by simp[lG,MV,kJ])
    ·rw[yB w f x k c d D (by rw[L,h2];rfl),L]
     refine ih n x _ c y _ _ N hx hl.2.1 hS hn (by omega) (g2 (by simpa using h2)) ?_ (by simp;omega) X;intro u hu
     rcases Rq.1 hu with hu | hu
     ·exact Z u hu
     ·rw[Q8.1 hu];exact x2
   ·-- an inclusion
    have L:fZ w f x k c d=mW (cn w f) w x (ay (ak w x) k).2 (kJ (aE w x) (ak w x) (ay (ak w x) k).1.pos) c d:=by
     unfold fZ jN;rw[hi,QV rfl]
    have p:∀(W:List Tk) (u:Tk) (fl:pv),ru w x (ay (ak w x) k).2 (kJ (aE w x) (ak w x) (ay (ak w x) k).1.pos) d=.inl fl->fl=(u.rule,MV u)->(u.rule==0)=false->qB w N (bq w (f+1) x k c d) (b++[u],y):=fun W u fl ad e h0=>by
     have e2:mW (cn w f) w x (ay (ak w x) k).2 (kJ (aE w x) (ak w x) (ay (ak w x) k).1.pos) c d=((fl,c,d),(ay (ak w x) k).2):=by
      unfold mW;rw[ad]
     rw[ov w f x k c d D (by rw[L,e2,e];exact h0),L,e2];exact qB.ends b u d rfl h0 O Z e
    cases Q:dg b
    ·rw[Q]at C
     rw[Ma _ _ _ _ _ _ P (by exact hi) Q];exact p b (qN (lG (aE w x) (ak w x) (ay (ak w x) k).1) 4) _ (by unfold ru;rw[QV (by rw[C];rfl)];rfl) rfl rfl
    ·rw[Q]at C
     have v:¬ko d=true:=by rw[C];simp
     obtain⟨z,hz⟩:∃z,z=(ay (ak w x) k).2:=⟨_,rfl⟩
     rw[<-hz]at hl ap L p ⊢;have ha:=fG (ak w x) z hl.2.1;obtain⟨a1,a2⟩:=t8 (ak w x) z hl.2.1
     cases i:aI (ay (ak w x) z).1
     ·obtain⟨y1,y2⟩:=a2 i
      rw[j5 _ _ z i,GE _ _ _ _ _ _ P (by exact hi) Q]
      have M:dm w (lG (aE w x) (ak w x) (ay (ak w x) z).1).s (lG (aE w x) (ak w x) (ay (ak w x) z).1).rule=if(ay (ak w x) z).1.fin=true then 7 else(ay (ak w x) z).1.rule:=by
       cases B:(ay (ak w x) z).1.fin
       ·exact IQ w _ _ (kl i B)
       ·exact IR w _ _ (y2 B) y1
      refine p b _ _ (by unfold ru;rw[QS v,QV i]) (by simp only[iK,qN,MV];rw[M];rfl) ?_;simp only[qN];rw[M]
      cases B:(ay (ak w x) z).1.fin
      ·exact kl i B
      ·rfl
     ·have aS:=ha.2.2 i
      obtain⟨y1,y2⟩:=a1 i;obtain⟨o,I⟩:∃o,o=(ay (ak w x) z).2:=⟨_,rfl⟩
      rw[j6 _ _ z hl.2.1 i,<-I];rw[<-I]at ha aS;have ac:=fG (ak w x) o ha.2.1;obtain⟨b1,b2⟩:=t8 (ak w x) o ha.2.1
      obtain⟨tl,Y⟩:∃tl,lY (aE w x) (ak w x) o=lG (aE w x) (ak w x) (ay (ak w x) o).1 :: tl:=by
       cases g:aI (ay (ak w x) o).1
       ·exact⟨[],j5 _ _ o g⟩
       ·exact⟨_,j6 _ _ o ha.2.1 g⟩
      rw[Y,GF _ _ _ _ _ _ _ _ P (by exact hi) Q]
      have M:dm w (lG (aE w x) (ak w x) (ay (ak w x) z).1).s (lG (aE w x) (ak w x) (ay (ak w x) z).1).rule=if dA (ay (ak w x) z).1.text=true then 5 else if bF w (ay (ak w x) z).1.text<0 then 6 else 0:=by
       exact ED w _ _ y2 y1
      rw[M];have a3:(lG (aE w x) (ak w x) (ay (ak w x) z).1).s=(ay (ak w x) z).1.text:=rfl;rw[a3]
      cases H:dA (ay (ak w x) z).1.text
      ·by_cases E:bF w (ay (ak w x) z).1.text<0
       ·simp only[Rs,Sq,QV E]
        rw[QV (show((6:Int)==0)=false from rfl)];exact p b _ _ (by unfold ru;rw[QS v,QS (by rw[i];simp),QS (by rw[H];simp),QV E];rfl) rfl rfl
       ·simp only[Rs,Sq,QS E]
        rw[QS (show ¬((0:Int)==0)=false by decide)]
        have aT:dI (lG (aE w x) (ak w x) (ay (ak w x) o).1).s (lG (aE w x) (ak w x) (ay (ak w x) o).1).rule=if aI (ay (ak w x) o).1=false then(if(ay (ak w x) o).1.fin=true then 7 else(ay (ak w x) o).1.rule) else if((ay (ak w x) o).1.text.toList == [36,93])=false then 5 else 0:=by
         cases g:aI (ay (ak w x) o).1
         ·obtain⟨y3,y4⟩:=b2 g
          rw[QV rfl]
          cases B:(ay (ak w x) o).1.fin
          ·exact DL _ _ (kl g B)
          ·exact DM _ _ (y4 B) y3
         ·obtain⟨y3,y4⟩:=b1 g
          rw[QS (by simp)];exact Bk _ _ y4 y3
        rw[aT]
        cases g:aI (ay (ak w x) o).1
        ·rw[QV rfl]
         have ag:((if(ay (ak w x) o).1.fin=true then 7 else(ay (ak w x) o).1.rule)==0)=false:=by
          cases B:(ay (ak w x) o).1.fin
          ·exact kl g B
          ·rfl
         rw[QV ag];exact p b _ _ (by unfold ru;rw[QS v,QS (by rw[i];simp),QS (by rw[H];simp),QS E,<-I,QV g];rfl) rfl ag
        ·simp only[UG,Sq]
         cases al:((ay (ak w x) o).1.text.toList == [36,93])
         ·rw[QV rfl,QV (show((5:Int)==0)=false from rfl)]
          exact p b _ _ (by unfold ru;rw[QS v,QS (by rw[i];simp),QS (by rw[H];simp),QS E,<-I,QS (by rw[g];simp),QV al];rfl) rfl rfl
         ·simp only[UG,Sq]
          rw[QS (show ¬((0:Int)==0)=false by decide)]
          -- the file is named
          have a6:=ac.2.2 g
          have az:tl=lY (aE w x) (ak w x) (ay (ak w x) o).2:=by
           rw[j6 _ _ o ha.2.1 g]at Y;exact(List.cons.inj Y).2.symm
          rw[az];obtain⟨j,hj⟩:∃j,j=(bF w (ay (ak w x) z).1.text).toNat:=⟨_,rfl⟩
          have K:j<w.length:=by
           rcases pH (ay (ak w x) z).1.text w with h | ⟨q,hq,h⟩
           ·rw[h]at E;omega
           ·rw[hj,h,R9];exact hq
          rw[<-hj]
          have l:fZ w f x k c d=(cn w f j c d,(ay (ak w x) o).2):=by
           rw[L];unfold mW ru;rw[QS v,QS (by rw[i];simp),QS (by rw[H];simp),QS E,<-I,QS (by rw[g];simp),QS (by rw[al];simp),<-hj]
          have F:=hS.e j K
          cases J:c.getD j true
          ·rw[J]at F
           have ao:y[j]?=some false:=by
            have:=hS.s;rw[QO (by omega)];rw[QP,QO (by omega)]at F;exact congrArg some F.symm
           have a5:=lB y j ao;rw[QS (by rw[<-F];simp)];have A:cn w f j c d=bq w f j 0 (c.set j true) d:=by unfold cn;rw[J,QS (by simp)]
           obtain⟨m,hm⟩:∃m,n=m+1:=⟨n-1,by omega⟩
           have er:dQ w n j y b=cv (dQ w m) w (lY (aE w j) (ak w j) 0) (y.set j true) b:=by rw[hm,dQ,zl]
           have a4:=ar j K;have R1:=ih m j 0 (c.set j true) (y.set j true) d b (b.length+1025*aQ y) K (Rn _) (hS.set ax j K) (by omega) (by omega) O Z (by omega) (by omega);rw[<-er,<-A]at R1;have af:=ub w n j y b;generalize dQ w n j y b=RR at *
           rcases R1 with ⟨S,R,U,r4,T⟩ | ⟨W,u,d0,S,R,U,r4,T⟩ | ⟨W,t,V,d0,r,S,R,U,r4,T,r6,r7⟩
           ·rw[yb U,QS (by simp),yB w f x k c d D (by rw[l,S];rfl),l]
            have a7:aQ RR.2<=aQ y:=by
             obtain⟨V,hV⟩:=af;rw[hV,QZ]at T;omega
            exact ih n x _ _ RR.2 _ RR.1 N hx ac.2.1 r4 (by omega) (by simp only;omega) R U (by simp only;omega) X
           ·have ai:eu RR.1=true:=by unfold eu;rw[S,Tb];simp only;rw[R];rfl
            rw[ai,QV rfl,ov w f x k c d D (by rw[l,T];exact R),l];exact qB.ends W u d0 S R U r4 T
           ·rw[ov w f x k c d D (by rw[l,r7];exact r6),l]
            cases ai:eu RR.1
            ·rw[QS (by simp)]
             obtain⟨V2,a0⟩:=As (dQ w n) w (ub w n) _ (lY (aE w x) (ak w x) (ay (ak w x) o).2) (QQ _) RR.2 RR.1;exact qB.rule W t (V++V2) d0 r (by rw[a0,S];simp) R U (by omega) T r6 r7
            ·rw[QV rfl]
             exact qB.rule W t V d0 r S R U (by omega) T r6 r7
          ·rw[J]at F
           have A:cn w f j c d=(cY,c,d):=by unfold cn;rw[J,QV rfl]
           rw[QV F.symm,yB w f x k c d D (by rw[l,A];rfl),l,A];exact ih n x _ c y d b N hx ac.2.1 hS hn (by omega) O Z (by omega) X
      ·simp only[TY]
       rw[QV (show((5:Int)==0)=false from rfl)];exact p b _ _ (by unfold ru;rw[QS v,QS (by rw[i];simp),QV H];rfl) rfl rfl
def Lh(t:Tk):pv:=(t.rule,MV t)
def fE(fs:Fs)(k:Nat):pv :=
 if((yn (cC fs k).1 (aj (cC fs k).1)).rule==0)=false then Lh (yn (cC fs k).1 (aj (cC fs k).1)) else Lh (cC fs k).2
theorem Gg(h:oi y7 y9):yn y7 (aj y7)=jf:=Oo h.u
theorem v6(o:w.length<=4)(n:∀j,j<w.length->(ak w j).size<=1024)(i:H<w.length) :
  (bK w H).1=fE w H/\(((bK w H).1.1==0)=true->oi (cC w H).1 (bK w H).2.2/\(cC w H).1.length<=10000):=by
 have l:OI w FZ (List.replicate w.length false):=⟨rfl,by simp,fun j p=>by
  rw[QP,QP,Se,QV p]
  match j,(show j<4 by omega) with
  | 0,_=>rfl
  | 1,_=>rfl
  | 2,_=>rfl
  | 3,_=>rfl⟩
 have k:(List.replicate w.length false)[H]?=some false:=by rw[Se,QV i]
 have x:=lB _ H k;rw[mO]at x;have C:=n H i
 have I:bK w H=bq w 5000 H 0 (FZ.set H true) fm:=by
  unfold bK cn;rw[l.e H i,QP,k];rfl
 have K:dQ w w.length H (List.replicate w.length false) []=cv (dQ w (w.length-1)) w (lY (aE w H) (ak w H) 0) ((List.replicate w.length false).set H true) []:=by
  obtain⟨m,L⟩:∃m,w.length=m+1:=⟨w.length-1,by omega⟩
  have:w.length-1=m:=by omega
  rw[this]
  conv=>lhs;rw[show dQ w w.length=dQ w (m+1) by rw[L]]
  rw[dQ,zl]
 have B:=Md w o n 5000 (w.length-1) H 0 (FZ.set H true) ((List.replicate w.length false).set H true) fm [] 5000 i (Rn _) (l.set o H i) (by omega) (by omega) (Lk rfl) (fun t F=>by cases F) (by simp only[Rr];omega) (by omega);rw[<-I,<-K]at B;have y:(dQ w w.length H (List.replicate w.length false) []).1=pr w H:=rfl;generalize dQ w w.length H (List.replicate w.length false) []=N at *;unfold fE cC
 rcases B with ⟨b,d,f,D,g⟩ | ⟨W,u,G,b,d,f,D,g⟩ | ⟨W,t,V,G,r,b,d,f,D,g,s,E⟩
 ·rw[y]at d f g
  simp only[yb f,Rs,Sq];rw[Gg d,QS (by decide)];exact⟨b,fun _=>⟨d,by omega⟩⟩
 ·rw[y]at b
  have a:eu (pr w H)=true:=by unfold eu;rw[b,Tb];simp only;rw[d];rfl
  rw[a,QV rfl,b,List.dropLast_concat,Tb];simp only[UN];rw[Gg f,QS (by decide)];exact⟨g,fun h=>by rw[g]at h;simp only at h;rw[d]at h;cases h⟩
 ·rw[y]at b
  obtain⟨c,z⟩:∃c,(if eu (pr w H)=true then((pr w H).dropLast,(pr w H).getLast?.getD jf) else(pr w H,jf)).1=(W++[t])++c:=by
   cases a:eu (pr w H)
   ·rw[QS (by simp)]
    exact⟨V,by simp only;rw[b];simp⟩
   ·rw[QV rfl]
    cases V with
    | nil =>
     unfold eu at a;rw[b,Tb]at a;simp only[d]at a
     cases a
    | cons v V=>exact⟨(v :: V).dropLast,by simp only;rw[b,List.dropLast_append_of_ne_nil (by simp),List.dropLast_cons_of_ne_nil (by simp)];simp⟩
  rw[z];have J:=rk W (t :: c) (by omega) f.u;have A:=vO (W++[t]) c (by simp;omega) W.length (by simp) (fun j p=>rk W [t] (by omega) f.u j p);rw[g]at A
  have q:=La (T:=(W++[t])++c) (S:=aj ((W++[t])++c)) (k:=W.length) (by simp) (by rw[A];exact s) (fun j p=>by
   have:=J j p;rw[show W++t :: c=(W++[t])++c by simp]at this;exact this)
  have M:((W++[t])++c).getD W.length jf=t:=by
   rw[QP,Sx,Q4 (QQ _),RV];simp
  rw[q,A,M];simp only;rw[QV s];exact⟨E,fun h=>by rw[E]at h;simp only at h;rw[s]at h;cases h⟩
def xV(R:List St)(a:Nat)(vs:List ByteArray)(k i j:Nat):Bool:=(List.range k).any (fun n=>sx R a n&&(bD vs (symsAt R n)).contains i&&(bD vs (symsAt R n)).contains j)
theorem Cp(a:H<z4.length):(kH N I z3 z4).getD H false=(z4.getD H false||z3.any (fun b=>I*N+b==H)):=by
 unfold kH
 induction z3 generalizing z4 with
 | nil=>simp
 | cons m z3 c =>
  simp only[Tz,TA];rw[c (z4.set (I*N+m) true) (by simpa using a)]
  by_cases e:I*N+m=H
  ·subst e
   rw[QP,Uf a];simp
  ·have d:(I*N+m==H)=false:=by rw[Rg];exact e
   rw[QP,Ur e,<-QP,d,So]
theorem Co(r:List Nat)(a:List Bool)(q:Nat)(c:q<a.length):(r.foldl (fun a b=>kH I b z3 a) a).getD q false=(a.getD q false||r.any (fun b=>z3.any (fun d=>b*I+d==q))):=by
 induction r generalizing a with
 | nil=>simp
 | cons m r e =>
  simp only[Tz,TA];rw[e (kH I m z3 a) (by rw[pN];exact c),Cp I m z3 a q c,TE]
theorem Cy{a c:Nat}(f:c<b)(d:y0<b)(h:a*b+c=n*b+y0):a=n/\c=y0:=by
 have e:(a*b+c) / b=a:=by rw[Nat.mul_comm,Nat.mul_add_div (by omega)];rw[Nat.div_eq_of_lt f];omega
 have g:(n*b+y0) / b=n:=by rw[Nat.mul_comm,Nat.mul_add_div (by omega)];rw[Nat.div_eq_of_lt d];omega
 rw[h]at e;have:a=n:=by omega
 subst this;exact⟨rfl,by omega⟩
theorem IN(i:g<v.length)(d:H<v.length):(de M N v I).getD (g*v.length+H) false=xV M N v I g H:=by
 have e:g*v.length+H<v.length*v.length:=zh i d
 induction I with
 | zero =>
  unfold xV;rw[de,QP,Se,QV e];rfl
 | succ I f =>
  have j:xV M N v (I+1) g H=(xV M N v I g H||(sx M N I&&(bD v (symsAt M I)).contains g&&(bD v (symsAt M I)).contains H)):=by
   unfold xV;rw[R4,UV];simp
  rw[j,de]
  cases m:sx M N I
  ·simp only[Rs,Sq,TP,Sy]
   exact f
  ·simp only[TY,Su]
   unfold lR;rw[Co _ _ _ _ _ (by rw[kn];exact e),f]
   congr 1
   rw[Sz];simp only[RB,Rf,TF,Tw]
   constructor
   ·rintro ⟨o,c,n,b,l⟩
    obtain⟨k,h⟩:=RZ b;have a:=sZ v (symsAt M I) k h.1;rw[h.2]at a;obtain⟨rfl,rfl⟩:=Cy a d l;exact⟨c,b⟩
   ·rintro ⟨c,b⟩
    exact⟨g,c,H,b,rfl⟩
theorem GY(b:g<v.length)(a:H<v.length):eD v.length (fN M N v) g H=(!(g==H)&&xV M N v M.length g H):=by
 unfold eD fN;rw[IN M N v M.length g H b a]
theorem wg{α:Type}(f g:Nat->List α)(h:∀x∈z3,f x=g x):z3.flatMap f=z3.flatMap g:=by
 induction z3 with
 | nil=>rfl
 | cons a z3 c=>rw[RH,RH,h a (by simp),c (fun x b=>h x (Rl _ b))]
def nS(l N:List St)(a:Nat):List ByteArray:=((List.range N.length).filter (fun j=>zO (l++N) a (l.length+j))).flatMap (symsAt N)
def Qv(vs:List ByteArray)(A:Nat->Nat->Bool):List Pr:=(List.range vs.length).flatMap (fun i=>((List.range vs.length).filter (fun j=>decide (i<j)&&A i j)).map (fun j=>(gD vs i,gD vs j)))
theorem Po:Ar v (fN M N v)=Qv v (fun i j=>!(i==j)&&xV M N v M.length i j):=by
 unfold Ar ta Qv mG;refine wg _ _ _ (fun i a=>?_);have a:=Q9.1 a
 congr 1
 exact Ui (fun j b=>by rw[GY M N v i j a (Q9.1 b)])
section
variable {T:List Tk} {d:Db}
theorem kO.vars(R:kO T d)(F:PK T (aj T))(l:b<d.sts.length):eW d.sts (aK d.sts b)=fO T (aj T) (bW T (aj T) (bR (aj T) b)) (bW T (aj T) (bR (aj T) b)).length:=by
 unfold fO;rw[RI,<-R.hyps F l];unfold eW
 have a:∀n∈aK d.sts b,n<d.sts.length:=fun n e=>by
  unfold aK dG at e;exact Q9.1 (RG.1 e).1
 generalize aK d.sts b=L at a
 induction L with
 | nil=>rfl
 | cons n L f =>
  obtain⟨s,r,i,-,j⟩:=R.get (a n (by simp));have o:=R.hel.at_ (a n (by simp));rw[List.filterMap_cons,To,List.filter_cons];unfold mP;rw[r];simp only;rw[(fS i).2.1]
  cases g:((au (aj T) (bR (aj T) n)).k.toList == [36,102])
  ·rw[QS (by simp),QS (by simp)]
   exact f (fun m c=>a m (by simp[c]))
  ·obtain⟨q,t⟩:=F _ o g
   have p:aL s=tS T ((au (aj T) (bR (aj T) n)).h+1):=by
    unfold aL;rw[QV ⟨by rw[(fS i).2.1];exact g,by rw[j];exact q⟩,j,t]
   rw[QV rfl,QV rfl,To,<-p]
   show aL s :: _=_
   congr 1
   exact f (fun m c=>a m (by simp[c]))
def On(vs:List ByteArray):Prop:=∀i j,i<j->j<vs.length->((vs.getD i ⟨#[]⟩).toList==(vs.getD j ⟨#[]⟩).toList)=false
theorem On.ne(h:On d){i j:Nat}(c:i<d.length)(b:j<d.length)(f:i≠j):((d.getD i ⟨#[]⟩).toList==(d.getD j ⟨#[]⟩).toList)=false:=by
 rcases Nat.lt_or_gt_of_ne f with a | a
 ·exact h i j a b
 ·have:=h j i a c
  rw[Rg]at this ⊢;exact fun e=>this e.symm
theorem LU(h:On d)(a:b<d.length)(x:ByteArray):pt d x=some b ↔ ((d.getD b ⟨#[]⟩).toList==x.toList)=true:=by
 unfold pt
 constructor
 ·intro e
  have:=Tl e;simpa using this
 ·intro e
  rw[Uo];refine⟨e,b,by rw[Te];exact a,by rw[Ua],fun j g=>?_⟩;rw[Ua];have:=h.ne (i:=j) (j:=b) (by omega) a (by omega);simp only[Bool.not_eq_true',Rg];rw[Rg]at this;intro f;have c:(d.getD b ⟨#[]⟩).toList=x.toList:=by simpa using e
  exact this (f.trans c.symm)
theorem vq(h:On d)(f:b<d.length)(g:List ByteArray):(bD d g).contains b=aJ g (d.getD b ⟨#[]⟩):=by
 unfold bD aJ;rw[Sz,TF,UD,RB]
 constructor
 ·rintro ⟨x,c,e⟩
  have:=(LU h f x).1 e;refine⟨x,c,?_⟩;have a:(d.getD b ⟨#[]⟩).toList=x.toList:=by simpa using this
  rw[a];exact UP _
 ·rintro ⟨x,c,e⟩
  refine⟨x,c,(LU h f x).2 ?_⟩;have a:x.toList=(d.getD b ⟨#[]⟩).toList:=by simpa using e
  rw[a];exact UP _
theorem kO.tog(R:kO T d)(t:b<d.sts.length)(h:On d)(y:n<d.length)(w:y0<d.length)(x:n<y0):xV d.sts b d d.sts.length n y0=hQ T (aj T) (d.getD n ⟨#[]⟩) (d.getD y0 ⟨#[]⟩) (bR (aj T) b):=by
 have z:=R.hel.len;have C:=R.hel.at_ t;have v:=h n y0 x w;unfold xV hQ;rw[Sz,RB,RB]
 constructor
 ·rintro ⟨l,a,e⟩
  have a:=Q9.1 a;obtain⟨s,j,i,-,B⟩:=R.get a;simp only[Rf]at e;obtain⟨⟨c,m⟩,o⟩:=e;rw[vq h y,R.symsAt a]at m;rw[vq h w,R.symsAt a]at o;unfold sx at c;rw[j]at c;simp only[Rf]at c;have r:((au (aj T) (bR (aj T) l)).k.toList == [36,100])=true:=by rw[<-(fS i).2.2.1];exact c.1
  have g:qO s.kind=false:=by rw[(fS i).2.2.2,ci r,ci r];decide
  have p:=c.2;rw[R.held j g t,Rf]at p;refine⟨bR (aj T) l,Q9.2 (of_decide_eq_true p.1),?_⟩;unfold PB;rw[r,v,m,o,p.2];rfl
 ·rintro ⟨q,u,e⟩
  have u:=Q9.1 u;unfold PB at e;simp only[Rf]at e;obtain⟨c,-,m,o,A⟩:=e;have f:q∈lU (aj T):=RG.2 ⟨Q9.2 (by omega),by unfold nt;rw[c];simp⟩;rw[wP]at f;obtain⟨l,a,rfl⟩:=Sh.1 f;have a:l<d.sts.length:=by rw[z];exact Q9.1 a
  obtain⟨s,j,i,-,B⟩:=R.get a;have g:qO s.kind=false:=by rw[(fS i).2.2.2,ci c,ci c];decide
  refine⟨l,Q9.2 a,?_⟩;rw[vq h y,vq h w,R.symsAt a,m,o];unfold sx;rw[j];simp only;rw[(fS i).2.2.1,c,R.held j g t,A,SL u];rfl
theorem kO.pairs(R:kO T d)(F:PK T (aj T))(g:b<d.sts.length)(f:On (eW d.sts (aK d.sts b))):gI d.sts b=fH T (aj T) (bR (aj T) b):=by
 unfold gI fH;rw[Po,<-R.vars F g];generalize eW d.sts (aK d.sts b)=a at f;unfold Qv ld jY
 apply wg
 intro i c;have c:=Q9.1 c
 have e:(List.range a.length).filter (fun j=>decide (i<j)&&(!(i==j)&&xV d.sts b a d.sts.length i j))=(List.range a.length).filter (fun j=>decide (i<j)&&hQ T (aj T) (a.getD i ⟨#[]⟩) (a.getD j ⟨#[]⟩) (bR (aj T) b)):=by
  apply dW
  intro j k
  by_cases h:i<j
  ·have:(i==j)=false:=Rg.2 (by omega)
   rw[R.tog g f c k h,this];simp
  ·rw[Sa h];rfl
 rw[e];rfl
def km(T:List Tk)(S:List Sm)(j:Nat):ByteArray:=(bu T (au S j).h).foldl (fun s x=>s++⟨#[32]⟩++x) (bG T (au S j)++⟨#[32]⟩++(au S j).k)
def pK(T:List Tk)(S:List Sm)(a:Nat):List ByteArray:=(bW T S a).map (km T S)++(fH T S a).map fh++[km T S a]
theorem BI:∀s:ByteArray,v.foldl (fun t x=>t++(⟨#[32]⟩++x)) s=v.foldl (fun s x=>s++⟨#[32]⟩++x) s:=by
 induction v with
 | nil=>intro s;rfl
 | cons x v a=>intro s;rw[Tz,Tz,a,ByteArray.append_assoc]
theorem Ly(h:eZ o.toList z0)(a:z0=2∨z0=3∨z0=4∨z0=5):sM z0=o:=by
 apply yk
 generalize o.toList=l at h
 rcases a with rfl | rfl | rfl | rfl <;> cases h <;> decide +kernel
theorem kO.line(R:kO T d)(e:b<d.sts.length)(c:∀s,d.sts[b]?=some s->s.kind=2∨s.kind=3∨s.kind=4∨s.kind=5):yL d.sts b=km T (aj T) (bR (aj T) b):=by
 obtain⟨s,a,g,f,h⟩:=R.get e;unfold yL km;rw[a];simp only;unfold sQ ny;rw[RI,h,f,Ly g (c s a),BI]
theorem kO.lines(R:kO T d)(F:PK T (aj T))(g:b<d.sts.length)(j:On (eW d.sts (aK d.sts b)))(k:∀s,d.sts[b]?=some s->qO s.kind=true):cW d.sts b=pK T (aj T) (bR (aj T) b):=by
 unfold cW pK;rw[R.pairs F g j,<-R.hyps F g,List.map_map,R.line g (fun s f=>by have:=k s f;unfold qO at this;simp at this;omega)]
 congr 2
 apply Uw
 intro n i;unfold aK dG at i;have a:=RG.1 i;have e:=Q9.1 a.1;refine R.line e (fun s f=>?_);have c:=a.2;unfold l5 pM at c;rw[f]at c;simp only[Rf]at c;have h:=c.2
 split at h
 ·next q=>left;simpa using q
 ·right;left;simpa using h
theorem xy.vsd(F:xy d):On (eW d.sts (aK d.sts b)):=by
 have A:(aK d.sts b).Pairwise (fun n m=>n<m/\n∈aK d.sts b/\m∈aK d.sts b):=by
  have h:(aK d.sts b).Pairwise (· < ·):=List.Pairwise.filter _ Uh;exact h.imp_of_mem (fun B E H=>⟨H,B,E⟩)
 have J:(eW d.sts (aK d.sts b)).Pairwise (fun x y=>(x.toList==y.toList)=false):=by
  unfold eW;refine List.Pairwise.filterMap _ (fun n m h x a y z=>?_) A;obtain⟨p,o,I⟩:=h
  have l:∀n x,n∈aK d.sts b->mP d.sts n=some x->∃s,d.sts[n]?=some s/\s.kind=2/\x=vr s/\g7 d.sts n b=true:=fun n x o a=>by
   unfold mP at a
   cases g:d.sts[n]? with
   | none=>rw[g]at a;cases a
   | some s =>
    rw[g]at a;simp only at a
    split at a
    ·next k =>
     have v:s.kind=2:=by simpa using k
     have C:=F.fl n s g v;have e:aL s=vr s:=by unfold aL vr;rw[QV ⟨k,C⟩]
     refine⟨s,rfl,v,by rw[<-e];cases a;rfl,?_⟩;unfold aK dG at o;have:=(RG.1 o).2;unfold l5 at this;rw[g]at this;simp only[Rf]at this;exact this.1
    ·cases a
  obtain⟨s,g,D,rfl,c⟩:=l n x o a;obtain⟨u,t,G,rfl,f⟩:=l m y I z;refine F.ds n m s u g t D G p ?_;unfold g7 at c f;rw[g]at c;rw[t]at f;simp only[Rf,Rz,Sw]at c f
  rcases c.2 with q | q
  ·left;simpa using q
  ·right;have:=f.1;omega
 intro i j r w;have:=UI.1 J i j (by omega) w r;rw[QP,QP,QO w,QO (by omega)];exact this
theorem kO.frame(R:kO T d)(F:xy d)(c:b<d.sts.length)(a:∀s,d.sts[b]?=some s->qO s.kind=true):cW d.sts b=pK T (aj T) (bR (aj T) b) :=
 R.lines (R.flo F) c F.vsd a
end
end Go.Proofs.YtpddjjabfbfifaaGreat
