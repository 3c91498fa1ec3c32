import Derived.Test.YtpddjjabfbfifaaGreatG10
import Derived.Test.YtpddjjabfbfifaaGreatG15
import Derived.Test.YtpddjjabfbfifaaGreatG19
namespace Go.Proofs.YtpddjjabfbfifaaGreat
open Go.RowKit Tryz
set_option maxRecDepth 100000
set_option maxHeartbeats 40000000
variable{l:List Sm}{b n z7:Nat}{z3:Sm}{H:List St}{S:List Nat}{a:St}{o:ByteArray}{N:List UInt8}{M:Int}{v:List ByteArray}{y6:Db}{z6:Fs}{zb:FP}{z4:List Tk×List Bool}{y0:List Tk}(zt x:Tk)(D:List Tk)(z5:List Bool)(L:Tk)(y:List Tk)(y5:Db)(w:Fs)(T:ByteArray)(i:Int)(I:List St)(z0:Nat)(d:List ByteArray)(g:Nat)(k:List Sm)(z1:Sm)(f:Nat)
def nu(S:List Sm)(j:Nat):Bool:=((au S j).k.toList == [36,100])||((au S j).k.toList == [36,102])||((au S j).k.toList == [36,101])||((au S j).k.toList == [36,97])||((au S j).k.toList == [36,112])
def lV(S:List Sm):List Nat:=(List.range S.length).filter (nu S)
def bR(S:List Sm)(n:Nat):Nat:=(lV S).getD n S.length
theorem Ly(a:f<k.length):nu (k++[z1]) f=nu k f:=by
 unfold nu;rw[jL k [z1] f a]
theorem nX:lV (k++[z1])=lV k++(if nu (k++[z1]) k.length=true then [k.length] else []):=by
 unfold lV;rw[cg,R6,RV,dW (fun j a=>Ly k z1 j a)]
 congr 1
 cases h:nu (k++[z1]) k.length <;> simp[h]
theorem N2(h:(lV l)[b]?=some n):n<l.length:=by
 have:=R4 h;exact Ra.1 (RH.1 this).1
theorem N1(h:b<(lV l).length):bR l b<l.length:=by
 have e:(lV l)[b]?=some (bR l b):=by unfold bR;rw[QQ,QP h];rfl
 exact N2 e
theorem Ma:bR k (lV k).length=k.length:=by
 unfold bR;rw[QQ,Rx (QR _)];rfl
theorem L9(h:b<(lV l).length):bR (l++[z3]) b=bR l b:=by
 unfold bR;rw[nX,QQ,QQ,Q7 h,QP h];rfl
theorem nW{S:List Sm}{n a:Nat}(h:n<a)(b:a<(lV S).length):bR S n<bR S a:=by
 have c:(lV S).Pairwise (· < ·):=List.Pairwise.filter _ Ui;have:=UJ.1 c n a (by omega) b h;unfold bR;rw[QQ,QQ,QP b,QP (by omega)];exact this
theorem rV(a:b<=n)(c:n<=l.length):aV (l++[z3]) b n=aV l b n:=by
 unfold aV;rw[Sg (by omega),So (by rw[RT];omega)]
theorem qi(a:b<=l.length):bb (l++[z3]) b=bb l b:=by
 unfold bb;rw[So a]
theorem FW(a:b<=l.length):aV (l++[z3]) b (l.length+1)=(aV l b l.length&&decide (bb l b<=aO (bb l l.length) z3.k)):=by
 rw[rW (l++[z3]) b l.length a (by rw[cg];omega),rV a (QR _),qi a,hZ]
theorem zz(a:b<=l.length)(h:aV l b l.length=true):bb l b<=bb l l.length:=DE l b l.length a (QR _) h l.length a (QR _)
theorem nL(a:b<=l.length)(c:∀o,o<=aO o z3.k):aV (l++[z3]) b (l.length+1)=aV l b l.length:=by
 rw[FW a]
 cases h:aV l b l.length
 ·rfl
 ·have:=zz a h
  have:=c (bb l l.length);simp;omega
structure np(S:List Sm)(l:List St)(rb:List Nat):Prop where
 len:l.length=(lV S).length
 til:∀(n:Nat) (s:St),l[n]?=some s->qP s.kind=false->∀a,n<a->a<=l.length->(s.til==0||decide (a<s.til))=aV S (bR S n) (bR S a)
 le:∀(n:Nat) (s:St),l[n]?=some s->s.til<=l.length
 dep:bb S S.length=(rb.length:Int)
 rbl:∀i,i<rb.length->rb.getD i 0<=l.length/\∀n,n<l.length->aV S (bR S n) S.length=true->(rb.getD i 0<=n ↔ (i:Int)<bb S (bR S n))
theorem np.nil:np [] [] []:=⟨rfl,(fun n s h=>by cases h),(fun n s h=>by cases h),rfl,fun i h=>by cases h⟩
theorem np.at_(h:np l H S)(a:b<H.length):bR l b<l.length:=N1 (by rw[<-h.len];exact a)
theorem np.ix(h:np l H S)(s:Sm)(a:b<H.length):bR (l++[s]) b=bR l b:=L9 (by rw[<-h.len];exact a)
theorem np.ixEnd(h:np l H S):bR l H.length=l.length:=by rw[h.len];exact Ma l
theorem np.now(h:np l H S)(c:H[b]?=some a)(d:qP a.kind=false):(a.til==0)=aV l (bR l b) l.length:=by
 have e:=(Q8.1 c).1;have:=h.til b a c d H.length e (QR _);rw[h.ixEnd]at this;rw[<-this];have:=h.le b a c;rw[Sb (by omega),Sz]
theorem np.other(h:np l H S)(s:Sm)(E:nu (l++[s]) l.length=false)(u:∀o,o<=aO o s.k)(c:List Nat)(z:aO (bb l l.length) s.k=(c.length:Int))(C:c=S∨c=S++[H.length]):np (l++[s]) H c:=by
 have e:lV (l++[s])=lV l:=by rw[nX,QT (by rw[E];simp),Rl]
 have D:bR (l++[s]) H.length=l.length+1:=by
  unfold bR;rw[e,QQ,Rx (by rw[h.len];exact QR _)];exact cg l s
 refine⟨by rw[e];exact h.len,fun n t v x a f p=>?_,h.le,by rw[cg,hZ];exact z,fun i g=>?_⟩
 ·have d:=(Q8.1 v).1
  have m:=h.at_ d;rw[h.ix s d]
  by_cases F:a=H.length
  ·subst F
   rw[D,nL (by omega) u,h.til n t v x _ f p,h.ixEnd]
  ·have b:a<H.length:=by omega
   have:=h.at_ b;have r:bR l n<=bR l a:=RM (nW f (by rw[<-h.len];exact b));rw[h.ix s b,rV r (by omega)];exact h.til n t v x a f p
 ·rw[cg]
  have j:∀i,i<S.length->S.getD i 0<=H.length/\∀n,n<H.length->aV (l++[s]) (bR (l++[s]) n) (l.length+1)=true->(S.getD i 0<=n ↔ (i:Int)<bb (l++[s]) (bR (l++[s]) n)):=fun i g=>by
   obtain⟨A,B⟩:=h.rbl i g;refine⟨A,fun n d b=>?_⟩;have m:=h.at_ d;rw[h.ix s d]at b ⊢;rw[nL (by omega) u]at b;rw[qi (by omega)];exact B n d b
  rcases C with rfl | rfl
  ·exact j i g
  ·rw[Q0]at g
   replace g:i<S.length+1:=g
   by_cases w:i<S.length
   ·have q:(S++[H.length]).getD i 0=S.getD i 0:=by rw[QQ,QQ,Q7 w]
    rw[q];exact j i w
   ·have q:i=S.length:=by omega
    subst q;have y:(S++[H.length]).getD S.length 0=H.length:=by rw[QQ,Q5 (QR _),RY];rfl
    rw[y];refine⟨QR _,fun n d b=>?_⟩;have m:=h.at_ d;rw[h.ix s d]at b ⊢;rw[nL (by omega) u]at b;rw[qi (by omega)];have:=zz (by omega) b;have:=h.dep;omega
theorem np.kept(h:np l H S)(s:Sm)(J:nu (l++[s]) l.length=true)(A:∀o,aO o s.k=o)(t:St)(K:t.til=0):np (l++[s]) (H++[t]) S:=by
 have c:∀o,o<=aO o s.k:=fun o=>by rw[A o];exact TJ _
 have e:lV (l++[s])=lV l++[l.length]:=by rw[nX,QW J]
 have g:(H++[t]).length=H.length+1:=by rw[Q0];rfl
 have p:bR (l++[s]) H.length=l.length:=by
  unfold bR;rw[e,h.len,QQ,Q5 (QR _),RY];rfl
 have z:bR (l++[s]) (H.length+1)=l.length+1:=by
  unfold bR;rw[e,QQ,Rx (by rw[Q0,h.len];exact QR _)];exact cg l s
 have d:aV (l++[s]) l.length (l.length+1)=true:=by
  rw[nL (QR _) c];exact A9 l l.length
 refine⟨by rw[g,e,Q0,h.len];rfl,fun n u b x a j w=>?_,fun n u b=>?_,by rw[cg,hZ,A];exact h.dep,fun i F=>?_⟩
 ·rw[g]at w
  by_cases f:n<H.length
  ·rw[Q7 f]at b
   have v:=h.at_ f;have E:=h.le n u b;rw[h.ix s f]
   by_cases m:a<H.length
   ·have:=h.at_ m
    have q:bR l n<=bR l a:=RM (nW j (by rw[<-h.len];exact m));rw[h.ix s m,rV q (by omega)];exact h.til n u b x a j (by omega)
   ·by_cases I:a=H.length
    ·subst I
     rw[p,rV (by omega) (QR _),<-h.now b x,Sb (by omega),Sz]
    ·have L:a=H.length+1:=by omega
     subst L;rw[z,nL (by omega) c,<-h.now b x,Sb (by omega),Sz]
  ·have G:n=H.length:=by omega
   have m:a=H.length+1:=by omega
   subst G m;rw[Q5 (QR _),RY]at b
   cases b
   rw[p,z,d,K];rfl
 ·rw[g]
  by_cases f:n<H.length
  ·rw[Q7 f]at b
   have:=h.le n u b;omega
  ·have:=(Q8.1 b).1
   rw[g]at this;rw[Q5 (by omega),show n-H.length=0 by omega]at b
   cases b
   omega
 ·obtain⟨C,D⟩:=h.rbl i F
  rw[g,cg];refine⟨by omega,fun n f y=>?_⟩
  by_cases r:n<H.length
  ·have v:=h.at_ r
   rw[h.ix s r]at y ⊢;rw[nL (by omega) c]at y;rw[qi (by omega)];exact D n r y
  ·have B:n=H.length:=by omega
   subst B;rw[p,qi (QR _),h.dep]
   constructor
   ·intro _;omega
   ·intro _;exact C
theorem qj(h:(gy H b)[n]?=some a):∃v,H[n]?=some v/\a=(if b<=n/\n<H.length then lM H.length v else v):=by
 unfold gy at h;rw[mt]at h
 cases e:H[n]? with
 | none=>rw[e]at h;cases h
 | some v=>rw[e]at h;simp only[Option.map_some,Option.some.injEq]at h;exact⟨v,rfl,h.symm⟩
theorem np.pop(h:np l H (S++[b]))(s:Sm)(Q:nu (l++[s]) l.length=false)(G:∀o,aO o s.k=o-1):np (l++[s]) (gy H b) S:=by
 have e:lV (l++[s])=lV l:=by rw[nX,QT (by rw[Q];simp),Rl]
 have w:(gy H b).length=H.length:=jg H b H.length
 have N:bR (l++[s]) H.length=l.length+1:=by
  unfold bR;rw[e,QQ,Rx (by rw[h.len];exact QR _)];exact cg l s
 have O:bb l l.length=(S.length:Int)+1:=by rw[h.dep,Q0];rfl
 obtain⟨B,m⟩:=h.rbl S.length (by rw[Q0];exact Nat.lt_succ_self _);have K:(S++[b]).getD S.length 0=b:=by rw[QQ,Q5 (QR _),RY];rfl
 rw[K]at B m
 have J:∀n,n<H.length->aV (l++[s]) (bR l n) (l.length+1)=(aV l (bR l n) l.length&&decide (n<b)):=fun n d=>by
  have p:=h.at_ d;rw[FW (by omega)]
  cases j:aV l (bR l n) l.length
  ·rfl
  ·have q:=m n d j
   have:=zz (by omega) j;rw[G,Sv,Sv]
   by_cases c:n<b
   ·rw[SM c]
    exact SM (by omega)
   ·rw[Sb c]
    exact Sb (by omega)
 refine⟨by rw[w,e];exact h.len,fun n u x r a t A=>?_,fun n u x=>?_,by rw[cg,hZ,G,O];omega,fun i I=>?_⟩
 ·obtain⟨v,g,rfl⟩:=qj x
  have d:=(Q8.1 g).1;have p:=h.at_ d;rw[w]at A
  have f:qP v.kind=false:=by
   split at r
   ·unfold lM at r;split at r <;> exact r
   ·exact r
  have D:=h.now g f;rw[h.ix s d];have M:=h.le n v g
  by_cases C:a<H.length
  ·have:=h.at_ C
   have y:bR l n<=bR l a:=RM (nW t (by rw[<-h.len];exact C));rw[h.ix s C,rV y (by omega),<-h.til n v g f a t (by omega)]
   split
   ·unfold lM
    split
    ·next c=>rw[c.1];simp;omega
    ·rfl
   ·rfl
  ·have P:a=H.length:=by omega
   subst P;rw[N,J n d,<-D]
   by_cases c:b<=n
   ·rw[QW ⟨c,d⟩,Sb (show ¬n<b by omega),Bool.and_false]
    unfold lM
    by_cases z:v.til=0
    ·rw[QW ⟨z,f⟩]
     show(H.length==0||decide (H.length<H.length))=false
     rw[Rh.2 (show H.length≠0 by omega),Sb (Nat.lt_irrefl _)];rfl
    ·rw[QT (fun q=>z q.1)]
     have:(v.til==0)=false:=Rh.2 z;rw[this,Sb (show ¬H.length<v.til by omega)];rfl
   ·rw[QT (fun q=>c q.1),SM (show n<b by omega),Bool.and_true,Sb (show ¬H.length<v.til by omega),Sz]
 ·obtain⟨v,g,rfl⟩:=qj x
  have:=h.le n v g;rw[w]
  split
  ·unfold lM
   split
   ·exact QR _
   ·exact this
  ·exact this
 ·obtain⟨E,F⟩:=h.rbl i (by rw[Q0];exact Nat.lt_succ_of_lt I)
  have L:(S++[b]).getD i 0=S.getD i 0:=by rw[QQ,QQ,Q7 I]
  rw[L]at E F;rw[w,cg];refine⟨E,fun n d j=>?_⟩;have p:=h.at_ d;rw[h.ix s d]at j ⊢;rw[J n d,Rg]at j;rw[qi (by omega)];exact F n d j.1
def NF(k:Int):Bool:=decide (2<=k/\k<=6)
structure kP(T:List Tk)(d:Db):Prop where
 hel:np (aj T) d.Vn d.rbl
 ct:∀(n:Nat) (s:St),d.Vn[n]?=some s->eZ (au (aj T) (bR (aj T) n)).k.toList s.kind/\s.label=bG T (au (aj T) (bR (aj T) n))/\s.U6=bu T (au (aj T) (bR (aj T) n)).h/\cU T (au (aj T) (bR (aj T) n)).h
 lab:d.label=if NF d.kind=true then tS T (fA T) else⟨#[]⟩
section
variable {T:List Tk} {t:Tk} {d d':Db}
theorem wA:nu (k++[z1]) k.length=(((z1.k.toList == [36,100])||(z1.k.toList == [36,102])||(z1.k.toList == [36,101])||(z1.k.toList == [36,97])||(z1.k.toList == [36,112]))):=by
 unfold nu;rw[lX]
theorem kP.old(R:kP T d)(j:il T (aj T) (aj T).length){M:List Sm}{c:St}(p:b<d.Vn.length)(o:d.Vn[b]?=some a)(e:bR (aj T++M) b=bR (aj T) b)(l:c.kind=a.kind)(q:c.label=a.label)(r:c.U6=a.U6) :
  eZ (au (aj T++M) (bR (aj T++M) b)).k.toList c.kind/\c.label=bG (T++[t]) (au (aj T++M) (bR (aj T++M) b))/\c.U6=bu (T++[t]) (au (aj T++M) (bR (aj T++M) b)).h/\cU (T++[t]) (au (aj T++M) (bR (aj T++M) b)).h:=by
 obtain⟨i,m,n,g⟩:=R.ct b a o;have f:=R.hel.at_ p;rw[e,jL _ _ _ f,l,q,r];refine⟨i,?_,?_,JW T [t] _ g⟩
 ·rw[m]
  unfold bG;rw[fI T [t] _ (j.a _ f)]
 ·rw[n,sg T [t] _ g]
theorem kP.Vb(R:kP T d)(e:il T (aj T) (aj T).length)(j:bS t.s=false)(b:d'.Vn=d.Vn)(g:d'.rbl=d.rbl)(i:d'.label=if NF d'.kind=true then tS (T++[t]) (fA T) else⟨#[]⟩):kP (T++[t]) d':=by
 obtain⟨c,h⟩:=mF (T:=T) (t:=t) j;refine⟨by rw[c,b,g];exact R.hel,fun n s a=>?_,by rw[h];exact i⟩;rw[b]at a;have f:=(Q8.1 a).1;rw[c];have:=R.old (t:=t) e (M:=[]) f a (by rw[Rl]) rfl rfl rfl;rw[Rl]at this;exact this
theorem kP.other(R:kP T d)(g:il T (aj T) (aj T).length)(s:Sm)(e:aj (T++[t])=aj T++[s])(m:nu (aj T++[s]) (aj T).length=false)(h:∀o,o<=aO o s.k)(f:aO (bb (aj T) (aj T).length) s.k=(d'.rbl.length:Int))(j:d'.rbl=d.rbl∨d'.rbl=d.rbl++[d.Vn.length])(b:d'.Vn=d.Vn)(l:d'.label=⟨#[]⟩)(i:d'.kind=0):kP (T++[t]) d':=by
 refine⟨by rw[e,b];exact R.hel.other s m h d'.rbl f j,fun n u a=>?_,by rw[l,i];rfl⟩;rw[b]at a;have c:=(Q8.1 a).1;rw[e];exact R.old g c a (R.hel.ix s c) rfl rfl rfl
theorem kP.kept(R:kP T d)(l:il T (aj T) (aj T).length)(s:Sm)(c:aj (T++[t])=aj T++[s])(f:nu (aj T++[s]) (aj T).length=true)(x:∀o,aO o s.k=o)(u:St)(m:u.til=0)(z:eZ s.k.toList u.kind)(i:u.label=bG (T++[t]) s)(w:u.U6=bu (T++[t]) s.h)(y:cU (T++[t]) s.h)(g:d'.Vn=d.Vn++[u])(r:d'.rbl=d.rbl)(q:d'.label=⟨#[]⟩)(p:d'.kind=0):kP (T++[t]) d':=by
 refine⟨by rw[c,g,r];exact R.hel.kept s f x u m,fun n v a=>?_,by rw[q,p];rfl⟩;rw[g]at a;rw[c]
 by_cases b:n<d.Vn.length
 ·rw[Q7 b]at a
  exact R.old l b a (R.hel.ix s b) rfl rfl rfl
 ·have e:n=d.Vn.length:=by
   have:=(Q8.1 a).1;rw[Q0]at this;have:n<d.Vn.length+1:=this;omega
  subst e;rw[Q5 (QR _),RY]at a
  cases a
  have j:bR (aj T++[s]) d.Vn.length=(aj T).length:=by
   unfold bR;rw[nX,QW f,R.hel.len,QQ,Q5 (QR _),RY];rfl
  rw[j,lX];exact⟨z,i,w,y⟩
theorem kP.pop(R:kP T d)(i:il T (aj T) (aj T).length)(s:Sm)(c:aj (T++[t])=aj T++[s])(w:nu (aj T++[s]) (aj T).length=false)(p:∀o,aO o s.k=o-1)(r:d.rbl=S++[b])(g:d'.Vn=gy d.Vn b)(m:d'.rbl=S)(l:d'.label=⟨#[]⟩)(j:d'.kind=0):kP (T++[t]) d':=by
 have h:=R.hel;rw[r]at h;refine⟨by rw[c,g,m];exact h.pop s w p,fun n u a=>?_,by rw[l,j];rfl⟩;rw[g]at a;obtain⟨v,e,x⟩:=qj a;have f:=(Q8.1 e).1
 have q:u.kind=v.kind/\u.label=v.label/\u.U6=v.U6:=by
  rw[x]
  split
  ·unfold lM;split <;> exact⟨rfl,rfl,rfl⟩
  ·exact⟨rfl,rfl,rfl⟩
 rw[c];exact R.old i f e (R.hel.ix s f) q.1 q.2.1 q.2.2
end
section
variable {T:List Tk} {t:Tk} {d:Db}
theorem zO(h:dA o=false):bS o=false:=by
 cases a:bS o
 ·rfl
 ·have:=(kM a).1
  rw[ia,h]at this;cases this
theorem lR(h:(o.toList==N)=true)(a:((N == [36,46])||(N == [36,123])||(N == [36,125]))=false):bS o=false:=by
 rw[(kc (dd h)).2.2];exact a
theorem kP.first(R:kP T d)(b:il T (aj T) (aj T).length)(z:bb (aj T) (aj T).length=(d.blocks.length:Int))(m:fA T=T.length)(l:d.kind=0)(a:(av d t.s).1=0):kP (T++[t]) (av d t.s).2:=by
 have c:d.label=⟨#[]⟩:=by rw[R.lab,l];rfl
 unfold av at *
 by_cases f:(t.s.toList == [36,123])=true
 ·rw[QW f]
  obtain⟨k,-⟩:=qo (T:=T) (t:=t) m (by rw[(kc (dd f)).2.2];decide);have h:∀o,aO o t.s=o+1:=fun o=>by rw[rr (dd f)];rfl
  refine R.other b _ k (by rw[wA];simp only;rw[dd f];decide) (fun o=>by show o<=aO o t.s;rw[h];omega) ?_ (QV rfl) rfl c l
  show aO _ t.s=_
  rw[h,R.hel.dep];simp only[List.length_append,List.length_cons,List.length_nil];omega
 rw[QT f]at a ⊢
 by_cases g:(t.s.toList == [36,125])=true
 ·rw[QW g]at a ⊢
  cases n:d.blocks.getLast? with
  | none=>rw[n]at a;cases a
  | some q =>
   simp only;obtain⟨k,-⟩:=qo (T:=T) (t:=t) m (by rw[(kc (dd g)).2.2];decide);have h:∀o,aO o t.s=o-1:=fun o=>by rw[rr (dd g)];rfl
   have i:d.rbl≠[]:=by
    intro e;have:=R.hel.dep;rw[z,e]at this;have:d.blocks=[]:=Rk (by simpa using this);rw[this]at n;cases n
   have A:d.rbl=d.rbl.dropLast++[d.rbl.getLast i]:=(Uv i).symm;have y:d.rbl.getLast?=some (d.rbl.getLast i):=Ta i;unfold cw;rw[y];exact R.pop b _ k (by rw[wA];simp only;rw[dd g];decide) (fun o=>h o) A rfl rfl c l
 rw[QT g]at a ⊢
 by_cases r:(t.s.toList == [36,99])=true
 ·rw[QW r]at a ⊢
  by_cases v:0<d.blocks.length
  ·rw[QW v]at a;cases a
  ·rw[QT v];exact R.Vb b (lR r (by decide)) rfl rfl c
 rw[QT r]at a ⊢
 by_cases p:(t.s.toList == [36,118])=true
 ·rw[QW p];exact R.Vb b (lR p (by decide)) rfl rfl c
 rw[QT p]at a ⊢
 by_cases u:(t.s.toList == [36,100])=true
 ·rw[QW u];exact R.Vb b (lR u (by decide)) rfl rfl c
 rw[QT u]at a ⊢
 split at a
 ·cases a
 ·next x =>
  rw[QT x];unfold bI at *
  cases j:dA t.s
  ·rw[j,QT (by simp)]at a
   split at a
   ·cases a
   ·next w =>
    split at a
    ·cases a
    ·next B =>
     rw[QT (by simp),QT w,QT B];exact R.Vb b (zO j) rfl rfl (by show t.s=tS (T++[t]) (fA T);rw[m,oV])
  ·rw[j,QW rfl]at a;cases a
theorem kP.key(R:kP T d)(c:il T (aj T) (aj T).length)(k:fA T+1=T.length)(j:d.kind=6)(a:(aH d t.s).1=0):kP (T++[t]) (aH d t.s).2:=by
 have b:d.label=tS (T++[t]) (fA T):=by rw[R.lab,j,fI T [t] _ (by omega)];rfl
 unfold aH at *
 split
 ·next h=>exact R.Vb c (lR h (by decide)) rfl rfl b
 ·next e =>
  rw[QT e]at a
  split
  ·next h=>exact R.Vb c (lR h (by decide)) rfl rfl b
  ·next f =>
   rw[QT f]at a
   split
   ·next h=>exact R.Vb c (lR h (by decide)) rfl rfl b
   ·next i =>
    rw[QT i]at a
    split
    ·next h=>exact R.Vb c (lR h (by decide)) rfl rfl b
    ·next g=>rw[QT g]at a;cases a
theorem LB(h:eZ N M):((N == [36,100])||(N == [36,102])||(N == [36,101])||(N == [36,97])||(N == [36,112]))=!((M==7)||(M==8)):=by
 (rcases h with ⟨rfl,rfl⟩ | ⟨rfl,rfl⟩ | ⟨rfl,rfl⟩ | ⟨rfl,rfl⟩ | ⟨rfl,rfl⟩ | ⟨rfl,rfl⟩ | ⟨rfl,rfl⟩) <;> decide
theorem LA(h:eZ o.toList M):(aC o||aG o)=NF M:=by
 have e:=kc (k:=o) rfl;rw[e.1,e.2.1];generalize o.toList=l at h
 (rcases h with ⟨rfl,rfl⟩ | ⟨rfl,rfl⟩ | ⟨rfl,rfl⟩ | ⟨rfl,rfl⟩ | ⟨rfl,rfl⟩ | ⟨rfl,rfl⟩ | ⟨rfl,rfl⟩) <;> decide
theorem kP.body(R:kP T d)(l:il T (aj T) (aj T).length)(G:ew T (fA T)=(o,b))(B:fA T<b)(C:b<=T.length)(k:eZ o.toList d.kind)(F:fa T b T.length=v)(y:d.U6=v.takeWhile kB)(p:Pl)(c:(aX d t.s p).1=0):kP (T++[t]) (aX d t.s p).2:=by
 have n:d.label=if NF d.kind=true then tS (T++[t]) (fA T) else⟨#[]⟩:=by rw[R.lab,fI T [t] _ (by omega)]
 rw[qA k]at *
 by_cases m:(t.s.toList == [36,46])=true
 ·rw[QW m]at *
  obtain⟨H,-⟩:=Gu m;obtain⟨w,-⟩:=oR T t;rw[QW H,sO G B C k]at w;simp only at w
  have h:bu (T++[t]) b=d.U6:=by
   unfold bu;rw[Sg C,vO _ t (fun u D=>?_) m,y,<-F,m8];have:=yU T b (by omega) u D;unfold bS at this;simp only[Bool.or_eq_false_iff]at this;exact this.1.1
  have A:cU (T++[t]) b:=⟨T.length,C,by simp,by rw[oV];unfold mM;rw[m];simp⟩;have e:=k.dep.1;have f:nu (aj T++[(⟨fA T,T.length+1,b,o⟩:Sm)]) (aj T).length=!((d.kind==7)||(d.kind==8)):=by rw[wA];exact LB k
  unfold lL at *
  split at c
  ·cases c
  ·next E =>
   rw[QT E]
   split at c
   ·cases c
   ·next j =>
    rw[QT j];simp only
    cases a:((d.kind==7)||(d.kind==8))
    ·rw[a]at f
     simp only[Bool.or_eq_false_iff]at a
     have i:(aY d p).Vn=d.Vn++[⟨d.kind,d.label,d.U6,d.Vh,p,0⟩]/\(aY d p).rbl=d.rbl:=by
      unfold aY mY mO;rw[a.1,a.2];simp only[Bool.false_eq_true,if_false]
      split <;> exact⟨rfl,rfl⟩
     refine R.kept l _ w f (fun r=>e r) ⟨d.kind,d.label,d.U6,d.Vh,p,0⟩ rfl k ?_ h.symm A i.1 i.2 rfl rfl
     show d.label=bG (T++[t]) ⟨fA T,T.length+1,b,o⟩
     unfold bG;simp only;rw[LA k];exact n
    ·rw[a]at f
     have i:(aY d p).Vn=d.Vn/\(aY d p).rbl=d.rbl:=by
      unfold aY dO;rw[RB]at a
      split
      ·exact⟨rfl,rfl⟩
      ·next q =>
       rw[QW (a.resolve_left q)];exact⟨rfl,rfl⟩
     refine R.other l _ w f (fun r=>by show r<=aO r o;rw[e];exact TJ _) ?_ (Q1 i.2) i.1 rfl rfl
     show aO _ o=_
     rw[e,R.hel.dep]
     show _=((aY d p).rbl.length:Int)
     rw[i.2]
 ·rw[QT m]at *
  by_cases z:(t.s.toList == [36,61])=true/\(d.kind==5)=true/\d.Va=false
  ·rw[QW z]at *
   unfold b7 at *
   split at c
   ·cases c
   ·next g=>rw[QT g];exact R.Vb l (lR z.1 (by decide)) rfl rfl n
  ·rw[QT z]at *
   cases x:dA t.s
   ·rw[x,QT (by simp)]at c
    rw[QT (by simp)]
    split at c
    ·next g=>rw[QW g];exact R.Vb l (zO x) rfl rfl n
    ·next g =>
     rw[QT g]
     split at c
     ·next j=>rw[QW j];exact R.Vb l (zO x) rfl rfl n
     ·next j=>simp only at c;rw[c]at j;exact absurd rfl j
   ·rw[x,QW rfl]at c;cases c
theorem kP.step(x:tF T d)(m:rR T (aj T) d)(z:∀j,j<T.length->bh T (aj T) j=0)(R:kP T d)(r:T.length<=100000)(p:Pl)(f:(aX d t.s p).1=0):kP (T++[t]) (aX d t.s p).2:=by
 obtain⟨g,-⟩:=Ao T r z
 rcases x with ⟨i,b,a,c,k⟩ | ⟨i,b,a,c,k,w,q⟩ | ⟨u,l,B,b,h,v,y,o,c,a,n,k,A⟩
 ·have e:aX d t.s p=av d t.s:=by unfold aX;rw[b];rfl
  rw[e]at f ⊢;exact R.first g (Bv m) i b f
 ·have e:aX d t.s p=aH d t.s:=by unfold aX;rw[b];rfl
  rw[e]at f ⊢;exact R.key g i b f
 ·exact R.body g b h v y o a p f
end
theorem fS(h:eZ N M):(M==3)=(N == [36,101])/\(M==2)=(N == [36,102])/\(M==1)=(N == [36,100])/\qP M=((N == [36,97])||(N == [36,112])):=by
 (rcases h with ⟨rfl,rfl⟩ | ⟨rfl,rfl⟩ | ⟨rfl,rfl⟩ | ⟨rfl,rfl⟩ | ⟨rfl,rfl⟩ | ⟨rfl,rfl⟩ | ⟨rfl,rfl⟩) <;> decide
theorem wQ:lV k=(List.range (lV k).length).map (bR k):=by
 apply Sq
 intro n;rw[Rq]
 by_cases h:n<(lV k).length
 ·rw[Uy h,QP h]
  show _=some (bR k n)
  unfold bR;rw[QQ,QP h];rfl
 ·rw[Rx (by omega),Rx (by rw[Tf];omega)];rfl
theorem ub(d:b=(lV l).length){p q:Nat->Bool}(a:∀j,j<l.length->p j=true->nu l j=true)(f:∀n,n<b->q n=p (bR l n)):((List.range b).filter q).map (bR l)=(List.range l.length).filter p:=by
 have c:(List.range l.length).filter p=(lV l).filter p:=by
  unfold lV;rw[UG]
  apply dW
  intro j g
  cases h:p j
  ·rfl
  ·rw[a j g h];rfl
 rw[c,wQ l,<-d,List.filter_map]
 congr 1
 apply dW
 intro n e;exact f n e
theorem sF(h:n<=b)(p:Nat->Bool):(List.range b).filter (fun j=>decide (j<n)&&p j)=(List.range n).filter p:=by
 have e:List.range b=List.range n++(List.range (b-n)).map (n + ·):=by
  have:=@List.range_add n (b-n);rwa [show n+(b-n)=b by omega]at this
 have c:(List.range n).filter (fun j=>decide (j<n)&&p j)=(List.range n).filter p:=dW (fun j a=>by rw[SM a,Sv])
 have d:((List.range (b-n)).map (n + ·)).filter (fun j=>decide (j<n)&&p j)=[]:=by
  rw[Th];intro j a;obtain⟨i,-,rfl⟩:=Si.1 a;rw[Sb (by omega)];simp
 rw[e,RV,c,d,Rl]
section
variable {T:List Tk} {d:Db}
theorem kP.held(R:kP T d)(c:d.Vn[b]?=some a)(f:qP a.kind=false)(j:n<d.Vn.length):g7 d.Vn b n=(decide (bR (aj T) b<bR (aj T) n)&&aV (aj T) (bR (aj T) b) (bR (aj T) n)):=by
 have i:=(Q8.1 c).1;have g:=R.hel.len;unfold g7;rw[c];simp only
 by_cases h:b<n
 ·rw[SM h,SM (nW h (by omega)),R.hel.til b a c f n h (by omega)]
 ·have:¬bR (aj T) b<bR (aj T) n:=by
   by_cases e:b=n
   ·rw[e];omega
   ·have:=nW (S:=aj T) (n:=n) (a:=b) (by omega) (by omega)
    omega
  rw[Sb h,Sb this];rfl
theorem kP.get(R:kP T d)(a:b<d.Vn.length):∃s,d.Vn[b]?=some s/\eZ (au (aj T) (bR (aj T) b)).k.toList s.kind/\s.label=bG T (au (aj T) (bR (aj T) b))/\s.U6=bu T (au (aj T) (bR (aj T) b)).h:=by
 refine⟨d.Vn[b],QP a,?_⟩;obtain⟨c,e,f,-⟩:=R.ct b _ (QP a);exact⟨c,e,f⟩
theorem kP.symsAt(R:kP T d)(a:b<d.Vn.length):symsAt d.Vn b=bu T (au (aj T) (bR (aj T) b)).h:=by
 obtain⟨s,c,-,-,h⟩:=R.get a;unfold Go.Proofs.YtpddjjabfbfifaaGreat.symsAt;rw[c];exact h
theorem kP.syms(R:kP T d)(g:b<d.Vn.length):f8 d.Vn b=Dj T (aj T) (bR (aj T) b):=by
 have m:=R.hel.len;have c:=R.hel.at_ g
 have f:((List.range d.Vn.length).filter (zQ d.Vn b)).map (bR (aj T))=(List.range (bR (aj T) b)).filter (xY (aj T) (bR (aj T) b)):=by
  rw[<-sF (RM c)];refine ub m (fun j o h=>?_) (fun n a=>?_)
  ·unfold xY at h
   simp only[Bool.and_eq_true]at h;unfold nu;rw[h.2.1];simp
  ·obtain⟨s,l,i,-,-⟩:=R.get a
   unfold zQ xY;rw[l];simp only;rw[(fS i).1]
   cases e:((au (aj T) (bR (aj T) n)).k.toList == [36,101])
   ·simp
   ·have c:qP s.kind=false:=by
     rw[(fS i).2.2.2,ci e,ci e];decide
    rw[R.held l c g,Sv,Sv]
 unfold f8 eJ Dj lD;rw[R.symsAt g,<-f,List.flatMap_map]
 congr 1
 apply dx
 intro n a;exact R.symsAt (Ra.1 (RH.1 a).1)
def PM(T:List Tk)(S:List Sm):Prop:=∀j,j<S.length->((au S j).k.toList == [36,102])=true->2<=(bu T (au S j).h).length/\(bu T (au S j).h).getD 1 ⟨#[]⟩=tS T ((au S j).h+1)
theorem kP.hyps(R:kP T d)(F:PM T (aj T))(f:b<d.Vn.length):(aK d.Vn b).map (bR (aj T))=bW T (aj T) (bR (aj T) b):=by
 have p:=R.hel.len;have a:=R.hel.at_ f;unfold aK dG bW;rw[R.syms f,<-sF (RM a)];refine ub p (fun j y h=>?_) (fun n o=>?_)
 ·unfold sJ at h
  simp only[Bool.and_eq_true,Bool.or_eq_true]at h;unfold nu
  rcases h.2.2 with h | h
  ·rw[h];simp
  ·rw[h.1];simp
 ·obtain⟨s,g,w,-,m⟩:=R.get o
  have r:=R.hel.at_ o;obtain⟨t,i,x,l⟩:=fS w;unfold l6 sJ pN;rw[g];simp only;rw[i]
  cases c:((au (aj T) (bR (aj T) n)).k.toList == [36,102])
  ·rw[QT (by simp),t]
   cases e:((au (aj T) (bR (aj T) n)).k.toList == [36,101])
   ·simp
   ·have a:qP s.kind=false:=by rw[l,ci e,ci e];decide
    rw[R.held g a f];simp
  ·have a:qP s.kind=false:=by rw[l,ci c,ci c];decide
   have e:((au (aj T) (bR (aj T) n)).k.toList == [36,101])=false:=by rw[ci c];decide
   obtain⟨u,v⟩:=F _ r c
   have q:aL s=tS T ((au (aj T) (bR (aj T) n)).h+1):=by
    unfold aL;rw[QW ⟨by rw[i];exact c,by rw[m];exact u⟩,m,v]
   rw[QW rfl,R.held g a f,q,e,Sp,Sv,UY]
end
theorem Hg(L:List Tk):∀i,i<(ke L).length->(ke L)[i]?=L[i]?.map (·.s):=by
 induction L with
 | nil=>intro i a;cases a
 | cons t L b =>
  intro i a;unfold ke at a ⊢
  split
  ·next h=>rw[QW h]at a;cases a
  ·next h =>
   rw[QT h]at a
   cases i with
   | zero=>rfl
   | succ i=>exact b i (by simpa using a)
theorem Bi(a:f<(bu y g).length):(bu y g).getD f ⟨#[]⟩=tS y (g+f):=by
 unfold bu at *;have:=Hg (y.drop g) f a;unfold tS;rw[QQ,this,SV,QQ]
 cases y[g+f]? <;> rfl
section
variable {T:List Tk} {t:Tk} {d d':Db}
def vr(s:St):ByteArray:=s.U6.getD 1 ⟨#[]⟩
structure xA(d:Db):Prop where
 fl:∀(n:Nat) (s:St),d.Vn[n]?=some s->s.kind=2->2<=s.U6.length
 ds:∀(n m:Nat) (s u:St),d.Vn[n]?=some s->d.Vn[m]?=some u->s.kind=2->u.kind=2->n<m->(s.til=0∨m<s.til)->((vr s).toList==(vr u).toList)=false
 op:d.kind=2->2<=d.U6.length->aJ d.Vi (d.U6.getD 1 ⟨#[]⟩)=false
theorem kP.Vi(R:kP T d)(E:rR T (aj T) d)(F:xA d)(e:d.Vn[b]?=some a)(f:a.kind=2)(m:a.til=0):aJ d.Vi (vr a)=true:=by
 have j:=(Q8.1 e).1;obtain⟨o,-,g,-⟩:=R.ct b a e;have n:qP a.kind=false:=by rw[f];rfl
 have c:=R.hel.now e n;rw[m]at c;have h:=R.hel.at_ j;have i:((au (aj T) (bR (aj T) b)).k.toList == [36,102])=true:=by rw[<-(fS o).2.1,f];rfl
 rw[E.typ.l,nO,RC];refine⟨bR (aj T) b,RH.2 ⟨Ra.2 h,c.symm⟩,?_⟩;unfold Gg;rw[QW i,ru];have p:=F.fl b a e f;unfold vr;rw[g,Bi T _ 1 (by rw[<-g];omega)];simp
theorem xA.same(F:xA d)(b:d'.Vn=d.Vn)(e:d'.kind=2->2<=d'.U6.length->aJ d'.Vi (d'.U6.getD 1 ⟨#[]⟩)=false):xA d' :=
 ⟨fun n s a=>by rw[b]at a;exact F.fl n s a,fun n m s u a c=>by rw[b]at a c;exact F.ds n m s u a c,e⟩
theorem xA.ended(F:xA d)(b:Nat)(y:d'.Vn=gy d.Vn b)(t:d'.kind=0):xA d':=by
 have q:∀(n:Nat) (s:St),d'.Vn[n]?=some s->∃v,d.Vn[n]?=some v/\s.kind=v.kind/\s.U6=v.U6/\(s.til=v.til∨(v.til=0/\s.til=d.Vn.length)):=fun n s a=>by
  rw[y]at a;obtain⟨v,e,z⟩:=qj a;refine⟨v,e,?_⟩;rw[z]
  split
  ·unfold lM
   split
   ·next c=>exact⟨rfl,rfl,QV ⟨c.1,rfl⟩⟩
   ·exact⟨rfl,rfl,Q1 rfl⟩
  ·exact⟨rfl,rfl,Q1 rfl⟩
 refine⟨fun n s a l=>?_,fun n m s u a p l g k w=>?_,fun h=>by rw[t]at h;cases h⟩
 ·obtain⟨v,e,i,j,-⟩:=q n s a
  rw[j];exact F.fl n v e (by rw[<-i];exact l)
 ·obtain⟨v,e,i,j,f⟩:=q n s a
  obtain⟨x,o,r,A,-⟩:=q m u p;have B:=(Q8.1 o).1;unfold vr;rw[j,A];refine F.ds n m v x e o (by rw[<-i];exact l) (by rw[<-r];exact g) k ?_
  rcases f with f | ⟨f,-⟩
  ·rw[<-f];exact w
  ·exact Q1 f
theorem xA.more(R:kP T d)(E:rR T (aj T) d)(F:xA d)(u:St)(l:u.kind=2->2<=u.U6.length/\aJ d.Vi (vr u)=false)(y:d'.Vn=d.Vn++[u])(t:d'.kind=0):xA d':=by
 have q:∀(n:Nat) (s:St),d'.Vn[n]?=some s->(n<d.Vn.length/\d.Vn[n]?=some s)∨(n=d.Vn.length/\s=u):=fun n s a=>by
  rw[y]at a
  by_cases g:n<d.Vn.length
  ·rw[Q7 g]at a;exact Q1 ⟨g,a⟩
  ·have:=(Q8.1 a).1
   rw[Q0]at this;have:n<d.Vn.length+1:=this;rw[Q5 (by omega),show n-d.Vn.length=0 by omega]at a
   cases a
   exact QV ⟨by omega,rfl⟩
 refine⟨fun n s a c=>?_,fun n m s x a A c b i w=>?_,fun h=>by rw[t]at h;cases h⟩
 ·rcases q n s a with ⟨-,h⟩ | ⟨-,rfl⟩
  ·exact F.fl n s h c
  ·exact(l c).1
 ·rcases q m x A with ⟨o,r⟩ | ⟨o,rfl⟩
  ·rcases q n s a with ⟨-,f⟩ | ⟨g,-⟩
   ·exact F.ds n m s x f r c b i w
   ·omega
  ·rcases q n s a with ⟨-,f⟩ | ⟨g,-⟩
   ·have p:=R.hel.le n s f
    have z:s.til=0:=by omega
    have j:=R.Vi E F f c z;have k:=(l b).2
    cases v:((vr s).toList==(vr x).toList)
    ·rfl
    ·have e:(vr s).toList=(vr x).toList:=by simpa using v
     unfold aJ at j k;rw[e]at j;rw[j]at k;cases k
   ·omega
theorem xA.step(K:tF T d)(z:rR T (aj T) d)(R:kP T d)(F:xA d)(p:Pl)(g:(aX d t.s p).1=0):xA (aX d t.s p).2:=by
 rcases K with ⟨H,j,k,m,v⟩ | ⟨H,j,k,m,v,I,D⟩ | ⟨G,x,B,j,E,O,L,M,m,k,A,v,P⟩
 ·have e:aX d t.s p=av d t.s:=by unfold aX;rw[j];rfl
  rw[e]at g ⊢;unfold av bI cw at *;have l:∀f:Db,f.Vn=d.Vn->f.kind≠2->xA f:=fun f n r=>F.same n (fun h=>absurd h r)
  repeat' split
  all_goals first
   | exact F
   | exact F.ended _ rfl j
   | exact l _ rfl (by rw[show _=_ from j];decide)
   | exact l _ rfl (by simp only;decide)
   | exact l _ rfl (by simp only;rw[j];decide)
   | exact l _ rfl (by show d.kind≠2;rw[j];decide)
 ·have e:aX d t.s p=aH d t.s:=by unfold aX;rw[j];rfl
  rw[e]at g ⊢;have l:∀f:Db,f.Vn=d.Vn->f.U6=d.U6->xA f:=fun f n r=>F.same n (fun _ h=>by rw[r,k]at h;simp at h)
  unfold aH
  repeat' split
  all_goals exact l _ rfl rfl
 ·rw[qA L]at g ⊢
  by_cases w:(t.s.toList == [36,46])=true
  ·rw[QW w]at g ⊢
   unfold lL at *
   split at g
   ·cases g
   ·next o =>
    rw[QT o]
    split at g
    ·cases g
    ·next J =>
     rw[QT J];simp only
     cases c:((d.kind==7)||(d.kind==8))
     ·simp only[Bool.or_eq_false_iff]at c
      have u:(aY d p).Vn=d.Vn++[⟨d.kind,d.label,d.U6,d.Vh,p,0⟩]:=by
       unfold aY mY mO;rw[c.1,c.2];simp only[Bool.false_eq_true,if_false]
       split <;> rfl
      refine xA.more R z F ⟨d.kind,d.label,d.U6,d.Vh,p,0⟩ (fun b=>?_) u rfl;replace b:d.kind=2:=b
      have a:2<=d.U6.length:=by
       unfold l5 at o;rw[QW (QV (by rw[b];rfl))]at o;omega
      exact⟨a,F.op b a⟩
     ·have u:(aY d p).Vn=d.Vn:=by
       unfold aY dO;rw[RB]at c
       split
       ·rfl
       ·next q=>rw[QW (c.resolve_left q)]
      exact F.same u (fun h=>by cases h)
  ·rw[QT w]at g ⊢
   split
   ·unfold b7
    split <;> exact F.same rfl F.op
   ·split
    ·exact F
    ·split
     ·exact F.same rfl F.op
     ·split
      ·next y =>
       refine F.same rfl (fun b a=>?_);replace b:d.kind=2:=b;replace a:2<=(d.U6++[t.s]).length:=a;rw[Q0]at a;replace a:2<=d.U6.length+1:=a;have i:aZ d t.s=0:=by simpa using y
       unfold aZ at i;rw[b,QT (by decide),QT (by decide),QT (by decide),QT (by omega),QW (by rfl)]at i;unfold fC at i
       split at i
       ·cases i
       ·next N =>
        split at i
        ·cases i
        ·split at i
         ·cases i
         ·next C =>
          show aJ d.Vi ((d.U6++[t.s]).getD 1 ⟨#[]⟩)=false
          have n:(d.U6++[t.s]).getD 1 ⟨#[]⟩=t.s:=by
           rw[QQ,Q5 (by omega),show 1-d.U6.length=0 by omega];rfl
          rw[n];simpa using C
      ·exact F
theorem kP.flo(R:kP T d)(F:xA d):PM T (aj T):=by
 intro j i e;have a:j∈lV (aj T):=RH.2 ⟨Ra.2 i,by unfold nu;rw[e];simp⟩;rw[wQ]at a;obtain⟨n,b,rfl⟩:=Si.1 a;have b:n<d.Vn.length:=by rw[R.hel.len];exact Ra.1 b
 obtain⟨s,k,h,-,g⟩:=R.get b
 have f:s.kind=2:=by
  have:=(fS h).2.1;rw[e]at this;simpa using this
 have c:=F.fl n s k f;rw[g]at c;exact⟨c,Bi T _ 1 (by omega)⟩
end
section
variable {T:List Tk} {t:Tk} {d:Db}
structure oj(T:List Tk)(d:Db):Prop where
 e:rR T (aj T) d
 o:tF T d
 u:∀j,j<T.length->bh T (aj T) j=0
 b:jz T=(d.blocks.length:Int)
 r:kP T d
 f:xA d
theorem Bu:jz (D++[L])=aO (jz D) L.s:=by
 unfold jz;rw[Sw];rfl
theorem oj.step(I:oj T d)(m:T.length<=100000)(M:(t.s.toList == [])=false)(p:Pl):bh (T++[t]) (aj (T++[t])) T.length=(aX d t.s p).1/\((aX d t.s p).1=0->oj (T++[t]) (aX d t.s p).2):=by
 obtain⟨q,z⟩:=Ao T m I.u;have x:=Bk T t m I.u
 have g:bh (T++[t]) (aj (T++[t])) T.length=(aX d t.s p).1/\((aX d t.s p).1=0->rR (T++[t]) (aj (T++[t])) (aX d t.s p).2/\tF (T++[t]) (aX d t.s p).2):=by
  rcases I.o with ⟨n,i,a,c,k⟩ | ⟨n,i,a,c,k,y,w⟩ | ⟨g,C,B,i,l,D,E,A,c,a,v,k,L⟩
  ·have e:aX d t.s p=av d t.s:=by unfold aX;rw[i];rfl
   rw[x,QW n.symm,e];exact Fl q z I.e n i a c k M
  ·have e:aX d t.s p=aH d t.s:=by unfold aX;rw[i];rfl
   obtain⟨J,F⟩:=Mv (t:=t) q z I.e n a c k y w;rw[x,QT (by omega),J,QW (by simp),e];exact F
  ·rw[x,QT (by omega),sO i l D E,QT (by simp only;omega)]
   simp only;rw[A];exact JR q z I.e i l D E A c a v k L p
 refine⟨g.1,fun h=>?_⟩;obtain⟨H,G⟩:=g.2 h;refine⟨H,G,fun j K=>?_,?_,kP.step I.o I.e I.u I.r m p h,xA.step I.o I.e I.r I.f p h⟩
 ·rw[Q0,Rp,Rs]at K
  by_cases e:j<T.length
  ·exact rm T [t] m I.u j e
  ·have e:j=T.length:=by omega
   rw[e,g.1];exact h
 ·rw[Bu,I.b,Dc I.o t.s p h]
theorem Gt(h:0<y.length):∃u,y.getLast?=some u/\u.s=tS y (y.length-1):=by
 rw[SO,QP (by omega)];refine⟨_,rfl,?_⟩;unfold tS;rw[QQ,QP (by omega)];rfl
theorem oj.open(I:oj T d):kp d=!dg T:=by
 have p:=fw T;have v:=I.b
 have a:fA T<T.length->dg T=false:=fun h=>by
  obtain⟨u,i,j⟩:=Gt T (by omega);have:=p.n (T.length-1) (by unfold fA at h;omega) (by omega);unfold dg;rw[i];simp only;rw[j,this];rfl
 unfold kp
 rcases I.o with ⟨G,g,c,f,t⟩ | ⟨G,g,c,f,t,H,A⟩ | ⟨q,w,B,g,C,L,r,K,f,c,y,t,M⟩
 ·rw[g]
  have D:(bne (0:Int) 0)=false:=rfl;rw[D,Sp]
  by_cases E:T.length=0
  ·have e:T=[]:=Rk E
   rw[e]at v ⊢
   have:d.blocks.length=0:=by
    have h:jz []=0:=rfl;omega
   rw[this];rfl
  ·obtain⟨u,i,j⟩:=Gt T (by omega)
   have F:0<(aj T).length:=by
    rcases Nat.eq_zero_or_pos (aj T).length with h | h
    ·have:=EL T
     rw[h]at this;unfold kz at this;rw[QT (by omega)]at this;omega
    ·exact h
   have m:(au (aj T) ((aj T).length-1)).z=T.length:=by
    have:=EL T;unfold kz at this;rw[QW F]at this;omega
   have x:=(p.s ((aj T).length-1) (by omega)).1.e;rw[m]at x;unfold dg;rw[i];simp only;rw[j,x,Sv,v]
   by_cases m:d.blocks.length=0
   ·rw[m];rfl
   ·have J:((d.blocks.length:Int)==0)=false:=UV (by omega)
    rw[J,SM (show 0<d.blocks.length by omega)];rfl
 ·rw[g,a (by omega)];rfl
 ·rw[a (by omega)]
  have:(d.kind != 0)=true:=by
   generalize d.kind=k at r ⊢;generalize q.toList=l at r
   (rcases r with ⟨rfl,rfl⟩ | ⟨rfl,rfl⟩ | ⟨rfl,rfl⟩ | ⟨rfl,rfl⟩ | ⟨rfl,rfl⟩ | ⟨rfl,rfl⟩ | ⟨rfl,rfl⟩) <;> rfl
  rw[this];rfl
theorem Lm(h:y6=⟨[],[],[],[],[],[],[],[],0,⟨#[]⟩,[],false,[]⟩):oj [] y6:=by
 subst h;refine⟨⟨rfl,fun x=>rfl,⟨rfl,rfl,fun i a=>(by simp at a)⟩,⟨rfl,rfl,fun i a=>(by simp at a)⟩⟩,tF.none rfl rfl rfl rfl rfl,fun j b=>(by simp at b),rfl,⟨np.nil,(fun n s h=>by cases h),rfl⟩,⟨(fun n s h=>by cases h),(fun n m s u h=>by cases h),fun h=>by cases h⟩⟩
end
section
variable (rec:Nat->List Bool->List Tk->List Tk×List Bool) (fs:Fs)
theorem GF(h:((x.rule==0)&&(x.s.toList == []))=true):cv rec fs (x :: D) z5 y=((if dg y=true then y else y++[qO x 7]),z5):=by
 rw[cv.eq_def];exact QW h
theorem wR(h:((x.rule==0)&&(x.s.toList == []))=false)(a:(x.s.toList == [36,91])=false):cv rec fs (x :: D) z5 y=cv rec fs D z5 (y++[x]):=by
 rw[cv.eq_def];simp only;rw[QT (by rw[h];simp),QW a]
theorem Mb(h:((x.rule==0)&&(x.s.toList == []))=false)(a:(x.s.toList == [36,91])=true)(b:dg y=false):cv rec fs (x :: D) z5 y=(y++[qO x 4],z5):=by
 rw[cv.eq_def];simp only;rw[QT (by rw[h];simp),QT (by rw[a];simp),QW b]
theorem GG(h:((zt.rule==0)&&(zt.s.toList == []))=false)(a:(zt.s.toList == [36,91])=true)(b:dg y=true):cv rec fs [zt,x] z5 y=(y++[qO x (dm fs x.s x.rule)],z5):=by
 rw[cv.eq_def];simp only;rw[QT (by rw[h];simp),QT (by rw[a];simp),QT (by rw[b];simp)]
theorem GH(b:List Bool)(a:List Tk)(h:((zt.rule==0)&&(zt.s.toList == []))=false)(c:(zt.s.toList == [36,91])=true)(d:dg a=true):cv rec fs (zt :: x :: L :: y) b a =
  if(dm fs x.s x.rule==0)=false then(a++[qO x (dm fs x.s x.rule)],b)
  else if(dI L.s L.rule==0)=false then(a++[qO L (dI L.s L.rule)],b)
  else if b.getD (bF fs x.s).toNat true=true then cv rec fs y b a
  else if eu (rec (bF fs x.s).toNat b a).1=true then rec (bF fs x.s).toNat b a
  else cv rec fs y (rec (bF fs x.s).toNat b a).2 (rec (bF fs x.s).toNat b a).1:=by
 rw[cv.eq_def];simp only;rw[QT (by rw[h];simp),QT (by rw[c];simp),QT (by rw[d];simp)]
theorem Au(g:∀j d c,∃V,(rec j d c).1=c++V)(n:Nat):∀L,L.length<=n->∀d c,∃V,(cv rec fs L d c).1=c++V:=by
 induction n with
 | zero =>
  intro L e d c;have:L=[]:=Rk (by omega);subst this;exact⟨[],by rw[cv.eq_def];simp⟩
 | succ n l =>
  intro L e d c
  cases L with
  | nil=>exact⟨[],by rw[cv.eq_def];simp⟩
  | cons t r =>
   simp only[List.length_cons]at e
   cases h:((t.rule==0)&&(t.s.toList == []))
   ·cases f:(t.s.toList == [36,91])
    ·rw[wR rec fs t r d c h f]
     obtain⟨V,k⟩:=l r (by omega) d (c++[t]);exact⟨t :: V,by rw[k];simp⟩
    ·cases i:dg c
     ·rw[Mb rec fs t r d c h f i];exact⟨_,rfl⟩
     ·match r,e with
      | [],_ =>
       refine⟨[],?_⟩;rw[cv.eq_def];simp only;rw[QT (by rw[h];simp),QT (by rw[f];simp),QT (by rw[i];simp)];simp
      | [a],_=>rw[GG rec fs t a d c h f i];exact⟨_,rfl⟩
      | a :: b :: r',e =>
       simp only[List.length_cons]at e;rw[GH rec fs t a b r' d c h f i]
       split
       ·exact⟨_,rfl⟩
       ·split
        ·exact⟨_,rfl⟩
        ·split
         ·exact l r' (by omega) d c
         ·obtain⟨V,k⟩:=g (bF fs a.s).toNat d c
          split
          ·exact⟨V,k⟩
          ·obtain⟨o,m⟩:=l r' (by omega) (rec (bF fs a.s).toNat d c).2 (rec (bF fs a.s).toNat d c).1
           exact⟨V++o,by rw[m,k];simp⟩
   ·rw[GF rec fs t r d c h]
    simp only
    split
    ·exact⟨[],by simp⟩
    ·exact⟨_,rfl⟩
end
theorem ud(n:Nat):∀j b a,∃V,(dQ w n j b a).1=a++V:=by
 induction n with
 | zero=>intro j b a;exact⟨[],by simp[dQ]⟩
 | succ n c=>intro j b a;rw[dQ];exact Au (dQ w n) w c _ _ (QR _) _ _
def GV(L:List Tk):Prop:=∀t∈L,t.rule=0
def MW(t:Tk):Pl:=⟨t.file,t.line,t.col⟩
structure OJ(fs:Fs)(bg sn:List Bool):Prop where
 b:bg.length=4
 s:sn.length=fs.length
 e:∀j,j<fs.length->bg.getD j true=sn.getD j true
theorem OJ.set{a c:List Bool}(h:OJ z6 a c)(d:z6.length<=4)(k:Nat)(g:k<z6.length):OJ z6 (a.set k true) (c.set k true):=by
 refine⟨by rw[Rv];exact h.b,by rw[Rv];exact h.s,fun j f=>?_⟩;have:=h.b;have:=h.s;rw[QQ,QQ,RU,RU]
 by_cases e:k=j
 ·rw[QW e,QW e,QW (by omega),QW (by omega)]
 ·rw[QT e,QT e]
  have:=h.e j f;rw[QQ,QQ]at this;exact this
def qC(fs:Fs)(N:Nat)(res:FP)(R:List Tk×List Bool):Prop :=
 (res.1=cY/\oj R.1 res.2.2/\GV R.1/\OJ fs res.2.1 R.2/\R.1.length+1025*aQ R.2<=N) ∨
 (∃(W:List Tk) (u:Tk) (d:Db),R.1=W++[u]/\(u.rule==0)=false/\oj W d/\GV W/\res.1=(u.rule,MW u)) ∨
 ∃(W:List Tk) (t:Tk) (V:List Tk) (d:Db) (r:Int),R.1=W++t :: V/\t.rule=0/\oj W d/\W.length+1<=N/\bh (W++[t]) (aj (W++[t])) W.length=r/\(r==0)=false/\res.1=(r,MW t)
theorem qC.good(a:zb.1=cY)(c:oj z4.1 zb.2.2)(e:GV z4.1)(d:OJ z6 zb.2.1 z4.2)(f:z4.1.length+1025*aQ z4.2<=b):qC z6 b zb z4:=Q1 ⟨a,c,e,d,f⟩
theorem qC.ends(a:z4.1=D++[L])(c:(L.rule==0)=false)(e:oj D y5)(d:GV D)(f:zb.1=(L.rule,MW L)):qC z6 b zb z4:=QV (Q1 ⟨D,L,y5,a,c,e,d,f⟩)
theorem qC.rule(a:z4.1=D++L :: y)(c:L.rule=0)(e:oj D y5)(d:D.length+1<=b)(f:bh (D++[L]) (aj (D++[L])) D.length=i)(g:(i==0)=false)(h:zb.1=(i,MW L)):qC z6 b zb z4:=QV (QV ⟨D,L,y,y5,i,a,c,e,d,f,g,h⟩)
theorem ye(h:GV y0):eu y0=false:=by
 unfold eu
 cases e:y0.getLast? with
 | none=>rfl
 | some t =>
  have:=h t (List.mem_of_getLast? e);simp[this]
theorem t9(k:Nat)(a:k<=T.size):(aI (ay T k).1=true->((ay T k).1.text.toList == [])=false/\(ay T k).1.rule=0)/\(aI (ay T k).1=false->(ay T k).1.text=⟨#[]⟩/\((ay T k).1.fin=true->(ay T k).1.rule=0)):=by
 have g:∀f k,k<=T.size->aI (bX T f k).1=false->(bX T f k).1.text=⟨#[]⟩/\((bX T f k).1.fin=true->(bX T f k).1.rule=0):=by
  intro f
  induction f with
  | zero=>intro k _ _;exact⟨rfl,fun h=>by cases h⟩
  | succ f e =>
   intro k a h;have c:=gq T k a;rw[bX]at h ⊢
   split
   ·next d =>
    rw[QW d]at h
    split
    ·exact⟨rfl,fun h=>by cases h⟩
    ·next b =>
     rw[QT b]at h;exact e _ c.2.1 h
   ·next d =>
    rw[QT d]at h
    split
    ·exact⟨rfl,fun h=>by cases h⟩
    ·next b =>
     rw[QT b]at h;exact(tu T k a).2 h
 unfold ay
 suffices hs:∀f k,k<=T.size->(aI (dH T f k).1=true->((dH T f k).1.text.toList == [])=false/\(dH T f k).1.rule=0)/\(aI (dH T f k).1=false->(dH T f k).1.text=⟨#[]⟩/\((dH T f k).1.fin=true->(dH T f k).1.rule=0)) from hs _ _ a
 clear a k;intro f
 induction f with
 | zero=>intro k a;exact⟨fun h=>by simp[dH,aI]at h,fun _=>⟨rfl,fun _=>rfl⟩⟩
 | succ f e =>
  intro k a;have c:=gq T k a;have i:=i9 T (bC T k).2 c.2.1;rw[dH]
  split
  ·split
   ·exact e _ i.2
   ·next b =>
    refine⟨fun h=>absurd h b,fun h=>?_⟩;exact g _ _ c.2.1 h
  ·exact tu T k a
theorem IS(h:(i==0)=false):dm w T i=i:=by unfold dm;exact QW h
theorem IT(h:i=0)(a:T=⟨#[]⟩):dm w T i=7:=by
 subst h a;unfold dm;rw[QT (by simp),QW oI]
theorem EF(h:i=0)(a:(T.toList == [])=false):dm w T i=if dA T=true then 5 else if bF w T<0 then 6 else 0:=by
 subst h;unfold dm;rw[QT (by simp),QT (by rw[a];simp),ia]
theorem DN(h:(i==0)=false):dI T i=i:=by unfold dI;exact QW h
theorem DO(h:i=0)(a:T=⟨#[]⟩):dI T i=7:=by
 subst h a;unfold dI;rw[QT (by simp),QW oI]
theorem Bm(h:i=0)(a:(T.toList == [])=false):dI T i=if(T.toList == [36,93])=false then 5 else 0:=by
 subst h;unfold dI;rw[QT (by simp),QT (by rw[a];simp)]
theorem Me(ax:w.length<=4)(ap:∀j,j<w.length->(ak w j).size<=1024)(f:Nat):∀n x k c y d b N,x<w.length->k<=(ak w x).size->OJ w c y->aQ y<=n ->
  ((ak w x).size-k+1)+1025*aQ y<=f->oj b d->GV b->b.length+((ak w x).size-k+1)+1025*aQ y<=N->N<=100000 ->
  qC w N (bq w f x k c d) (cv (dQ w n) w (lZ (aE w x) (ak w x) k) y b):=by
 induction f with
 | zero=>intro n x k c y d b N _ _ _ _ h;omega
 | succ f ih =>
  intro n x k c y d b N hx hk hS hn hf J U hN ad;have hl:=fG (ak w x) k hk;obtain⟨t1,t2⟩:=t9 (ak w x) k hk;have C:=J.open
  cases D:aI (ay (ak w x) k).1
  ·-- the file ends,or a word's stead is taken
   obtain⟨x1,x2⟩:=t2 D;rw[j5 _ _ k D]
   cases G:(ay (ak w x) k).1.fin
   ·have hr:((ay (ak w x) k).1.rule==0)=false:=km D G
    have P:((lH (aE w x) (ak w x) (ay (ak w x) k).1).rule==0&&((lH (aE w x) (ak w x) (ay (ak w x) k).1).s.toList == []))=false:=by simp only[lH];rw[hr];rfl
    have e2:((lH (aE w x) (ak w x) (ay (ak w x) k).1).s.toList == [36,91])=false:=by simp only[lH];rw[x1];decide +kernel
    rw[wR _ _ _ _ _ _ P e2,wk w f x k c d D (by rw[G];simp)];refine qC.ends b _ d (by rw[cv.eq_def]) hr J U ?_;simp[iK,G,lH,MW,kK]
   ·have P:((lH (aE w x) (ak w x) (ay (ak w x) k).1).rule==0&&((lH (aE w x) (ak w x) (ay (ak w x) k).1).s.toList == []))=true:=by simp only[lH];rw[x1,x2 G,oI];rfl
    rw[GF _ _ _ _ _ _ P]
    cases Q:dg b
    ·rw[Q]at C
     rw[wk w f x k c d D (by rw[C];simp)];refine qC.ends b (qO (lH (aE w x) (ak w x) (ay (ak w x) k).1) 7) d (by simp) rfl J U ?_;simp[iK,G,lH,MW,kK,qO]
    ·rw[Q]at C
     rw[zW w f x k c d D G C];exact qC.good rfl (by simp only[if_true];exact J) (by simp only[if_true];exact U) hS (by simp only[if_true];omega)
  ·have ar:=hl.2.2 D
   obtain⟨x1,x2⟩:=t1 D;rw[j6 _ _ k hk D];have P:((lH (aE w x) (ak w x) (ay (ak w x) k).1).rule==0&&((lH (aE w x) (ak w x) (ay (ak w x) k).1).s.toList == []))=false:=by simp only[lH];rw[x1];simp
   cases hi:((ay (ak w x) k).1.text.toList == [36,91])
   ·-- a word is taken
    rw[wR _ _ _ _ _ _ P (by exact hi)]
    have M:fZ w f x k c d=((if((aX d (ay (ak w x) k).1.text (kK (aE w x) (ak w x) (ay (ak w x) k).1.pos)).1==0)=true then cY else((aX d (ay (ak w x) k).1.text (kK (aE w x) (ak w x) (ay (ak w x) k).1.pos)).1,kK (aE w x) (ak w x) (ay (ak w x) k).1.pos),c,(aX d (ay (ak w x) k).1.text (kK (aE w x) (ak w x) (ay (ak w x) k).1.pos)).2),(ay (ak w x) k).2):=by
     unfold fZ jN;rw[hi];simp
    obtain⟨g1,g2⟩:=J.step (t:=lH (aE w x) (ak w x) (ay (ak w x) k).1) (by omega) x1 (kK (aE w x) (ak w x) (ay (ak w x) k).1.pos);have e3:(lH (aE w x) (ak w x) (ay (ak w x) k).1).s=(ay (ak w x) k).1.text:=rfl;rw[e3]at g1 g2
    cases h2:((aX d (ay (ak w x) k).1.text (kK (aE w x) (ak w x) (ay (ak w x) k).1.pos)).1==0)
    ·rw[ox w f x k c d D (by rw[M,h2];simpa using h2),M,h2]
     obtain⟨V,hV⟩:=Au (dQ w n) w (ud w n) _ _ (QR _) y (b++[lH (aE w x) (ak w x) (ay (ak w x) k).1]);exact qC.rule b (lH (aE w x) (ak w x) (ay (ak w x) k).1) V d _ (by rw[hV];simp) x2 J (by omega) g1 h2 (by simp[lH,MW,kK])
    ·rw[yD w f x k c d D (by rw[M,h2];rfl),M]
     refine ih n x _ c y _ _ N hx hl.2.1 hS hn (by omega) (g2 (by simpa using h2)) ?_ (by simp;omega) ad;intro u hu
     rcases Rr.1 hu with hu | hu
     ·exact U u hu
     ·rw[Q9.1 hu];exact x2
   ·-- an inclusion
    have M:fZ w f x k c d=mX (cn w f) w x (ay (ak w x) k).2 (kK (aE w x) (ak w x) (ay (ak w x) k).1.pos) c d:=by
     unfold fZ jN;rw[hi,QW rfl]
    have p:∀(W:List Tk) (u:Tk) (fl:pA),rx w x (ay (ak w x) k).2 (kK (aE w x) (ak w x) (ay (ak w x) k).1.pos) d=.inl fl->fl=(u.rule,MW u)->(u.rule==0)=false->qC w N (bq w (f+1) x k c d) (b++[u],y):=fun W u fl al e h0=>by
     have e2:mX (cn w f) w x (ay (ak w x) k).2 (kK (aE w x) (ak w x) (ay (ak w x) k).1.pos) c d=((fl,c,d),(ay (ak w x) k).2):=by
      unfold mX;rw[al]
     rw[ox w f x k c d D (by rw[M,e2,e];exact h0),M,e2];exact qC.ends b u d rfl h0 J U e
    cases Q:dg b
    ·rw[Q]at C
     rw[Mb _ _ _ _ _ _ P (by exact hi) Q];exact p b (qO (lH (aE w x) (ak w x) (ay (ak w x) k).1) 4) _ (by unfold rx;rw[QW (by rw[C];rfl)];rfl) rfl rfl
    ·rw[Q]at C
     have v:¬kp d=true:=by rw[C];simp
     obtain⟨z,hz⟩:∃z,z=(ay (ak w x) k).2:=⟨_,rfl⟩
     rw[<-hz]at hl ar M p ⊢;have ha:=fG (ak w x) z hl.2.1;obtain⟨a1,a2⟩:=t9 (ak w x) z hl.2.1
     cases i:aI (ay (ak w x) z).1
     ·obtain⟨y1,y2⟩:=a2 i
      rw[j5 _ _ z i,GG _ _ _ _ _ _ P (by exact hi) Q]
      have L:dm w (lH (aE w x) (ak w x) (ay (ak w x) z).1).s (lH (aE w x) (ak w x) (ay (ak w x) z).1).rule=if(ay (ak w x) z).1.fin=true then 7 else(ay (ak w x) z).1.rule:=by
       cases B:(ay (ak w x) z).1.fin
       ·exact IS w _ _ (km i B)
       ·exact IT w _ _ (y2 B) y1
      refine p b _ _ (by unfold rx;rw[QT v,QW i]) (by simp only[iK,qO,MW];rw[L];rfl) ?_;simp only[qO];rw[L]
      cases B:(ay (ak w x) z).1.fin
      ·exact km i B
      ·rfl
     ·have a4:=ha.2.2 i
      obtain⟨y1,y2⟩:=a1 i;obtain⟨l,H⟩:∃l,l=(ay (ak w x) z).2:=⟨_,rfl⟩
      rw[j6 _ _ z hl.2.1 i,<-H];rw[<-H]at ha a4;have Y:=fG (ak w x) l ha.2.1;obtain⟨b1,b2⟩:=t9 (ak w x) l ha.2.1
      obtain⟨tl,ac⟩:∃tl,lZ (aE w x) (ak w x) l=lH (aE w x) (ak w x) (ay (ak w x) l).1 :: tl:=by
       cases g:aI (ay (ak w x) l).1
       ·exact⟨[],j5 _ _ l g⟩
       ·exact⟨_,j6 _ _ l ha.2.1 g⟩
      rw[ac,GH _ _ _ _ _ _ _ _ P (by exact hi) Q]
      have L:dm w (lH (aE w x) (ak w x) (ay (ak w x) z).1).s (lH (aE w x) (ak w x) (ay (ak w x) z).1).rule=if dA (ay (ak w x) z).1.text=true then 5 else if bF w (ay (ak w x) z).1.text<0 then 6 else 0:=by
       exact EF w _ _ y2 y1
      rw[L];have az:(lH (aE w x) (ak w x) (ay (ak w x) z).1).s=(ay (ak w x) z).1.text:=rfl;rw[az]
      cases I:dA (ay (ak w x) z).1.text
      ·by_cases E:bF w (ay (ak w x) z).1.text<0
       ·simp only[Bool.false_eq_true,if_false,if_pos E]
        rw[QW (show((6:Int)==0)=false from rfl)];exact p b _ _ (by unfold rx;rw[QT v,QT (by rw[i];simp),QT (by rw[I];simp),QW E];rfl) rfl rfl
       ·simp only[Bool.false_eq_true,if_false,if_neg E]
        rw[QT (show ¬((0:Int)==0)=false by decide)]
        have aT:dI (lH (aE w x) (ak w x) (ay (ak w x) l).1).s (lH (aE w x) (ak w x) (ay (ak w x) l).1).rule=if aI (ay (ak w x) l).1=false then(if(ay (ak w x) l).1.fin=true then 7 else(ay (ak w x) l).1.rule) else if((ay (ak w x) l).1.text.toList == [36,93])=false then 5 else 0:=by
         cases g:aI (ay (ak w x) l).1
         ·obtain⟨y3,y4⟩:=b2 g
          rw[QW rfl]
          cases B:(ay (ak w x) l).1.fin
          ·exact DN _ _ (km g B)
          ·exact DO _ _ (y4 B) y3
         ·obtain⟨y3,y4⟩:=b1 g
          rw[QT (by simp)];exact Bm _ _ y4 y3
        rw[aT]
        cases g:aI (ay (ak w x) l).1
        ·rw[QW rfl]
         have ao:((if(ay (ak w x) l).1.fin=true then 7 else(ay (ak w x) l).1.rule)==0)=false:=by
          cases B:(ay (ak w x) l).1.fin
          ·exact km g B
          ·rfl
         rw[QW ao];exact p b _ _ (by unfold rx;rw[QT v,QT (by rw[i];simp),QT (by rw[I];simp),QT E,<-H,QW g];rfl) rfl ao
        ·simp only[Bool.true_eq_false,if_false]
         cases ai:((ay (ak w x) l).1.text.toList == [36,93])
         ·rw[QW rfl,QW (show((5:Int)==0)=false from rfl)]
          exact p b _ _ (by unfold rx;rw[QT v,QT (by rw[i];simp),QT (by rw[I];simp),QT E,<-H,QT (by rw[g];simp),QW ai];rfl) rfl rfl
         ·simp only[Bool.true_eq_false,if_false]
          rw[QT (show ¬((0:Int)==0)=false by decide)]
          -- the file is named
          have a6:=Y.2.2 g
          have a3:tl=lZ (aE w x) (ak w x) (ay (ak w x) l).2:=by
           rw[j6 _ _ l ha.2.1 g]at ac;exact(List.cons.inj ac).2.symm
          rw[a3];obtain⟨j,hj⟩:∃j,j=(bF w (ay (ak w x) z).1.text).toNat:=⟨_,rfl⟩
          have K:j<w.length:=by
           rcases pI (ay (ak w x) z).1.text w with h | ⟨q,hq,h⟩
           ·rw[h]at E;omega
           ·rw[hj,h,Sa];exact hq
          rw[<-hj]
          have o:fZ w f x k c d=(cn w f j c d,(ay (ak w x) l).2):=by
           rw[M];unfold mX rx;rw[QT v,QT (by rw[i];simp),QT (by rw[I];simp),QT E,<-H,QT (by rw[g];simp),QT (by rw[ai];simp),<-hj]
          have F:=hS.e j K
          cases O:c.getD j true
          ·rw[O]at F
           have a0:y[j]?=some false:=by
            have:=hS.s;rw[QP (by omega)];rw[QQ,QP (by omega)]at F;exact congrArg some F.symm
           have ba:=lC y j a0;rw[QT (by rw[<-F];simp)];have A:cn w f j c d=bq w f j 0 (c.set j true) d:=by unfold cn;rw[O,QT (by simp)]
           obtain⟨m,hm⟩:∃m,n=m+1:=⟨n-1,by omega⟩
           have er:dQ w n j y b=cv (dQ w m) w (lZ (aE w j) (ak w j) 0) (y.set j true) b:=by rw[hm,dQ,zn]
           have a5:=ap j K;have R1:=ih m j 0 (c.set j true) (y.set j true) d b (b.length+1025*aQ y) K (Ro _) (hS.set ax j K) (by omega) (by omega) J U (by omega) (by omega);rw[<-er,<-A]at R1;have af:=ud w n j y b;generalize dQ w n j y b=X at *
           rcases R1 with ⟨Z,R,S,r4,T⟩ | ⟨W,u,d0,Z,R,S,r4,T⟩ | ⟨W,t,V,d0,r,Z,R,S,r4,T,r6,r7⟩
           ·rw[ye S,QT (by simp),yD w f x k c d D (by rw[o,Z];rfl),o]
            have a7:aQ X.2<=aQ y:=by
             obtain⟨V,hV⟩:=af;rw[hV,Q0]at T;omega
            exact ih n x _ _ X.2 _ X.1 N hx Y.2.1 r4 (by omega) (by simp only;omega) R S (by simp only;omega) ad
           ·have ag:eu X.1=true:=by unfold eu;rw[Z,Tc];simp only;rw[R];rfl
            rw[ag,QW rfl,ox w f x k c d D (by rw[o,T];exact R),o];exact qC.ends W u d0 Z R S r4 T
           ·rw[ox w f x k c d D (by rw[o,r7];exact r6),o]
            cases ag:eu X.1
            ·rw[QT (by simp)]
             obtain⟨V2,aS⟩:=Au (dQ w n) w (ud w n) _ (lZ (aE w x) (ak w x) (ay (ak w x) l).2) (QR _) X.2 X.1;exact qC.rule W t (V++V2) d0 r (by rw[aS,Z];simp) R S (by omega) T r6 r7
            ·rw[QW rfl]
             exact qC.rule W t V d0 r Z R S (by omega) T r6 r7
          ·rw[O]at F
           have A:cn w f j c d=(cY,c,d):=by unfold cn;rw[O,QW rfl]
           rw[QW F.symm,yD w f x k c d D (by rw[o,A];rfl),o,A];exact ih n x _ c y d b N hx Y.2.1 hS hn (by omega) J U (by omega) ad
      ·simp only[if_true]
       rw[QW (show((5:Int)==0)=false from rfl)];exact p b _ _ (by unfold rx;rw[QT v,QT (by rw[i];simp),QW I];rfl) rfl rfl
def Lj(t:Tk):pA:=(t.rule,MW t)
def fE(fs:Fs)(k:Nat):pA :=
 if((yp (cC fs k).1 (aj (cC fs k).1)).rule==0)=false then Lj (yp (cC fs k).1 (aj (cC fs k).1)) else Lj (cC fs k).2
theorem Gi(h:oj y0 y6):yp y0 (aj y0)=jf:=Oq h.u
theorem v7(p:w.length<=4)(l:∀j,j<w.length->(ak w j).size<=1024)(o:f<w.length) :
  (bK w f).1=fE w f/\(((bK w f).1.1==0)=true->oj (cC w f).1 (bK w f).2.2/\(cC w f).1.length<=10000):=by
 have n:OJ w F3 (List.replicate w.length false):=⟨rfl,by simp,fun j q=>by
  rw[QQ,QQ,Sf,QW q]
  match j,(show j<4 by omega) with
  | 0,_=>rfl
  | 1,_=>rfl
  | 2,_=>rfl
  | 3,_=>rfl⟩
 have k:(List.replicate w.length false)[f]?=some false:=by rw[Sf,QW o]
 have z:=lC _ f k;rw[mP]at z;have F:=l f o
 have K:bK w f=bq w 5000 f 0 (F3.set f true) fm:=by
  unfold bK cn;rw[n.e f o,QQ,k];rfl
 have J:dQ w w.length f (List.replicate w.length false) []=cv (dQ w (w.length-1)) w (lZ (aE w f) (ak w f) 0) ((List.replicate w.length false).set f true) []:=by
  obtain⟨m,H⟩:∃m,w.length=m+1:=⟨w.length-1,by omega⟩
  have:w.length-1=m:=by omega
  rw[this]
  conv=>lhs;rw[show dQ w w.length=dQ w (m+1) by rw[H]]
  rw[dQ,zn]
 have D:=Me w p l 5000 (w.length-1) f 0 (F3.set f true) ((List.replicate w.length false).set f true) fm [] 5000 o (Ro _) (n.set p f o) (by omega) (by omega) (Lm rfl) (fun t M=>by cases M) (by simp only[List.length_nil];omega) (by omega);rw[<-K,<-J]at D;have A:(dQ w w.length f (List.replicate w.length false) []).1=pt w f:=rfl;generalize dQ w w.length f (List.replicate w.length false) []=N at *;unfold fE cC
 rcases D with ⟨b,d,g,C,i⟩ | ⟨W,u,I,b,d,g,C,i⟩ | ⟨W,t,V,I,r,b,d,g,C,i,s,E⟩
 ·rw[A]at d g i
  simp only[ye g,Bool.false_eq_true,if_false];rw[Gi d,QT (by decide)];exact⟨b,fun _=>⟨d,by omega⟩⟩
 ·rw[A]at b
  have a:eu (pt w f)=true:=by unfold eu;rw[b,Tc];simp only;rw[d];rfl
  rw[a,QW rfl,b,List.dropLast_concat,Tc];simp only[Option.getD_some];rw[Gi g,QT (by decide)];exact⟨i,fun h=>by rw[i]at h;simp only at h;rw[d]at h;cases h⟩
 ·rw[A]at b
  obtain⟨c,B⟩:∃c,(if eu (pt w f)=true then((pt w f).dropLast,(pt w f).getLast?.getD jf) else(pt w f,jf)).1=(W++[t])++c:=by
   cases a:eu (pt w f)
   ·rw[QT (by simp)]
    exact⟨V,by simp only;rw[b];simp⟩
   ·rw[QW rfl]
    cases V with
    | nil =>
     unfold eu at a;rw[b,Tc]at a;simp only[d]at a
     cases a
    | cons v V=>exact⟨(v :: V).dropLast,by simp only;rw[b,List.dropLast_append_of_ne_nil (by simp),List.dropLast_cons_of_ne_nil (by simp)];simp⟩
  rw[B];have G:=rm W (t :: c) (by omega) g.u;have x:=vP (W++[t]) c (by simp;omega) W.length (by simp) (fun j q=>rm W [t] (by omega) g.u j q);rw[i]at x
  have y:=Lc (T:=(W++[t])++c) (S:=aj ((W++[t])++c)) (k:=W.length) (by simp) (by rw[x];exact s) (fun j q=>by
   have:=G j q;rw[show W++t :: c=(W++[t])++c by simp]at this;exact this)
  have L:((W++[t])++c).getD W.length jf=t:=by
   rw[QQ,Sy,Q5 (QR _),RY];simp
  rw[y,x,L];simp only;rw[QW s];exact⟨E,fun h=>by rw[E]at h;simp only at h;rw[s]at h;cases h⟩
def xX(R:List St)(a:Nat)(vs:List ByteArray)(k i j:Nat):Bool:=(List.range k).any (fun n=>sA R a n&&(bD vs (symsAt R n)).contains i&&(bD vs (symsAt R n)).contains j)
theorem Cr(a:List Nat)(b:List Bool)(q:Nat)(c:q<b.length):(kI g f a b).getD q false=(b.getD q false||a.any (fun h=>f*g+h==q)):=by
 unfold kI
 induction a generalizing b with
 | nil=>simp
 | cons m a i =>
  simp only[List.foldl_cons,List.any_cons];rw[i (b.set (f*g+m) true) (by simpa using c)]
  by_cases e:f*g+m=q
  ·subst e
   rw[QQ,Ug c];simp
  ·have d:(f*g+m==q)=false:=by rw[Rh];exact e
   rw[QQ,Us e,<-QQ,d,Sp]
theorem Cq(a r:List Nat)(b:List Bool)(q:Nat)(d:q<b.length):(r.foldl (fun b c=>kI f c a b) b).getD q false=(b.getD q false||r.any (fun c=>a.any (fun e=>c*f+e==q))):=by
 induction r generalizing b with
 | nil=>simp
 | cons m r g =>
  simp only[List.foldl_cons,List.any_cons];rw[g (kI f m a b) (by rw[pO];exact d),Cr f m a b q d,TF]
theorem CA{a c:Nat}(e:c<b)(f:z7<b)(h:a*b+c=n*b+z7):a=n/\c=z7:=by
 have d:(a*b+c) / b=a:=by rw[Nat.mul_comm,Nat.mul_add_div (by omega)];rw[Nat.div_eq_of_lt e];omega
 have g:(n*b+z7) / b=n:=by rw[Nat.mul_comm,Nat.mul_add_div (by omega)];rw[Nat.div_eq_of_lt f];omega
 rw[h]at d;have:a=n:=by omega
 subst this;exact⟨rfl,by omega⟩
theorem IP(k i j:Nat)(l:i<d.length)(h:j<d.length):(de I z0 d k).getD (i*d.length+j) false=xX I z0 d k i j:=by
 have f:i*d.length+j<d.length*d.length:=zj l h
 induction k with
 | zero =>
  unfold xX;rw[de,QQ,Sf,QW f];rfl
 | succ k g =>
  have m:xX I z0 d (k+1) i j=(xX I z0 d k i j||(sA I z0 k&&(bD d (symsAt I k)).contains i&&(bD d (symsAt I k)).contains j)):=by
   unfold xX;rw[R6,UW];simp
  rw[m,de]
  cases p:sA I z0 k
  ·simp only[Bool.false_eq_true,if_false,Bool.false_and,Bool.or_false]
   exact g
  ·simp only[if_true,Bool.true_and]
   unfold lS;rw[Cq _ _ _ _ _ (by rw[ko];exact f),g]
   congr 1
   rw[SA];simp only[List.any_eq_true,Bool.and_eq_true,List.contains_iff_mem,beq_iff_eq]
   constructor
   ·rintro ⟨q,c,r,b,o⟩
    obtain⟨n,e⟩:=R0 b;have a:=s9 d (symsAt I k) n e.1;rw[e.2]at a;obtain⟨rfl,rfl⟩:=CA a h o;exact⟨c,b⟩
   ·rintro ⟨c,b⟩
    exact⟨i,c,j,b,rfl⟩
theorem G0(b:g<d.length)(a:f<d.length):eD d.length (fN I z0 d) g f=(!(g==f)&&xX I z0 d I.length g f):=by
 unfold eD fN;rw[IP I z0 d I.length g f b a]
theorem wh{α:Type}(l:List Nat)(f g:Nat->List α)(h:∀x∈l,f x=g x):l.flatMap f=l.flatMap g:=by
 induction l with
 | nil=>rfl
 | cons a l b=>rw[RI,RI,h a (by simp),b (fun x c=>h x (Rm _ c))]
def nS(l N:List St)(a:Nat):List ByteArray:=((List.range N.length).filter (fun j=>zQ (l++N) a (l.length+j))).flatMap (symsAt N)
def Qw(vs:List ByteArray)(A:Nat->Nat->Bool):List Pr:=(List.range vs.length).flatMap (fun i=>((List.range vs.length).filter (fun j=>decide (i<j)&&A i j)).map (fun j=>(gD vs i,gD vs j)))
theorem Pp:At d (fN I z0 d)=Qw d (fun i j=>!(i==j)&&xX I z0 d I.length i j):=by
 unfold At te Qw mH;refine wh _ _ _ (fun i a=>?_);have a:=Ra.1 a
 congr 1
 exact Uj (fun j b=>by rw[G0 I z0 d i j a (Ra.1 b)])
section
variable {T:List Tk} {d:Db}
theorem kP.vars(R:kP T d)(F:PM T (aj T))(r:b<d.Vn.length):eW d.Vn (aK d.Vn b)=fO T (aj T) (bW T (aj T) (bR (aj T) b)) (bW T (aj T) (bR (aj T) b)).length:=by
 unfold fO;rw[RK,<-R.hyps F r];unfold eW
 have a:∀n∈aK d.Vn b,n<d.Vn.length:=fun n g=>by
  unfold aK dG at g;exact Ra.1 (RH.1 g).1
 generalize aK d.Vn b=L at a
 induction L with
 | nil=>rfl
 | cons n L i =>
  obtain⟨s,o,j,-,f⟩:=R.get (a n (by simp));have p:=R.hel.at_ (a n (by simp));rw[List.filterMap_cons,Tp,List.filter_cons];unfold mQ;rw[o];simp only;rw[(fS j).2.1]
  cases e:((au (aj T) (bR (aj T) n)).k.toList == [36,102])
  ·rw[QT (by simp),QT (by simp)]
   exact i (fun m c=>a m (by simp[c]))
  ·obtain⟨q,t⟩:=F _ p e
   have l:aL s=tS T ((au (aj T) (bR (aj T) n)).h+1):=by
    unfold aL;rw[QW ⟨by rw[(fS j).2.1];exact e,by rw[f];exact q⟩,f,t]
   rw[QW rfl,QW rfl,Tp,<-l]
   show aL s :: _=_
   congr 1
   exact i (fun m c=>a m (by simp[c]))
def Oo(vs:List ByteArray):Prop:=∀i j,i<j->j<vs.length->((vs.getD i ⟨#[]⟩).toList==(vs.getD j ⟨#[]⟩).toList)=false
theorem Oo.ne(h:Oo v){i j:Nat}(b:i<v.length)(d:j<v.length)(c:i≠j):((v.getD i ⟨#[]⟩).toList==(v.getD j ⟨#[]⟩).toList)=false:=by
 rcases Nat.lt_or_gt_of_ne c with a | a
 ·exact h i j a d
 ·have:=h j i a b
  rw[Rh]at this ⊢;exact fun e=>this e.symm
theorem LV(h:Oo v)(a:b<v.length)(x:ByteArray):pu v x=some b ↔ ((v.getD b ⟨#[]⟩).toList==x.toList)=true:=by
 unfold pu
 constructor
 ·intro e
  have:=Tm e;simpa using this
 ·intro e
  rw[Up];refine⟨e,b,by rw[Tf];exact a,by rw[Ub],fun j f=>?_⟩;rw[Ub];have:=h.ne (i:=j) (j:=b) (by omega) a (by omega);simp only[Bool.not_eq_true',beq_eq_false_iff_ne];rw[Rh]at this;intro c;have d:(v.getD b ⟨#[]⟩).toList=x.toList:=by simpa using e
  exact this (c.trans d.symm)
theorem vt(h:Oo v)(d:b<v.length)(f:List ByteArray):(bD v f).contains b=aJ f (v.getD b ⟨#[]⟩):=by
 unfold bD aJ;rw[SA,TG,UE,RC]
 constructor
 ·rintro ⟨x,a,e⟩
  have:=(LV h d x).1 e;refine⟨x,a,?_⟩;have c:(v.getD b ⟨#[]⟩).toList=x.toList:=by simpa using this
  rw[c];exact UQ _
 ·rintro ⟨x,a,e⟩
  refine⟨x,a,(LV h d x).2 ?_⟩;have c:x.toList=(v.getD b ⟨#[]⟩).toList:=by simpa using e
  rw[c];exact UQ _
theorem kP.tog(R:kP T d)(x:b<d.Vn.length)(h:Oo v)(z:n<v.length)(u:z7<v.length)(t:n<z7):xX d.Vn b v d.Vn.length n z7=hQ T (aj T) (v.getD n ⟨#[]⟩) (v.getD z7 ⟨#[]⟩) (bR (aj T) b):=by
 have A:=R.hel.len;have D:=R.hel.at_ x;have y:=h n z7 t u;unfold xX hQ;rw[SA,RC,RC]
 constructor
 ·rintro ⟨i,a,e⟩
  have a:=Ra.1 a;obtain⟨s,j,l,-,C⟩:=R.get a;simp only[Bool.and_eq_true]at e;obtain⟨⟨c,o⟩,m⟩:=e;rw[vt h z,R.symsAt a]at o;rw[vt h u,R.symsAt a]at m;unfold sA at c;rw[j]at c;simp only[Bool.and_eq_true]at c;have p:((au (aj T) (bR (aj T) i)).k.toList == [36,100])=true:=by rw[<-(fS l).2.2.1];exact c.1
  have g:qP s.kind=false:=by rw[(fS l).2.2.2,ci p,ci p];decide
  have w:=c.2;rw[R.held j g x,Rg]at w;refine⟨bR (aj T) i,Ra.2 (of_decide_eq_true w.1),?_⟩;unfold PC;rw[p,y,o,m,w.2];rfl
 ·rintro ⟨q,r,e⟩
  have r:=Ra.1 r;unfold PC at e;simp only[Bool.and_eq_true]at e;obtain⟨c,-,o,m,B⟩:=e;have f:q∈lV (aj T):=RH.2 ⟨Ra.2 (by omega),by unfold nu;rw[c];simp⟩;rw[wQ]at f;obtain⟨i,a,rfl⟩:=Si.1 f;have a:i<d.Vn.length:=by rw[A];exact Ra.1 a
  obtain⟨s,j,l,-,C⟩:=R.get a;have g:qP s.kind=false:=by rw[(fS l).2.2.2,ci c,ci c];decide
  refine⟨i,Ra.2 a,?_⟩;rw[vt h z,vt h u,R.symsAt a,o,m];unfold sA;rw[j];simp only;rw[(fS l).2.2.1,c,R.held j g x,B,SM r];rfl
theorem kP.pairs(R:kP T d)(F:PM T (aj T))(g:b<d.Vn.length)(f:Oo (eW d.Vn (aK d.Vn b))):gI d.Vn b=fH T (aj T) (bR (aj T) b):=by
 unfold gI fH;rw[Pp,<-R.vars F g];generalize eW d.Vn (aK d.Vn b)=a at f;unfold Qw lg jY
 apply wh
 intro i c;have c:=Ra.1 c
 have e:(List.range a.length).filter (fun j=>decide (i<j)&&(!(i==j)&&xX d.Vn b a d.Vn.length i j))=(List.range a.length).filter (fun j=>decide (i<j)&&hQ T (aj T) (a.getD i ⟨#[]⟩) (a.getD j ⟨#[]⟩) (bR (aj T) b)):=by
  apply dW
  intro j k
  by_cases h:i<j
  ·have:(i==j)=false:=Rh.2 (by omega)
   rw[R.tog g f c k h,this];simp
  ·rw[Sb h];rfl
 rw[e];rfl
def kn(T:List Tk)(S:List Sm)(j:Nat):ByteArray:=(bu T (au S j).h).foldl (fun s x=>s++⟨#[32]⟩++x) (bG T (au S j)++⟨#[32]⟩++(au S j).k)
def pL(T:List Tk)(S:List Sm)(a:Nat):List ByteArray:=(bW T S a).map (kn T S)++(fH T S a).map fh++[kn T S a]
theorem BK(L:List ByteArray):∀s:ByteArray,L.foldl (fun t x=>t++(⟨#[32]⟩++x)) s=L.foldl (fun s x=>s++⟨#[32]⟩++x) s:=by
 induction L with
 | nil=>intro s;rfl
 | cons x L a=>intro s;rw[TA,TA,a,ByteArray.append_assoc]
theorem Lz(h:eZ o.toList M)(a:M=2∨M=3∨M=4∨M=5):sN M=o:=by
 apply ym
 generalize o.toList=l at h
 rcases a with rfl | rfl | rfl | rfl <;> rcases h with ⟨rfl,h⟩ | ⟨rfl,h⟩ | ⟨rfl,h⟩ | ⟨rfl,h⟩ | ⟨rfl,h⟩ | ⟨rfl,h⟩ | ⟨rfl,h⟩ <;> first | (exfalso;revert h;decide) | decide +kernel
theorem kP.line(R:kP T d)(e:b<d.Vn.length)(f:∀s,d.Vn[b]?=some s->s.kind=2∨s.kind=3∨s.kind=4∨s.kind=5):yN d.Vn b=kn T (aj T) (bR (aj T) b):=by
 obtain⟨s,a,h,c,g⟩:=R.get e;unfold yN kn;rw[a];simp only;unfold sR nz;rw[RK,g,c,Lz h (f s a),BK]
theorem kP.lines(R:kP T d)(F:PM T (aj T))(g:b<d.Vn.length)(j:Oo (eW d.Vn (aK d.Vn b)))(k:∀s,d.Vn[b]?=some s->qP s.kind=true):cW d.Vn b=pL T (aj T) (bR (aj T) b):=by
 unfold cW pL;rw[R.pairs F g j,<-R.hyps F g,List.map_map,R.line g (fun s f=>by have:=k s f;unfold qP at this;simp at this;omega)]
 congr 2
 apply Ux
 intro n i;unfold aK dG at i;have a:=RH.1 i;have e:=Ra.1 a.1;refine R.line e (fun s f=>?_);have c:=a.2;unfold l6 pN at c;rw[f]at c;simp only[Bool.and_eq_true]at c;have h:=c.2
 split at h
 ·next q=>left;simpa using q
 ·right;left;simpa using h
theorem xA.vsd(F:xA d):Oo (eW d.Vn (aK d.Vn b)):=by
 have A:(aK d.Vn b).Pairwise (fun n m=>n<m/\n∈aK d.Vn b/\m∈aK d.Vn b):=by
  have h:(aK d.Vn b).Pairwise (· < ·):=List.Pairwise.filter _ Ui;exact h.imp_of_mem (fun D E J=>⟨J,D,E⟩)
 have G:(eW d.Vn (aK d.Vn b)).Pairwise (fun x y=>(x.toList==y.toList)=false):=by
  unfold eW;refine List.Pairwise.filterMap _ (fun n m h x a y I=>?_) A;obtain⟨p,o,B⟩:=h
  have l:∀n x,n∈aK d.Vn b->mQ d.Vn n=some x->∃s,d.Vn[n]?=some s/\s.kind=2/\x=vr s/\g7 d.Vn n b=true:=fun n x o a=>by
   unfold mQ at a
   cases g:d.Vn[n]? with
   | none=>rw[g]at a;cases a
   | some s =>
    rw[g]at a;simp only at a
    split at a
    ·next k =>
     have t:s.kind=2:=by simpa using k
     have z:=F.fl n s g t;have e:aL s=vr s:=by unfold aL vr;rw[QW ⟨k,z⟩]
     refine⟨s,rfl,t,by rw[<-e];cases a;rfl,?_⟩;unfold aK dG at o;have:=(RH.1 o).2;unfold l6 at this;rw[g]at this;simp only[Bool.and_eq_true]at this;exact this.1
    ·cases a
  obtain⟨s,g,H,rfl,f⟩:=l n x o a;obtain⟨u,v,C,rfl,c⟩:=l m y B I;refine F.ds n m s u g v H C p ?_;unfold g7 at f c;rw[g]at f;rw[v]at c;simp only[Bool.and_eq_true,Bool.or_eq_true,decide_eq_true_eq]at f c
  rcases f.2 with q | q
  ·left;simpa using q
  ·right;have:=c.1;omega
 intro i j r w;have:=UJ.1 G i j (by omega) w r;rw[QQ,QQ,QP w,QP (by omega)];exact this
theorem kP.frame(R:kP T d)(F:xA d)(c:b<d.Vn.length)(a:∀s,d.Vn[b]?=some s->qP s.kind=true):cW d.Vn b=pL T (aj T) (bR (aj T) b) :=
 R.lines (R.flo F) c F.vsd a
end
end Go.Proofs.YtpddjjabfbfifaaGreat
