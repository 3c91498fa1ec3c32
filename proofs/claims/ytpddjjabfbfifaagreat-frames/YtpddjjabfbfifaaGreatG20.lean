import Derived.Test.YtpddjjabfbfifaaGreatG10
import Derived.Test.YtpddjjabfbfifaaGreatG15
import Derived.Test.YtpddjjabfbfifaaGreatG19
namespace Go.Proofs.YtpddjjabfbfifaaGreat
open Go.RowKit Tryz
set_option maxRecDepth 100000
set_option maxHeartbeats 40000000
variable{l:List Sm}{b n z7:Nat}{z3:Sm}{H:List St}{S:List Nat}{a:St}{o:ByteArray}{N:List UInt8}{M:Int}{v:List ByteArray}{y6:Db}{z6:Fs}{zb:FP}{z4:List Tk×List Bool}{y0:List Tk}(zt x:Tk)(D:List Tk)(z5:List Bool)(L:Tk)(y:List Tk)(y5:Db)(w:Fs)(T:ByteArray)(i:Int)(I:List St)(z0:Nat)(d:List ByteArray)(g:Nat)(k:List Sm)(z1:Sm)(f:Nat)
def nu(S:List Sm)(j:Nat):Bool:=((au S j).k.toList == [36,100])||((au S j).k.toList == [36,102])||((au S j).k.toList == [36,101])||((au S j).k.toList == [36,97])||((au S j).k.toList == [36,112])
def lV(S:List Sm):List Nat:=(List.range S.length).filter (nu S)
def bR(S:List Sm)(n:Nat):Nat:=(lV S).getD n S.length
theorem Ly(a:f<k.length):nu (k++[z1]) f=nu k f:=by
 unfold nu;rw[jL k [z1] f a]
theorem nX:lV (k++[z1])=lV k++(if nu (k++[z1]) k.length=true then [k.length] else []):=by
 unfold lV;rw[cg,R6,RV,dW (fun j a=>Ly k z1 j a)]
 congr 1
 cases h:nu (k++[z1]) k.length <;> simp[h]
theorem N2(h:(lV l)[b]?=some n):n<l.length:=by
 have:=R4 h;exact Ra.1 (RH.1 this).1
theorem N1(h:b<(lV l).length):bR l b<l.length:=by
 have e:(lV l)[b]?=some (bR l b):=by unfold bR;rw[QQ,QP h];rfl
 exact N2 e
theorem Ma:bR k (lV k).length=k.length:=by
 unfold bR;rw[QQ,Rx (QR _)];rfl
theorem L9(h:b<(lV l).length):bR (l++[z3]) b=bR l b:=by
 unfold bR;rw[nX,QQ,QQ,Q7 h,QP h];rfl
theorem nW{S:List Sm}{n a:Nat}(h:n<a)(b:a<(lV S).length):bR S n<bR S a:=by
 have c:(lV S).Pairwise (· < ·):=List.Pairwise.filter _ Ui;have:=UJ.1 c n a (by omega) b h;unfold bR;rw[QQ,QQ,QP b,QP (by omega)];exact this
theorem rV(a:b<=n)(c:n<=l.length):aV (l++[z3]) b n=aV l b n:=by
 unfold aV;rw[Sg (by omega),So (by rw[RT];omega)]
theorem qi(a:b<=l.length):bb (l++[z3]) b=bb l b:=by
 unfold bb;rw[So a]
theorem FW(a:b<=l.length):aV (l++[z3]) b (l.length+1)=(aV l b l.length&&decide (bb l b<=aO (bb l l.length) z3.k)):=by
 rw[rW (l++[z3]) b l.length a (by rw[cg];omega),rV a (QR _),qi a,hZ]
theorem zz(a:b<=l.length)(h:aV l b l.length=true):bb l b<=bb l l.length:=DE l b l.length a (QR _) h l.length a (QR _)
theorem nL(a:b<=l.length)(c:∀o,o<=aO o z3.k):aV (l++[z3]) b (l.length+1)=aV l b l.length:=by
 rw[FW a]
 cases h:aV l b l.length
 ·rfl
 ·have:=zz a h
  have:=c (bb l l.length);simp;omega
structure np(S:List Sm)(l:List St)(rb:List Nat):Prop where
 len:l.length=(lV S).length
 til:∀(n:Nat) (s:St),l[n]?=some s->qP s.kind=false->∀a,n<a->a<=l.length->(s.til==0||decide (a<s.til))=aV S (bR S n) (bR S a)
 le:∀(n:Nat) (s:St),l[n]?=some s->s.til<=l.length
 dep:bb S S.length=(rb.length:Int)
 rbl:∀i,i<rb.length->rb.getD i 0<=l.length/\∀n,n<l.length->aV S (bR S n) S.length=true->(rb.getD i 0<=n ↔ (i:Int)<bb S (bR S n))
theorem np.nil:np [] [] []:=⟨rfl,(fun n s h=>by cases h),(fun n s h=>by cases h),rfl,fun i h=>by cases h⟩
theorem np.at_(h:np l H S)(a:b<H.length):bR l b<l.length:=N1 (by rw[<-h.len];exact a)
theorem np.ix(h:np l H S)(s:Sm)(a:b<H.length):bR (l++[s]) b=bR l b:=L9 (by rw[<-h.len];exact a)
theorem np.ixEnd(h:np l H S):bR l H.length=l.length:=by rw[h.len];exact Ma l
theorem np.now(h:np l H S)(c:H[b]?=some a)(e:qP a.kind=false):(a.til==0)=aV l (bR l b) l.length:=by
 have d:=(Q8.1 c).1;have:=h.til b a c e H.length d (QR _);rw[h.ixEnd]at this;rw[<-this];have:=h.le b a c;rw[Sb (by omega),Sz]
theorem np.other(h:np l H S)(s:Sm)(A:nu (l++[s]) l.length=false)(v:∀o,o<=aO o s.k)(c:List Nat)(z:aO (bb l l.length) s.k=(c.length:Int))(B:c=S∨c=S++[H.length]):np (l++[s]) H c:=by
 have e:lV (l++[s])=lV l:=by rw[nX,QT (by rw[A];simp),Rl]
 have F:bR (l++[s]) H.length=l.length+1:=by
  unfold bR;rw[e,QQ,Rx (by rw[h.len];exact QR _)];exact cg l s
 refine⟨by rw[e];exact h.len,fun n t r w a f p=>?_,h.le,by rw[cg,hZ];exact z,fun i g=>?_⟩
 ·have d:=(Q8.1 r).1
  have j:=h.at_ d;rw[h.ix s d]
  by_cases y:a=H.length
  ·subst y
   rw[F,nL (by omega) v,h.til n t r w _ f p,h.ixEnd]
  ·have b:a<H.length:=by omega
   have:=h.at_ b;have q:bR l n<=bR l a:=RM (nW f (by rw[<-h.len];exact b));rw[h.ix s b,rV q (by omega)];exact h.til n t r w a f p
 ·rw[cg]
  have m:∀i,i<S.length->S.getD i 0<=H.length/\∀n,n<H.length->aV (l++[s]) (bR (l++[s]) n) (l.length+1)=true->(S.getD i 0<=n ↔ (i:Int)<bb (l++[s]) (bR (l++[s]) n)):=fun i g=>by
   obtain⟨D,E⟩:=h.rbl i g;refine⟨D,fun n d b=>?_⟩;have j:=h.at_ d;rw[h.ix s d]at b ⊢;rw[nL (by omega) v]at b;rw[qi (by omega)];exact E n d b
  rcases B with rfl | rfl
  ·exact m i g
  ·rw[Q0]at g
   replace g:i<S.length+1:=g
   by_cases x:i<S.length
   ·have u:(S++[H.length]).getD i 0=S.getD i 0:=by rw[QQ,QQ,Q7 x]
    rw[u];exact m i x
   ·have u:i=S.length:=by omega
    subst u;have C:(S++[H.length]).getD S.length 0=H.length:=by rw[QQ,Q5 (QR _),RY];rfl
    rw[C];refine⟨QR _,fun n d b=>?_⟩;have j:=h.at_ d;rw[h.ix s d]at b ⊢;rw[nL (by omega) v]at b;rw[qi (by omega)];have:=zz (by omega) b;have:=h.dep;omega
theorem np.kept(h:np l H S)(s:Sm)(C:nu (l++[s]) l.length=true)(z:∀o,aO o s.k=o)(t:St)(D:t.til=0):np (l++[s]) (H++[t]) S:=by
 have c:∀o,o<=aO o s.k:=fun o=>by rw[z o];exact TJ _
 have e:lV (l++[s])=lV l++[l.length]:=by rw[nX,QW C]
 have m:(H++[t]).length=H.length+1:=by rw[Q0];rfl
 have w:bR (l++[s]) H.length=l.length:=by
  unfold bR;rw[e,h.len,QQ,Q5 (QR _),RY];rfl
 have A:bR (l++[s]) (H.length+1)=l.length+1:=by
  unfold bR;rw[e,QQ,Rx (by rw[Q0,h.len];exact QR _)];exact cg l s
 have d:aV (l++[s]) l.length (l.length+1)=true:=by
  rw[nL (QR _) c];exact A9 l l.length
 refine⟨by rw[m,e,Q0,h.len];rfl,fun n u b p a j y=>?_,fun n u b=>?_,by rw[cg,hZ,z];exact h.dep,fun i F=>?_⟩
 ·rw[m]at y
  by_cases f:n<H.length
  ·rw[Q7 f]at b
   have r:=h.at_ f;have K:=h.le n u b;rw[h.ix s f]
   by_cases g:a<H.length
   ·have:=h.at_ g
    have v:bR l n<=bR l a:=RM (nW j (by rw[<-h.len];exact g));rw[h.ix s g,rV v (by omega)];exact h.til n u b p a j (by omega)
   ·by_cases B:a=H.length
    ·subst B
     rw[w,rV (by omega) (QR _),<-h.now b p,Sb (by omega),Sz]
    ·have L:a=H.length+1:=by omega
     subst L;rw[A,nL (by omega) c,<-h.now b p,Sb (by omega),Sz]
  ·have J:n=H.length:=by omega
   have g:a=H.length+1:=by omega
   subst J g;rw[Q5 (QR _),RY]at b
   cases b
   rw[w,A,d,D];rfl
 ·rw[m]
  by_cases f:n<H.length
  ·rw[Q7 f]at b
   have:=h.le n u b;omega
  ·have:=(Q8.1 b).1
   rw[m]at this;rw[Q5 (by omega),show n-H.length=0 by omega]at b
   cases b
   omega
 ·obtain⟨G,I⟩:=h.rbl i F
  rw[m,cg];refine⟨by omega,fun n f x=>?_⟩
  by_cases q:n<H.length
  ·have r:=h.at_ q
   rw[h.ix s q]at x ⊢;rw[nL (by omega) c]at x;rw[qi (by omega)];exact I n q x
  ·have E:n=H.length:=by omega
   subst E;rw[w,qi (QR _),h.dep]
   constructor
   ·intro _;omega
   ·intro _;exact G
theorem qj(h:(gy H b)[n]?=some a):∃v,H[n]?=some v/\a=(if b<=n/\n<H.length then lM H.length v else v):=by
 unfold gy at h;rw[mt]at h
 cases e:H[n]? with
 | none=>rw[e]at h;cases h
 | some v=>rw[e]at h;simp only[Option.map_some,Option.some.injEq]at h;exact⟨v,rfl,h.symm⟩
theorem np.pop(h:np l H (S++[b]))(s:Sm)(M:nu (l++[s]) l.length=false)(I:∀o,aO o s.k=o-1):np (l++[s]) (gy H b) S:=by
 have e:lV (l++[s])=lV l:=by rw[nX,QT (by rw[M];simp),Rl]
 have w:(gy H b).length=H.length:=jg H b H.length
 have Q:bR (l++[s]) H.length=l.length+1:=by
  unfold bR;rw[e,QQ,Rx (by rw[h.len];exact QR _)];exact cg l s
 have O:bb l l.length=(S.length:Int)+1:=by rw[h.dep,Q0];rfl
 obtain⟨y,t⟩:=h.rbl S.length (by rw[Q0];exact Nat.lt_succ_self _);have P:(S++[b]).getD S.length 0=b:=by rw[QQ,Q5 (QR _),RY];rfl
 rw[P]at y t
 have J:∀n,n<H.length->aV (l++[s]) (bR l n) (l.length+1)=(aV l (bR l n) l.length&&decide (n<b)):=fun n d=>by
  have p:=h.at_ d;rw[FW (by omega)]
  cases j:aV l (bR l n) l.length
  ·rfl
  ·have q:=t n d j
   have:=zz (by omega) j;rw[I,Sv,Sv]
   by_cases c:n<b
   ·rw[SM c]
    exact SM (by omega)
   ·rw[Sb c]
    exact Sb (by omega)
 refine⟨by rw[w,e];exact h.len,fun n u C m a r D=>?_,fun n u C=>?_,by rw[cg,hZ,I,O];omega,fun i E=>?_⟩
 ·obtain⟨v,g,rfl⟩:=qj C
  have d:=(Q8.1 g).1;have p:=h.at_ d;rw[w]at D
  have f:qP v.kind=false:=by
   split at m
   ·unfold lM at m;split at m <;> exact m
   ·exact m
  have B:=h.now g f;rw[h.ix s d];have L:=h.le n v g
  by_cases A:a<H.length
  ·have:=h.at_ A
   have x:bR l n<=bR l a:=RM (nW r (by rw[<-h.len];exact A));rw[h.ix s A,rV x (by omega),<-h.til n v g f a r (by omega)]
   split
   ·unfold lM
    split
    ·next c=>rw[c.1];simp;omega
    ·rfl
   ·rfl
  ·have K:a=H.length:=by omega
   subst K;rw[Q,J n d,<-B]
   by_cases c:b<=n
   ·rw[QW ⟨c,d⟩,Sb (show ¬n<b by omega),Bool.and_false]
    unfold lM
    by_cases z:v.til=0
    ·rw[QW ⟨z,f⟩]
     show(H.length==0||decide (H.length<H.length))=false
     rw[Rh.2 (show H.length≠0 by omega),Sb (Nat.lt_irrefl _)];rfl
    ·rw[QT (fun q=>z q.1)]
     have:(v.til==0)=false:=Rh.2 z;rw[this,Sb (show ¬H.length<v.til by omega)];rfl
   ·rw[QT (fun q=>c q.1),SM (show n<b by omega),Bool.and_true,Sb (show ¬H.length<v.til by omega),Sz]
 ·obtain⟨v,g,rfl⟩:=qj C
  have:=h.le n v g;rw[w]
  split
  ·unfold lM
   split
   ·exact QR _
   ·exact this
  ·exact this
 ·obtain⟨F,G⟩:=h.rbl i (by rw[Q0];exact Nat.lt_succ_of_lt E)
  have N:(S++[b]).getD i 0=S.getD i 0:=by rw[QQ,QQ,Q7 E]
  rw[N]at F G;rw[w,cg];refine⟨F,fun n d j=>?_⟩;have p:=h.at_ d;rw[h.ix s d]at j ⊢;rw[J n d,Rg]at j;rw[qi (by omega)];exact G n d j.1
def NF(k:Int):Bool:=decide (2<=k/\k<=6)
structure kP(T:List Tk)(d:Db):Prop where
 hel:np (aj T) d.Vn d.rbl
 ct:∀(n:Nat) (s:St),d.Vn[n]?=some s->eZ (au (aj T) (bR (aj T) n)).k.toList s.kind/\s.label=bG T (au (aj T) (bR (aj T) n))/\s.U6=bu T (au (aj T) (bR (aj T) n)).h/\cU T (au (aj T) (bR (aj T) n)).h
 lab:d.label=if NF d.kind=true then tS T (fA T) else⟨#[]⟩
section
variable {T:List Tk} {t:Tk} {d d':Db}
theorem wA:nu (k++[z1]) k.length=(((z1.k.toList == [36,100])||(z1.k.toList == [36,102])||(z1.k.toList == [36,101])||(z1.k.toList == [36,97])||(z1.k.toList == [36,112]))):=by
 unfold nu;rw[lX]
theorem kP.old(R:kP T d)(l:il T (aj T) (aj T).length){M:List Sm}{c:St}(n:b<d.Vn.length)(r:d.Vn[b]?=some a)(e:bR (aj T++M) b=bR (aj T) b)(m:c.kind=a.kind)(i:c.label=a.label)(j:c.U6=a.U6) :
  eZ (au (aj T++M) (bR (aj T++M) b)).k.toList c.kind/\c.label=bG (T++[t]) (au (aj T++M) (bR (aj T++M) b))/\c.U6=bu (T++[t]) (au (aj T++M) (bR (aj T++M) b)).h/\cU (T++[t]) (au (aj T++M) (bR (aj T++M) b)).h:=by
 obtain⟨p,q,o,g⟩:=R.ct b a r;have f:=R.hel.at_ n;rw[e,jL _ _ _ f,m,i,j];refine⟨p,?_,?_,JW T [t] _ g⟩
 ·rw[q]
  unfold bG;rw[fI T [t] _ (l.a _ f)]
 ·rw[o,sg T [t] _ g]
theorem kP.Vb(R:kP T d)(i:il T (aj T) (aj T).length)(g:bS t.s=false)(c:d'.Vn=d.Vn)(f:d'.rbl=d.rbl)(h:d'.label=if NF d'.kind=true then tS (T++[t]) (fA T) else⟨#[]⟩):kP (T++[t]) d':=by
 obtain⟨b,e⟩:=mF (T:=T) (t:=t) g;refine⟨by rw[b,c,f];exact R.hel,fun n s a=>?_,by rw[e];exact h⟩;rw[c]at a;have j:=(Q8.1 a).1;rw[b];have:=R.old (t:=t) i (M:=[]) j a (by rw[Rl]) rfl rfl rfl;rw[Rl]at this;exact this
theorem kP.other(R:kP T d)(i:il T (aj T) (aj T).length)(s:Sm)(b:aj (T++[t])=aj T++[s])(g:nu (aj T++[s]) (aj T).length=false)(m:∀o,o<=aO o s.k)(f:aO (bb (aj T) (aj T).length) s.k=(d'.rbl.length:Int))(j:d'.rbl=d.rbl∨d'.rbl=d.rbl++[d.Vn.length])(c:d'.Vn=d.Vn)(h:d'.label=⟨#[]⟩)(l:d'.kind=0):kP (T++[t]) d':=by
 refine⟨by rw[b,c];exact R.hel.other s g m d'.rbl f j,fun n u a=>?_,by rw[h,l];rfl⟩;rw[c]at a;have e:=(Q8.1 a).1;rw[b];exact R.old i e a (R.hel.ix s e) rfl rfl rfl
theorem kP.kept(R:kP T d)(z:il T (aj T) (aj T).length)(s:Sm)(g:aj (T++[t])=aj T++[s])(c:nu (aj T++[s]) (aj T).length=true)(y:∀o,aO o s.k=o)(u:St)(w:u.til=0)(m:eZ s.k.toList u.kind)(i:u.label=bG (T++[t]) s)(r:u.U6=bu (T++[t]) s.h)(q:cU (T++[t]) s.h)(f:d'.Vn=d.Vn++[u])(j:d'.rbl=d.rbl)(p:d'.label=⟨#[]⟩)(x:d'.kind=0):kP (T++[t]) d':=by
 refine⟨by rw[g,f,j];exact R.hel.kept s c y u w,fun n v a=>?_,by rw[p,x];rfl⟩;rw[f]at a;rw[g]
 by_cases b:n<d.Vn.length
 ·rw[Q7 b]at a
  exact R.old z b a (R.hel.ix s b) rfl rfl rfl
 ·have e:n=d.Vn.length:=by
   have:=(Q8.1 a).1;rw[Q0]at this;have:n<d.Vn.length+1:=this;omega
  subst e;rw[Q5 (QR _),RY]at a
  cases a
  have l:bR (aj T++[s]) d.Vn.length=(aj T).length:=by
   unfold bR;rw[nX,QW c,R.hel.len,QQ,Q5 (QR _),RY];rfl
  rw[l,lX];exact⟨m,i,r,q⟩
theorem kP.pop(R:kP T d)(x:il T (aj T) (aj T).length)(s:Sm)(g:aj (T++[t])=aj T++[s])(l:nu (aj T++[s]) (aj T).length=false)(w:∀o,aO o s.k=o-1)(m:d.rbl=S++[b])(a:d'.Vn=gy d.Vn b)(i:d'.rbl=S)(p:d'.label=⟨#[]⟩)(r:d'.kind=0):kP (T++[t]) d':=by
 have h:=R.hel;rw[m]at h;refine⟨by rw[g,a,i];exact h.pop s l w,fun n u f=>?_,by rw[p,r];rfl⟩;rw[a]at f;obtain⟨v,c,j⟩:=qj f;have e:=(Q8.1 c).1
 have q:u.kind=v.kind/\u.label=v.label/\u.U6=v.U6:=by
  rw[j]
  split
  ·unfold lM;split <;> exact⟨rfl,rfl,rfl⟩
  ·exact⟨rfl,rfl,rfl⟩
 rw[g];exact R.old x e c (R.hel.ix s e) q.1 q.2.1 q.2.2
end
section
variable {T:List Tk} {t:Tk} {d:Db}
theorem zO(h:dA o=false):bS o=false:=by
 cases a:bS o
 ·rfl
 ·have:=(kM a).1
  rw[ia,h]at this;cases this
theorem lR(h:(o.toList==N)=true)(a:((N == [36,46])||(N == [36,123])||(N == [36,125]))=false):bS o=false:=by
 rw[(kc (dd h)).2.2];exact a
theorem kP.first(R:kP T d)(b:il T (aj T) (aj T).length)(B:bb (aj T) (aj T).length=(d.blocks.length:Int))(r:fA T=T.length)(j:d.kind=0)(a:(av d t.s).1=0):kP (T++[t]) (av d t.s).2:=by
 have c:d.label=⟨#[]⟩:=by rw[R.lab,j];rfl
 unfold av at *
 by_cases f:(t.s.toList == [36,123])=true
 ·rw[QW f]
  obtain⟨l,-⟩:=qo (T:=T) (t:=t) r (by rw[(kc (dd f)).2.2];decide);have h:∀o,aO o t.s=o+1:=fun o=>by rw[rr (dd f)];rfl
  refine R.other b _ l (by rw[wA];simp only;rw[dd f];decide) (fun o=>by show o<=aO o t.s;rw[h];omega) ?_ (QV rfl) rfl c j
  show aO _ t.s=_
  rw[h,R.hel.dep];simp only[List.length_append,List.length_cons,List.length_nil];omega
 rw[QT f]at a ⊢
 by_cases g:(t.s.toList == [36,125])=true
 ·rw[QW g]at a ⊢
  cases u:d.blocks.getLast? with
  | none=>rw[u]at a;cases a
  | some q =>
   simp only;obtain⟨l,-⟩:=qo (T:=T) (t:=t) r (by rw[(kc (dd g)).2.2];decide);have h:∀o,aO o t.s=o-1:=fun o=>by rw[rr (dd g)];rfl
   have i:d.rbl≠[]:=by
    intro e;have:=R.hel.dep;rw[B,e]at this;have:d.blocks=[]:=Rk (by simpa using this);rw[this]at u;cases u
   have A:d.rbl=d.rbl.dropLast++[d.rbl.getLast i]:=(Uv i).symm;have y:d.rbl.getLast?=some (d.rbl.getLast i):=Ta i;unfold cw;rw[y];exact R.pop b _ l (by rw[wA];simp only;rw[dd g];decide) (fun o=>h o) A rfl rfl c j
 rw[QT g]at a ⊢
 by_cases n:(t.s.toList == [36,99])=true
 ·rw[QW n]at a ⊢
  by_cases v:0<d.blocks.length
  ·rw[QW v]at a;cases a
  ·rw[QT v];exact R.Vb b (lR n (by decide)) rfl rfl c
 rw[QT n]at a ⊢
 by_cases k:(t.s.toList == [36,118])=true
 ·rw[QW k];exact R.Vb b (lR k (by decide)) rfl rfl c
 rw[QT k]at a ⊢
 by_cases p:(t.s.toList == [36,100])=true
 ·rw[QW p];exact R.Vb b (lR p (by decide)) rfl rfl c
 rw[QT p]at a ⊢
 split at a
 ·cases a
 ·next w =>
  rw[QT w];unfold bI at *
  cases m:dA t.s
  ·rw[m,QT (by simp)]at a
   split at a
   ·cases a
   ·next x =>
    split at a
    ·cases a
    ·next z =>
     rw[QT (by simp),QT x,QT z];exact R.Vb b (zO m) rfl rfl (by show t.s=tS (T++[t]) (fA T);rw[r,oV])
  ·rw[m,QW rfl]at a;cases a
theorem kP.key(R:kP T d)(c:il T (aj T) (aj T).length)(k:fA T+1=T.length)(e:d.kind=6)(a:(aH d t.s).1=0):kP (T++[t]) (aH d t.s).2:=by
 have b:d.label=tS (T++[t]) (fA T):=by rw[R.lab,e,fI T [t] _ (by omega)];rfl
 unfold aH at *
 split
 ·next h=>exact R.Vb c (lR h (by decide)) rfl rfl b
 ·next g =>
  rw[QT g]at a
  split
  ·next h=>exact R.Vb c (lR h (by decide)) rfl rfl b
  ·next i =>
   rw[QT i]at a
   split
   ·next h=>exact R.Vb c (lR h (by decide)) rfl rfl b
   ·next f =>
    rw[QT f]at a
    split
    ·next h=>exact R.Vb c (lR h (by decide)) rfl rfl b
    ·next j=>rw[QT j]at a;cases a
theorem LB(h:eZ N M):((N == [36,100])||(N == [36,102])||(N == [36,101])||(N == [36,97])||(N == [36,112]))=!((M==7)||(M==8)):=by
 cases h <;> decide
theorem LA(h:eZ o.toList M):(aC o||aG o)=NF M:=by
 have e:=kc (k:=o) rfl;rw[e.1,e.2.1];generalize o.toList=l at h
 cases h <;> decide
theorem kP.body(R:kP T d)(m:il T (aj T) (aj T).length)(D:ew T (fA T)=(o,b))(z:fA T<b)(B:b<=T.length)(k:eZ o.toList d.kind)(H:fa T b T.length=v)(A:d.U6=v.takeWhile kB)(p:Pl)(c:(aX d t.s p).1=0):kP (T++[t]) (aX d t.s p).2:=by
 have r:d.label=if NF d.kind=true then tS (T++[t]) (fA T) else⟨#[]⟩:=by rw[R.lab,fI T [t] _ (by omega)]
 rw[qA k]at *
 by_cases l:(t.s.toList == [36,46])=true
 ·rw[QW l]at *
  obtain⟨F,-⟩:=Gu l;obtain⟨w,-⟩:=oR T t;rw[QW F,sO D z B k]at w;simp only at w
  have h:bu (T++[t]) b=d.U6:=by
   unfold bu;rw[Sg B,vO _ t (fun u G=>?_) l,A,<-H,m8];have:=yU T b (by omega) u G;unfold bS at this;simp only[Bool.or_eq_false_iff]at this;exact this.1.1
  have y:cU (T++[t]) b:=⟨T.length,B,by simp,by rw[oV];unfold mM;rw[l];simp⟩;have e:=k.dep.1;have f:nu (aj T++[(⟨fA T,T.length+1,b,o⟩:Sm)]) (aj T).length=!((d.kind==7)||(d.kind==8)):=by rw[wA];exact LB k
  unfold lL at *
  split at c
  ·cases c
  ·next E =>
   rw[QT E]
   split at c
   ·cases c
   ·next i =>
    rw[QT i];simp only
    cases a:((d.kind==7)||(d.kind==8))
    ·rw[a]at f
     simp only[Bool.or_eq_false_iff]at a
     have j:(aY d p).Vn=d.Vn++[⟨d.kind,d.label,d.U6,d.Vh,p,0⟩]/\(aY d p).rbl=d.rbl:=by
      unfold aY mY mO;rw[a.1,a.2];simp only[Bool.false_eq_true,if_false]
      split <;> exact⟨rfl,rfl⟩
     refine R.kept m _ w f (fun n=>e n) ⟨d.kind,d.label,d.U6,d.Vh,p,0⟩ rfl k ?_ h.symm y j.1 j.2 rfl rfl
     show d.label=bG (T++[t]) ⟨fA T,T.length+1,b,o⟩
     unfold bG;simp only;rw[LA k];exact r
    ·rw[a]at f
     have j:(aY d p).Vn=d.Vn/\(aY d p).rbl=d.rbl:=by
      unfold aY dO;rw[RB]at a
      split
      ·exact⟨rfl,rfl⟩
      ·next q =>
       rw[QW (a.resolve_left q)];exact⟨rfl,rfl⟩
     refine R.other m _ w f (fun n=>by show n<=aO n o;rw[e];exact TJ _) ?_ (Q1 j.2) j.1 rfl rfl
     show aO _ o=_
     rw[e,R.hel.dep]
     show _=((aY d p).rbl.length:Int)
     rw[j.2]
 ·rw[QT l]at *
  by_cases C:(t.s.toList == [36,61])=true/\(d.kind==5)=true/\d.Va=false
  ·rw[QW C]at *
   unfold b7 at *
   split at c
   ·cases c
   ·next g=>rw[QT g];exact R.Vb m (lR C.1 (by decide)) rfl rfl r
  ·rw[QT C]at *
   cases x:dA t.s
   ·rw[x,QT (by simp)]at c
    rw[QT (by simp)]
    split at c
    ·next g=>rw[QW g];exact R.Vb m (zO x) rfl rfl r
    ·next g =>
     rw[QT g]
     split at c
     ·next i=>rw[QW i];exact R.Vb m (zO x) rfl rfl r
     ·next i=>simp only at c;rw[c]at i;exact absurd rfl i
   ·rw[x,QW rfl]at c;cases c
theorem kP.step(w:tF T d)(x:rR T (aj T) d)(z:∀j,j<T.length->bh T (aj T) j=0)(R:kP T d)(r:T.length<=100000)(p:Pl)(c:(aX d t.s p).1=0):kP (T++[t]) (aX d t.s p).2:=by
 obtain⟨h,-⟩:=Ao T r z
 rcases w with ⟨i,a,b,f,k⟩ | ⟨i,a,b,f,k,n,m⟩ | ⟨o,l,B,a,g,v,u,y,f,b,q,k,A⟩
 ·have e:aX d t.s p=av d t.s:=by unfold aX;rw[a];rfl
  rw[e]at c ⊢;exact R.first h (Bv x) i a c
 ·have e:aX d t.s p=aH d t.s:=by unfold aX;rw[a];rfl
  rw[e]at c ⊢;exact R.key h i a c
 ·exact R.body h a g v u y b p c
end
theorem fS(h:eZ N M):(M==3)=(N == [36,101])/\(M==2)=(N == [36,102])/\(M==1)=(N == [36,100])/\qP M=((N == [36,97])||(N == [36,112])):=by
 cases h <;> decide
theorem wQ:lV k=(List.range (lV k).length).map (bR k):=by
 apply Sq
 intro n;rw[Rq]
 by_cases h:n<(lV k).length
 ·rw[Uy h,QP h]
  show _=some (bR k n)
  unfold bR;rw[QQ,QP h];rfl
 ·rw[Rx (by omega),Rx (by rw[Tf];omega)];rfl
theorem ub(e:b=(lV l).length){p q:Nat->Bool}(c:∀j,j<l.length->p j=true->nu l j=true)(a:∀n,n<b->q n=p (bR l n)):((List.range b).filter q).map (bR l)=(List.range l.length).filter p:=by
 have f:(List.range l.length).filter p=(lV l).filter p:=by
  unfold lV;rw[UG]
  apply dW
  intro j d
  cases h:p j
  ·rfl
  ·rw[c j d h];rfl
 rw[f,wQ l,<-e,List.filter_map]
 congr 1
 apply dW
 intro n g;exact a n g
theorem sF(h:n<=b)(p:Nat->Bool):(List.range b).filter (fun j=>decide (j<n)&&p j)=(List.range n).filter p:=by
 have e:List.range b=List.range n++(List.range (b-n)).map (n + ·):=by
  have:=@List.range_add n (b-n);rwa [show n+(b-n)=b by omega]at this
 have d:(List.range n).filter (fun j=>decide (j<n)&&p j)=(List.range n).filter p:=dW (fun j a=>by rw[SM a,Sv])
 have c:((List.range (b-n)).map (n + ·)).filter (fun j=>decide (j<n)&&p j)=[]:=by
  rw[Th];intro j a;obtain⟨i,-,rfl⟩:=Si.1 a;rw[Sb (by omega)];simp
 rw[e,RV,d,c,Rl]
section
variable {T:List Tk} {d:Db}
theorem kP.held(R:kP T d)(c:d.Vn[b]?=some a)(f:qP a.kind=false)(j:n<d.Vn.length):g7 d.Vn b n=(decide (bR (aj T) b<bR (aj T) n)&&aV (aj T) (bR (aj T) b) (bR (aj T) n)):=by
 have i:=(Q8.1 c).1;have g:=R.hel.len;unfold g7;rw[c];simp only
 by_cases h:b<n
 ·rw[SM h,SM (nW h (by omega)),R.hel.til b a c f n h (by omega)]
 ·have:¬bR (aj T) b<bR (aj T) n:=by
   by_cases e:b=n
   ·rw[e];omega
   ·have:=nW (S:=aj T) (n:=n) (a:=b) (by omega) (by omega)
    omega
  rw[Sb h,Sb this];rfl
theorem kP.get(R:kP T d)(a:b<d.Vn.length):∃s,d.Vn[b]?=some s/\eZ (au (aj T) (bR (aj T) b)).k.toList s.kind/\s.label=bG T (au (aj T) (bR (aj T) b))/\s.U6=bu T (au (aj T) (bR (aj T) b)).h:=by
 refine⟨d.Vn[b],QP a,?_⟩;obtain⟨e,f,c,-⟩:=R.ct b _ (QP a);exact⟨e,f,c⟩
theorem kP.symsAt(R:kP T d)(a:b<d.Vn.length):symsAt d.Vn b=bu T (au (aj T) (bR (aj T) b)).h:=by
 obtain⟨s,c,-,-,h⟩:=R.get a;unfold Go.Proofs.YtpddjjabfbfifaaGreat.symsAt;rw[c];exact h
theorem kP.syms(R:kP T d)(g:b<d.Vn.length):f8 d.Vn b=Dj T (aj T) (bR (aj T) b):=by
 have m:=R.hel.len;have f:=R.hel.at_ g
 have a:((List.range d.Vn.length).filter (zQ d.Vn b)).map (bR (aj T))=(List.range (bR (aj T) b)).filter (xY (aj T) (bR (aj T) b)):=by
  rw[<-sF (RM f)];refine ub m (fun j o h=>?_) (fun n c=>?_)
  ·unfold xY at h
   simp only[Bool.and_eq_true]at h;unfold nu;rw[h.2.1];simp
  ·obtain⟨s,l,i,-,-⟩:=R.get c
   unfold zQ xY;rw[l];simp only;rw[(fS i).1]
   cases e:((au (aj T) (bR (aj T) n)).k.toList == [36,101])
   ·simp
   ·have f:qP s.kind=false:=by
     rw[(fS i).2.2.2,ci e,ci e];decide
    rw[R.held l f g,Sv,Sv]
 unfold f8 eJ Dj lD;rw[R.symsAt g,<-a,List.flatMap_map]
 congr 1
 apply dx
 intro n c;exact R.symsAt (Ra.1 (RH.1 c).1)
def PM(T:List Tk)(S:List Sm):Prop:=∀j,j<S.length->((au S j).k.toList == [36,102])=true->2<=(bu T (au S j).h).length/\(bu T (au S j).h).getD 1 ⟨#[]⟩=tS T ((au S j).h+1)
theorem kP.hyps(R:kP T d)(F:PM T (aj T))(f:b<d.Vn.length):(aK d.Vn b).map (bR (aj T))=bW T (aj T) (bR (aj T) b):=by
 have p:=R.hel.len;have c:=R.hel.at_ f;unfold aK dG bW;rw[R.syms f,<-sF (RM c)];refine ub p (fun j x h=>?_) (fun n m=>?_)
 ·unfold sJ at h
  simp only[Bool.and_eq_true,Bool.or_eq_true]at h;unfold nu
  rcases h.2.2 with h | h
  ·rw[h];simp
  ·rw[h.1];simp
 ·obtain⟨s,g,u,-,o⟩:=R.get m
  have q:=R.hel.at_ m;obtain⟨r,i,y,l⟩:=fS u;unfold l6 sJ pN;rw[g];simp only;rw[i]
  cases a:((au (aj T) (bR (aj T) n)).k.toList == [36,102])
  ·rw[QT (by simp),r]
   cases e:((au (aj T) (bR (aj T) n)).k.toList == [36,101])
   ·simp
   ·have c:qP s.kind=false:=by rw[l,ci e,ci e];decide
    rw[R.held g c f];simp
  ·have c:qP s.kind=false:=by rw[l,ci a,ci a];decide
   have e:((au (aj T) (bR (aj T) n)).k.toList == [36,101])=false:=by rw[ci a];decide
   obtain⟨w,v⟩:=F _ q a
   have t:aL s=tS T ((au (aj T) (bR (aj T) n)).h+1):=by
    unfold aL;rw[QW ⟨by rw[i];exact a,by rw[o];exact w⟩,o,v]
   rw[QW rfl,R.held g c f,t,e,Sp,Sv,UY]
end
theorem Hg(L:List Tk):∀i,i<(ke L).length->(ke L)[i]?=L[i]?.map (·.s):=by
 induction L with
 | nil=>intro i a;cases a
 | cons t L b =>
  intro i a;unfold ke at a ⊢
  split
  ·next h=>rw[QW h]at a;cases a
  ·next h =>
   rw[QT h]at a
   cases i with
   | zero=>rfl
   | succ i=>exact b i (by simpa using a)
theorem Bi(a:f<(bu y g).length):(bu y g).getD f ⟨#[]⟩=tS y (g+f):=by
 unfold bu at *;have:=Hg (y.drop g) f a;unfold tS;rw[QQ,this,SV,QQ]
 cases y[g+f]? <;> rfl
section
variable {T:List Tk} {t:Tk} {d d':Db}
def vr(s:St):ByteArray:=s.U6.getD 1 ⟨#[]⟩
structure xA(d:Db):Prop where
 fl:∀(n:Nat) (s:St),d.Vn[n]?=some s->s.kind=2->2<=s.U6.length
 ds:∀(n m:Nat) (s u:St),d.Vn[n]?=some s->d.Vn[m]?=some u->s.kind=2->u.kind=2->n<m->(s.til=0∨m<s.til)->((vr s).toList==(vr u).toList)=false
 op:d.kind=2->2<=d.U6.length->aJ d.Vi (d.U6.getD 1 ⟨#[]⟩)=false
theorem kP.Vi(R:kP T d)(E:rR T (aj T) d)(F:xA d)(e:d.Vn[b]?=some a)(f:a.kind=2)(o:a.til=0):aJ d.Vi (vr a)=true:=by
 have j:=(Q8.1 e).1;obtain⟨i,-,g,-⟩:=R.ct b a e;have n:qP a.kind=false:=by rw[f];rfl
 have c:=R.hel.now e n;rw[o]at c;have h:=R.hel.at_ j;have m:((au (aj T) (bR (aj T) b)).k.toList == [36,102])=true:=by rw[<-(fS i).2.1,f];rfl
 rw[E.typ.l,nO,RC];refine⟨bR (aj T) b,RH.2 ⟨Ra.2 h,c.symm⟩,?_⟩;unfold Gg;rw[QW m,ru];have p:=F.fl b a e f;unfold vr;rw[g,Bi T _ 1 (by rw[<-g];omega)];simp
theorem xA.same(F:xA d)(b:d'.Vn=d.Vn)(e:d'.kind=2->2<=d'.U6.length->aJ d'.Vi (d'.U6.getD 1 ⟨#[]⟩)=false):xA d' :=
 ⟨fun n s a=>by rw[b]at a;exact F.fl n s a,fun n m s u a c=>by rw[b]at a c;exact F.ds n m s u a c,e⟩
theorem xA.ended(F:xA d)(b:Nat)(w:d'.Vn=gy d.Vn b)(p:d'.kind=0):xA d':=by
 have q:∀(n:Nat) (s:St),d'.Vn[n]?=some s->∃v,d.Vn[n]?=some v/\s.kind=v.kind/\s.U6=v.U6/\(s.til=v.til∨(v.til=0/\s.til=d.Vn.length)):=fun n s a=>by
  rw[w]at a;obtain⟨v,e,r⟩:=qj a;refine⟨v,e,?_⟩;rw[r]
  split
  ·unfold lM
   split
   ·next c=>exact⟨rfl,rfl,QV ⟨c.1,rfl⟩⟩
   ·exact⟨rfl,rfl,Q1 rfl⟩
  ·exact⟨rfl,rfl,Q1 rfl⟩
 refine⟨fun n s a g=>?_,fun n m s u a A g i l z=>?_,fun h=>by rw[p]at h;cases h⟩
 ·obtain⟨v,e,j,k,-⟩:=q n s a
  rw[k];exact F.fl n v e (by rw[<-j];exact g)
 ·obtain⟨v,e,j,k,f⟩:=q n s a
  obtain⟨x,o,y,t,-⟩:=q m u A;have B:=(Q8.1 o).1;unfold vr;rw[k,t];refine F.ds n m v x e o (by rw[<-j];exact g) (by rw[<-y];exact i) l ?_
  rcases f with f | ⟨f,-⟩
  ·rw[<-f];exact z
  ·exact Q1 f
theorem xA.more(R:kP T d)(E:rR T (aj T) d)(F:xA d)(u:St)(l:u.kind=2->2<=u.U6.length/\aJ d.Vi (vr u)=false)(t:d'.Vn=d.Vn++[u])(o:d'.kind=0):xA d':=by
 have q:∀(n:Nat) (s:St),d'.Vn[n]?=some s->(n<d.Vn.length/\d.Vn[n]?=some s)∨(n=d.Vn.length/\s=u):=fun n s a=>by
  rw[t]at a
  by_cases f:n<d.Vn.length
  ·rw[Q7 f]at a;exact Q1 ⟨f,a⟩
  ·have:=(Q8.1 a).1
   rw[Q0]at this;have:n<d.Vn.length+1:=this;rw[Q5 (by omega),show n-d.Vn.length=0 by omega]at a
   cases a
   exact QV ⟨by omega,rfl⟩
 refine⟨fun n s a b=>?_,fun n m s x a p b c k v=>?_,fun h=>by rw[o]at h;cases h⟩
 ·rcases q n s a with ⟨-,h⟩ | ⟨-,rfl⟩
  ·exact F.fl n s h b
  ·exact(l b).1
 ·rcases q m x p with ⟨w,y⟩ | ⟨w,rfl⟩
  ·rcases q n s a with ⟨-,g⟩ | ⟨f,-⟩
   ·exact F.ds n m s x g y b c k v
   ·omega
  ·rcases q n s a with ⟨-,g⟩ | ⟨f,-⟩
   ·have r:=R.hel.le n s g
    have A:s.til=0:=by omega
    have j:=R.Vi E F g b A;have i:=(l c).2
    cases z:((vr s).toList==(vr x).toList)
    ·rfl
    ·have e:(vr s).toList=(vr x).toList:=by simpa using z
     unfold aJ at j i;rw[e]at j;rw[j]at i;cases i
   ·omega
theorem xA.step(J:tF T d)(K:rR T (aj T) d)(R:kP T d)(F:xA d)(p:Pl)(i:(aX d t.s p).1=0):xA (aX d t.s p).2:=by
 rcases J with ⟨L,j,k,n,v⟩ | ⟨L,j,k,n,v,C,A⟩ | ⟨E,x,B,j,D,O,I,P,n,k,H,v,N⟩
 ·have e:aX d t.s p=av d t.s:=by unfold aX;rw[j];rfl
  rw[e]at i ⊢;unfold av bI cw at *;have l:∀f:Db,f.Vn=d.Vn->f.kind≠2->xA f:=fun f m o=>F.same m (fun h=>absurd h o)
  repeat' split
  all_goals first
   | exact F
   | exact F.ended _ rfl j
   | exact l _ rfl (by rw[show _=_ from j];decide)
   | exact l _ rfl (by simp only;decide)
   | exact l _ rfl (by simp only;rw[j];decide)
   | exact l _ rfl (by show d.kind≠2;rw[j];decide)
 ·have e:aX d t.s p=aH d t.s:=by unfold aX;rw[j];rfl
  rw[e]at i ⊢;have l:∀f:Db,f.Vn=d.Vn->f.U6=d.U6->xA f:=fun f m o=>F.same m (fun _ h=>by rw[o,k]at h;simp at h)
  unfold aH
  repeat' split
  all_goals exact l _ rfl rfl
 ·rw[qA I]at i ⊢
  by_cases w:(t.s.toList == [36,46])=true
  ·rw[QW w]at i ⊢
   unfold lL at *
   split at i
   ·cases i
   ·next r =>
    rw[QT r]
    split at i
    ·cases i
    ·next G =>
     rw[QT G];simp only
     cases c:((d.kind==7)||(d.kind==8))
     ·simp only[Bool.or_eq_false_iff]at c
      have u:(aY d p).Vn=d.Vn++[⟨d.kind,d.label,d.U6,d.Vh,p,0⟩]:=by
       unfold aY mY mO;rw[c.1,c.2];simp only[Bool.false_eq_true,if_false]
       split <;> rfl
      refine xA.more R K F ⟨d.kind,d.label,d.U6,d.Vh,p,0⟩ (fun b=>?_) u rfl;replace b:d.kind=2:=b
      have a:2<=d.U6.length:=by
       unfold l5 at r;rw[QW (QV (by rw[b];rfl))]at r;omega
      exact⟨a,F.op b a⟩
     ·have u:(aY d p).Vn=d.Vn:=by
       unfold aY dO;rw[RB]at c
       split
       ·rfl
       ·next q=>rw[QW (c.resolve_left q)]
      exact F.same u (fun h=>by cases h)
  ·rw[QT w]at i ⊢
   split
   ·unfold b7
    split <;> exact F.same rfl F.op
   ·split
    ·exact F
    ·split
     ·exact F.same rfl F.op
     ·split
      ·next y =>
       refine F.same rfl (fun b a=>?_);replace b:d.kind=2:=b;replace a:2<=(d.U6++[t.s]).length:=a;rw[Q0]at a;replace a:2<=d.U6.length+1:=a;have g:aZ d t.s=0:=by simpa using y
       unfold aZ at g;rw[b,QT (by decide),QT (by decide),QT (by decide),QT (by omega),QW (by rfl)]at g;unfold fC at g
       split at g
       ·cases g
       ·next M =>
        split at g
        ·cases g
        ·split at g
         ·cases g
         ·next z =>
          show aJ d.Vi ((d.U6++[t.s]).getD 1 ⟨#[]⟩)=false
          have m:(d.U6++[t.s]).getD 1 ⟨#[]⟩=t.s:=by
           rw[QQ,Q5 (by omega),show 1-d.U6.length=0 by omega];rfl
          rw[m];simpa using z
      ·exact F
theorem kP.flo(R:kP T d)(F:xA d):PM T (aj T):=by
 intro j f e;have a:j∈lV (aj T):=RH.2 ⟨Ra.2 f,by unfold nu;rw[e];simp⟩;rw[wQ]at a;obtain⟨n,b,rfl⟩:=Si.1 a;have b:n<d.Vn.length:=by rw[R.hel.len];exact Ra.1 b
 obtain⟨s,k,g,-,i⟩:=R.get b
 have h:s.kind=2:=by
  have:=(fS g).2.1;rw[e]at this;simpa using this
 have c:=F.fl n s k h;rw[i]at c;exact⟨c,Bi T _ 1 (by omega)⟩
end
section
variable {T:List Tk} {t:Tk} {d:Db}
structure oj(T:List Tk)(d:Db):Prop where
 e:rR T (aj T) d
 o:tF T d
 u:∀j,j<T.length->bh T (aj T) j=0
 b:jz T=(d.blocks.length:Int)
 r:kP T d
 f:xA d
theorem Bu:jz (D++[L])=aO (jz D) L.s:=by
 unfold jz;rw[Sw];rfl
theorem oj.step(I:oj T d)(m:T.length<=100000)(H:(t.s.toList == [])=false)(p:Pl):bh (T++[t]) (aj (T++[t])) T.length=(aX d t.s p).1/\((aX d t.s p).1=0->oj (T++[t]) (aX d t.s p).2):=by
 obtain⟨z,y⟩:=Ao T m I.u;have x:=Bk T t m I.u
 have g:bh (T++[t]) (aj (T++[t])) T.length=(aX d t.s p).1/\((aX d t.s p).1=0->rR (T++[t]) (aj (T++[t])) (aX d t.s p).2/\tF (T++[t]) (aX d t.s p).2):=by
  rcases I.o with ⟨n,i,a,c,k⟩ | ⟨n,i,a,c,k,v,q⟩ | ⟨g,D,B,i,l,C,A,E,c,a,w,k,M⟩
  ·have e:aX d t.s p=av d t.s:=by unfold aX;rw[i];rfl
   rw[x,QW n.symm,e];exact Fl z y I.e n i a c k H
  ·have e:aX d t.s p=aH d t.s:=by unfold aX;rw[i];rfl
   obtain⟨J,L⟩:=Mv (t:=t) z y I.e n a c k v q;rw[x,QT (by omega),J,QW (by simp),e];exact L
  ·rw[x,QT (by omega),sO i l C A,QT (by simp only;omega)]
   simp only;rw[E];exact JR z y I.e i l C A E c a w k M p
 refine⟨g.1,fun h=>?_⟩;obtain⟨K,G⟩:=g.2 h;refine⟨K,G,fun j F=>?_,?_,kP.step I.o I.e I.u I.r m p h,xA.step I.o I.e I.r I.f p h⟩
 ·rw[Q0,Rp,Rs]at F
  by_cases e:j<T.length
  ·exact rm T [t] m I.u j e
  ·have e:j=T.length:=by omega
   rw[e,g.1];exact h
 ·rw[Bu,I.b,Dc I.o t.s p h]
theorem Gt(h:0<y.length):∃u,y.getLast?=some u/\u.s=tS y (y.length-1):=by
 rw[SO,QP (by omega)];refine⟨_,rfl,?_⟩;unfold tS;rw[QQ,QP (by omega)];rfl
theorem oj.open(I:oj T d):kp d=!dg T:=by
 have p:=fw T;have w:=I.b
 have a:fA T<T.length->dg T=false:=fun h=>by
  obtain⟨u,q,r⟩:=Gt T (by omega);have:=p.n (T.length-1) (by unfold fA at h;omega) (by omega);unfold dg;rw[q];simp only;rw[r,this];rfl
 unfold kp
 rcases I.o with ⟨J,g,c,f,t⟩ | ⟨J,g,c,f,t,A,y⟩ | ⟨i,x,B,g,C,K,m,L,f,c,E,t,M⟩
 ·rw[g]
  have F:(bne (0:Int) 0)=false:=rfl;rw[F,Sp]
  by_cases G:T.length=0
  ·have e:T=[]:=Rk G
   rw[e]at w ⊢
   have:d.blocks.length=0:=by
    have h:jz []=0:=rfl;omega
   rw[this];rfl
  ·obtain⟨u,q,r⟩:=Gt T (by omega)
   have H:0<(aj T).length:=by
    rcases Nat.eq_zero_or_pos (aj T).length with h | h
    ·have:=EL T
     rw[h]at this;unfold kz at this;rw[QT (by omega)]at this;omega
    ·exact h
   have j:(au (aj T) ((aj T).length-1)).z=T.length:=by
    have:=EL T;unfold kz at this;rw[QW H]at this;omega
   have v:=(p.s ((aj T).length-1) (by omega)).1.e;rw[j]at v;unfold dg;rw[q];simp only;rw[r,v,Sv,w]
   by_cases j:d.blocks.length=0
   ·rw[j];rfl
   ·have D:((d.blocks.length:Int)==0)=false:=UV (by omega)
    rw[D,SM (show 0<d.blocks.length by omega)];rfl
 ·rw[g,a (by omega)];rfl
 ·rw[a (by omega)]
  have:(d.kind != 0)=true:=by
   generalize d.kind=k at m ⊢;generalize i.toList=l at m
   (rcases m with ⟨rfl,rfl⟩ | ⟨rfl,rfl⟩ | ⟨rfl,rfl⟩ | ⟨rfl,rfl⟩ | ⟨rfl,rfl⟩ | ⟨rfl,rfl⟩ | ⟨rfl,rfl⟩) <;> rfl
  rw[this];rfl
theorem Lm(h:y6=⟨[],[],[],[],[],[],[],[],0,⟨#[]⟩,[],false,[]⟩):oj [] y6:=by
 subst h;refine⟨⟨rfl,fun x=>rfl,⟨rfl,rfl,fun i a=>(by simp at a)⟩,⟨rfl,rfl,fun i a=>(by simp at a)⟩⟩,tF.none rfl rfl rfl rfl rfl,fun j b=>(by simp at b),rfl,⟨np.nil,(fun n s h=>by cases h),rfl⟩,⟨(fun n s h=>by cases h),(fun n m s u h=>by cases h),fun h=>by cases h⟩⟩
end
section
variable (rec:Nat->List Bool->List Tk->List Tk×List Bool) (fs:Fs)
theorem GF(h:((x.rule==0)&&(x.s.toList == []))=true):cv rec fs (x :: D) z5 y=((if dg y=true then y else y++[qO x 7]),z5):=by
 rw[cv.eq_def];exact QW h
theorem wR(h:((x.rule==0)&&(x.s.toList == []))=false)(a:(x.s.toList == [36,91])=false):cv rec fs (x :: D) z5 y=cv rec fs D z5 (y++[x]):=by
 rw[cv.eq_def];simp only;rw[QT (by rw[h];simp),QW a]
theorem Mb(h:((x.rule==0)&&(x.s.toList == []))=false)(b:(x.s.toList == [36,91])=true)(a:dg y=false):cv rec fs (x :: D) z5 y=(y++[qO x 4],z5):=by
 rw[cv.eq_def];simp only;rw[QT (by rw[h];simp),QT (by rw[b];simp),QW a]
theorem GG(h:((zt.rule==0)&&(zt.s.toList == []))=false)(b:(zt.s.toList == [36,91])=true)(a:dg y=true):cv rec fs [zt,x] z5 y=(y++[qO x (dm fs x.s x.rule)],z5):=by
 rw[cv.eq_def];simp only;rw[QT (by rw[h];simp),QT (by rw[b];simp),QT (by rw[a];simp)]
theorem GH(b:List Bool)(a:List Tk)(h:((zt.rule==0)&&(zt.s.toList == []))=false)(d:(zt.s.toList == [36,91])=true)(c:dg a=true):cv rec fs (zt :: x :: L :: y) b a =
  if(dm fs x.s x.rule==0)=false then(a++[qO x (dm fs x.s x.rule)],b)
  else if(dI L.s L.rule==0)=false then(a++[qO L (dI L.s L.rule)],b)
  else if b.getD (bF fs x.s).toNat true=true then cv rec fs y b a
  else if eu (rec (bF fs x.s).toNat b a).1=true then rec (bF fs x.s).toNat b a
  else cv rec fs y (rec (bF fs x.s).toNat b a).2 (rec (bF fs x.s).toNat b a).1:=by
 rw[cv.eq_def];simp only;rw[QT (by rw[h];simp),QT (by rw[d];simp),QT (by rw[c];simp)]
theorem Au(f:∀j d c,∃V,(rec j d c).1=c++V)(n:Nat):∀L,L.length<=n->∀d c,∃V,(cv rec fs L d c).1=c++V:=by
 induction n with
 | zero =>
  intro L e d c;have:L=[]:=Rk (by omega);subst this;exact⟨[],by rw[cv.eq_def];simp⟩
 | succ n m =>
  intro L e d c
  cases L with
  | nil=>exact⟨[],by rw[cv.eq_def];simp⟩
  | cons t r =>
   simp only[List.length_cons]at e
   cases h:((t.rule==0)&&(t.s.toList == []))
   ·cases g:(t.s.toList == [36,91])
    ·rw[wR rec fs t r d c h g]
     obtain⟨V,k⟩:=m r (by omega) d (c++[t]);exact⟨t :: V,by rw[k];simp⟩
    ·cases i:dg c
     ·rw[Mb rec fs t r d c h g i];exact⟨_,rfl⟩
     ·match r,e with
      | [],_ =>
       refine⟨[],?_⟩;rw[cv.eq_def];simp only;rw[QT (by rw[h];simp),QT (by rw[g];simp),QT (by rw[i];simp)];simp
      | [a],_=>rw[GG rec fs t a d c h g i];exact⟨_,rfl⟩
      | a :: b :: r',e =>
       simp only[List.length_cons]at e;rw[GH rec fs t a b r' d c h g i]
       split
       ·exact⟨_,rfl⟩
       ·split
        ·exact⟨_,rfl⟩
        ·split
         ·exact m r' (by omega) d c
         ·obtain⟨V,k⟩:=f (bF fs a.s).toNat d c
          split
          ·exact⟨V,k⟩
          ·obtain⟨o,l⟩:=m r' (by omega) (rec (bF fs a.s).toNat d c).2 (rec (bF fs a.s).toNat d c).1
           exact⟨V++o,by rw[l,k];simp⟩
   ·rw[GF rec fs t r d c h]
    simp only
    split
    ·exact⟨[],by simp⟩
    ·exact⟨_,rfl⟩
end
theorem ud(n:Nat):∀j b a,∃V,(dQ w n j b a).1=a++V:=by
 induction n with
 | zero=>intro j b a;exact⟨[],by simp[dQ]⟩
 | succ n c=>intro j b a;rw[dQ];exact Au (dQ w n) w c _ _ (QR _) _ _
def GV(L:List Tk):Prop:=∀t∈L,t.rule=0
def MW(t:Tk):Pl:=⟨t.file,t.line,t.col⟩
structure OJ(fs:Fs)(bg sn:List Bool):Prop where
 b:bg.length=4
 s:sn.length=fs.length
 e:∀j,j<fs.length->bg.getD j true=sn.getD j true
theorem OJ.set{a c:List Bool}(h:OJ z6 a c)(f:z6.length<=4)(k:Nat)(g:k<z6.length):OJ z6 (a.set k true) (c.set k true):=by
 refine⟨by rw[Rv];exact h.b,by rw[Rv];exact h.s,fun j d=>?_⟩;have:=h.b;have:=h.s;rw[QQ,QQ,RU,RU]
 by_cases e:k=j
 ·rw[QW e,QW e,QW (by omega),QW (by omega)]
 ·rw[QT e,QT e]
  have:=h.e j d;rw[QQ,QQ]at this;exact this
def qC(fs:Fs)(N:Nat)(res:FP)(R:List Tk×List Bool):Prop :=
 (res.1=cY/\oj R.1 res.2.2/\GV R.1/\OJ fs res.2.1 R.2/\R.1.length+1025*aQ R.2<=N) ∨
 (∃(W:List Tk) (u:Tk) (d:Db),R.1=W++[u]/\(u.rule==0)=false/\oj W d/\GV W/\res.1=(u.rule,MW u)) ∨
 ∃(W:List Tk) (t:Tk) (V:List Tk) (d:Db) (r:Int),R.1=W++t :: V/\t.rule=0/\oj W d/\W.length+1<=N/\bh (W++[t]) (aj (W++[t])) W.length=r/\(r==0)=false/\res.1=(r,MW t)
theorem qC.good(d:zb.1=cY)(e:oj z4.1 zb.2.2)(c:GV z4.1)(f:OJ z6 zb.2.1 z4.2)(a:z4.1.length+1025*aQ z4.2<=b):qC z6 b zb z4:=Q1 ⟨d,e,c,f,a⟩
theorem qC.ends(d:z4.1=D++[L])(e:(L.rule==0)=false)(c:oj D y5)(f:GV D)(a:zb.1=(L.rule,MW L)):qC z6 b zb z4:=QV (Q1 ⟨D,L,y5,d,e,c,f,a⟩)
theorem qC.rule(f:z4.1=D++L :: y)(g:L.rule=0)(e:oj D y5)(h:D.length+1<=b)(d:bh (D++[L]) (aj (D++[L])) D.length=i)(a:(i==0)=false)(c:zb.1=(i,MW L)):qC z6 b zb z4:=QV (QV ⟨D,L,y,y5,i,f,g,e,h,d,a,c⟩)
theorem ye(h:GV y0):eu y0=false:=by
 unfold eu
 cases e:y0.getLast? with
 | none=>rfl
 | some t =>
  have:=h t (List.mem_of_getLast? e);simp[this]
theorem t9(k:Nat)(a:k<=T.size):(aI (ay T k).1=true->((ay T k).1.text.toList == [])=false/\(ay T k).1.rule=0)/\(aI (ay T k).1=false->(ay T k).1.text=⟨#[]⟩/\((ay T k).1.fin=true->(ay T k).1.rule=0)):=by
 have e:∀f k,k<=T.size->aI (bX T f k).1=false->(bX T f k).1.text=⟨#[]⟩/\((bX T f k).1.fin=true->(bX T f k).1.rule=0):=by
  intro f
  induction f with
  | zero=>intro k _ _;exact⟨rfl,fun h=>by cases h⟩
  | succ f d =>
   intro k a h;have c:=gq T k a;rw[bX]at h ⊢
   split
   ·next g =>
    rw[QW g]at h
    split
    ·exact⟨rfl,fun h=>by cases h⟩
    ·next b =>
     rw[QT b]at h;exact d _ c.2.1 h
   ·next g =>
    rw[QT g]at h
    split
    ·exact⟨rfl,fun h=>by cases h⟩
    ·next b =>
     rw[QT b]at h;exact(tu T k a).2 h
 unfold ay
 suffices hs:∀f k,k<=T.size->(aI (dH T f k).1=true->((dH T f k).1.text.toList == [])=false/\(dH T f k).1.rule=0)/\(aI (dH T f k).1=false->(dH T f k).1.text=⟨#[]⟩/\((dH T f k).1.fin=true->(dH T f k).1.rule=0)) from hs _ _ a
 clear a k;intro f
 induction f with
 | zero=>intro k a;exact⟨fun h=>by simp[dH,aI]at h,fun _=>⟨rfl,fun _=>rfl⟩⟩
 | succ f d =>
  intro k a;have c:=gq T k a;have i:=i9 T (bC T k).2 c.2.1;rw[dH]
  split
  ·split
   ·exact d _ i.2
   ·next b =>
    refine⟨fun h=>absurd h b,fun h=>?_⟩;exact e _ _ c.2.1 h
  ·exact tu T k a
theorem IS(h:(i==0)=false):dm w T i=i:=by unfold dm;exact QW h
theorem IT(h:i=0)(a:T=⟨#[]⟩):dm w T i=7:=by
 subst h a;unfold dm;rw[QT (by simp),QW oI]
theorem EF(h:i=0)(a:(T.toList == [])=false):dm w T i=if dA T=true then 5 else if bF w T<0 then 6 else 0:=by
 subst h;unfold dm;rw[QT (by simp),QT (by rw[a];simp),ia]
theorem DN(h:(i==0)=false):dI T i=i:=by unfold dI;exact QW h
theorem DO(h:i=0)(a:T=⟨#[]⟩):dI T i=7:=by
 subst h a;unfold dI;rw[QT (by simp),QW oI]
theorem Bm(h:i=0)(a:(T.toList == [])=false):dI T i=if(T.toList == [36,93])=false then 5 else 0:=by
 subst h;unfold dI;rw[QT (by simp),QT (by rw[a];simp)]
theorem Me(az:w.length<=4)(a0:∀j,j<w.length->(ak w j).size<=1024)(f:Nat):∀n x k c y d b N,x<w.length->k<=(ak w x).size->OJ w c y->aQ y<=n ->
  ((ak w x).size-k+1)+1025*aQ y<=f->oj b d->GV b->b.length+((ak w x).size-k+1)+1025*aQ y<=N->N<=100000 ->
  qC w N (bq w f x k c d) (cv (dQ w n) w (lZ (aE w x) (ak w x) k) y b):=by
 induction f with
 | zero=>intro n x k c y d b N _ _ _ _ h;omega
 | succ f ih =>
  intro n x k c y d b N hx hk hS hn hf J hA hN T;have hl:=fG (ak w x) k hk;obtain⟨t1,t2⟩:=t9 (ak w x) k hk;have C:=J.open
  cases D:aI (ay (ak w x) k).1
  ·-- the file ends,or a word's stead is taken
   obtain⟨x1,x2⟩:=t2 D;rw[j5 _ _ k D]
   cases G:(ay (ak w x) k).1.fin
   ·have hr:((ay (ak w x) k).1.rule==0)=false:=km D G
    have R:((lH (aE w x) (ak w x) (ay (ak w x) k).1).rule==0&&((lH (aE w x) (ak w x) (ay (ak w x) k).1).s.toList == []))=false:=by simp only[lH];rw[hr];rfl
    have e2:((lH (aE w x) (ak w x) (ay (ak w x) k).1).s.toList == [36,91])=false:=by simp only[lH];rw[x1];decide +kernel
    rw[wR _ _ _ _ _ _ R e2,wk w f x k c d D (by rw[G];simp)];refine qC.ends b _ d (by rw[cv.eq_def]) hr J hA ?_;simp[iK,G,lH,MW,kK]
   ·have R:((lH (aE w x) (ak w x) (ay (ak w x) k).1).rule==0&&((lH (aE w x) (ak w x) (ay (ak w x) k).1).s.toList == []))=true:=by simp only[lH];rw[x1,x2 G,oI];rfl
    rw[GF _ _ _ _ _ _ R]
    cases P:dg b
    ·rw[P]at C
     rw[wk w f x k c d D (by rw[C];simp)];refine qC.ends b (qO (lH (aE w x) (ak w x) (ay (ak w x) k).1) 7) d (by simp) rfl J hA ?_;simp[iK,G,lH,MW,kK,qO]
    ·rw[P]at C
     rw[zW w f x k c d D G C];exact qC.good rfl (by simp only[if_true];exact J) (by simp only[if_true];exact hA) hS (by simp only[if_true];omega)
  ·have ap:=hl.2.2 D
   obtain⟨x1,x2⟩:=t1 D;rw[j6 _ _ k hk D];have R:((lH (aE w x) (ak w x) (ay (ak w x) k).1).rule==0&&((lH (aE w x) (ak w x) (ay (ak w x) k).1).s.toList == []))=false:=by simp only[lH];rw[x1];simp
   cases hi:((ay (ak w x) k).1.text.toList == [36,91])
   ·-- a word is taken
    rw[wR _ _ _ _ _ _ R (by exact hi)]
    have O:fZ w f x k c d=((if((aX d (ay (ak w x) k).1.text (kK (aE w x) (ak w x) (ay (ak w x) k).1.pos)).1==0)=true then cY else((aX d (ay (ak w x) k).1.text (kK (aE w x) (ak w x) (ay (ak w x) k).1.pos)).1,kK (aE w x) (ak w x) (ay (ak w x) k).1.pos),c,(aX d (ay (ak w x) k).1.text (kK (aE w x) (ak w x) (ay (ak w x) k).1.pos)).2),(ay (ak w x) k).2):=by
     unfold fZ jN;rw[hi];simp
    obtain⟨g1,g2⟩:=J.step (t:=lH (aE w x) (ak w x) (ay (ak w x) k).1) (by omega) x1 (kK (aE w x) (ak w x) (ay (ak w x) k).1.pos);have e3:(lH (aE w x) (ak w x) (ay (ak w x) k).1).s=(ay (ak w x) k).1.text:=rfl;rw[e3]at g1 g2
    cases h2:((aX d (ay (ak w x) k).1.text (kK (aE w x) (ak w x) (ay (ak w x) k).1.pos)).1==0)
    ·rw[ox w f x k c d D (by rw[O,h2];simpa using h2),O,h2]
     obtain⟨V,hV⟩:=Au (dQ w n) w (ud w n) _ _ (QR _) y (b++[lH (aE w x) (ak w x) (ay (ak w x) k).1]);exact qC.rule b (lH (aE w x) (ak w x) (ay (ak w x) k).1) V d _ (by rw[hV];simp) x2 J (by omega) g1 h2 (by simp[lH,MW,kK])
    ·rw[yD w f x k c d D (by rw[O,h2];rfl),O]
     refine ih n x _ c y _ _ N hx hl.2.1 hS hn (by omega) (g2 (by simpa using h2)) ?_ (by simp;omega) T;intro u hu
     rcases Rr.1 hu with hu | hu
     ·exact hA u hu
     ·rw[Q9.1 hu];exact x2
   ·-- an inclusion
    have O:fZ w f x k c d=mX (cn w f) w x (ay (ak w x) k).2 (kK (aE w x) (ak w x) (ay (ak w x) k).1.pos) c d:=by
     unfold fZ jN;rw[hi,QW rfl]
    have p:∀(W:List Tk) (u:Tk) (fl:pA),rx w x (ay (ak w x) k).2 (kK (aE w x) (ak w x) (ay (ak w x) k).1.pos) d=.inl fl->fl=(u.rule,MW u)->(u.rule==0)=false->qC w N (bq w (f+1) x k c d) (b++[u],y):=fun W u fl ac e h0=>by
     have e2:mX (cn w f) w x (ay (ak w x) k).2 (kK (aE w x) (ak w x) (ay (ak w x) k).1.pos) c d=((fl,c,d),(ay (ak w x) k).2):=by
      unfold mX;rw[ac]
     rw[ox w f x k c d D (by rw[O,e2,e];exact h0),O,e2];exact qC.ends b u d rfl h0 J hA e
    cases P:dg b
    ·rw[P]at C
     rw[Mb _ _ _ _ _ _ R (by exact hi) P];exact p b (qO (lH (aE w x) (ak w x) (ay (ak w x) k).1) 4) _ (by unfold rx;rw[QW (by rw[C];rfl)];rfl) rfl rfl
    ·rw[P]at C
     have v:¬kp d=true:=by rw[C];simp
     obtain⟨z,hz⟩:∃z,z=(ay (ak w x) k).2:=⟨_,rfl⟩
     rw[<-hz]at hl ap O p ⊢;have ha:=fG (ak w x) z hl.2.1;obtain⟨a1,a2⟩:=t9 (ak w x) z hl.2.1
     cases g:aI (ay (ak w x) z).1
     ·obtain⟨y1,y2⟩:=a2 g
      rw[j5 _ _ z g,GG _ _ _ _ _ _ R (by exact hi) P]
      have L:dm w (lH (aE w x) (ak w x) (ay (ak w x) z).1).s (lH (aE w x) (ak w x) (ay (ak w x) z).1).rule=if(ay (ak w x) z).1.fin=true then 7 else(ay (ak w x) z).1.rule:=by
       cases B:(ay (ak w x) z).1.fin
       ·exact IS w _ _ (km g B)
       ·exact IT w _ _ (y2 B) y1
      refine p b _ _ (by unfold rx;rw[QT v,QW g]) (by simp only[iK,qO,MW];rw[L];rfl) ?_;simp only[qO];rw[L]
      cases B:(ay (ak w x) z).1.fin
      ·exact km g B
      ·rfl
     ·have ax:=ha.2.2 g
      obtain⟨y1,y2⟩:=a1 g;obtain⟨o,I⟩:∃o,o=(ay (ak w x) z).2:=⟨_,rfl⟩
      rw[j6 _ _ z hl.2.1 g,<-I];rw[<-I]at ha ax;have U:=fG (ak w x) o ha.2.1;obtain⟨b1,b2⟩:=t9 (ak w x) o ha.2.1
      obtain⟨tl,Y⟩:∃tl,lZ (aE w x) (ak w x) o=lH (aE w x) (ak w x) (ay (ak w x) o).1 :: tl:=by
       cases i:aI (ay (ak w x) o).1
       ·exact⟨[],j5 _ _ o i⟩
       ·exact⟨_,j6 _ _ o ha.2.1 i⟩
      rw[Y,GH _ _ _ _ _ _ _ _ R (by exact hi) P]
      have L:dm w (lH (aE w x) (ak w x) (ay (ak w x) z).1).s (lH (aE w x) (ak w x) (ay (ak w x) z).1).rule=if dA (ay (ak w x) z).1.text=true then 5 else if bF w (ay (ak w x) z).1.text<0 then 6 else 0:=by
       exact EF w _ _ y2 y1
      rw[L];have ar:(lH (aE w x) (ak w x) (ay (ak w x) z).1).s=(ay (ak w x) z).1.text:=rfl;rw[ar]
      cases H:dA (ay (ak w x) z).1.text
      ·by_cases E:bF w (ay (ak w x) z).1.text<0
       ·simp only[Bool.false_eq_true,if_false,if_pos E]
        rw[QW (show((6:Int)==0)=false from rfl)];exact p b _ _ (by unfold rx;rw[QT v,QT (by rw[g];simp),QT (by rw[H];simp),QW E];rfl) rfl rfl
       ·simp only[Bool.false_eq_true,if_false,if_neg E]
        rw[QT (show ¬((0:Int)==0)=false by decide)]
        have ao:dI (lH (aE w x) (ak w x) (ay (ak w x) o).1).s (lH (aE w x) (ak w x) (ay (ak w x) o).1).rule=if aI (ay (ak w x) o).1=false then(if(ay (ak w x) o).1.fin=true then 7 else(ay (ak w x) o).1.rule) else if((ay (ak w x) o).1.text.toList == [36,93])=false then 5 else 0:=by
         cases i:aI (ay (ak w x) o).1
         ·obtain⟨y3,y4⟩:=b2 i
          rw[QW rfl]
          cases B:(ay (ak w x) o).1.fin
          ·exact DN _ _ (km i B)
          ·exact DO _ _ (y4 B) y3
         ·obtain⟨y3,y4⟩:=b1 i
          rw[QT (by simp)];exact Bm _ _ y4 y3
        rw[ao]
        cases i:aI (ay (ak w x) o).1
        ·rw[QW rfl]
         have af:((if(ay (ak w x) o).1.fin=true then 7 else(ay (ak w x) o).1.rule)==0)=false:=by
          cases B:(ay (ak w x) o).1.fin
          ·exact km i B
          ·rfl
         rw[QW af];exact p b _ _ (by unfold rx;rw[QT v,QT (by rw[g];simp),QT (by rw[H];simp),QT E,<-I,QW i];rfl) rfl af
        ·simp only[Bool.true_eq_false,if_false]
         cases ad:((ay (ak w x) o).1.text.toList == [36,93])
         ·rw[QW rfl,QW (show((5:Int)==0)=false from rfl)]
          exact p b _ _ (by unfold rx;rw[QT v,QT (by rw[g];simp),QT (by rw[H];simp),QT E,<-I,QT (by rw[i];simp),QW ad];rfl) rfl rfl
         ·simp only[Bool.true_eq_false,if_false]
          rw[QT (show ¬((0:Int)==0)=false by decide)]
          -- the file is named
          have a4:=U.2.2 i
          have aT:tl=lZ (aE w x) (ak w x) (ay (ak w x) o).2:=by
           rw[j6 _ _ o ha.2.1 i]at Y;exact(List.cons.inj Y).2.symm
          rw[aT];obtain⟨j,hj⟩:∃j,j=(bF w (ay (ak w x) z).1.text).toNat:=⟨_,rfl⟩
          have M:j<w.length:=by
           rcases pI (ay (ak w x) z).1.text w with h | ⟨q,hq,h⟩
           ·rw[h]at E;omega
           ·rw[hj,h,Sa];exact hq
          rw[<-hj]
          have l:fZ w f x k c d=(cn w f j c d,(ay (ak w x) o).2):=by
           rw[O];unfold mX rx;rw[QT v,QT (by rw[g];simp),QT (by rw[H];simp),QT E,<-I,QT (by rw[i];simp),QT (by rw[ad];simp),<-hj]
          have F:=hS.e j M
          cases K:c.getD j true
          ·rw[K]at F
           have al:y[j]?=some false:=by
            have:=hS.s;rw[QP (by omega)];rw[QQ,QP (by omega)]at F;exact congrArg some F.symm
           have a6:=lC y j al;rw[QT (by rw[<-F];simp)];have A:cn w f j c d=bq w f j 0 (c.set j true) d:=by unfold cn;rw[K,QT (by simp)]
           obtain⟨m,hm⟩:∃m,n=m+1:=⟨n-1,by omega⟩
           have er:dQ w n j y b=cv (dQ w m) w (lZ (aE w j) (ak w j) 0) (y.set j true) b:=by rw[hm,dQ,zn]
           have a3:=a0 j M;have R1:=ih m j 0 (c.set j true) (y.set j true) d b (b.length+1025*aQ y) M (Ro _) (hS.set az j M) (by omega) (by omega) J hA (by omega) (by omega);rw[<-er,<-A]at R1;have ai:=ud w n j y b;generalize dQ w n j y b=X at *
           rcases R1 with ⟨S,Q,r3,r4,Z⟩ | ⟨W,u,d0,S,Q,r3,r4,Z⟩ | ⟨W,t,V,d0,r,S,Q,r3,r4,Z,r6,r7⟩
           ·rw[ye r3,QT (by simp),yD w f x k c d D (by rw[l,S];rfl),l]
            have a5:aQ X.2<=aQ y:=by
             obtain⟨V,hV⟩:=ai;rw[hV,Q0]at Z;omega
            exact ih n x _ _ X.2 _ X.1 N hx U.2.1 r4 (by omega) (by simp only;omega) Q r3 (by simp only;omega) T
           ·have ag:eu X.1=true:=by unfold eu;rw[S,Tc];simp only;rw[Q];rfl
            rw[ag,QW rfl,ox w f x k c d D (by rw[l,Z];exact Q),l];exact qC.ends W u d0 S Q r3 r4 Z
           ·rw[ox w f x k c d D (by rw[l,r7];exact r6),l]
            cases ag:eu X.1
            ·rw[QT (by simp)]
             obtain⟨V2,aS⟩:=Au (dQ w n) w (ud w n) _ (lZ (aE w x) (ak w x) (ay (ak w x) o).2) (QR _) X.2 X.1;exact qC.rule W t (V++V2) d0 r (by rw[aS,S];simp) Q r3 (by omega) Z r6 r7
            ·rw[QW rfl]
             exact qC.rule W t V d0 r S Q r3 (by omega) Z r6 r7
          ·rw[K]at F
           have A:cn w f j c d=(cY,c,d):=by unfold cn;rw[K,QW rfl]
           rw[QW F.symm,yD w f x k c d D (by rw[l,A];rfl),l,A];exact ih n x _ c y d b N hx U.2.1 hS hn (by omega) J hA (by omega) T
      ·simp only[if_true]
       rw[QW (show((5:Int)==0)=false from rfl)];exact p b _ _ (by unfold rx;rw[QT v,QT (by rw[g];simp),QW H];rfl) rfl rfl
def Lj(t:Tk):pA:=(t.rule,MW t)
def fE(fs:Fs)(k:Nat):pA :=
 if((yp (cC fs k).1 (aj (cC fs k).1)).rule==0)=false then Lj (yp (cC fs k).1 (aj (cC fs k).1)) else Lj (cC fs k).2
theorem Gi(h:oj y0 y6):yp y0 (aj y0)=jf:=Oq h.u
theorem v7(n:w.length<=4)(p:∀j,j<w.length->(ak w j).size<=1024)(k:f<w.length) :
  (bK w f).1=fE w f/\(((bK w f).1.1==0)=true->oj (cC w f).1 (bK w f).2.2/\(cC w f).1.length<=10000):=by
 have o:OJ w F3 (List.replicate w.length false):=⟨rfl,by simp,fun j l=>by
  rw[QQ,QQ,Sf,QW l]
  match j,(show j<4 by omega) with
  | 0,_=>rfl
  | 1,_=>rfl
  | 2,_=>rfl
  | 3,_=>rfl⟩
 have q:(List.replicate w.length false)[f]?=some false:=by rw[Sf,QW k]
 have B:=lC _ f q;rw[mP]at B;have D:=p f k
 have I:bK w f=bq w 5000 f 0 (F3.set f true) fm:=by
  unfold bK cn;rw[o.e f k,QQ,q];rfl
 have G:dQ w w.length f (List.replicate w.length false) []=cv (dQ w (w.length-1)) w (lZ (aE w f) (ak w f) 0) ((List.replicate w.length false).set f true) []:=by
  obtain⟨m,J⟩:∃m,w.length=m+1:=⟨w.length-1,by omega⟩
  have:w.length-1=m:=by omega
  rw[this]
  conv=>lhs;rw[show dQ w w.length=dQ w (m+1) by rw[J]]
  rw[dQ,zn]
 have F:=Me w n p 5000 (w.length-1) f 0 (F3.set f true) ((List.replicate w.length false).set f true) fm [] 5000 k (Ro _) (o.set n f k) (by omega) (by omega) (Lm rfl) (fun t H=>by cases H) (by simp only[List.length_nil];omega) (by omega);rw[<-I,<-G]at F;have x:(dQ w w.length f (List.replicate w.length false) []).1=pt w f:=rfl;generalize dQ w w.length f (List.replicate w.length false) []=N at *;unfold fE cC
 rcases F with ⟨b,d,g,E,i⟩ | ⟨W,u,L,b,d,g,E,i⟩ | ⟨W,t,V,L,r,b,d,g,E,i,s,C⟩
 ·rw[x]at d g i
  simp only[ye g,Bool.false_eq_true,if_false];rw[Gi d,QT (by decide)];exact⟨b,fun _=>⟨d,by omega⟩⟩
 ·rw[x]at b
  have a:eu (pt w f)=true:=by unfold eu;rw[b,Tc];simp only;rw[d];rfl
  rw[a,QW rfl,b,List.dropLast_concat,Tc];simp only[Option.getD_some];rw[Gi g,QT (by decide)];exact⟨i,fun h=>by rw[i]at h;simp only at h;rw[d]at h;cases h⟩
 ·rw[x]at b
  obtain⟨c,z⟩:∃c,(if eu (pt w f)=true then((pt w f).dropLast,(pt w f).getLast?.getD jf) else(pt w f,jf)).1=(W++[t])++c:=by
   cases a:eu (pt w f)
   ·rw[QT (by simp)]
    exact⟨V,by simp only;rw[b];simp⟩
   ·rw[QW rfl]
    cases V with
    | nil =>
     unfold eu at a;rw[b,Tc]at a;simp only[d]at a
     cases a
    | cons v V=>exact⟨(v :: V).dropLast,by simp only;rw[b,List.dropLast_append_of_ne_nil (by simp),List.dropLast_cons_of_ne_nil (by simp)];simp⟩
  rw[z];have K:=rm W (t :: c) (by omega) g.u;have A:=vP (W++[t]) c (by simp;omega) W.length (by simp) (fun j l=>rm W [t] (by omega) g.u j l);rw[i]at A
  have y:=Lc (T:=(W++[t])++c) (S:=aj ((W++[t])++c)) (k:=W.length) (by simp) (by rw[A];exact s) (fun j l=>by
   have:=K j l;rw[show W++t :: c=(W++[t])++c by simp]at this;exact this)
  have M:((W++[t])++c).getD W.length jf=t:=by
   rw[QQ,Sy,Q5 (QR _),RY];simp
  rw[y,A,M];simp only;rw[QW s];exact⟨C,fun h=>by rw[C]at h;simp only at h;rw[s]at h;cases h⟩
def xX(R:List St)(a:Nat)(vs:List ByteArray)(k i j:Nat):Bool:=(List.range k).any (fun n=>sA R a n&&(bD vs (symsAt R n)).contains i&&(bD vs (symsAt R n)).contains j)
theorem Cr(a:List Nat)(b:List Bool)(q:Nat)(c:q<b.length):(kI g f a b).getD q false=(b.getD q false||a.any (fun d=>f*g+d==q)):=by
 unfold kI
 induction a generalizing b with
 | nil=>simp
 | cons m a i =>
  simp only[List.foldl_cons,List.any_cons];rw[i (b.set (f*g+m) true) (by simpa using c)]
  by_cases e:f*g+m=q
  ·subst e
   rw[QQ,Ug c];simp
  ·have h:(f*g+m==q)=false:=by rw[Rh];exact e
   rw[QQ,Us e,<-QQ,h,Sp]
theorem Cq(a r:List Nat)(b:List Bool)(q:Nat)(d:q<b.length):(r.foldl (fun b c=>kI f c a b) b).getD q false=(b.getD q false||r.any (fun c=>a.any (fun e=>c*f+e==q))):=by
 induction r generalizing b with
 | nil=>simp
 | cons m r g =>
  simp only[List.foldl_cons,List.any_cons];rw[g (kI f m a b) (by rw[pO];exact d),Cr f m a b q d,TF]
theorem CA{a c:Nat}(e:c<b)(d:z7<b)(h:a*b+c=n*b+z7):a=n/\c=z7:=by
 have f:(a*b+c) / b=a:=by rw[Nat.mul_comm,Nat.mul_add_div (by omega)];rw[Nat.div_eq_of_lt e];omega
 have g:(n*b+z7) / b=n:=by rw[Nat.mul_comm,Nat.mul_add_div (by omega)];rw[Nat.div_eq_of_lt d];omega
 rw[h]at f;have:a=n:=by omega
 subst this;exact⟨rfl,by omega⟩
theorem IP(k i j:Nat)(o:i<d.length)(f:j<d.length):(de I z0 d k).getD (i*d.length+j) false=xX I z0 d k i j:=by
 have e:i*d.length+j<d.length*d.length:=zj o f
 induction k with
 | zero =>
  unfold xX;rw[de,QQ,Sf,QW e];rfl
 | succ k h =>
  have l:xX I z0 d (k+1) i j=(xX I z0 d k i j||(sA I z0 k&&(bD d (symsAt I k)).contains i&&(bD d (symsAt I k)).contains j)):=by
   unfold xX;rw[R6,UW];simp
  rw[l,de]
  cases r:sA I z0 k
  ·simp only[Bool.false_eq_true,if_false,Bool.false_and,Bool.or_false]
   exact h
  ·simp only[if_true,Bool.true_and]
   unfold lS;rw[Cq _ _ _ _ _ (by rw[ko];exact e),h]
   congr 1
   rw[SA];simp only[List.any_eq_true,Bool.and_eq_true,List.contains_iff_mem,beq_iff_eq]
   constructor
   ·rintro ⟨q,c,p,b,n⟩
    obtain⟨m,g⟩:=R0 b;have a:=s9 d (symsAt I k) m g.1;rw[g.2]at a;obtain⟨rfl,rfl⟩:=CA a f n;exact⟨c,b⟩
   ·rintro ⟨c,b⟩
    exact⟨i,c,j,b,rfl⟩
theorem G0(a:g<d.length)(b:f<d.length):eD d.length (fN I z0 d) g f=(!(g==f)&&xX I z0 d I.length g f):=by
 unfold eD fN;rw[IP I z0 d I.length g f a b]
theorem wh{α:Type}(l:List Nat)(f g:Nat->List α)(h:∀x∈l,f x=g x):l.flatMap f=l.flatMap g:=by
 induction l with
 | nil=>rfl
 | cons a l b=>rw[RI,RI,h a (by simp),b (fun x c=>h x (Rm _ c))]
def nS(l N:List St)(a:Nat):List ByteArray:=((List.range N.length).filter (fun j=>zQ (l++N) a (l.length+j))).flatMap (symsAt N)
def Qw(vs:List ByteArray)(A:Nat->Nat->Bool):List Pr:=(List.range vs.length).flatMap (fun i=>((List.range vs.length).filter (fun j=>decide (i<j)&&A i j)).map (fun j=>(gD vs i,gD vs j)))
theorem Pp:At d (fN I z0 d)=Qw d (fun i j=>!(i==j)&&xX I z0 d I.length i j):=by
 unfold At te Qw mH;refine wh _ _ _ (fun i a=>?_);have a:=Ra.1 a
 congr 1
 exact Uj (fun j b=>by rw[G0 I z0 d i j a (Ra.1 b)])
section
variable {T:List Tk} {d:Db}
theorem kP.vars(R:kP T d)(F:PM T (aj T))(p:b<d.Vn.length):eW d.Vn (aK d.Vn b)=fO T (aj T) (bW T (aj T) (bR (aj T) b)) (bW T (aj T) (bR (aj T) b)).length:=by
 unfold fO;rw[RK,<-R.hyps F p];unfold eW
 have a:∀n∈aK d.Vn b,n<d.Vn.length:=fun n i=>by
  unfold aK dG at i;exact Ra.1 (RH.1 i).1
 generalize aK d.Vn b=L at a
 induction L with
 | nil=>rfl
 | cons n L f =>
  obtain⟨s,q,g,-,j⟩:=R.get (a n (by simp));have l:=R.hel.at_ (a n (by simp));rw[List.filterMap_cons,Tp,List.filter_cons];unfold mQ;rw[q];simp only;rw[(fS g).2.1]
  cases e:((au (aj T) (bR (aj T) n)).k.toList == [36,102])
  ·rw[QT (by simp),QT (by simp)]
   exact f (fun m c=>a m (by simp[c]))
  ·obtain⟨t,r⟩:=F _ l e
   have o:aL s=tS T ((au (aj T) (bR (aj T) n)).h+1):=by
    unfold aL;rw[QW ⟨by rw[(fS g).2.1];exact e,by rw[j];exact t⟩,j,r]
   rw[QW rfl,QW rfl,Tp,<-o]
   show aL s :: _=_
   congr 1
   exact f (fun m c=>a m (by simp[c]))
def Oo(vs:List ByteArray):Prop:=∀i j,i<j->j<vs.length->((vs.getD i ⟨#[]⟩).toList==(vs.getD j ⟨#[]⟩).toList)=false
theorem Oo.ne(h:Oo v){i j:Nat}(d:i<v.length)(b:j<v.length)(c:i≠j):((v.getD i ⟨#[]⟩).toList==(v.getD j ⟨#[]⟩).toList)=false:=by
 rcases Nat.lt_or_gt_of_ne c with a | a
 ·exact h i j a b
 ·have:=h j i a d
  rw[Rh]at this ⊢;exact fun e=>this e.symm
theorem LV(h:Oo v)(a:b<v.length)(x:ByteArray):pu v x=some b ↔ ((v.getD b ⟨#[]⟩).toList==x.toList)=true:=by
 unfold pu
 constructor
 ·intro e
  have:=Tm e;simpa using this
 ·intro e
  rw[Up];refine⟨e,b,by rw[Tf];exact a,by rw[Ub],fun j f=>?_⟩;rw[Ub];have:=h.ne (i:=j) (j:=b) (by omega) a (by omega);simp only[Bool.not_eq_true',beq_eq_false_iff_ne];rw[Rh]at this;intro c;have d:(v.getD b ⟨#[]⟩).toList=x.toList:=by simpa using e
  exact this (c.trans d.symm)
theorem vt(h:Oo v)(f:b<v.length)(d:List ByteArray):(bD v d).contains b=aJ d (v.getD b ⟨#[]⟩):=by
 unfold bD aJ;rw[SA,TG,UE,RC]
 constructor
 ·rintro ⟨x,c,e⟩
  have:=(LV h f x).1 e;refine⟨x,c,?_⟩;have a:(v.getD b ⟨#[]⟩).toList=x.toList:=by simpa using this
  rw[a];exact UQ _
 ·rintro ⟨x,c,e⟩
  refine⟨x,c,(LV h f x).2 ?_⟩;have a:x.toList=(v.getD b ⟨#[]⟩).toList:=by simpa using e
  rw[a];exact UQ _
theorem kP.tog(R:kP T d)(x:b<d.Vn.length)(h:Oo v)(z:n<v.length)(p:z7<v.length)(u:n<z7):xX d.Vn b v d.Vn.length n z7=hQ T (aj T) (v.getD n ⟨#[]⟩) (v.getD z7 ⟨#[]⟩) (bR (aj T) b):=by
 have A:=R.hel.len;have D:=R.hel.at_ x;have r:=h n z7 u p;unfold xX hQ;rw[SA,RC,RC]
 constructor
 ·rintro ⟨i,a,e⟩
  have a:=Ra.1 a;obtain⟨s,l,j,-,B⟩:=R.get a;simp only[Bool.and_eq_true]at e;obtain⟨⟨c,m⟩,o⟩:=e;rw[vt h z,R.symsAt a]at m;rw[vt h p,R.symsAt a]at o;unfold sA at c;rw[l]at c;simp only[Bool.and_eq_true]at c;have t:((au (aj T) (bR (aj T) i)).k.toList == [36,100])=true:=by rw[<-(fS j).2.2.1];exact c.1
  have g:qP s.kind=false:=by rw[(fS j).2.2.2,ci t,ci t];decide
  have w:=c.2;rw[R.held l g x,Rg]at w;refine⟨bR (aj T) i,Ra.2 (of_decide_eq_true w.1),?_⟩;unfold PC;rw[t,r,m,o,w.2];rfl
 ·rintro ⟨q,y,e⟩
  have y:=Ra.1 y;unfold PC at e;simp only[Bool.and_eq_true]at e;obtain⟨c,-,m,o,C⟩:=e;have f:q∈lV (aj T):=RH.2 ⟨Ra.2 (by omega),by unfold nu;rw[c];simp⟩;rw[wQ]at f;obtain⟨i,a,rfl⟩:=Si.1 f;have a:i<d.Vn.length:=by rw[A];exact Ra.1 a
  obtain⟨s,l,j,-,B⟩:=R.get a;have g:qP s.kind=false:=by rw[(fS j).2.2.2,ci c,ci c];decide
  refine⟨i,Ra.2 a,?_⟩;rw[vt h z,vt h p,R.symsAt a,m,o];unfold sA;rw[l];simp only;rw[(fS j).2.2.1,c,R.held l g x,C,SM y];rfl
theorem kP.pairs(R:kP T d)(F:PM T (aj T))(g:b<d.Vn.length)(f:Oo (eW d.Vn (aK d.Vn b))):gI d.Vn b=fH T (aj T) (bR (aj T) b):=by
 unfold gI fH;rw[Pp,<-R.vars F g];generalize eW d.Vn (aK d.Vn b)=a at f;unfold Qw lg jY
 apply wh
 intro i c;have c:=Ra.1 c
 have e:(List.range a.length).filter (fun j=>decide (i<j)&&(!(i==j)&&xX d.Vn b a d.Vn.length i j))=(List.range a.length).filter (fun j=>decide (i<j)&&hQ T (aj T) (a.getD i ⟨#[]⟩) (a.getD j ⟨#[]⟩) (bR (aj T) b)):=by
  apply dW
  intro j k
  by_cases h:i<j
  ·have:(i==j)=false:=Rh.2 (by omega)
   rw[R.tog g f c k h,this];simp
  ·rw[Sb h];rfl
 rw[e];rfl
def kn(T:List Tk)(S:List Sm)(j:Nat):ByteArray:=(bu T (au S j).h).foldl (fun s x=>s++⟨#[32]⟩++x) (bG T (au S j)++⟨#[32]⟩++(au S j).k)
def pL(T:List Tk)(S:List Sm)(a:Nat):List ByteArray:=(bW T S a).map (kn T S)++(fH T S a).map fh++[kn T S a]
theorem BK(L:List ByteArray):∀s:ByteArray,L.foldl (fun t x=>t++(⟨#[32]⟩++x)) s=L.foldl (fun s x=>s++⟨#[32]⟩++x) s:=by
 induction L with
 | nil=>intro s;rfl
 | cons x L a=>intro s;rw[TA,TA,a,ByteArray.append_assoc]
theorem Lz(h:eZ o.toList M)(a:M=2∨M=3∨M=4∨M=5):sN M=o:=by
 apply ym
 generalize o.toList=l at h
 rcases a with rfl | rfl | rfl | rfl <;> cases h <;> decide +kernel
theorem kP.line(R:kP T d)(g:b<d.Vn.length)(e:∀s,d.Vn[b]?=some s->s.kind=2∨s.kind=3∨s.kind=4∨s.kind=5):yN d.Vn b=kn T (aj T) (bR (aj T) b):=by
 obtain⟨s,a,f,c,h⟩:=R.get g;unfold yN kn;rw[a];simp only;unfold sR nz;rw[RK,h,c,Lz f (e s a),BK]
theorem kP.lines(R:kP T d)(F:PM T (aj T))(f:b<d.Vn.length)(j:Oo (eW d.Vn (aK d.Vn b)))(k:∀s,d.Vn[b]?=some s->qP s.kind=true):cW d.Vn b=pL T (aj T) (bR (aj T) b):=by
 unfold cW pL;rw[R.pairs F f j,<-R.hyps F f,List.map_map,R.line f (fun s g=>by have:=k s g;unfold qP at this;simp at this;omega)]
 congr 2
 apply Ux
 intro n h;unfold aK dG at h;have a:=RH.1 h;have e:=Ra.1 a.1;refine R.line e (fun s g=>?_);have c:=a.2;unfold l6 pN at c;rw[g]at c;simp only[Bool.and_eq_true]at c;have i:=c.2
 split at i
 ·next q=>left;simpa using q
 ·right;left;simpa using i
theorem xA.vsd(F:xA d):Oo (eW d.Vn (aK d.Vn b)):=by
 have A:(aK d.Vn b).Pairwise (fun n m=>n<m/\n∈aK d.Vn b/\m∈aK d.Vn b):=by
  have h:(aK d.Vn b).Pairwise (· < ·):=List.Pairwise.filter _ Ui;exact h.imp_of_mem (fun G H B=>⟨B,G,H⟩)
 have J:(eW d.Vn (aK d.Vn b)).Pairwise (fun x y=>(x.toList==y.toList)=false):=by
  unfold eW;refine List.Pairwise.filterMap _ (fun n m h x a y C=>?_) A;obtain⟨r,o,D⟩:=h
  have l:∀n x,n∈aK d.Vn b->mQ d.Vn n=some x->∃s,d.Vn[n]?=some s/\s.kind=2/\x=vr s/\g7 d.Vn n b=true:=fun n x o a=>by
   unfold mQ at a
   cases g:d.Vn[n]? with
   | none=>rw[g]at a;cases a
   | some s =>
    rw[g]at a;simp only at a
    split at a
    ·next k =>
     have v:s.kind=2:=by simpa using k
     have z:=F.fl n s g v;have e:aL s=vr s:=by unfold aL vr;rw[QW ⟨k,z⟩]
     refine⟨s,rfl,v,by rw[<-e];cases a;rfl,?_⟩;unfold aK dG at o;have:=(RH.1 o).2;unfold l6 at this;rw[g]at this;simp only[Bool.and_eq_true]at this;exact this.1
    ·cases a
  obtain⟨s,g,I,rfl,c⟩:=l n x o a;obtain⟨u,w,E,rfl,f⟩:=l m y D C;refine F.ds n m s u g w I E r ?_;unfold g7 at c f;rw[g]at c;rw[w]at f;simp only[Bool.and_eq_true,Bool.or_eq_true,decide_eq_true_eq]at c f
  rcases c.2 with q | q
  ·left;simpa using q
  ·right;have:=f.1;omega
 intro i j p t;have:=UJ.1 J i j (by omega) t p;rw[QQ,QQ,QP t,QP (by omega)];exact this
theorem kP.frame(R:kP T d)(F:xA d)(c:b<d.Vn.length)(a:∀s,d.Vn[b]?=some s->qP s.kind=true):cW d.Vn b=pL T (aj T) (bR (aj T) b) :=
 R.lines (R.flo F) c F.vsd a
end
end Go.Proofs.YtpddjjabfbfifaaGreat
