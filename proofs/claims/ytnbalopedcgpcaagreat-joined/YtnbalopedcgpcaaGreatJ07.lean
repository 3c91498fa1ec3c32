import Derived.Test.YtnbalopedcgpcaaGreatJ06
namespace Go.Proofs.YtnbalopedcgpcaaGreat
open Go.RowKit Tryz
open Value IntKind Ending
set_option linter.all false
set_option maxHeartbeats 0
variable{z2:Nat->Nat}{H y u q:Nat}{N:Vq}{z4 z6 zc:Vs}{z8:List St}{zn:Nat->Nat->Nat->Nat}(z1 z3:Nat)(z5:Hd)(T:Vs)(z:Nat)(x:Vs)(z0 F:Nat)(W:Nat->Nat->Nat->Nat)(U:Nat)(O:Nat->Nat->Nat)(R o:Nat)(V:Int)(zo:Vq)(z9:Nat->Nat)(I:Nat)(M:World)(t:Nat)(z7:Nat->Nat)
def sm(f:Nat->Nat):Nat->Nat
 | 0=>0
 | n+1=>sm f n+f n
theorem DK{g:Nat->Nat}{n:Nat}(h:∀k,k<n->z2 k=g k):sm z2 n=sm g n:=by induction n with|zero=>rfl|succ n a=>grind [sm]
theorem UX{f g:Nat->Nat}{n:Nat}(h:∀k,k<n->f k<=g k):sm f n<=sm g n:=by induction n with|zero=>exact Vw _|succ n a=>exact Zg (by grind) (h n (by omega))
theorem zeQ(n:Nat):sm (λk=>z9 k+z7 k) n=sm z9 n+sm z7 n:=by induction n with|zero=>rfl|succ n a=>grind [sm]
theorem UY(n:Nat):sm (λk=>t*z7 k) n=t*sm z7 n:=by induction n with|zero=>rfl|succ n a=>grind [sm]
theorem zcB:sm (λk=>z9 k*o) t=sm z9 t*o:=by rw[YQ,<-UY];grind
theorem FG{n:Nat}(h:∀k,k<n->z2 k=0):sm z2 n=0:=by induction n with|zero=>rfl|succ n a=>grind [sm]
theorem zcC(n m:Nat):sm (λi=>sm (λj=>O i j) m) n=sm (λj=>sm (λi=>O i j) n) m:=by induction n with|zero=>grind [FG]|succ n a=>show sm _ n+sm _ m=sm (λj=>sm (λi=>O i j) n+O n j) m;rw[a,zeQ]
theorem Bg{f:Nat->Nat}{n:Nat}(a:H<n):f H<=sm f n:=by induction n with|zero=>omega|succ n b=>grind [sm]
theorem zeR{n:Nat}(b:H<n)(c:y<n)(a:H≠y):z2 H+z2 y<=sm z2 n:=by induction n with|zero=>omega|succ n d=>grind [sm,Bg]
theorem UZ{n:Nat}(h:0<sm z2 n):∃k,k<n/\0<z2 k:=by induction n with|zero=>exact absurd h (by show ¬0<0;omega)|succ n a=>grind [sm]
theorem zdA{n:Nat}(a:H<n)(h:∀i,i<n->i≠H->z2 i=0):sm z2 n=z2 H:=by induction n with|zero=>omega|succ n b=>grind [sm,FG]
def cp(n:Nat):Nat:=if 2<n then 2 else n
theorem xB:cp t<=2:=by grind [cp]
theorem te(h:H<=2):cp H=H:=by grind [cp]
theorem za4(h:H<=y):cp H<=cp y:=by grind [cp]
theorem zdW:cp (I+t)=cp (cp I+cp t):=by grind [cp]
theorem M3:cp (I+t)=cp (cp I+t):=by grind [cp]
theorem M4:cp (I+t)=cp (I+cp t):=by grind [cp]
theorem zdX:cp (I*t)=cp (cp I*cp t):=by by_cases b:I<=2;{grind [te,cp]};{(have e:cp I=2:=by grind [cp]);rw[e];by_cases c:t<=2;{grind [te,cp]};{have a:cp t=2:=(by grind [cp]);rw[a];have:2*t<=I*t:=Ww t (by omega);grind [cp]}}
theorem zdh(n:Nat):cp (sm z7 n)=cp (sm (λk=>cp (z7 k)) n):=by induction n with|zero=>rfl|succ n a=>grind [cp,sm,zdW,M4]
theorem zdY:cp H=1 ↔ H=1:=by grind [cp]
theorem Kk:0<cp H ↔ 0<H:=by grind [cp]
section
variable {α:Type} (S:Nat) (f:α->Nat->Nat->Nat)
def wy:List α->Nat->Nat->Nat
 | [],i,j=>if i=j then 1 else 0
 | a :: r,i,j=>sm (λm=>f a i m*wy r m j) S
end
section
variable {α:Type} {S:Nat} {f g:α->Nat->Nat->Nat}
theorem zas(a b:List α)(i j:Nat)(c:i<S):wy S f (a++b) i j=sm (λm=>wy S f a i m*wy S f b m j) S:=by induction a generalizing i with|nil=>rw[WK,zdA c (λm _ g=>by show(if i=m then 1 else 0)*_=0;grind)];show _=(if i=i then 1 else 0)*_;simp|cons x r e=>show sm (λm=>f x i m*wy S f (r++b) m j) S=sm (λm=>sm (λk=>f x i k*wy S f r k m) S*wy S f b m j) S;rw[DK (λm d=>by rw[e m d]),show sm (λm=>sm (λk=>f x i k*wy S f r k m) S*wy S f b m j) S=sm (λm=>sm (λk=>f x i k*wy S f r k m*wy S f b m j) S) S from DK (by grind [zcB]),zcC];refine DK (λm _=>?_);rw[<-UY];grind
theorem ze8(x:α)(i j:Nat)(a:j<S):wy S f [x] i j=f x i j:=by show sm (λm=>f x i m*(if m=j then 1 else 0)) S=_;grind [zdA]
theorem zc6(a:List α)(x:α)(i j:Nat)(b:i<S)(c:j<S):wy S f (a++[x]) i j=sm (λm=>wy S f a i m*f x m j) S:=by grind [zas,DK,ze8]
theorem wi(a:List α)(h:∀x∈a,∀i j,i<S->j<S->f x i j<=g x i j)(i j:Nat)(b:i<S):wy S f a i j<=wy S g a i j:=by induction a generalizing i with|nil=>exact Vw _|cons x r d=>exact UX (λm c=>WP (by grind) (by grind))
theorem zau(a:List α)(h:∀x∈a,∀i j,j<i->f x i j=0)(i j:Nat)(b:j<i):wy S f a i j=0:=by induction a generalizing i with|nil=>show(if i=j then 1 else 0)=0;grind|cons x r c=>refine FG (λm _=>?_);grind
theorem zat(a:List α)(k i j:Nat)(b:i<S):wy S f a i j=sm (λm=>wy S f (a.take k) i m*wy S f (a.drop k) m j) S:=by rw[<-zas _ _ _ _ b,XJ]
theorem wa(a:List α)(k m j:Nat)(b:k<a.length):wy S f (a.drop k) m j=sm (λq=>f a[k] m q*wy S f (a.drop (k+1)) q j) S:=by rw[Wg b];rfl
theorem zb(a:List α)(k i q:Nat)(c:k<a.length)(b:i<S)(d:q<S):wy S f (a.take (k+1)) i q=sm (λm=>wy S f (a.take k) i m*f a[k] m q) S:=by rw[VY c,zc6 _ _ _ _ b d]
theorem Aq(h:H*y=1):H=1/\y=1:=⟨Nat.eq_one_of_mul_eq_one_right h,Nat.eq_one_of_mul_eq_one_left h⟩
theorem DL(h:sm z2 H=1):∃m,m<H/\z2 m=1/\∀q,q<H->0<z2 q->q=m:=by grind [UZ,Bg,zeR]
theorem RY(a:List α)(i j:Nat)(c:i<S)(b:wy S f a i j=1)(k:Nat):∃m,m<S/\wy S f (a.take k) i m=1/\wy S f (a.drop k) m j=1/\∀q,q<S->0<wy S f (a.take k) i q->0<wy S f (a.drop k) q j->q=m:=by rw[zat a k i j c]at b;obtain⟨m,d,e,n⟩:=DL b;obtain⟨g,l⟩:=Aq e;exact⟨m,d,g,l,by simp_all⟩
theorem R0(a:List α)(i j:Nat)(d:i<S)(c:wy S f a i j=1)(k:Nat)(e:k<a.length)(m q:Nat)(r:m<S)(s:q<S)(l:wy S f (a.take k) i m=1)(b:wy S f (a.drop k) m j=1)(n:wy S f (a.take (k+1)) i q=1)(p:wy S f (a.drop (k+1)) q j=1):f a[k] m q=1:=by (rw[wa a k m j e]at b;obtain⟨z,u,g,-⟩:=DL b;obtain⟨v,w⟩:=Aq g;have o:0<wy S f (a.take (k+1)) i z:=by grind [zb,Bg,wy]);obtain⟨y,-,-,-,t⟩:=RY a i j d c (k+1);grind
theorem zcU(a:List α)(i j:Nat)(b:i<S)(h:0<wy S f a i j)(k:Nat)(c:k<a.length):∃m q,m<S/\q<S/\0<wy S f (a.take k) i m/\0<f a[k] m q/\0<wy S f (a.drop (k+1)) q j:=by rw[zat a k i j b]at h;grind [UZ,wy,wa]
end
structure dV where
 ZH:Vq
 code:Vq
 body:Vs
 vars:Vs
 types:Vs
abbrev or:=ByteArray->Nat->Nat->Nat
def dn(tx:Vs)(C:or)(P:dV)(s:Vq)(i j:Nat):Nat :=
 match aG P.vars s with
 | some v=>C (P.types.getD v ⟨#[]⟩) i j
 | none=>if j=i+1/\i<tx.length/\((tx.getD i ⟨#[]⟩).toList==s.toList)=true then 1 else 0
def pD(tx:Vs)(C:or)(P:dV)(i j:Nat):Nat:=wy (tx.length+1) (dn tx C P) P.body i j
def BN(f:dV->Nat):List dV->Nat
 | []=>0
 | P :: r=>f P+BN f r
def za(tx:Vs)(C:or)(c:Vq)(i j:Nat)(P:dV):Nat:=if P.code.toList==c.toList then pD tx C P i j else 0
def FC(tx:Vs)(Ps:List dV)(C:or):or:=λc i j=>cp (BN (za tx C c i j) Ps)
def qB(tx:Vs)(Ps:List dV):Nat->or
 | 0=>λ_ _ _=>0
 | n+1=>FC tx Ps (qB tx Ps n)
def FV(S:Nat)(C D:or):Prop:=∀c i j,i<S->j<S->C c i j<=D c i j
theorem Me{f g:dV->Nat}{l:List dV}(h:∀P∈l,f P<=g P):BN f l<=BN g l:=by induction l with|nil=>exact Vw _|cons P r a=>exact Zg (h P (by simp)) (by grind)
theorem FF{f:dV->Nat}{l:List dV}(k:Nat)(a:k<l.length):f l[k]<=BN f l:=by induction l generalizing k with|nil=>grind|cons P r b=>grind [BN]
theorem NU{f:dV->Nat}{l:List dV}(k m:Nat)(a:k<l.length)(b:m<l.length)(c:k≠m):f l[k]+f l[m]<=BN f l:=by induction l generalizing k m with|nil=>grind|cons P r d=>{cases k with|zero=>grind [BN,FF]|succ k=>{cases m with|zero=>grind [BN,FF]|succ m=>show f (r[k]'(by grind))+f (r[m]'(by grind))<=f P+BN f r;have:=d k m (by simpa using a) (by simpa using b) (by omega);omega}}
theorem NT{f:dV->Nat}{l:List dV}(h:0<BN f l):∃k,∃a:k<l.length,0<f l[k]:=by induction l with|nil=>exact absurd h (Y3 _)|cons P r c=>by_cases e:0<f P;{exact⟨0,by simp,e⟩};{have h:0<f P+BN f r:=h;have⟨k,a,b⟩:=c (by omega);exact⟨k+1,by grind,b⟩}
theorem zcA(f:dV->Nat)(a b:List dV):BN f (a++b)=BN f a+BN f b:=by induction a with|nil=>simp[BN]|cons P r c=>grind [BN]
section
variable {tx:Vs} {Ps:List dV} {C D:or}
theorem lp(P:dV)(s:Vq)(h:FV (tx.length+1) C D)(i j:Nat)(a:i<tx.length+1)(b:j<tx.length+1):dn tx C P s i j<=dn tx D P s i j:=by unfold dn;split;{exact h _ _ _ a b};simp
theorem JQ(P:dV)(h:FV (tx.length+1) C D)(i j:Nat)(e:i<tx.length+1):pD tx C P i j<=pD tx D P i j :=
 wi _ (λs _ a b c d=>lp P s h a b c d) i j e
theorem zaq(P:dV)(h:FV (tx.length+1) C D)(i j:Nat)(a:i<tx.length+1):za tx C zo i j P<=za tx D zo i j P:=by unfold za;split;{exact JQ P h i j a};simp
theorem yB(h:FV (tx.length+1) C D):FV (tx.length+1) (FC tx Ps C) (FC tx Ps D):=λc i j a _=>za4 (Me (λP _=>zaq c P h i j a))
theorem zfk(n:Nat):FV (tx.length+1) (qB tx Ps n) (qB tx Ps (n+1)):=by induction n with|zero=>exact λ_ _ _ _ _=>Wp _|succ n a=>exact yB a
theorem FV.trans{A B E:or}(h:FV H A B)(g:FV H B E):FV H A E:=λc i j a b=>VU (h c i j a b) (g c i j a b)
structure B0(tx:Vs)(Ps:List dV)(C:or):Prop where
 fix:∀c i j,i<tx.length+1->j<tx.length+1->C c i j=FC tx Ps C c i j
 low:∃n,FV (tx.length+1) C (qB tx Ps n)
theorem B0.above(h:B0 tx Ps C)(n:Nat):FV (tx.length+1) (qB tx Ps n) C:=by induction n with|zero=>exact λ_ _ _ _ _=>Wp _|succ n d=>intro c i j a b;rw[h.fix c i j a b];exact yB d c i j a b
theorem wJ(P:dV)(s:Vq)(h:∀c i j,i<tx.length+1->j<tx.length+1->C c i j=D c i j)(i j:Nat)(a:i<tx.length+1)(b:j<tx.length+1):dn tx C P s i j=dn tx D P s i j :=
 YK (lp P s (λc i j a b=>Yv (h c i j a b)) i j a b) (lp P s (λc i j a b=>Yv (h c i j a b).symm) i j a b)
theorem B0.prod(h:B0 tx Ps C)(b:H<tx.length+1)(c:y<tx.length+1)(a:C N H y=1) :
  ∃k,∃d:k<Ps.length,(Ps[k].code.toList==N.toList)=true/\pD tx C Ps[k] H y=1/\∀m,∀f:m<Ps.length,(Ps[m].code.toList==N.toList)=true->0<pD tx C Ps[m] H y->m=k:=by have e:=h.fix N H y b c;rw[a]at e;have e:=zdY.1 e.symm;grind [NT,za,pD,FF,NU]
end
def uM(tx:Vs)(C:or)(P:dV)(i j k:Nat):Nat :=
 ((List.range (tx.length+1)).find? (λm=>decide (0<wy (tx.length+1) (dn tx C P) (P.body.take k) i m)&&decide (0<wy (tx.length+1) (dn tx C P) (P.body.drop k) m j))).getD 0
def oo(P:dV)(v:Nat):Nat:=((List.range P.body.length).find? (λk=>aG P.vars (P.body.getD k ⟨#[]⟩)==some v)).getD 0
def JX(tx:Vs)(C:or)(P:dV)(i j v:Nat):Nat×Nat:=(uM tx C P i j (oo P v),uM tx C P i j (oo P v+1))
def Ul(tx:Vs)(Ps:List dV)(C:or)(c:Vq)(i j:Nat):Option dV:=Ps.find? (λP=>(P.code.toList==c.toList)&&decide (0<pD tx C P i j))
def wm(tx:Vs)(Ps:List dV)(C:or):Nat->Vq->Nat->Nat->Vs
 | 0,_,_,_=>[]
 | n+1,c,i,j =>
  match Ul tx Ps C c i j with
  | none=>[]
  | some P=>((List.range P.vars.length).map (λv=>wm tx Ps C n (P.types.getD v ⟨#[]⟩) (JX tx C P i j v).1 (JX tx C P i j v).2)).flatten++[P.ZH]
structure mm(P:dV):Prop where
 len:P.types.length=P.vars.length
 occ:∀v,v<P.vars.length->∃k,k<P.body.length/\aG P.vars (P.body.getD k ⟨#[]⟩)=some v
 one:∀v a b,a<P.body.length->b<P.body.length->aG P.vars (P.body.getD a ⟨#[]⟩)=some v->aG P.vars (P.body.getD b ⟨#[]⟩)=some v->a=b
section
variable {tx:Vs} {Ps:List dV} {C:or} {P:dV} {i j:Nat}
theorem lM(b:i<tx.length+1)(a:pD tx C P i j=1)(k:Nat):uM tx C P i j k<tx.length+1/\wy (tx.length+1) (dn tx C P) (P.body.take k) i (uM tx C P i j k)=1/\wy (tx.length+1) (dn tx C P) (P.body.drop k) (uM tx C P i j k) j=1 /\
  ∀q,q<tx.length+1->0<wy (tx.length+1) (dn tx C P) (P.body.take k) i q->0<wy (tx.length+1) (dn tx C P) (P.body.drop k) q j->q=uM tx C P i j k:=by (have⟨m,l,c,d,n⟩:=RY (S:=tx.length+1) (f:=dn tx C P) P.body i j b a k;have e:uM tx C P i j k=m:=by unfold uM;cases g:(List.range (tx.length+1)).find? (λm=>decide (0<wy (tx.length+1) (dn tx C P) (P.body.take k) i m)&&decide (0<wy (tx.length+1) (dn tx C P) (P.body.drop k) m j)) with|none=>grind|some z=>grind);grind
theorem za7(b:i<tx.length+1)(c:j<tx.length+1)(a:pD tx C P i j=1):uM tx C P i j P.body.length=j :=
 ((lM b a P.body.length).2.2.2 j c (by grind [pD]) (by rw[List.drop_length];show 0<(if j=j then 1 else 0);simp)).symm
theorem El(b:i<tx.length+1)(a:pD tx C P i j=1)(k:Nat)(c:k<P.body.length):dn tx C P P.body[k] (uM tx C P i j k) (uM tx C P i j (k+1))=1 :=
 R0 P.body i j b a k c _ _ (lM b a k).1 (lM b a (k+1)).1 (lM b a k).2.1 (lM b a k).2.2.1 (lM b a (k+1)).2.1 (lM b a (k+1)).2.2.1
theorem xt(b:mm P){v:Nat}(a:v<P.vars.length):oo P v<P.body.length/\aG P.vars (P.body.getD (oo P v) ⟨#[]⟩)=some v:=by have⟨k,d,e⟩:=b.occ v a;unfold oo;cases c:(List.range P.body.length).find? (λk=>aG P.vars (P.body.getD k ⟨#[]⟩)==some v) with|none=>grind|some z=>grind
theorem zfq(a:mm P)(b:H<P.vars.length)(c:y<P.body.length)(d:aG P.vars (P.body.getD y ⟨#[]⟩)=some H):oo P H=y:=a.one H _ _ (xt a b).1 c (xt a b).2 d
theorem je(a:t<x.length):x.getD t ⟨#[]⟩=x[t]:=by grind
theorem qO(h:aG P.vars N=some H):dn tx C P N y u=C (P.types.getD H ⟨#[]⟩) y u:=by unfold dn;rw[h]
theorem B0.pick(h:B0 tx Ps C)(f:i<tx.length+1)(g:j<tx.length+1)(c:C N i j=1) :
  ∃k,∃b:k<Ps.length,Ul tx Ps C N i j=some Ps[k]/\(Ps[k].code.toList==N.toList)=true/\pD tx C Ps[k] i j=1/\∀m,∀l:m<Ps.length,(Ps[m].code.toList==N.toList)=true->0<pD tx C Ps[m] i j->m=k:=by have⟨k,b,e,o,n⟩:=h.prod f g c;refine⟨k,b,?_,e,o,n⟩;unfold Ul;cases a:Ps.find? (λP=>(P.code.toList==N.toList)&&decide (0<pD tx C P i j)) with|none=>grind|some p=>have d:=XV a;simp[Bool.and_eq_true,decide_eq_true_eq]at d;obtain⟨m,l,rfl⟩:=Wa (Wj a);grind
theorem B0.kids(h:B0 tx Ps C)(V:∀P∈Ps,mm P)(d:i<tx.length+1)(M:j<tx.length+1)(K:C N i j=1)(R:0<qB tx Ps (H+1) N i j)(L:Ul tx Ps C N i j=some P)(v:Nat)(U:v<P.vars.length) :
  (JX tx C P i j v).1<tx.length+1/\(JX tx C P i j v).2<tx.length+1/\C (P.types.getD v ⟨#[]⟩) (JX tx C P i j v).1 (JX tx C P i j v).2=1/\0<qB tx Ps H (P.types.getD v ⟨#[]⟩) (JX tx C P i j v).1 (JX tx C P i j v).2:=by
 have⟨k,hk,B,hc,n,T⟩:=h.pick d M K;rw[L]at B;cases B;(have⟨l,g⟩:=xt (V Ps[k] (by simp)) U;rw[je _ _ l]at g;have D:=El d n (oo Ps[k] v) l;rw[qO g]at D;refine⟨(lM d n _).1,(lM d n _).1,D,?_⟩;have u:0<FC tx Ps (qB tx Ps H) N i j:=R;have⟨m,O,S⟩:=NT (Kk.1 u);have r:(Ps[m].code.toList==N.toList)=true:=by grind [za]);(have o:0<pD tx (qB tx Ps H) Ps[m] i j:=by grind [za]);have p:=h.above H;have t:=T m O r (VD o (JQ _ p i j d));subst t;have⟨a,b,e,c,W,E,p3⟩:=zcU Ps[m].body i j d o (oo Ps[m] v) l;have F:0<wy (tx.length+1) (dn tx C Ps[m]) (Ps[m].body.take (oo Ps[m] v)) i a:=VD W (wi _ (λs _ x y w A=>lp _ s p x y w A) i a d);have G:0<dn tx C Ps[m] (Ps[m].body[oo Ps[m] v]) a b:=VD E (lp _ _ p a b e c);have I:0<wy (tx.length+1) (dn tx C Ps[m]) (Ps[m].body.drop (oo Ps[m] v+1)) b j:=VD p3 (wi _ (λs _ x y w A=>lp _ s p x y w A) b j c)
 have ea:a=uM tx C Ps[m] i j (oo Ps[m] v):=(lM d n _).2.2.2 a e F (by
  rw[wa _ _ _ _ l];exact VD (Zh G I) (Bg (f:=λq=>dn tx C Ps[m] (Ps[m].body[oo Ps[m] v]) a q*wy (tx.length+1) (dn tx C Ps[m]) (Ps[m].body.drop (oo Ps[m] v+1)) q j) c))
 have eb:b=uM tx C Ps[m] i j (oo Ps[m] v+1):=(lM d n _).2.2.2 b c (by
  rw[zb _ _ _ _ l d c];exact VD (Zh F G) (Bg (f:=λz=>wy (tx.length+1) (dn tx C Ps[m]) (Ps[m].body.take (oo Ps[m] v)) i z*dn tx C Ps[m] (Ps[m].body[oo Ps[m] v]) z b) e)) I
 rw[qO g]at E;show 0<qB tx Ps H _ (uM tx C Ps[m] i j (oo Ps[m] v)) (uM tx C Ps[m] i j (oo Ps[m] v+1));(grind)
end
section
variable {α:Type} {S:Nat} {f g:α->Nat->Nat->Nat}
theorem ze9(a:List α)(i j:Nat)(b:i<S)(e:∀x∈a,∀p q,q<p->f x p q=0)(k:∀x∈a,∀p q,q<p->g x p q=0)(h:∀x∈a,∀p q,i<=p->p<S->q<S->f x p q=g x p q):wy S f a i j=wy S g a i j:=by induction a generalizing i with|nil=>rfl|cons x r d=>refine DK (λm c=>?_);grind
theorem U0{f:Nat->Nat}(n:Nat)(h:∀m,m<t->f m=0):sm f (t+n)=sm (λd=>f (t+d)) n:=by induction n with|zero=>exact FG h|succ n a=>grind [sm]
end
def mQ(C:or):Prop:=∀c i j,j<i->C c i j=0
section
variable {tx:Vs} {Ps:List dV} {C D:or}
theorem oC(P:dV)(t:mQ C)(s:Vq)(i j:Nat)(h:j<i):dn tx C P s i j=0:=by unfold dn;split;{exact t _ _ _ h};grind
theorem Oe(P:dV)(t:mQ C)(i j:Nat)(h:j<i):pD tx C P i j=0:=zau _ (λs _ a b c=>oC P t s a b c) i j h
theorem NS{f:dV->Nat}{l:List dV}(h:∀P∈l,f P=0):BN f l=0:=by induction l with|nil=>rfl|cons P r a=>grind [BN]
theorem UW{f g:dV->Nat}{l:List dV}(h:∀P∈l,f P=g P):BN f l=BN g l :=
 YK (Me (by grind)) (Me (by grind))
theorem Ra(t:mQ C):mQ (FC tx Ps C):=λc i j h=>by
 unfold FC;rw[NS (by grind [za,Oe])];rfl
theorem zc5(P:dV)(f:mQ C)(g:mQ D)(i j:Nat)(a:i<tx.length+1)(h:∀c p q,i<=p->p<tx.length+1->q<tx.length+1->C c p q=D c p q):pD tx C P i j=pD tx D P i j:=by refine ze9 _ i j a (by grind [oC]) (by grind [oC]) (λs _ p q e b d=>?_);grind [dn]
theorem zdK(b:mQ C)(d:mQ D)(c:Vq)(i j:Nat)(a:i<tx.length+1)(h:∀c p q,i<=p->p<tx.length+1->q<tx.length+1->C c p q=D c p q):FC tx Ps C c i j=FC tx Ps D c i j:=by grind [FC,UW,za,zc5]
theorem zdL:FC tx Ps C zo I t<=2:=xB _
structure qE(tx:Vs)(Ps:List dV)(C:or)(b:Nat):Prop where
 two:∀c i j,C c i j<=2
 tri:mQ C
 nil:∀c i j,i<b->C c i j=0
 low:∃n,FV (tx.length+1) C (qB tx Ps n)
 fix:∀c i j,b<=i->i<tx.length+1->j<tx.length+1->C c i j=FC tx Ps C c i j
theorem qE.first:qE tx Ps (λ_ _ _=>0) (tx.length+1):=⟨by simp,λ_ _ _ _=>rfl,λ_ _ _ _=>rfl,⟨0,λ_ _ _ _ _=>Vw _⟩,by omega⟩
theorem qE.done(h:qE tx Ps C 0):B0 tx Ps C:=⟨λc i j a b=>h.fix c i j (Wp _) a b,h.low⟩
structure QY(tx:Vs)(Ps:List dV)(C:or)(b:Nat):Prop where
 two:∀c i j,C c i j<=2
 tri:mQ C
 nil:∀c i j,i<b->C c i j=0
 low:∃n,FV (tx.length+1) C (qB tx Ps n)
 fix:∀c i j,b<i->i<tx.length+1->j<tx.length+1->C c i j=FC tx Ps C c i j
 up:∀c j,j<tx.length+1->C c b j<=FC tx Ps C c b j
theorem qE.row(h:qE tx Ps C (H+1)):QY tx Ps C H :=
 ⟨h.two,h.tri,λc i j a=>h.nil c i j (by omega),h.low,λc i j a=>h.fix c i j (by omega),λc j _=>by rw[h.nil c H j (by omega)];simp⟩
theorem QY.done(h:QY tx Ps C H)(d:∀c j,j<tx.length+1->FC tx Ps C c H j<=C c H j):qE tx Ps C H :=
 ⟨h.two,h.tri,h.nil,h.low,λc i j f a b=>by
  by_cases e:i=H
  ·subst e;exact YK (h.up c j b) (d c j b)
  ·exact h.fix c i j (by omega) a b⟩
theorem QY.step(h:QY tx Ps C H)(o:H<tx.length+1)(g:∀c j,j<tx.length+1->D c H j=FC tx Ps C c H j)(d:∀c i j,i≠H∨¬j<tx.length+1->D c i j=C c i j):QY tx Ps D H:=by (have p:FV (tx.length+1) C D:=λc i j b a=>by by_cases e:i=H;{subst e;rw[g c j a];exact h.up c j a};grind);(have l:mQ D:=λc i j a=>by by_cases e:i=H/\j<tx.length+1;{obtain⟨rfl,m⟩:=e;rw[g c j m];exact Ra h.tri c i j a};{rw[d c i j (by omega)];exact h.tri c i j a});refine⟨λc i j=>?_,l,λc i j b=>by rw[d c i j (VS (by omega))];exact h.nil c i j b,?_,λc i j b f a=>?_,λc j a=>?_⟩;{by_cases e:i=H/\j<tx.length+1;{grind [zdL]};{rw[d c i j (by omega)];exact h.two c i j}};{obtain⟨n,k⟩:=h.low;refine⟨n+1,λc i j b a=>?_⟩;by_cases e:i=H;{subst e;rw[g c j a];exact yB k c i j b a};{rw[d c i j (VS e)];exact(k.trans (zfk n)) c i j b a}};{rw[d c i j (VS (by omega)),h.fix c i j b f a];exact zdK h.tri l c i j f (by grind)};{rw[g c j a];exact yB p c H j o a}
structure QIn(tx:Vs)(Ps:List dV)(C:or):Prop where
 two:∀c i j,C c i j<=2
 tri:mQ C
 low:∃n,FV (tx.length+1) C (qB tx Ps n)
 up:FV (tx.length+1) C (FC tx Ps C)
end
def CG(codes:Vs)(G:Nat->Nat->Nat->Nat):or:=λc i j =>
 match aG codes c with
 | some k=>G k i j
 | none=>0
section
variable {tx:Vs} {Ps:List dV} {C:or} {P:dV}
def Nj(tx:Vs)(C:or)(P:dV)(b k m e:Nat):Nat:=cp (sm (λd=>cp (wy (tx.length+1) (dn tx C P) (P.body.take k) b (b+d))*dn tx C P (P.body.getD k ⟨#[]⟩) (b+d) e) m)
theorem EF:Nj tx C P R o (I+1) t=cp (Nj tx C P R o I t+cp (wy (tx.length+1) (dn tx C P) (P.body.take o) R (R+I))*dn tx C P (P.body.getD o ⟨#[]⟩) (R+I) t):=M3 _ _
theorem zbv(t:mQ C)(b k e:Nat)(g:k<P.body.length)(c:b<tx.length+1)(j:e<tx.length+1):Nj tx C P b k (tx.length+1-b) e=cp (wy (tx.length+1) (dn tx C P) (P.body.take (k+1)) b e):=by (rw[zb _ _ _ _ g c j];have i:sm (λm=>wy (tx.length+1) (dn tx C P) (P.body.take k) b m*dn tx C P P.body[k] m e) (tx.length+1)=sm (λd=>wy (tx.length+1) (dn tx C P) (P.body.take k) b (b+d)*dn tx C P P.body[k] (b+d) e) (tx.length+1-b):=by have:=U0 (f:=λm=>wy (tx.length+1) (dn tx C P) (P.body.take k) b m*dn tx C P P.body[k] m e) b (tx.length+1-b) (λm l=>by show _*_=0;rw[zau _ (λs _ a b c=>oC P t s a b c) b m l,Ye]);rw[show b+(tx.length+1-b)=tx.length+1 by omega]at this;exact this);unfold Nj;rw[i,zdh,zdh (λd=>wy (tx.length+1) (dn tx C P) (P.body.take k) b (b+d)*dn tx C P P.body[k] (b+d) e),je _ _ g];grind [DK,zdX,wy,dn,te,xB]
theorem zbw(t:mQ C)(b k m e:Nat)(h:e<b+m):Nj tx C P b k (m+1) e=Nj tx C P b k m e:=by rw[EF,oC P t _ _ _ h,Nat.mul_zero,WY];exact te (xB _)
theorem Sm(h:∀c i j,C c i j<=2)(s:Vq)(i j:Nat):dn tx C P s i j<=2:=by grind [dn]
end
def oY(n:Nat):Nat:=if n<64 then n else 64
structure DY(G n:Nat)(ls t:Vs)(n':Nat)(ls':Vs):Prop where
 a:n+t.length<=64->n'=n+t.length/\ls'=ls++t
 b:64<n+t.length->64<n'
 c:n<n'
 d:n'<=n+1+G*(oY n'-oY n)
 e:ls'.length<=ls.length+(oY n'-oY n)
structure TrO(G k n:Nat)(ls t:Vs)(n':Nat)(ls':Vs):Prop where
 a:n+t.length<=64->n'=n+t.length/\ls'=ls++t
 b:64<n+t.length->64<n'
 c:n<=n'
 d:n'<=n+k+G*(oY n'-oY n)
 e:ls'.length<=ls.length+(oY n'-oY n)
theorem TrO.first:TrO z3 0 z x [] z x :=
 ⟨by simp,by simp,Vw _,by omega,by omega⟩
theorem Am(h:H<=y):oY H<=oY y:=by grind [oY]
theorem TrO.next{f:Nat}{j k:Vs}(h:TrO H y u z4 z6 q j)(g:DY H q j zc f k):TrO H (y+1) u z4 (z6++zc) f k:=by (have p:=Am h.c;have r:=Am (Nat.le_of_lt g.c);have s:H*(oY f-oY u)=H*(oY q-oY u)+H*(oY f-oY q):=by rw[<-Nat.mul_add];grind);have x:=h.c;have t:=g.c;have A:=h.d;have v:=g.d;have B:=h.e;have w:=g.e;refine⟨λi=>?_,λi=>?_,by omega,by omega,by omega⟩;{rw[Vz]at i;obtain⟨l,m⟩:=h.a (by omega);obtain⟨n,o⟩:=g.a (by omega);grind};{rw[Vz]at i;by_cases z:u+z6.length<=64;{obtain⟨l,m⟩:=h.a z;exact g.b (by omega)};{have:=h.b (by omega);omega}}
theorem DY.node(h:TrO H y (u+1) z4 z6 q zc)(r:y<=H)(s:u<64):DY H u z4 (z6++[N]) q (zc++[N]):=by (have n:=h.c;have o:=h.d;have p:=h.e;have j:oY u=u:=by grind [oY]);(have k:u+1<=oY q:=by grind [oY]);(have l:oY (u+1)=u+1:=by grind [oY]);(have m:H*(oY q-u)=H+H*(oY q-(u+1)):=by rw[show oY q-u=1+(oY q-(u+1)) by omega,Nat.mul_add,Zf]);refine⟨λf=>?_,λf=>?_,by omega,?_,?_⟩;{rw[Vz]at f;replace f:u+(z6.length+1)<=64:=f;obtain⟨g,i⟩:=h.a (by omega);grind};{rw[Vz]at f;replace f:64<u+(z6.length+1):=f;exact h.b (by omega)};{grind};grind
theorem DY.late(a:64<=y)(b:0<z6.length):DY H y z4 z6 (y+1) z4 :=
 ⟨λq=>by omega,λ_=>by omega,by omega,by omega,by omega⟩
section
variable {tx:Vs} {Ps:List dV} {C:or} {i j:Nat}
theorem Vm(h:B0 tx Ps C){r:Nat}(b:i<tx.length+1)(c:j<tx.length+1)(a:C N i j=1):0<(wm tx Ps C (r+1) N i j).length:=by obtain⟨k,d,e,-⟩:=h.pick b c a;show 0<(match Ul tx Ps C N i j with | none=>[] | some P=>_:Vs).length;grind
theorem pY{P:dV}(a:Ul tx Ps C N i j=some P):wm tx Ps C (H+1) N i j=((List.range P.vars.length).map (λv=>wm tx Ps C H (P.types.getD v ⟨#[]⟩) (JX tx C P i j v).1 (JX tx C P i j v).2)).flatten++[P.ZH]:=by (show(match Ul tx Ps C N i j with | none=>[] | some P=>_:Vs)=_);rw[a]
end
def Ae(f:Nat->Vs)(k:Nat):Vs:=((List.range k).map f).flatten
theorem O6(f:Nat->Vs)(k:Nat):Ae f (k+1)=Ae f k++f k:=by unfold Ae;rw[Wi,VW,List.flatten_append];simp
section
variable {tx:Vs} {Ps:List dV} {C D:or}
theorem FR{α:Type}{f g:α->Nat->Nat->Nat}(a:List α)(h:∀x∈a,∀i j,i<H->j<H->f x i j=g x i j)(i j:Nat)(b:i<H):wy H f a i j=wy H g a i j :=
 YK (wi a (by grind) i j b) (wi a (by grind) i j b)
def MW(S:Nat)(C D:or):Prop:=∀c i j,i<S->j<S->C c i j=D c i j
theorem zar(h:MW (tx.length+1) C D)(P:dV)(i j:Nat)(e:i<tx.length+1):pD tx C P i j=pD tx D P i j:=FR _ (λs _ a b c d=>wJ P s h a b c d) i j e
theorem CR{α:Type}{l:List α}{p q:α->Bool}(h:∀x∈l,p x=q x):l.find? p=l.find? q:=by induction l with|nil=>rfl|cons y r a=>grind
theorem RV(h:MW (tx.length+1) C D)(P:dV)(i j k:Nat)(f:i<tx.length+1):uM tx C P i j k=uM tx D P i j k:=by unfold uM;congr 1;refine CR (λm e=>?_);have e:=VH.1 e;rw[FR _ (λs _ a b c d=>wJ P s h a b c d) i m f,FR _ (λs _ a b c d=>wJ P s h a b c d) m j e]
theorem Um(h:MW (tx.length+1) C D)(c:Vq)(i j:Nat)(a:i<tx.length+1):Ul tx Ps C c i j=Ul tx Ps D c i j:=by grind [Ul,CR,zar]
theorem zgq(h:MW (tx.length+1) C D)(is:B0 tx Ps C)(l:∀P∈Ps,mm P):∀(r:Nat) (c:Vq) (i j:Nat),i<tx.length+1->j<tx.length+1->C c i j=1->0<qB tx Ps r c i j->wm tx Ps C r c i j=wm tx Ps D r c i j:=by intro r;induction r with|zero=>intro c i j _ _ _ _;rfl|succ r s=>intro c i j a f e b;have⟨k,q,d,_⟩:=is.pick a f e;rw[pY d,pY (Um h c i j a ▸ d)];congr 2;refine WB (λv g=>?_);have⟨m,n,o,p⟩:=is.kids l a f e b d v (VH.1 g);grind [JX,RV]
theorem zf8(is:B0 tx Ps C)(m:∀P∈Ps,mm P):∀(r q:Nat) (c:Vq) (i j:Nat),r<=q->i<tx.length+1->j<tx.length+1->C c i j=1->0<qB tx Ps r c i j->wm tx Ps C r c i j=wm tx Ps C q c i j:=by intro r;induction r with|zero=>intro q c i j _ _ _ _ g;exact absurd g (Y3 _)|succ r w=>intro q c i j u e f d a;obtain⟨q,rfl⟩:∃z,q=z+1:=⟨q-1,by omega⟩;obtain⟨k,t,b,-⟩:=is.pick e f d;rw[pY b,pY b];congr 2;refine WB (λv l=>?_);have⟨n,o,p,s⟩:=is.kids m e f d a b v (VH.1 l);grind
theorem zeZ(is:B0 tx Ps C)(f:∀P∈Ps,mm P)(b:H<tx.length+1)(c:y<tx.length+1)(a:C N H y=1)(e:0<qB tx Ps u N H y)(d:0<qB tx Ps q N H y):wm tx Ps C u N H y=wm tx Ps C q N H y:=by grind [zf8]
def Ck(tx:Vs)(Ps:List dV)(C:or)(r:Nat)(c:Vq):Int×Vs :=
 if C c 0 tx.length=0 then(10,[])
 else if C c 0 tx.length=1 then(if 64<(wm tx Ps C r c 0 tx.length).length then(3,[]) else(0,wm tx Ps C r c 0 tx.length))
 else(11,[])
def xq(tx:Vs)(Ps:List dV)(c:Vq)(res:Int×Vs):Prop:=∃C r,B0 tx Ps C/\(C c 0 tx.length=1->0<qB tx Ps r c 0 tx.length)/\res=Ck tx Ps C r c
theorem zcd(is:B0 tx Ps C)(c:Vq):∃r,C c 0 tx.length=1->0<qB tx Ps r c 0 tx.length:=by have⟨n,a⟩:=is.low;exact⟨n,λh=>by have:=a c 0 tx.length (by omega) (by omega);omega⟩
end
structure jL(tx:Vs)(C:or)(P:dV)(i j:Nat)(p:Nat->Nat):Prop where
 beg:p 0=i
 ZK:p P.body.length=j
 lt:∀t,t<=P.body.length->p t<tx.length+1
 fit:∀t,t<P.body.length->0<dn tx C P (P.body.getD t ⟨#[]⟩) (p t) (p (t+1))
section
variable {tx:Vs} {Ps:List dV} {C D:or} {P:dV} {i j r:Nat} {p:Nat->Nat} {c:Vq}
theorem NV{k:Nat}(a:k<H)(h:0<z2 k):0<sm z2 H:=by grind [Bg]
theorem jL.takes(h:jL tx C P i j p)(t:Nat)(b:t<=P.body.length):0<wy (tx.length+1) (dn tx C P) (P.body.take t) i (p t):=by (have a:i<tx.length+1:=by rw[<-h.beg];exact h.lt 0 (Wp _));induction t with|zero=>rw[h.beg];show 0<(if i=i then 1 else 0);simp|succ t c=>rw[zb P.body t i (p (t+1)) (by omega) a (h.lt _ b)];refine NV (k:=p t) (h.lt t (by omega)) ?_;have:=h.fit t (by omega);rw[je _ _ (by omega)]at this;exact Zh (c (by omega)) this
theorem jL.drops(h:jL tx C P i j p)(n:Nat):∀t,t+n=P.body.length->0<wy (tx.length+1) (dn tx C P) (P.body.drop t) (p t) j:=by induction n with|zero=>(intro t a;have e:P.body.drop t=[]:=by grind);rw[e,show t=P.body.length by omega,h.ZK];show 0<(if j=j then 1 else 0);simp|succ n b=>intro t a;rw[wa P.body t (p t) j (by omega)];refine NV (k:=p (t+1)) (h.lt _ (by omega)) ?_;have:=h.fit t (by omega);rw[je _ _ (by omega)]at this;exact Zh this (by grind)
theorem jL.way(h:jL tx C P i j p):0<pD tx C P i j:=by have:=h.drops P.body.length 0 (by omega);rw[h.beg]at this;exact this
theorem jL.pos(h:jL tx C P i j p)(a:P∈Ps)(g:(P.code.toList==c.toList)=true):0<FC tx Ps C c i j:=by (have⟨k,b,e⟩:=Wa a;unfold FC;rw[Kk];have:=FF (f:=za tx C c i j) (l:=Ps) k b;rw[e]at this;have d:za tx C c i j P=pD tx C P i j:=by grind [za]);have:=h.way;omega
theorem jL.up(h:jL tx C P i j p)(a:FV (tx.length+1) C D):jL tx D P i j p:=⟨h.beg,h.ZK,h.lt,λt b=>VD (h.fit t b) (lp P _ a _ _ (h.lt t (by omega)) (h.lt (t+1) (by omega)))⟩
theorem jL.it(h:jL tx (qB tx Ps r) P i j p)(a:P∈Ps)(b:(P.code.toList==c.toList)=true):0<qB tx Ps (r+1) c i j:=h.pos a b
theorem jL.tree(h:jL tx (qB tx Ps r) P i j p)(is:B0 tx Ps C)(z:∀P∈Ps,mm P)(f:P∈Ps)(D:(P.code.toList==c.toList)=true)(s:C c i j=1) :
  wm tx Ps C (r+1) c i j=((List.range P.vars.length).map (λv=>wm tx Ps C r (P.types.getD v ⟨#[]⟩) (p (oo P v)) (p (oo P v+1)))).flatten++[P.ZH]/\∀v,v<P.vars.length->C (P.types.getD v ⟨#[]⟩) (p (oo P v)) (p (oo P v+1))=1:=by (have b:i<tx.length+1:=by rw[<-h.beg];exact h.lt 0 (Wp _));(have w:j<tx.length+1:=by rw[<-h.ZK];exact h.lt _ (Vw _));(have a:=h.up (is.above r);have⟨k,E,n,G,d,y⟩:=is.pick b w s;have⟨m,x,e⟩:=Wa f;have q:Ps[k]=P:=by have:m=k:=y m x (by grind) (e ▸ a.way);grind);(rw[q]at n d;have B:∀t,t<=P.body.length->uM tx C P i j t=p t:=λt g=>by have⟨_,_,_,u⟩:=lM b d t;exact(u (p t) (h.lt t g) (a.takes t g) (a.drops (P.body.length-t) t (by omega))).symm);(have F:∀v,v<P.vars.length->JX tx C P i j v=(p (oo P v),p (oo P v+1)):=by grind [xt,JX]);constructor;{rw[pY n];congr 2;refine WB (λv l=>?_);grind};{intro v l;have⟨o,A⟩:=xt (z P f) l;have:=El b d (oo P v) o;grind [je,qO]}
end
section
variable {tx A B:Vs} {Ps:List dV} {C:or} {P:dV} {r:Nat} {s:Vq->Vs} {c:Vq}
def wZ(a:Nat)(ys:Vs)(s:Vq->Vs)(t:Nat):Nat:=a+((ys.take t).flatMap s).length
theorem NR(s:Vq->Vs)(t:Nat)(h:t<x.length):wZ z x s (t+1)=wZ z x s t+(s x[t]).length:=by unfold wZ;rw[VY h,Wn,Vz];grind
theorem vS(s:Vq->Vs)(t:Nat)(h:t<x.length):x.flatMap s=(x.take t).flatMap s++(s x[t]++(x.drop (t+1)).flatMap s):=by (have e:x=x.take t++(x[t] :: x.drop (t+1)):=by simp);grind
theorem Be(e:tx=A++(P.body.flatMap s++B))(b:∀y∈P.body,aG P.vars y=none->s y=[y])(c:∀t (a:t<P.body.length) v,aG P.vars P.body[t]=some v->0<C (P.types.getD v ⟨#[]⟩) (wZ A.length P.body s t) (wZ A.length P.body s t+(s P.body[t]).length)):jL tx C P A.length (A.length+(P.body.flatMap s).length) (wZ A.length P.body s):=by (have d:tx.length=A.length+((P.body.flatMap s).length+B.length):=by grind);refine⟨by rfl,by grind [wZ],λt a=>?_,λt a=>?_⟩;{(unfold wZ;have:P.body.flatMap s=(P.body.take t).flatMap s++(P.body.drop t).flatMap s:=by rw[<-Wn,XJ]);grind};{rw[je _ _ a,NR _ _ _ _ a];grind [aG,qO,dn,wZ,vS]}
theorem Da(a:P.body=[N])(c:P.vars=[])(e:tx=A++(N :: B)):jL tx C P A.length (A.length+1) (λt=>A.length+t):=by (have d:tx.length=A.length+(B.length+1):=by grind);refine⟨rfl,by grind,λt b=>?_,λt b=>?_⟩;{grind};{(rw[a]at b;obtain rfl:t=0:=by grind);rw[a];unfold dn;rw[c];show 0<(if _ then 1 else 0);grind}
theorem yM(b:P.body=[N])(f:P.vars=[])(e:tx=A++(N :: B))(a:P∈Ps)(d:(P.code.toList==c.toList)=true)(r:Nat):0<qB tx Ps (r+1) c A.length (A.length+1):=(Da b f e).it a d
theorem Dc(d:P.body=[N])(g:P.vars=[])(e:tx=A++(N :: B))(is:B0 tx Ps C)(i:∀P∈Ps,mm P)(b:P∈Ps)(f:(P.code.toList==c.toList)=true)(a:C c A.length (A.length+1)=1)(r:Nat):wm tx Ps C (r+1) c A.length (A.length+1)=[P.ZH]:=by have:=((Da (C:=qB tx Ps r) d g e).tree is i b f a).1;grind
theorem UT(b:mm P)(d:H<P.vars.length)(a:Nat):∃c:oo P H<P.body.length,aG P.vars P.body[oo P H]=some H/\wZ a P.body s (oo P H+1)=wZ a P.body s (oo P H)+(s P.body[oo P H]).length:=by grind [xt,je,NR]
end
section
variable {d:Db}
def st0:St:=⟨0,⟨#[]⟩,[],[],⟨⟨#[]⟩,0,0⟩,0⟩
def cN(l:List St)(n:Nat):St:=(l[n]?).getD st0
theorem ji(h:H<z8.length):cN z8 H=z8[H]:=by grind [cN]
def gO(L:Vs)(x:Vq):Nat:=L.countP (λy=>y.toList==x.toList)
def lfP(s:St):dV:=⟨s.ZH,aI s,[ar s],[],[]⟩
def gC(l:List St)(n:Nat):dV:=⟨(cN l n).ZH,aI (cN l n),(cN l n).Zm.drop 1,(ae l n).map (λh=>ar (cN l h)),(ae l n).map (λh=>aI (cN l h))⟩
def nC(l:List St)(n:Nat):Bool:=(bS l n).isEmpty&&(ae l n).all (λh=>((cN l h).ZG==2)&&(gO ((cN l n).Zm.drop 1) (ar (cN l h))==1))
def dR(l:List St)(a:Nat):List dV:=((ae l a).filter (λh=>(cN l h).ZG==2)).map (λh=>lfP (cN l h))++((List.range a).filter (λn=>((cN l n).ZG==4)&&nC l n)).map (gC l)
theorem zd6{α β:Type}{f:α->Option β}{g:α->β}{l:List α}(h:∀x∈l,f x=some (g x)):l.filterMap f=l.map g:=by induction l with|nil=>rfl|cons x r a=>grind
theorem CK{α:Type}(L:List α)(p:α->Bool)(a b:Nat)(c:a<L.length)(g:b<L.length)(i:a≠b)(e:p L[a]=true)(f:p L[b]=true):2<=L.countP p:=by (have d:∀(L:List α) (a:Nat) (c:a<L.length),p L[a]=true->1<=L.countP p:=by grind);induction L generalizing a b with|nil=>grind|cons y r j=>grind
theorem uZ(h:y∈ae z8 H):y<z8.length/\((cN z8 y).ZG=2∨(cN z8 y).ZG=3):=by grind [ae,eC,ji,Df,iU]
theorem NG(F:FlD d)(P:dV)(l:P∈dR d.ZD H):mm P:=by rcases VJ.1 l with h | h;{obtain⟨n,-,rfl⟩:=VT.1 h;exact⟨rfl,(λv c=>by exact absurd c (Yo _)),λv H b _ _ a=>by cases a⟩};{(obtain⟨n,q,rfl⟩:=VT.1 h;have e:=(We.1 q).2;rw[Wm]at e;have e:=e.2;unfold nC at e;rw[Wm,WG]at e;have i:(ae d.ZD n).map (λh=>ar (cN d.ZD h))=bW d.ZD (ae d.ZD n):=by grind [bW,zd6,uZ,ip,ji]);(have f:BD (gC d.ZD n).vars:=by show BD ((ae d.ZD n).map _);rw[i];exact F.vsd);(have g:∀v,v<(gC d.ZD n).vars.length->gO (gC d.ZD n).body ((gC d.ZD n).vars.getD v ⟨#[]⟩)=1:=by grind [ae,ar,cN,gC]);refine⟨by show((ae d.ZD n).map _).length=((ae d.ZD n).map _).length;simp,λv c=>?_,λv H b m o a j=>?_⟩;{(have a:=g v c;unfold gO at a;have:0<(gC d.ZD n).body.countP (λy=>y.toList==((gC d.ZD n).vars.getD v ⟨#[]⟩).toList):=by omega);obtain⟨y,r,s⟩:=List.countP_pos_iff.1 this;obtain⟨k,p,rfl⟩:=Wa r;refine⟨k,p,?_⟩;grind [je,wT,vT,kN]};{have c:=VH.1 (Wj a);rw[je _ _ m,wT f c]at a;rw[je _ _ o,wT f c]at j;grind [gO,CK,gC,vT,kN]}}
end
def lP(L K:Nat)(f:Nat->Nat->Nat):Vu:=(List.range (L*K)).map (λt=>f (t / K) (t % K))
theorem sc(a:H<u)(b:y<q):H*q+y<u*q:=by have:(H+1)*q<=u*q:=Ww _ a;grind
theorem qS(a:y<u):(H*u+y) / u=H:=by rw[YQ,Zc (by omega),Nat.div_eq_of_lt a,WY]
theorem qT(a:y<u):(H*u+y) % u=y:=by rw[YQ,Nat.mul_add_mod,Nat.mod_eq_of_lt a]
theorem CX:(lP F U O).length=F*U:=by simp[lP]
theorem SM(b:H<u)(a:y<q):(lP u q O)[H*q+y]?=some (O H y):=by grind [sc,lP,qS,qT]
def mH(f:Nat->Nat->Nat)(l c v:Nat):Nat->Nat->Nat:=λa b=>if a=l/\b=c then v else f a b
theorem OT(d:H<u)(c:y<q):(lP u q O).set (H*q+y) t=lP u q (mH O H y t):=by have f:=sc d c;apply WW;intro a;rw[List.getElem?_set];by_cases b:a<u*q;{(have e:(lP u q (mH O H y t))[a]?=some (mH O H y t (a / q) (a % q)):=by simp[lP,b]);rw[e,CX];by_cases h:H*q+y=a;{grind [qS,qT,mH]};{(rw[VL h];have g:¬(a / q=H/\a % q=y):=by rintro ⟨i,j⟩;have:=Nat.div_add_mod a q;grind);simp[lP,b,mH,g]}};grind [lP,CX,mH]
theorem OS{f g:Nat->Nat->Nat}(h:∀l c,l<H->c<y->f l c=g l c):lP H y f=lP H y g:=by (refine WB (λt a=>?_);have a:=VH.1 a;have b:0<y:=by grind);exact h _ _ (YH (by grind)) (Nat.mod_lt _ b)
structure cG(w:World)(g a L K:Nat)(f:Nat->Nat->Nat):Prop where
 ZF:w.heap[g]?=some (aK #[Y L,Y K,Q (some (aD a)) (L*K) (L*K)] 211)
 arr:zfj w a (lP L K f)
 ne:a≠g
section
variable {w w':World} {g a L K:Nat} {f f':Nat->Nat->Nat}
theorem cG.ZE{S:Vu}(h:cG w g a L K f)(k:ab S w w')(b:g∉S)(c:a∉S):cG w' g a L K f:=⟨k.get h.ZF b,k.get h.arr c,h.ne⟩
theorem cG.Zr(h:cG w g a L K f)(k:aJ w w'):cG w' g a L K f:=h.ZE k (by simp) (by simp)
theorem cG.ext(h:cG w g a L K f)(e:∀l c,l<L->c<K->f l c=f' l c):cG w g a L K f':=⟨h.ZF,by rw[<-OS e];exact h.arr,h.ne⟩
theorem cG.lt(h:cG w g a L K f):g<w.heap.size/\a<w.heap.size:=⟨ak h.ZF,ak h.arr⟩
theorem cG.cells(h:cG w g a L K f):bY w g 0 (Y L)/\bY w g 1 (Y K)/\bY w g 2 (Q (some (aD a)) (L*K) (L*K)):=by refine⟨?_,?_,?_⟩ <;> exact iY h.ZF rfl
theorem cG.cell(h:cG w g a L K f)(c:H<L)(b:y<K):w.cell? (X a (H*K+y))=some (Y (f H y)):=by rw[ay h.arr];grind [iG,SM]
theorem cG.set(h:cG w g a L K f)(v:Nat)(c:H<L)(b:y<K):cG (w.setCell (X a (H*K+y)) (Y v)) g a L K (mH f H y v):=by refine⟨?_,?_,h.ne⟩;{rw[VB _ _ _ _ (λe=>h.ne e.symm)];exact h.ZF};{show _=_;rw[ac h.arr,WL,<-OT f v c b];simp[iG]}
end
theorem rg(t:o<=1000000)(s:I<=1000) :
  br 103 #[Y o,Y I] M λe m=>∃g a,e=cA (bB g)/\cG m g a o I (λ_ _=>0)/\M.heap.size<=g/\M.heap.size<=a/\aJ M m:=by (obtain⟨x,f,j,k,w⟩:=VZ SZ;have u:o*I<=1000000*1000:=WP t s;have p:Z (lP o I (λ_ _=>0)=List.replicate (o*I) 0):=by show _=_;unfold lP;rw[List.map_const'];simp);obtain⟨n,i⟩:∃n,o*I=n:=⟨_,rfl⟩;(have v:(o:Int)*(I:Int)=(n:Int):=by omega);have z:=λM=>cq (P:=prog) M 46 3 x _ underlying46 f j n 1 k (by grind) (by omega);obtain⟨b,c⟩:=bR (madeCells (Y 0).cells (n*1));have d:Z (b=(iG (lP o I (λ_ _=>0))).toArray):=eE (by rw[p.o,i,<-c.o,Pe]);rw[c.o]at z;rw[i]at u;have A:Z _:=i;go_enter func103,ntmps103;go_wp2;go_ret;have y:aJ M (M.alloc (aK b 3)):=bH.alloc _;have l:aJ (M.alloc (aK b 3)) ((M.alloc (aK b 3)).alloc (aK #[Y o,Y I,Q (some (aD M.heap.size)) n n] 211)):=bH.alloc _;have q:(M.alloc (aK b 3)).heap[M.heap.size]?=some (aK b 3):=Vx _ _;have r:=Vx (M.alloc (aK b 3)) (aK #[Y o,Y I,Q (some (aD M.heap.size)) n n] 211);rw[show(M.alloc (aK b 3)).heap.size=M.heap.size+1 by simp]at r;refine⟨M.heap.size+1,M.heap.size,rfl,⟨by grind,?_,by omega⟩,by omega,by omega,y.trans l⟩;show _=_;rw[<-d.o];exact l.gt q
theorem Hz(h:cG M z z0 F U O)(i:F<=1000000)(b:U<=1000)(k:o<F)(j:I<U) :
  br 128 #[bB z,Y o,Y I] M (gG (Y (o*U+I:Nat)) M):=by obtain⟨f,g,-⟩:=h.cells;have c:=h.lt.1;have a:o*U<=1000000*1000:=WP (by omega) b;obtain⟨q,d⟩:∃q,o*U=q:=⟨_,rfl⟩;(have e:(o:Int)*(U:Int)=(q:Int):=by omega);rw[d]at a ⊢;go_enter func128,ntmps128;go_wp2;go_ret;exact⟨aH (by go_num),rfl⟩
theorem OX(a:V<0) :
  br 128 #[bB o,Y V,Y I] M (gG (Y (-1)) M):=by go_enter func128,ntmps128;go_wp2;go_ret;exact⟨rfl,rfl⟩
theorem CF(h:cG M z z0 F U O)(e:F<=1000000)(d:U<=1000)(c:o<F)(b:I<U) :
  br 106 #[bB z,Y o,Y I] M (gG (Y (O o I)) M):=by (have a:Z _:=Hz z z0 F U O o I M h e d c b;obtain⟨-,-,l⟩:=h.cells;have m:=h.cell c b;obtain⟨i,f⟩:=h.lt;have j:=sc c b;have g:F*U<=1000000*1000:=WP e d;generalize o*U+I=q at *;generalize F*U=n at *;generalize O o I=v at *;have k:(q:Int)<(n:Int):=by omega);go_enter func106,ntmps106;go_wp2_with (go_at_call 128;refine fz a ?_);go_ret;exact⟨rfl,rfl⟩
theorem zdS(b:V<0) :
  br 106 #[bB o,Y V,Y I] M (gG (Y 0) M):=by have a:Z _:=OX o V I M b;go_enter func106,ntmps106;go_wp2_with (go_at_call 128;refine fz a ?_);go_ret;exact⟨rfl,rfl⟩
def xT(v:Nat)(m:Int):Nat:=if 0<m then cp (v+m.toNat) else v
theorem wU(h:cG M z z0 F U O)(w:F<=1000000)(t:U<=1000)(j:R<F)(i:o<U)(N:O R o<=2)(hm:-2<=V/\V<=4) :
  br 127 #[bB z,Y R,Y o,Y V] M λe A=>e=cA (bool (decide (0<V) && !(O R o==2)))/\cG A z z0 F U (mH O R o (xT (O R o) V))/\ab [z0] M A:=by (have b:Z _:=Hz z z0 F U O R o M h w t j i;obtain⟨S,T,E⟩:=h.cells;have r:=h.cell j i;obtain⟨I,H⟩:=h.lt;have K:=h.ne;have k:=sc j i;have l:F*U<=1000000*1000:=WP w t;have c:Z _:=λ(v:Nat)=>h.set v j i;have d:Z (∀v u:Nat,cG ((M.setCell (X z0 (R*U+o)) (Y v)).setCell (X z0 (R*U+o)) (Y u)) z z0 F U (mH O R o u)):=λv u=>((h.set v j i).set u j i).ext (by grind [mH]);have a:Z (O R o=xT (O R o) V->cG M z z0 F U (mH O R o (xT (O R o) V))):=λe=>h.ext (λx y _ _=>by grind [mH]);have m:M.frozen? (X z0 (R*U+o))=false:=aE h.arr _;have P:Z _:=h;obtain⟨v,D⟩:=bR (O R o);rw[D.o]at r N a ⊢;obtain⟨q,C⟩:=bR (R*U+o);rw[C.o]at r k b c d m;obtain⟨n,B⟩:=bR (F*U);rw[B.o]at E k l;have L:(q:Int)<(n:Int):=by omega);by_cases G:0<V;{by_cases s:v=2;{have p:((v:Int)==2)=true:=(by simp[s]);have f:Z (v=xT v V):=eE (by grind [xT,cp]);have g:Z ((decide (0<V) && !(v==2))=false):=eE (by simp[s]);go_enter func127,ntmps127;go_wp2_with (go_at_call 128;refine fz b ?_);go_ret;exact⟨aT g.o.symm,a f,ab.refl _ _⟩};{have p:((v:Int)==2)=false:=(by grind);have g:Z ((decide (0<V) && !(v==2))=true):=eE (by grind);by_cases W:2<(v:Int)+V;{have f:Z (xT v V=2):=(by show _=_;grind [xT,cp]);go_enter func127,ntmps127;go_wp2_with (go_at_call 128;refine fz b ?_);go_ret;refine⟨aT g.o.symm,?_,((ab.refl [z0] M).sl1 _).sl1 _⟩;have:=d (v+V.toNat) 2;rw[show(((v+V.toNat:Nat)):Int)=(v:Int)+V by omega]at this;rw[f.o];exact this};{have f:Z ((xT v V:Int)=v+V):=(by show _=_;grind [xT,cp]);go_enter func127,ntmps127;go_wp2_with (go_at_call 128;refine fz b ?_);go_ret;refine⟨aT g.o.symm,?_,(ab.refl [z0] M).sl1 _⟩;have:=c (xT v V);rw[f.o]at this;exact this}}};{(have f:Z (v=xT v V):=by show _=_;grind [xT]);have g:Z ((decide (0<V) && !(v==2))=false):=eE (by simp[G]);go_enter func127,ntmps127;go_wp2_with (go_at_call 128;refine fz b ?_);go_ret;exact⟨aT g.o.symm,a f,ab.refl _ _⟩}
structure mw where
 ZH:Vq
 code:Nat
 ap:Nat
 np:Nat
 ag:Vt
 gs:Vu
def pdV(p:mw):List Value:=[J p.ZH,Y p.code,Q (some (aD p.ap)) p.np p.np,Q p.ag p.gs.length p.gs.length]
def Az(p:mw):Value:=agg #[J p.ZH,Y p.code,Q (some (aD p.ap)) p.np p.np,Q p.ag p.gs.length p.gs.length]
def ptD(vs:Vs)(s:Vq):List Value:=[J s,Y (da (aG vs s))]
structure od(w:World)(codes:Vs)(p:mw)(P:dV):Prop where
 lab:p.ZH=P.ZH
 cod:aG codes P.code=some p.code
 np:p.np=P.body.length
 parts:uA w (some (aD p.ap)) 2 (ptD P.vars) P.body
 ng:p.gs.length=P.types.length
 len:P.vars.length=P.types.length
 gaps:wD w p.ag p.gs
 typ:∀v (h:v<p.gs.length),aG codes (P.types.getD v ⟨#[]⟩)=some p.gs[v]
theorem od.Zr{w a:World}{p:mw}{P:dV}(h:od w z4 p P)(k:aJ w a):od a z4 p P:=⟨h.lab,h.cod,h.np,h.parts.Zr k,h.ng,h.len,h.gaps.Zr k,h.typ⟩
structure wt(w:World)(gm:Nat)(codes:Vs)(Ps:List dV)(L:List mw)(hc hp:Hd):Prop where
 ZF:w.heap[gm]?=some (aK #[Q hc.ao codes.length hc.cap,Q hp.ao L.length hp.cap] 134)
 cod:cC w hc codes
 prd:uA w hp.ao 4 pdV L
 cap:L.length<=hp.cap
 len:L.length=Ps.length
 each:∀(n:Nat) (p:mw) (P:dV),L[n]?=some p->Ps[n]?=some P->od w codes p P
section
variable {w w':World} {gm:Nat} {codes:Vs} {Ps:List dV} {L:List mw} {hc hp:Hd}
theorem wt.Zr(h:wt w gm codes Ps L hc hp)(k:aJ w w'):wt w' gm codes Ps L hc hp:=⟨k.gt h.ZF,h.cod.Zr k,h.prd.Zr k,h.cap,h.len,λn p P a b=>(h.each n p P a b).Zr k⟩
theorem wt.cells(h:wt w gm codes Ps L hc hp):bY w gm 0 (Q hc.ao codes.length hc.cap)/\bY w gm 1 (Q hp.ao L.length hp.cap):=by refine⟨?_,?_⟩ <;> exact iY h.ZF rfl
theorem wt.lt(h:wt w gm codes Ps L hc hp):gm<w.heap.size:=ak h.ZF
end
theorem wH(a:List dV)(L:List mw)(b d:Hd)(w:World)(h:wt w z x a L b d) :
  br 104 #[bB z] w (gG (Y x.length) w):=by have⟨e,_⟩:=h.cells;have c:=h.lt;go_enter func104,ntmps104;go_wp2;go_ret;exact⟨rfl,rfl⟩
theorem GF(a:List dV)(L:List mw)(b d:Hd)(w:World)(h:wt w z x a L b d) :
  br 107 #[bB z] w (gG (Y L.length) w):=by have⟨_,e⟩:=h.cells;have c:=h.lt;go_enter func107,ntmps107;go_wp2;go_ret;exact⟨rfl,rfl⟩
theorem CV(l:Hd)(c:Vq)(w:World)(u:bY w z 0 (Q l.ao x.length l.cap))(p:z<w.heap.size)(v:cC w l x)(N:x.length<=1073741824) :
  br 82 #[bB z,J c] w (gG (Y (da (aG x c))) w):=by have⟨s,d⟩:=bR (l.ao);rw[d.o]at u;go_enter func82,ntmps82;go_wp2;go_loopg [5] x.length (λg i wr=>∃k:Nat,k<=x.length/\g=x.length-k/\i=Y k/\Z (∀i,i<k->((x.getD i ⟨#[]⟩).toList==c.toList)=false)/\wr=w);{exact⟨0,by omega,by omega,rfl,λi r=>by omega,rfl⟩};obtain⟨k,M,L,rfl,a,rfl⟩:=hrel;by_cases b:k<x.length;{rcases v with C | ⟨g,f,A,t,B,n,q,I,K⟩;{rw[C]at b;simp at b};{have H:bY wr g (f+k) (J x[k]):=iY n (q k x[k] (by simp));obtain rfl:s=some (X g f):=d.o.symm.trans B;have j:Z _:=mC x k b;have p:=ak n;have E:(k:Int)<x.length:=(by omega);generalize x[k]=y at *;clear n q;cases D:(y.toList==c.toList);{(have G:Z (∀i,i<k+1->((x.getD i ⟨#[]⟩).toList==c.toList)=false):=by intro i r;by_cases e:i=k;{subst e;rwa [j.o]};{exact a i (by omega)});clear j;go_wp2;go_roundg (x.length-(k+1));{grind};omega};{have m:Z (aG x c=some k):=gP b (j.o ▸ D) a;clear j;go_wp2;go_ret;exact⟨aH (by rw[m.o];rfl),rfl⟩}}};{(have m:Z (aG x c=none):=iI (λi r=>a i (by omega));have F:¬(k:Int)<x.length:=by omega);go_wp2;go_ret;exact⟨aH (by rw[m.o];rfl),rfl⟩}
theorem rx(b:List dV)(L:List mw)(f m:Hd)(n:Nat)(s:n<L.length)(w:World)(h:wt w z x b L f m) :
  br 108 #[bB z,Y n] w (mu (Az L[n]) w):=by (have⟨_,c⟩:=h.cells;have k:=h.lt;have i:=h.cap;have⟨g,e,j,a⟩:=h.prd n L[n] (by simp);have d:=a 0 _ rfl;have o:=a 1 _ rfl;have q:=a 2 _ rfl;have r:=a 3 _ rfl;rw[WY]at d;rw[e]at c;have l:(n:Int)<L.length:=by omega);unfold Az;generalize L[n]=p at *;go_enter func108,ntmps108;go_wp2;exact VQ (v:=agg #[J p.ZH,Y p.code,Q (some (aD p.ap)) p.np p.np,Q p.ag p.gs.length p.gs.length]) (by simp[results,results108,go_sem]) rfl ⟨rfl,(ab.refl ..).alloc _⟩
def xF(S:Nat)(G:Nat->Nat->Nat->Nat):Nat->Nat->Nat:=λl e=>G (l / S) (l % S) e
structure fO(w:World)(c gm:Nat)(hs:Hd)(tx:Vs)(cg ca nc:Nat)(G:Nat->Nat->Nat->Nat):Prop where
 ZF:w.heap[c]?=some (aK #[bB gm,Q hs.ao tx.length hs.cap,Y (tx.length+1:Nat),bB cg] 173)
 cnt:cG w cg ca (nc*(tx.length+1)) (tx.length+1) (xF (tx.length+1) G)
section
variable {w w':World} {c gm cg ca nc:Nat} {hs:Hd} {tx:Vs} {G:Nat->Nat->Nat->Nat}
theorem fO.Zr(h:fO w c gm hs tx cg ca nc G)(k:aJ w w'):fO w' c gm hs tx cg ca nc G:=⟨k.gt h.ZF,h.cnt.Zr k⟩
theorem fO.cells(h:fO w c gm hs tx cg ca nc G):bY w c 0 (bB gm)/\bY w c 1 (Q hs.ao tx.length hs.cap)/\bY w c 2 (Y (tx.length+1:Nat))/\bY w c 3 (bB cg):=by refine⟨?_,?_,?_,?_⟩ <;> exact iY h.ZF rfl
theorem fO.lt(h:fO w c gm hs tx cg ca nc G):c<w.heap.size:=ak h.ZF
end
set_option maxRecDepth 100000
theorem qI(h:fO M z1 z3 z5 T z z0 F W)(y:F*(T.length+1)<=1000000)(H:T.length<=100)(x:R<F)(m:o<T.length+1)(n:I<T.length+1) :
  br 83 #[bB z1,Y R,agg #[Y o,Y I]] M λf k=>f=cA (Y (W R o I))/\aJ M k:=by (have⟨r,e⟩:=bR (M.alloc (aK #[Y o,Y I] 141));have p:=fU e;have l:=gV e;have⟨D,E⟩:=sL l;have j:=ak l;have g:=h.Zr p;have⟨_,_,s,G⟩:=g.cells;have w:=g.lt;have i:=sc x m;have a:Z (∀c,aJ r c->br 106 #[bB z,Y (R*(T.length+1)+o:Nat),Y I] c λf k=>f=cA (Y (W R o I))/\k=c):=λc q=>by have:=CF z z0 (F*(T.length+1)) (T.length+1) (xF (T.length+1) W) (R*(T.length+1)+o) I c (g.cnt.Zr q) y (by omega) i n;rw[show xF (T.length+1) W (R*(T.length+1)+o) I=W R o I by grind [xF,qS,qT]]at this;exact this);have d:Z _:=p;have⟨S,t⟩:∃S,T.length+1=S:=⟨_,rfl⟩;rw[t]at s m n i a;have⟨q,A⟩:∃q,R*S=q:=⟨_,rfl⟩;(have B:(R:Int)*(S:Int)=(q:Int):=by omega);(rw[A]at i a;simp[Int.natCast_add]at a;have C:q<=1000000:=by grind);(have⟨K,b⟩:=bR (M.heap.size);rw[b.o]at D E j;have v:(o:Int)<(S:Int):=by omega);(have u:decide ((o:Int)<0)=false:=by rfl);go_enter func83,ntmps83;go_upto_region 1 with fail;rw[e.o,b.o];go_quiet (fail);go_upto_region 3 with fail;go_quiet ((go_at_call 106;exact m9 (a _ (bH.drewN _))));go_wp2;go_ret;exact⟨rfl,(d.o.drewN _).drewN _⟩
theorem Ge(h:aG z4 N=some H)(i j:Nat):CG z4 zn N i j=zn H i j:=by unfold CG;rw[h]
theorem G5(p:mw)(P:dV)(k i j:Nat)(w:World)(h:fO w z1 z3 z5 T z0 F x.length W)(s:od w x p P)(O:cC w z5 T)(hn:x.length*(T.length+1)<=1000000)(ht:T.length<=100)(hk:k<P.body.length)(av:P.body.length<=1000000)(hi:i<T.length+1)(hj:j<T.length+1) :
  Calls prog 129 #[pointer (some ⟨z1,0,none⟩),Az p,int i64 k,agg #[int i64 i,int i64 j]] w λe S=>e=returned (int i64 (dn T (CG x W) P P.body[k] i j))/\ab [] w S:=by (have⟨l,C⟩:=bR ((w.alloc (.cells #[string p.ZH,int i64 p.code,slice (some ⟨p.ap,0,none⟩) p.np p.np,slice p.ag p.gs.length p.gs.length] 163)).alloc (.cells #[int i64 i,int i64 j] 141));have R:ab [] w (w.alloc (.cells #[string p.ZH,int i64 p.code,slice (some ⟨p.ap,0,none⟩) p.np p.np,slice p.ag p.gs.length p.gs.length] 163)):=bH.alloc _;have A:ab [] w l:=by rw[<-C.o];exact R.alloc _);(have E:l.heap[w.heap.size]?=some (.cells #[string p.ZH,int i64 p.code,slice (some ⟨p.ap,0,none⟩) p.np p.np,slice p.ag p.gs.length p.gs.length] 163):=by rw[<-C.o];exact(bH.alloc _).gt (Vx w _));(have G:l.heap[w.heap.size+1]?=some (.cells #[int i64 i,int i64 j] 141):=by rw[<-C.o];have:=Vx (w.alloc (.cells #[string p.ZH,int i64 p.code,slice (some ⟨p.ap,0,none⟩) p.np p.np,slice p.ag p.gs.length p.gs.length] 163)) (.cells #[int i64 i,int i64 j] 141);simp_all);have D:=h.Zr A;have c:=s.Zr A;have⟨g,e1,a6,b⟩:=c.parts k P.body[k] (by simp);cases e1;(have d0:=b 0 _ rfl;have N:=b 1 _ rfl;rw[WY]at d0;have n:=s.np;have⟨_,_,p2,p3⟩:=RH E;have⟨s0,s1⟩:=sL G;have af:=ak E;have K:=ak G;have⟨_,c1,_,_⟩:=D.cells;have ax:=D.lt;have a:Z _:=A;have⟨sb,f⟩:=bR (w.heap.size+1);rw[f.o]at s0 s1 K;have⟨pb,d⟩:=bR (w.heap.size);rw[d.o]at p2 p3 af;have a9:(k:Int)<(p.np:Int):=by omega);(have bb:p.np<=1000000:=by omega);unfold Az;cases u:aG P.vars P.body[k] with|some v=>{(have ai:v<p.gs.length:=by rw[s.ng,<-s.len];exact VH.1 (Wj u));(have L:=s.typ v ai;have r:Z (dn T (CG x W) P P.body[k] i j=W p.gs[v] i j):=eE (by rw[qO u,Ge L]);have⟨gg,e2,U,az⟩:=c.gaps v p.gs[v] (by simp);have ah:Z _:=λB (q:ab [] l B)=>qI z1 z3 z5 T z0 F x.length W p.gs[v] i j B (D.Zr q) hn ht (VH.1 (Wj L)) hi hj;rw[r.o];rw[e2]at p3;clear e2;rw[u]at N;replace N:l.cell? ⟨p.ap,k*2+1,none⟩=some (int i64 (v:Int)):=N;generalize p.gs[v]=kc at *;have bc:(v:Int)<(p.gs.length:Int):=by omega);(generalize W kc i j=bd at *;have HC:Z (∀B,ab [] l B->B.cell? ⟨pb,3,none⟩=some (slice (some ⟨gg,0,none⟩) p.gs.length p.gs.length)/\B.cell? ⟨gg,v,none⟩=some (int i64 kc)/\B.cell? ⟨sb,0,none⟩=some (int i64 i)/\B.cell? ⟨sb,1,none⟩=some (int i64 j)):=λB q=>by refine⟨?_,?_,?_,?_⟩;{rwa [WE (q.block _ af (by simp))]};{rwa [WE (q.block _ U (by simp))]};{rwa [WE (q.block _ K (by simp))]};{rwa [WE (q.block _ K (by simp))]});clear h s D c b E G A R n r u L O;go_enter func129,ntmps129;go_upto_region 1 with fail;rw[C.o,f.o,d.o];go_upto_region 5 with fail;go_region_held3 (λS=>S.cell? ⟨pb,3,none⟩=some (slice (some ⟨gg,0,none⟩) p.gs.length p.gs.length)/\S.cell? ⟨gg,v,none⟩=some (int i64 kc)/\S.cell? ⟨sb,0,none⟩=some (int i64 i)/\S.cell? ⟨sb,1,none⟩=some (int i64 j)) (go_keep) ((go_at_call 83;refine eJ (ah.o _ (by exact(ab.refl [] l).drew)) λw3 k3=>?_;have⟨x0,x1,x2,x3⟩:=HC.o w3 ((ab.refl [] l).drew.trans k3)));go_wp2;go_ret;exact⟨rfl,a.o.trans ((ab.refl [] l).drew.trans k3)⟩}|none=>(rw[u]at N;replace N:l.cell? ⟨p.ap,k*2+1,none⟩=some (int i64 (-1)):=N;have m:dn T (CG x W) P P.body[k] i j=if j=i+1/\i<T.length/\((T.getD i ⟨#[]⟩).toList==P.body[k].toList)=true then 1 else 0:=by unfold dn;rw[u]);(have a7:decide ((i:Int)<0)=false:=by rfl);have M:=O.Zr A;generalize P.body[k]=y at *;by_cases I:i<T.length;{have an:decide (T.length<=i)=false:=(by grind);by_cases V:j=i+1;{rcases M with h0 | ⟨gt,am,aq,t,a1,a2,a3,a4,a5⟩;{rw[h0]at I;simp at I};{have t0:l.cell? ⟨gt,am+i,none⟩=some (string T[i]):=iY a2 (by grind);have a0:=ak a2;rw[a1]at c1;have H:=je T i I;rw[H]at m;have a8:(i:Int)<T.length:=(by omega);have ad:((j:Int) != (i:Int)+1)=false:=(by grind);generalize T[i]=z at *;cases hb:(z.toList==y.toList);{have r:Z (dn T (CG x W) P y i j=0):=(by show _=_;grind);rw[r.o];clear h s D c b E G A R n m u O H a1 a2 a3 a4 a5 V;go_enter func129,ntmps129;(go_upto_region 1 with fail);rw[C.o,f.o,d.o];(go_upto_region 6 with fail);go_quiet (fail);(go_upto_region 8 with fail);go_quiet (fail);go_wp2;go_ret;exact⟨rfl,by first | exact a.o.drewN _ | exact(a.o.drewN _).drewN _⟩};{have r:Z (dn T (CG x W) P y i j=1):=(by show _=_;grind);rw[r.o];clear h s D c b E G A R n m u O H a1 a2 a3 a4 a5 V;go_enter func129,ntmps129;(go_upto_region 1 with fail);rw[C.o,f.o,d.o];(go_upto_region 6 with fail);go_quiet (fail);(go_upto_region 8 with fail);go_quiet (fail);go_wp2;go_ret;exact⟨rfl,by first | exact a.o.drewN _ | exact(a.o.drewN _).drewN _⟩}}};{have ad:(((j:Nat):Int) != (i:Int)+1)=true:=(by grind);have r:Z (dn T (CG x W) P y i j=0):=eE (by grind);rw[r.o];clear h s D c b E G A R n m u O M;go_enter func129,ntmps129;(go_upto_region 1 with fail);rw[C.o,f.o,d.o];(go_upto_region 6 with fail);go_quiet (fail);go_wp2;go_ret;exact⟨rfl,by first | exact a.o.drewN _ | exact(a.o.drewN _).drewN _⟩}};{have ao:(T.length:Int)<=(i:Int):=(by omega);have r:Z (dn T (CG x W) P y i j=0):=eE (by grind);rw[r.o];clear h s D c b E G A R n m u O M;go_enter func129,ntmps129;(go_upto_region 1 with fail);rw[C.o,f.o,d.o];(go_upto_region 6 with fail);go_quiet (fail);go_wp2;go_ret;exact⟨rfl,by first | exact a.o.drewN _ | exact(a.o.drewN _).drewN _⟩}
theorem zdI(h:∀k i j,zn k i j<=2)(c:Vq)(i j:Nat):CG z4 zn c i j<=2:=by grind [CG]
def BU(tx:Vs)(C:or)(P:dV)(b k m:Nat):Nat->Nat->Nat:=λr e =>
 if r<=k then cp (wy (tx.length+1) (dn tx C P) (P.body.take r) b e) else if r=k+1 then Nj tx C P b k m e else 0
def JP(tx:Vs)(C:or)(P:dV)(b k m E:Nat):Nat->Nat->Nat:=λr e =>
 if r<=k then cp (wy (tx.length+1) (dn tx C P) (P.body.take r) b e) else if r=k+1 then(if e<E then Nj tx C P b k (m+1) e else Nj tx C P b k m e) else 0
def Gb(tx:Vs)(C:or)(P:dV)(b:Nat):Nat->Nat->Nat:=λr e=>cp (wy (tx.length+1) (dn tx C P) (P.body.take r) b e)
section
variable {tx:Vs} {C:or} {P:dV} {b k m E r e:Nat}
theorem KG:Nj tx C P b k m e<=2:=xB _
theorem zc3:JP tx C P b k m E r e<=2:=by grind [JP,xB,KG]
theorem zap(t:mQ C):JP tx C P b k m (b+m) r e=BU tx C P b k m r e:=by grind [JP,BU,zbw]
theorem ze5(a:e<E):JP tx C P b k m E r e=BU tx C P b k (m+1) r e:=by grind [JP,BU]
theorem zc4(a:cp (wy (tx.length+1) (dn tx C P) (P.body.take k) b (b+m))=0):BU tx C P b k m r e=BU tx C P b k (m+1) r e:=by grind [BU,Nj,EF,te,KG]
theorem ze6(t:mQ C)(g:k<P.body.length)(d:b<tx.length+1)(f:e<tx.length+1):BU tx C P b k (tx.length+1-b) r e=BU tx C P b (k+1) 0 r e:=by unfold BU;by_cases a:r<=k;{grind};{rw[VL a];by_cases c:r=k+1;{grind [zbv]};{rw[VL c,iNg];split;{rfl};{rfl}}}
theorem zan:BU tx C P b 0 0 r e=mH (λ_ _=>0) 0 b 1 r e:=by unfold BU mH;by_cases a:r=0;{subst a;rw[VK (Vw _)];show cp (if b=e then 1 else 0)=_;by_cases h:b=e;{rw[VK h,VK ⟨rfl,h.symm⟩];rfl};{rw[VL h,iNg];rfl}};{rw[iNg,VL (λq:r=0/\e=b=>a q.1)];split <;> rfl}
theorem zao(d:t=cp (wy (tx.length+1) (dn tx C P) (P.body.take k) b (b+m))*dn tx C P (P.body.getD k ⟨#[]⟩) (b+m) E):mH (JP tx C P b k m E) (k+1) E (xT (JP tx C P b k m E (k+1) E) t) r e=JP tx C P b k m (E+1) r e:=by (have a:JP tx C P b k m E (k+1) E=Nj tx C P b k m E:=by grind [JP]);(have c:xT (Nj tx C P b k m E) t=Nj tx C P b k (m+1) E:=by grind [xT,EF,te,KG]);grind [mH,JP]
end
theorem JM(p:mw)(P:dV)(b:Nat)(w:World)(h:fO w z1 z3 z5 T z0 F x.length W)(hp:od w x p P)(hv:cC w z5 T)(hn:x.length*(T.length+1)<=1000000)(ht:T.length<=100)(bb:P.body.length<=100000)(hb:b<T.length+1)(B:∀k i j,W k i j<=2)(bh:mQ (CG x W)) :
  br 109 #[bB z1,Az p,Y b] w λe V=>∃g a,e=cA (bB g)/\cG V g a (P.body.length+1) (T.length+1) (Gb T (CG x W) P b)/\w.heap.size<=g/\w.heap.size<=a/\aJ w V:=by
 (have⟨y,HW⟩:=bR (w.alloc (aK #[J p.ZH,Y p.code,Q (some (aD p.ap)) p.np p.np,Q p.ag p.gs.length p.gs.length] 163));have kW:=fU HW;have BP:y.heap[w.heap.size]?=some (aK #[J p.ZH,Y p.code,Q (some (aD p.ap)) p.np p.np,Q p.ag p.gs.length p.gs.length] 163):=by rw[<-HW.o];exact Vx ..)
 have M:=h.Zr kW;have A:Z (∀(k:Nat) (_:k<P.body.length) (i j:Nat) (c:World),i<T.length+1->j<T.length+1->aJ y c->br 129 #[bB z1,agg #[J p.ZH,Y p.code,Q (some (aD p.ap)) p.np p.np,Q p.ag p.gs.length p.gs.length],Y k,agg #[Y i,Y j]] c (mu (Y (dn T (CG x W) P (P.body.getD k ⟨#[]⟩) i j)) c)) :=
  λk I i j c hi hj q=>by rw[je _ _ I];exact G5 z1 z3 z5 T x z0 F W p P k i j c (M.Zr q) ((hp.Zr kW).Zr q) ((hv.Zr kW).Zr q) hn ht I (by omega) hi hj
 (have d:Z (∀c,aJ y c->(bY c w.heap.size 0 (J p.ZH)/\bY c w.heap.size 1 (Y p.code)/\bY c w.heap.size 2 (Q (some (aD p.ap)) p.np p.np)/\bY c w.heap.size 3 (Q p.ag p.gs.length p.gs.length))/\bY c z1 2 (Y (T.length+1:Nat))/\w.heap.size<c.heap.size/\z1<c.heap.size):=λc q=>by have B2:=q.gt BP;refine⟨⟨?_,?_,?_,?_⟩,(M.Zr q).cells.2.2.1,ak B2,(M.Zr q).lt⟩ <;> exact iY B2 rfl);(have HT:Z _:=bh;have af:Z (∀s i j,dn T (CG x W) P s i j<=2):=λs i j=>Sm (zdI B) s i j;have az:=hp.np;have K:Z _:=kW;have⟨pb,ao⟩:=bR (w.heap.size);rw[ao.o]at d;have⟨⟨_,_,p2,_⟩,c2,be,N⟩:=d y (ab.refl ..);have⟨n,HN⟩:=bR (P.body.length);rw[HN.o]at az bb A ⊢;have⟨C,HC⟩:=bR (CG x W);rw[HC.o]at A HT af ⊢;have an:Z _:=rg (n+1) (T.length+1);have⟨S,U⟩:=bR (T.length+1);rw[U.o]at hb A d c2 an;have hS:S<=101:=by rw[<-U.o];omega);unfold Az;rw[az]at p2 HW A d ⊢;go_enter func109,ntmps109;go_upto_region 1 with fail;rw[HW.o,ao.o];go_upto_region 3 with (go_at_call 103;refine VC (an y (by omega) (by omega)) ?_;rintro e w1 ⟨g,a,rfl,bc,lg,la,k1⟩);(have aq:Z (∀(f:Nat->Nat->Nat) (l e:Nat) (m:Int) (c:World),cG c g a (n+1) S f->aJ y c->l<n+1->e<S->f l e<=2->-2<=m/\m<=4->br 127 #[bB g,Y l,Y e,Y m] c λe' V=>(∃r,e'=cA (bool r))/\cG V g a (n+1) S (mH f l e (xT (f l e) m))/\aJ y V):=λf l e m c h1 B h3 h4 h5 h6=>by refine(wU g a (n+1) S f l e m c h1 (by omega) (by omega) h3 h4 h5 h6).mono ?_;rintro e' V ⟨he,hg,I⟩;exact⟨⟨_,he⟩,hg,⟨I.os.trans B.os,I.tape.trans B.tape,I.output.trans B.output,VU B.size I.size,λi hi _=>(I.block i (VD hi B.size) (by simp;omega)).trans (B.block i hi (by simp))⟩⟩);have a2:Z _:=λ(f:Nat->Nat->Nat) (l:Nat) (e:Nat) (c:World) (h1:cG c g a (n+1) S f) (B:l<n+1) (h3:e<S)=>CF g a (n+1) S f l e c h1 (by omega) (by omega) B h3;have⟨a7,am⟩:=nM (aq (λ_ _=>0) 0 b 1 w1 bc k1 (by omega) hb (by omega) (by omega)) (⟨lg,la⟩:y.heap.size<=g/\y.heap.size<=a);go_upto_region 4 with (go_at_call 127;refine VC a7 ?_;rintro e2 w2 ⟨⟨r2,rfl⟩,nM,k2⟩);have bm:Z (cG w2 g a (n+1) S (BU T C P b 0 0)):=nM.ext (λr e _ _=>by rw[zan];rfl);have bo:Z _:=k2;go_wp2;go_loopg [9] n (λgk kv wr=>∃k:Nat,k<=n/\gk=n-k/\kv=Y k/\Z (cG wr g a (n+1) S (BU T C P b k 0))/\Z (aJ y wr));{grind};obtain⟨k,I,b2,rfl,ah,ai⟩:=hrel;rcases kn k n with ⟨R,b3⟩ | ⟨R,b4⟩
 ·(have bd:k<P.body.length:=by rw[HN.o];exact R);go_wp2;go_loopg [10] (S-b) (λg2 fv wf=>∃f m:Nat,b+m=f/\f<=S/\g2=S-f/\fv=Y f/\Z (cG wf g a (n+1) S (BU T C P b k m))/\Z (aJ y wf));{exact⟨b,0,rfl,by omega,rfl,rfl,ah,ai⟩};obtain⟨f,m,hf,bx,nM,rfl,D,H⟩:=hrel;obtain⟨-,c2,-,N⟩:=d _ H;rcases kn f S with ⟨O,b0⟩ | ⟨O,b1⟩;{have HA:Z _:=a2 _ k f _ D (by omega) O;have HV:Z (BU T C P b k m k f=cp (wy (T.length+1) (dn T C P) (P.body.take k) b f)):=eE (by simp[BU]);have a0:cp (wy (T.length+1) (dn T C P) (P.body.take k) b f)<=2:=xB _;rw[HV.o]at HA;have⟨v,L⟩:=bR (cp (wy (T.length+1) (dn T C P) (P.body.take k) b f));rw[L.o]at HA a0;by_cases bf:v=0;{subst bf;have a6:Z (cG _ g a (n+1) S (BU T C P b k (m+1))):=D.o.ext (λr e _ _=>zc4 (hf ▸ L));(go_upto_region 11 with (go_at_call 106;refine fz HA ?_));go_wp2;go_loopg [12] 0 (λg3 ev c=>g3=0/\ev=Y f/\Z (cG c g a (n+1) S (BU T C P b k (m+1)))/\Z (aJ y c));{exact⟨rfl,rfl,a6,H⟩};obtain⟨yJ,rfl,G,t⟩:=hrel;obtain⟨-,c2,-,N⟩:=d _ t;go_wp2;go_roundg (S-(f+1));{exact⟨f+1,m+1,by omega,by omega,rfl,by go_num,G,t⟩};omega};{have bl:(v:Int) > 0:=(by omega);have a9:Z (cG _ g a (n+1) S (JP T C P b k m f)):=D.o.ext (λr e _ _=>by rw[<-hf];exact(zap HT).symm);(go_upto_region 11 with (go_at_call 106;refine fz HA ?_));go_wp2;go_loopg [12] (S-f) (λg3 ev c=>∃E:Nat,f<=E/\E<=S/\g3=S-E/\ev=Y E/\Z (cG c g a (n+1) S (JP T C P b k m E))/\Z (aJ y c));{exact⟨f,by omega,by omega,rfl,rfl,a9,H⟩};obtain⟨E,bw,bq,yJ,rfl,G,t⟩:=hrel;obtain⟨⟨q0,q1,q2,q3⟩,c2,be,N⟩:=d _ t;rcases kn E S with ⟨hE,bs⟩ | ⟨hE,bv⟩;{have HF:Z _:=A k R f E _ O hE t;have av:=af (P.body.getD k ⟨#[]⟩) f E;have⟨a1,ad⟩:=bR (dn T C P (P.body.getD k ⟨#[]⟩) f E);rw[ad.o]at HF av;have bg:v*a1<=2*2:=WP a0 av;have⟨z,hz⟩:∃z,v*a1=z:=⟨_,rfl⟩;have b5:(v:Int)*(a1:Int)=(z:Int):=(by omega);have a3:Z (z=cp (wy (T.length+1) (dn T C P) (P.body.take k) b f)*dn T C P (P.body.getD k ⟨#[]⟩) f E):=eE (by rw[L.o,ad.o];omega);rw[hz]at bg;have a4:Z _:=G;(go_upto_region 15 with (go_at_call 129;refine eJ HF λw4 k4=>?_));have ax:=t.o.trans k4;have a8:Z _:=(aq _ (k+1) E z w4 (a4.o.Zr k4) ax (by omega) hE zc3 (by omega));have a5:Z (∀c,cG c g a (n+1) S (mH (JP T C P b k m E) (k+1) E (xT (JP T C P b k m E (k+1) E) z))->cG c g a (n+1) S (JP T C P b k m (E+1))):=λc q=>q.ext (λr e _ _=>zao z (hf ▸ a3));have⟨_,bp,_,bk⟩:=d _ ax;go_wp2_with (go_at_call 127;refine VC a8 ?_;rintro e5 w5 ⟨⟨r5,rfl⟩,mK,k5⟩);go_roundg (S-(E+1));{exact⟨E+1,by omega,by omega,rfl,by go_num,a5 _ mK,k5⟩};omega};{have u:Z (cG _ g a (n+1) S (BU T C P b k (m+1))):=G.o.ext (λr e _ he=>ze5 (by omega));go_wp2;go_roundg (S-(f+1));{exact⟨f+1,m+1,by omega,by omega,rfl,by go_num,u,t⟩};omega}}}
  ·have u:Z (cG _ g a (n+1) S (BU T C P b (k+1) 0)):=D.o.ext (λr e _ he=>by
    have:=ze6 (r:=r) (e:=e) HT bd (U.o ▸ hb) (U.o ▸ he);rw[U.o,show S-b=m by omega]at this
    omega)
   go_wp2;go_roundg (n-(k+1));{exact⟨k+1,by omega,rfl,by go_num,u,H⟩};omega
 {have u:Z (cG _ g a (n+1) S (Gb T C P b)):=ah.o.ext (λr e hr _=>by unfold BU Gb;rw[VK (by omega)]);go_wp2;go_ret;rw[<-U.o]at u;exact⟨g,rfl,a,u,by have:=am.o;have:=K.o.size;omega,by have:=am.o;have:=K.o.size;omega,K.o.trans ai⟩}
def qn(tx:Vs)(Ps:List dV)(C:or)(codes:Vs)(b n:Nat):Nat->Nat->Nat:=λk e=>cp (BN (za tx C (codes.getD k ⟨#[]⟩) b e) (Ps.take n))
def Cp(tx:Vs)(Ps:List dV)(C:or)(codes:Vs)(b n kc E:Nat):Nat->Nat->Nat:=λk e=>if k=kc/\¬e<E then qn tx Ps C codes b n k e else qn tx Ps C codes b (n+1) k e
section
variable {tx:Vs} {Ps:List dV} {C:or} {codes:Vs} {b n kc E k e:Nat}
theorem ug:qn tx Ps C codes b n k e<=2:=xB _
theorem zcp:Cp tx Ps C codes b n kc E k e<=2:=by grind [Cp,ug]
theorem Fu(a:n<Ps.length):qn tx Ps C codes b (n+1) k e=cp (qn tx Ps C codes b n k e+za tx C (codes.getD k ⟨#[]⟩) b e Ps[n]):=by unfold qn;rw[VY a,zcA,M3];rfl
theorem ze7{P:dV}(d:BD codes)(c:aG codes P.code=some kc)(f:k<codes.length)(g:k≠kc):za tx C (codes.getD k ⟨#[]⟩) b e P=0:=by have a:=VH.1 (Wj c);have i:=(wT d a P.code).1 c;have j:=d.ne a f (by omega);grind [za,kN]
theorem Od{P:dV}(d:BD codes)(a:aG codes P.code=some kc):za tx C (codes.getD kc ⟨#[]⟩) b e P=pD tx C P b e:=by have c:=VH.1 (Wj a);grind [wT,za,vT,kN]
theorem zcq(g:n<Ps.length)(d:BD codes)(c:aG codes Ps[n].code=some kc)(f:k<codes.length)(a:k≠kc):qn tx Ps C codes b (n+1) k e=qn tx Ps C codes b n k e:=by grind [Fu,ze7,te,ug]
theorem UF(t:mQ C)(f:n<Ps.length)(c:BD codes)(a:aG codes Ps[n].code=some kc)(d:k<codes.length):Cp tx Ps C codes b n kc b k e=qn tx Ps C codes b n k e:=by unfold Cp;grind [Fu,Od,Oe,te,ug,zcq]
theorem zeP(a:e<E):Cp tx Ps C codes b n kc E k e=qn tx Ps C codes b (n+1) k e:=by grind [Cp]
theorem UE(d:n<Ps.length)(c:BD codes)(a:aG codes Ps[n].code=some kc)(z:Nat)(f:z=cp (pD tx C Ps[n] b E)):mH (Cp tx Ps C codes b n kc E) kc E (xT (Cp tx Ps C codes b n kc E kc E) z) k e=Cp tx Ps C codes b n kc (E+1) k e:=by (have g:Cp tx Ps C codes b n kc E kc E=qn tx Ps C codes b n kc E:=by grind [Cp]);(have i:xT (qn tx Ps C codes b n kc E) z=qn tx Ps C codes b (n+1) kc E:=by rw[Fu d,Od c a,M4,<-f];grind [xT,te,ug]);grind [mH,Cp]
end
theorem LS(d:List dV)(L:List mw)(hc hp:Hd)(cg ca:Nat)(G:Nat->Nat->Nat->Nat)(b:Nat)(w:World)(U:wt w z3 x d L hc hp)(h:fO w z1 z3 z5 T cg ca x.length G)(hv:cC w z5 T)(hn:x.length*(T.length+1)<=1000000)(ht:T.length<=100)(av:∀P∈d,P.body.length<=100000)(ct:d.length<=100000)(hd:BD x)(hb:b<T.length+1)(R:∀k i j,G k i j<=2)(bd:mQ (CG x G)) :
  br 126 #[bB z1,Y b] w λe s=>∃g a,e=cA (bB g)/\cG s g a x.length (T.length+1) (qn T d (CG x G) x b d.length)/\w.heap.size<=g/\w.heap.size<=a/\aJ w s:=by (have aq:Z (∀(n:Nat) (u:n<L.length) (D:n<d.length) (c:World),aJ w c->br 109 #[bB z1,Az L[n],Y b] c λe s=>∃g a,e=cA (bB g)/\cG s g a (d[n].body.length+1) (T.length+1) (Gb T (CG x G) d[n] b)/\c.heap.size<=g/\c.heap.size<=a/\aJ c s):=λn u D c q => JM z1 z3 z5 T x cg ca G L[n] d[n] b c (h.Zr q) ((U.each n _ _ (Vv u) (by simp)).Zr q) (hv.Zr q) hn ht (by grind) hb R bd);have bq:Z _:=λ(n:Nat) (u:n<L.length) (c:World) (q:aJ w c)=>rx z3 x d L hc hp n u c (U.Zr q);have a0:Z _:=λc (q:aJ w c)=>wH z3 x d L hc hp c (U.Zr q);have bf:Z _:=λc (q:aJ w c)=>GF z3 x d L hc hp c (U.Zr q);have A:Z (∀c,aJ w c->c.cell? (aD z1)=some (bB z3)/\c.cell? (X z1 2)=some (Y (T.length+1:Nat))/\z1<c.heap.size):=λc q=>⟨(h.Zr q).cells.1,(h.Zr q).cells.2.2.1,(h.Zr q).lt⟩;(have bp:Z (∀(n:Nat) (u:n<L.length) (D:n<d.length),L[n].np=d[n].body.length/\aG x d[n].code=some L[n].code/\d[n].body.length<=100000):=λn u D=>by have q:=U.each n _ _ (Vv u) (Vv D);exact⟨q.np,q.cod,av _ (VR D)⟩);(have⟨HT,HD,ai⟩:=yJ bd hd U.len;have b4:x.length<=1000000:=by grind);(have an:Z _:=rg x.length (T.length+1);have⟨v,am⟩:=bR (x.length);rw[am.o]at b4 a0 an ⊢;have⟨S,HS⟩:=bR (T.length+1);rw[HS.o]at hb aq A an ⊢;have hS:S<=101:=by rw[<-HS.o];omega);(have cl:L.length<=100000:=by rwa [ai.o]);have⟨C,HC⟩:=bR (CG x G);rw[HC.o]at aq HT ⊢;have⟨c0,c2,a9⟩:=A w (ab.refl ..);go_enter func126,ntmps126;go_upto_region 1 with fail;go_region_held3 (λs=>s.cell? (aD z1)=some (bB z3)/\s.cell? (X z1 2)=some (Y S)) (go_keep) (first | (go_at_call 104;refine fz (a0 _ (by exact(ab.refl [] w).drew)) ?_) | (go_at_call 103;refine VC (an _ (by omega) (by omega)) ?_;rintro e1 w1 ⟨g,a,rfl,b5,lg,la,k1⟩;have⟨x0,x1,x2⟩:=A w1 ((ab.refl [] w).drew.trans k1)));have b2:aJ w w1:=(ab.refl [] w).drew.trans k1;have ah:Z (w.heap.size<=g/\w.heap.size<=a):=⟨lg,la⟩;(have bw:Z (∀(f:Nat->Nat->Nat) (l e:Nat) (m:Int) (c:World),cG c g a v S f->aJ w c->l<v->e<S->f l e<=2->-2<=m/\m<=4->br 127 #[bB g,Y l,Y e,Y m] c λe' s=>(∃r,e'=cA (bool r))/\cG s g a v S (mH f l e (xT (f l e) m))/\aJ w s/\ab [a] c s):=λf l e m c h1 R h3 h4 h5 h6=>by refine(wU g a v S f l e m c h1 (by omega) (by omega) h3 h4 h5 h6).mono ?_;rintro e' s ⟨he,U,hk⟩;have:=ah.2;exact⟨⟨_,he⟩,U,⟨hk.os.trans R.os,hk.tape.trans R.tape,hk.output.trans R.output,VU R.size hk.size,λi hi _=>(hk.block i (VD hi R.size) (by grind)).trans (R.block i hi (by simp))⟩,hk⟩);have cb:Z (cG w1 g a v S (qn T d C x b 0)):=b5.ext (λr e _ _=>rfl);have cc:Z _:=b2;go_wp2;go_loopg [6] L.length (λgk nv wr=>∃n:Nat,n<=L.length/\gk=L.length-n/\nv=Y n/\Z (cG wr g a v S (qn T d C x b n))/\Z (aJ w wr));{grind};obtain⟨n,co,cj,rfl,ad,y⟩:=hrel;obtain⟨c0,c2,a9⟩:=A _ y;have az:Z _:=bf _ y;rcases kn n L.length with ⟨M,cr⟩ | ⟨M,cs⟩;{(have N:n<d.length:=by rwa [<-ai.o]);(have⟨I,K⟩:=nM (bq n M _ y) (aq n M N);have⟨bb,t,av⟩:=bp n M N;have b6:L[n].code<v:=by rw[<-am.o];exact VH.1 (Wj t));(have a6:Z (∀r e,r<v->e<S->Cp T d C x b n L[n].code b r e=qn T d C x b n r e):=λr e hr _=>UF HT N HD t (am.o ▸ hr);have bv:Z (∀E r e,mH (Cp T d C x b n L[n].code E) L[n].code E (xT (Cp T d C x b n L[n].code E L[n].code E) (cp (pD T C d[n] b E):Nat)) r e=Cp T d C x b n L[n].code (E+1) r e):=λE r e=>UE N HD t _ rfl;have a7:Z (∀E,Gb T C d[n] b d[n].body.length E=cp (pD T C d[n] b E)):=λE=>by simp[Gb,pD]);unfold Az at I K;generalize L[n]=p at *;generalize d[n]=P at *;rw[bb]at I K;have⟨F,bl⟩:=bR (P.body.length);rw[bl.o]at I K a7 av;go_upto_region 6 with (first | (go_at_call 107;refine fz az ?_) | (go_at_call 108;refine eJ I λw3 k3=>?_));have⟨W4,ao⟩:∃W,Z (w3.alloc (aK #[J p.ZH,Y p.code,Q (some (aD p.ap)) F F,Q p.ag p.gs.length p.gs.length] 163)=W):=⟨_,rfl⟩;(have B4:=gV ao;have bc:=fU ao;have a8:aJ w W4:=(y.o.trans k3).trans bc;have b3:a≠w3.heap.size/\g≠w3.heap.size:=by have:=(ad.o.Zr k3).lt;omega);have a1:Z (cG W4 g a v S (Cp T d C x b n p.code b)):=(ad.o.Zr (k3.trans bc)).ext (λr e hr he=>(a6 r e hr he).symm);have⟨O,a5⟩:=bR (w3.heap.size);rw[a5.o]at B4 b3;obtain⟨p0,p1,p2,p3⟩:=RH B4;have b7:=ak B4;have bx:Z _:=K W4 a8;have be:Z _:=B4;have bh:Z _:=a8;rw[ao.o,a5.o];go_upto_region 7 with (go_at_call 109;refine VC bx ?_;rintro e5 w5 ⟨g2,a2,rfl,mK,cv,cu,k5⟩);(have bk:Z _:=bh.o.trans k5;have bg:Z _:=a1.o.Zr k5;have b0:Z _:=mK;have ax:g2≠a/\a2≠a/\O≠a:=by have:=a1.o.lt;omega);(have a4:Z (∀c,ab [a] w5 c->c.cell? (X O 1)=some (Y p.code)/\c.cell? (X O 2)=some (Q (some (aD p.ap)) F F)/\O<c.heap.size):=λc q=>by have B:=q.get (k5.gt be) (by simpa using ax.2.2);exact⟨iY B rfl,iY B rfl,ak B⟩);have b1:Z _:=λc (q:ab [a] w5 c)=>b0.o.ZE q (by simpa using ax.1) (by simpa using ax.2.1);go_wp2;go_loopg [9] (S-b) (λg3 ev c=>∃E:Nat,b<=E/\E<=S/\g3=S-E/\ev=Y E/\Z (cG c g a v S (Cp T d C x b n p.code E))/\Z (aJ w c)/\Z (ab [a] w5 c));{exact⟨b,by omega,by omega,rfl,rfl,bg,bk,ab.refl _ _⟩};obtain⟨E,ch,cd,yJ,rfl,a3,af,H⟩:=hrel;obtain⟨-,c2,a9⟩:=A _ af;rcases kn E S with ⟨hE,ce⟩ | ⟨hE,cf⟩;{(obtain⟨p1,p2,b7⟩:=a4 _ H;have HA:Z (∀wy,aJ wr wy->br 106 #[bB g2,Y F,Y E] wy λe' s=>e'=cA (Y (cp (pD T C P b E)))/\s=wy):=λwy q=>by have:=CF g2 a2 (F+1) S (Gb T C P b) F E wy ((b1 _ H).Zr q) (by omega) (by omega) (by omega) hE;rw[a7.o]at this;exact this);have hz:=xB (pD T C P b E);have bm:Z (∀wy,cG wy g a v S (mH (Cp T d C x b n p.code E) p.code E (xT (Cp T d C x b n p.code E p.code E) (cp (pD T C P b E):Nat)))->cG wy g a v S (Cp T d C x b n p.code (E+1))):=λwy q=>q.ext (λr e _ _=>bv E r e);generalize cp (pD T C P b E)=z at *;have HR:=λwy (q:aJ wr wy)=>bw _ p.code E (z:Int) wy (a3.o.Zr q) (af.o.trans q) b6 hE zcp (by omega);have bs:Z _:=HR;have bo:Z (∀wy wz,aJ wr wy->ab [a] wy wz->(wz.cell? (X O 1)=some (Y p.code)/\wz.cell? (X O 2)=some (Q (some (aD p.ap)) F F)/\O<wz.heap.size)/\ab [a] w5 wz):=λwy wz q1 q2=>⟨a4 wz ((H.o.trans (q1.mono (by simp))).trans q2),(H.o.trans (q1.mono (by simp))).trans q2⟩;(go_upto_region 10 with fail);go_region_held3 (λs=>s.cell? (X O 1)=some (Y p.code)/\s.cell? (X O 2)=some (Q (some (aD p.ap)) F F)) (go_keep) (first | (go_at_call 106;refine fz (HA _ (by exact bH.drew)) ?_) | (go_at_call 127;refine VC (bs _ (by exact bH.drew)) ?_;rintro e7 w7 ⟨⟨r7,rfl⟩,SO,k7,b8⟩;have⟨⟨y0,y1,y2⟩,b9⟩:=bo _ w7 (by exact bH.drew) b8));go_wp2;go_roundg (S-(E+1));{exact⟨E+1,by omega,by omega,rfl,by go_num,bm _ SO,k7,b9⟩};omega};{have V:Z (cG wr g a v S (qn T d C x b (n+1))):=a3.o.ext (λr e _ he=>zeP (by omega));go_wp2;go_roundg (L.length-(n+1));{exact⟨n+1,by omega,rfl,by go_num,V,af⟩};omega}};{(have V:Z (cG wr g a v S (qn T d C x b d.length)):=by rw[show d.length=n by have:=ai.o;omega];exact ad);go_wp2_with (go_at_call 107;refine fz az ?_);go_ret;exact⟨g,a,rfl,V,ah.1,ah.2,y⟩}
end Go.Proofs.YtnbalopedcgpcaaGreat
