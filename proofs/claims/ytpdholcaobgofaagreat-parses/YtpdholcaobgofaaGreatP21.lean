import Derived.Test.YtpdholcaobgofaaGreatP18
namespace Go.Proofs.YtpdholcaobgofaaGreat
open Go.RowKit Tryz
open Value IntKind Ending
set_option linter.all false
set_option maxHeartbeats 0
variable{V W z7:Vy}{o:Vx}{z0:List St}{l H N s:Nat}{F:Nat->Nat}(z3 z4:Nat)(z5:U)(t:Vy)(q:Nat)(M:Vy)(E A:Nat)(R:Nat->Nat->Nat->Nat)(z:Nat)(u:Nat->Nat->Nat)(p x:Nat)(B:Int)(z2:Vx)(z6:Nat->Nat)(y:Nat)(I:World)(m:Nat)(z1:Nat->Nat)
theorem EY:bb M z2=true ↔ z2∈M:=by grind [bb,uo]
theorem MW(h:bb V o=false):o∉V:=by grind [EY]
theorem JU(l:Vy)(x:Vx):∀v,x∈dQ v l ↔ x∈v∨x∈l:=by induction l with|nil=>grind [dQ]|cons y l a=>intro v;have e:dQ v (y :: l)=dQ (if bb v y=true then v else v++[y]) l:=rfl;grind [EY]
theorem RV{s:St}(h:s∈kL z0 l):∃u∈z0,s.Y1=u.Y1/\s.YH=u.YH:=by have⟨i,a⟩:=List.mem_iff_getElem?.1 h;grind [kL,oZ,oE]
structure zk(d:Db):Prop where
 cv:∀x∈d.YJ,x∉d.YK
 av:∀x∈d.YQ,x∈d.YK
 c7:d.Y1=7->∀x∈d.YH,x∉d.YK
 c8:d.Y1=8->∀x∈d.YH,x∉d.YJ
 hd:2<=d.Y1/\d.Y1<=5->∀x,d.YH[0]?=some x->x∈d.YJ
 c2:d.Y1=2->∀x,d.YH[1]?=some x->x∈d.YK
 no:d.Y1=0∨d.Y1=6->d.YH=[]
 st:∀s∈d.YY,2<=s.Y1/\s.Y1<=5->(∀x,s.YH[0]?=some x->x∈d.YJ)/\(s.Y1=2->∀x,s.YH[1]?=some x->x∈d.YK)
section
variable {d d':Db}
theorem zk.bare(C:zk d)(c:d'.YJ=d.YJ)(b:d'.YK=d.YK)(e:∀x∈d'.YQ,x∈d.YQ)(f:d'.YH=[])(g:∀s∈d'.YY,∃u∈d.YY,s.Y1=u.Y1/\s.YH=u.YH):zk d':=by refine⟨by rw[c,b];exact C.cv,λx a=>by rw[b];exact C.av x (e x a),λ_ x a=>?_,λ_ x a=>?_,λ_ x a=>?_,λ_ x a=>?_,λ_=>f,λs i m=>?_⟩;{grind};{grind};{grind};{grind};{have⟨u,j,k,l⟩:=g s i;rw[k,l,c,b];exact C.st u j (by omega)}
theorem zk.same(C:zk d)(e:d'.YJ=d.YJ)(a:d'.YK=d.YK)(f:d'.YQ=d.YQ)(b:d'.YH=d.YH)(g:d'.YY=d.YY)(c:d'.Y1=d.Y1):zk d' :=
 ⟨by rw[e,a];exact C.cv,by rw[f,a];exact C.av,by rw[c,b,a];exact C.c7,by rw[c,b,e];exact C.c8,by rw[c,b,e];exact C.hd,by rw[c,b,a];exact C.c2,by rw[c,b];exact C.no,by rw[g,e,a];exact C.st⟩
theorem zk.first(C:zk d)(x:Vx)(k:d.Y1=0):zk (aH d x).2:=by (have b:=C.no (VY k);have f:∀s∈d.YY,∃u∈d.YY,s.Y1=u.Y1/\s.YH=u.YH:=by grind);have a:∀d':Db,d'.YJ=d.YJ->d'.YK=d.YK->d'.YQ=d.YQ->d'.YH=d.YH->d'.YY=d.YY->zk d':=λd' g i l j m=>C.bare g i (by grind) (j.trans b) (by grind);unfold aH;split;{exact a _ rfl rfl rfl rfl rfl};{split;{split;{exact C};{unfold dG;split;{exact C.bare rfl rfl (λy e=>Xz e) b f};{exact C.bare rfl rfl (λy e=>Xz e) b (λs c=>RV c)}}};{split;{split;{exact C};{exact a _ rfl rfl rfl rfl rfl}};{split;{exact a _ rfl rfl rfl rfl rfl};{split;{exact a _ rfl rfl rfl rfl rfl};{split;{exact C};{unfold cG;(repeat' split);all_goals first | exact C | exact a _ rfl rfl rfl rfl rfl}}}}}}
theorem zk.Y5(C:zk d)(p:Pl):zk (na d p).2:=by unfold na;split;{exact C};{split;{exact C};{unfold bK;split;{next l => have l:d.Y1=7:=(by grind);refine⟨λx a=>?_,C.av,by simp,by simp,by simp,by simp,λ_=>rfl,λs c b=>⟨λx a=>WU _ ((C.st s c b).1 x a),(C.st s c b).2⟩⟩;rcases V7.1 a with a | a;{exact C.cv x a};{exact C.c7 l x a}};{split;{next m => (have m:d.Y1=8:=(by grind);have f:∀x,x∈(fD d d.YH.length).YK ↔ x∈d.YK∨x∈d.YH:=λx=>by show x∈dQ d.YK (d.YH.take d.YH.length) ↔ _;grind [JU]);refine⟨λx a g=>?_,λx a=>(f x).2 ?_,by simp,by simp,by simp,by simp,λ_=>rfl,λs c b=>⟨(C.st s c b).1,λk x a=>(f x).2 (VY ((C.st s c b).2 k x a))⟩⟩;{rcases(f x).1 g with g | g;{exact C.cv x a g};{exact C.c8 m x g a}};{rcases V7.1 a with a | a;{exact VY (C.av x a)};grind}};{have e:∀q:Db,q=kj d->q.YJ=d.YJ/\q.YK=d.YK/\q.YQ=d.YQ/\q.YY=d.YY/\q.Y1=d.Y1/\q.YH=d.YH:=(by grind [kj]);have⟨j,i,n,t,o,r⟩:=e _ rfl;unfold pn;refine⟨by show ∀x∈(kj d).YJ,x∉(kj d).YK;rw[j,i];exact C.cv,by show ∀x∈(kj d).YQ,x∈(kj d).YK;rw[n,i];exact C.av,by simp,by simp,by simp,by simp,λ_=>rfl,λs c b=>?_⟩;(show(∀x,s.YH[0]?=some x->x∈(kj d).YJ)/\(s.Y1=2->∀x,s.YH[1]?=some x->x∈(kj d).YK));rw[j,i];rcases V7.1 c with c | c;{exact C.st s (by grind) b};{rw[VR.1 c]at b ⊢;simp[o,r]at b ⊢;exact⟨C.hd b,C.c2⟩}}}}}
theorem zk.more(C:zk d)(x:Vx)(j:d.Y1≠0)(g:d.Y1≠6)(b:bC d x=0):zk { d with YH:=d.YH++[x] }:=by (have e:∀(i:Nat) y,(d.YH++[x])[i]?=some y->d.YH[i]?=some y∨(i=d.YH.length/\y=x):=by grind);unfold bC at b;refine⟨C.cv,C.av,λh y a=>?_,λh y a=>?_,λh y a=>?_,λh y a=>?_,by grind,C.st⟩;{rcases V7.1 a with a | a;{exact C.c7 h y a};grind [fm,MW]};{rcases V7.1 a with a | a;{exact C.c8 h y a};grind [fN,MW]};{rcases e 0 y a with c | ⟨c,rfl⟩;{exact C.hd h y c};grind [jc,EY]};{rcases e 1 y a with c | ⟨c,rfl⟩;{exact C.c2 h y c};{replace h:d.Y1=2:=h;rw[VS (by grind),VS (by grind),VS (by grind),sN,VO (by grind)]at b;unfold fV at b;split at b;{cases b};{split at b;{cases b};{next q=>exact C.av _ (by grind [EY])}}}}
theorem zk.take(C:zk d)(x:Vx)(p:Pl):zk (bD d x p).2:=by unfold bD;split;{next h=>exact C.first x (by grind)};{next b => (have b:d.Y1≠0:=by grind);split;{next a => unfold aV;(repeat' split);all_goals first | exact C | exact C.bare rfl rfl (λx h=>h) (C.no (by grind)) (by grind)};{next a => have a:d.Y1≠6:=(by grind);split;{exact C.Y5 p};{split;{unfold dj;split;{exact C};{exact C.same rfl rfl rfl rfl rfl rfl}};{split;{exact C};{split;{exact C.same rfl rfl rfl rfl rfl rfl};{split;{next q=>exact C.more x b a (by grind)};{exact C}}}}}}}
theorem zk.empty{d:Db}(h:d=⟨[],[],[],[],[],[],[],[],0,⟨#[]⟩,[],false,[]⟩):zk d:=by subst h;exact⟨by simp,by simp,by simp,by simp,by simp,by simp,λ_=>rfl,by simp⟩
end
def sm(f:Nat->Nat):Nat->Nat
 | 0=>0
 | n+1=>sm f n+f n
theorem zc{g:Nat->Nat}{n:Nat}(h:∀k,k<n->F k=g k):sm F n=sm g n:=by induction n with|zero=>rfl|succ n a=>grind [sm]
theorem DW{f g:Nat->Nat}{n:Nat}(h:∀k,k<n->f k<=g k):sm f n<=sm g n:=by induction n with|zero=>exact VC _|succ n a=>exact Nat.add_le_add (by grind) (h n (by omega))
theorem zda(n:Nat):sm (λk=>z6 k+z1 k) n=sm z6 n+sm z1 n:=by induction n with|zero=>rfl|succ n a=>grind [sm]
theorem Uo(n:Nat):sm (λk=>m*z1 k) n=m*sm z1 n:=by induction n with|zero=>rfl|succ n a=>grind [sm]
theorem zbm:sm (λk=>z6 k*x) m=sm z6 m*x:=by rw[Ye,<-Uo];grind
theorem BO{n:Nat}(h:∀k,k<n->F k=0):sm F n=0:=by induction n with|zero=>rfl|succ n a=>grind [sm]
theorem zbn(n m:Nat):sm (λi=>sm (λj=>u i j) m) n=sm (λj=>sm (λi=>u i j) n) m:=by induction n with|zero=>grind [BO]|succ n a=>show sm _ n+sm _ m=sm (λj=>sm (λi=>u i j) n+u n j) m;rw[a,zda]
theorem BK{f:Nat->Nat}{n:Nat}(a:l<n):f l<=sm f n:=by induction n with|zero=>omega|succ n b=>grind [sm]
theorem zdb{n:Nat}(b:l<n)(c:H<n)(a:l≠H):F l+F H<=sm F n:=by induction n with|zero=>omega|succ n d=>grind [sm,BK]
theorem Up{n:Nat}(h:0<sm F n):∃k,k<n/\0<F k:=by induction n with|zero=>exact absurd h (by show ¬0<0;omega)|succ n a=>grind [sm]
theorem Un{n k:Nat}(a:k<n)(h:∀i,i<n->i≠k->F i=0):sm F n=F k:=by induction n with|zero=>omega|succ n b=>grind [sm,BO]
def cp(n:Nat):Nat:=if 2<n then 2 else n
theorem pq:cp m<=2:=by grind [cp]
theorem sx(h:l<=2):cp l=l:=by grind [cp]
theorem Vr(h:l<=H):cp l<=cp H:=by grind [cp]
theorem zci:cp (y+m)=cp (cp y+cp m):=by grind [cp]
theorem zE:cp (y+m)=cp (cp y+m):=by grind [cp]
theorem EH:cp (y+m)=cp (y+cp m):=by grind [cp]
theorem RG:cp (y*m)=cp (cp y*cp m):=by by_cases b:y<=2;{grind [sx,cp]};{(have e:cp y=2:=by grind [cp]);rw[e];by_cases c:m<=2;{grind [sx,cp]};{have a:cp m=2:=(by grind [cp]);rw[a];have:2*m<=y*m:=Xj m (by omega);grind [cp]}}
theorem MG(n:Nat):cp (sm z1 n)=cp (sm (λk=>cp (z1 k)) n):=by induction n with|zero=>rfl|succ n a=>grind [cp,sm,zci,EH]
theorem RH:cp l=1 ↔ l=1:=by grind [cp]
theorem RI:0<cp l ↔ 0<l:=by grind [cp]
section
variable {α:Type} (S:Nat) (f:α->Nat->Nat->Nat)
def wy:List α->Nat->Nat->Nat
 | [],i,j=>if i=j then 1 else 0
 | a :: r,i,j=>sm (λm=>f a i m*wy r m j) S
end
section
variable {α:Type} {S:Nat} {f g:α->Nat->Nat->Nat}
theorem UV(a b:List α)(i j:Nat)(c:i<S):wy S f (a++b) i j=sm (λm=>wy S f a i m*wy S f b m j) S:=by induction a generalizing i with|nil=>rw[XF,Un c (λm _ g=>by show(if i=m then 1 else 0)*_=0;grind)];show _=(if i=i then 1 else 0)*_;simp|cons x r e=>show sm (λm=>f x i m*wy S f (r++b) m j) S=sm (λm=>sm (λk=>f x i k*wy S f r k m) S*wy S f b m j) S;rw[zc (λm d=>by rw[e m d]),show sm (λm=>sm (λk=>f x i k*wy S f r k m) S*wy S f b m j) S=sm (λm=>sm (λk=>f x i k*wy S f r k m*wy S f b m j) S) S from zc (by grind [zbm]),zbn];refine zc (λm _=>?_);rw[<-Uo];grind
theorem zdq(x:α)(i j:Nat)(a:j<S):wy S f [x] i j=f x i j:=by show sm (λm=>f x i m*(if m=j then 1 else 0)) S=_;grind [Un]
theorem zbE(a:List α)(x:α)(i j:Nat)(b:i<S)(c:j<S):wy S f (a++[x]) i j=sm (λm=>wy S f a i m*f x m j) S:=by grind [UV,zc,zdq]
theorem xB(a:List α)(h:∀x∈a,∀i j,i<S->j<S->f x i j<=g x i j)(i j:Nat)(b:i<S):wy S f a i j<=wy S g a i j:=by induction a generalizing i with|nil=>exact VC _|cons x r d=>exact DW (λm c=>Wm (by grind) (by grind))
theorem Co(a:List α)(h:∀x∈a,∀i j,j<i->f x i j=0)(i j:Nat)(b:j<i):wy S f a i j=0:=by induction a generalizing i with|nil=>show(if i=j then 1 else 0)=0;grind|cons x r c=>refine BO (λm _=>?_);grind
theorem UW(a:List α)(k i j:Nat)(b:i<S):wy S f a i j=sm (λm=>wy S f (a.take k) i m*wy S f (a.drop k) m j) S:=by rw[<-UV _ _ _ _ b,List.take_append_drop]
theorem zR(a:List α)(k m j:Nat)(b:k<a.length):wy S f (a.drop k) m j=sm (λq=>f a[k] m q*wy S f (a.drop (k+1)) q j) S:=by rw[V6 b];rfl
theorem zS(a:List α)(k i q:Nat)(c:k<a.length)(b:i<S)(d:q<S):wy S f (a.take (k+1)) i q=sm (λm=>wy S f (a.take k) i m*f a[k] m q) S:=by rw[VX c,zbE _ _ _ _ b d]
theorem vP(h:l*H=1):l=1/\H=1:=⟨Nat.eq_one_of_mul_eq_one_right h,Nat.eq_one_of_mul_eq_one_left h⟩
theorem DV(h:sm F l=1):∃m,m<l/\F m=1/\∀q,q<l->0<F q->q=m:=by grind [Up,BK,zdb]
theorem RN(a:List α)(i j:Nat)(c:i<S)(b:wy S f a i j=1)(k:Nat):∃m,m<S/\wy S f (a.take k) i m=1/\wy S f (a.drop k) m j=1/\∀q,q<S->0<wy S f (a.take k) i q->0<wy S f (a.drop k) q j->q=m:=by rw[UW a k i j c]at b;obtain⟨m,d,e,n⟩:=DV b;obtain⟨g,l⟩:=vP e;exact⟨m,d,g,l,by simp_all⟩
theorem RO(a:List α)(i j:Nat)(d:i<S)(c:wy S f a i j=1)(k:Nat)(e:k<a.length)(m q:Nat)(r:m<S)(s:q<S)(l:wy S f (a.take k) i m=1)(b:wy S f (a.drop k) m j=1)(n:wy S f (a.take (k+1)) i q=1)(p:wy S f (a.drop (k+1)) q j=1):f a[k] m q=1:=by (rw[zR a k m j e]at b;obtain⟨z,u,g,-⟩:=DV b;obtain⟨v,w⟩:=vP g;have o:0<wy S f (a.take (k+1)) i z:=by grind [zS,BK,wy]);obtain⟨y,-,-,-,t⟩:=RN a i j d c (k+1);grind
theorem zbz(a:List α)(i j:Nat)(b:i<S)(h:0<wy S f a i j)(k:Nat)(c:k<a.length):∃m q,m<S/\q<S/\0<wy S f (a.take k) i m/\0<f a[k] m q/\0<wy S f (a.drop (k+1)) q j:=by rw[UW a k i j b]at h;grind [Up,wy,zR]
end
structure eK where
 Y2:Vx
 code:Vx
 body:Vy
 vars:Vy
 types:Vy
abbrev pT:=ByteArray->Nat->Nat->Nat
def cD(tx:Vy)(C:pT)(P:eK)(s:Vx)(i j:Nat):Nat :=
 match cJ P.vars s with
 | some v=>C (P.types.getD v ⟨#[]⟩) i j
 | none=>if j=i+1/\i<tx.length/\((tx.getD i ⟨#[]⟩).toList==s.toList)=true then 1 else 0
def mV(tx:Vy)(C:pT)(P:eK)(i j:Nat):Nat:=wy (tx.length+1) (cD tx C P) P.body i j
def BJ(f:eK->Nat):List eK->Nat
 | []=>0
 | P :: r=>f P+BJ f r
def El(tx:Vy)(C:pT)(c:Vx)(i j:Nat)(P:eK):Nat:=if P.code.toList==c.toList then mV tx C P i j else 0
def FC(tx:Vy)(Ps:List eK)(C:pT):pT:=λc i j=>cp (BJ (El tx C c i j) Ps)
def Cp(tx:Vy)(Ps:List eK):Nat->pT
 | 0=>λ_ _ _=>0
 | n+1=>FC tx Ps (Cp tx Ps n)
def En(S:Nat)(C D:pT):Prop:=∀c i j,i<S->j<S->C c i j<=D c i j
theorem LA{f g:eK->Nat}{l:List eK}(h:∀P∈l,f P<=g P):BJ f l<=BJ g l:=by induction l with|nil=>exact VC _|cons P r a=>exact Nat.add_le_add (h P (by simp)) (by grind)
theorem Lz{f:eK->Nat}{l:List eK}(k:Nat)(a:k<l.length):f l[k]<=BJ f l:=by induction l generalizing k with|nil=>grind|cons P r b=>grind [BJ]
theorem zbl{f:eK->Nat}{l:List eK}(k m:Nat)(a:k<l.length)(b:m<l.length)(c:k≠m):f l[k]+f l[m]<=BJ f l:=by induction l generalizing k m with|nil=>grind|cons P r d=>{cases k with|zero=>grind [BJ,Lz]|succ k=>{cases m with|zero=>grind [BJ,Lz]|succ m=>show f (r[k]'(by grind))+f (r[m]'(by grind))<=f P+BJ f r;have:=d k m (by simpa using a) (by simpa using b) (by omega);omega}}
theorem NB{f:eK->Nat}{l:List eK}(h:0<BJ f l):∃k,∃a:k<l.length,0<f l[k]:=by induction l with|nil=>exact absurd h (XE _)|cons P r c=>by_cases e:0<f P;{exact⟨0,by simp,e⟩};{have h:0<f P+BJ f r:=h;have⟨k,a,b⟩:=c (by omega);exact⟨k+1,by grind,b⟩}
theorem Nz(f:eK->Nat)(a b:List eK):BJ f (a++b)=BJ f a+BJ f b:=by induction a with|nil=>simp[BJ]|cons P r c=>grind [BJ]
section
variable {tx:Vy} {Ps:List eK} {C D:pT}
theorem pa(P:eK)(s:Vx)(h:En (tx.length+1) C D)(i j:Nat)(a:i<tx.length+1)(b:j<tx.length+1):cD tx C P s i j<=cD tx D P s i j:=by unfold cD;split;{exact h _ _ _ a b};simp
theorem JE(P:eK)(h:En (tx.length+1) C D)(i j:Nat)(e:i<tx.length+1):mV tx C P i j<=mV tx D P i j :=
 xB _ (λs _ a b c d=>pa P s h a b c d) i j e
theorem UT(P:eK)(h:En (tx.length+1) C D)(i j:Nat)(a:i<tx.length+1):El tx C z2 i j P<=El tx D z2 i j P:=by unfold El;split;{exact JE P h i j a};simp
theorem rA(h:En (tx.length+1) C D):En (tx.length+1) (FC tx Ps C) (FC tx Ps D):=λc i j a _=>Vr (LA (λP _=>UT c P h i j a))
theorem zbG(n:Nat):En (tx.length+1) (Cp tx Ps n) (Cp tx Ps (n+1)):=by induction n with|zero=>exact λ_ _ _ _ _=>V5 _|succ n a=>exact rA a
theorem En.trans{A B E:pT}(h:En l A B)(g:En l B E):En l A E:=λc i j a b=>VK (h c i j a b) (g c i j a b)
structure zm(tx:Vy)(Ps:List eK)(C:pT):Prop where
 fix:∀c i j,i<tx.length+1->j<tx.length+1->C c i j=FC tx Ps C c i j
 low:∃n,En (tx.length+1) C (Cp tx Ps n)
theorem zm.above(h:zm tx Ps C)(n:Nat):En (tx.length+1) (Cp tx Ps n) C:=by induction n with|zero=>exact λ_ _ _ _ _=>V5 _|succ n d=>intro c i j a b;rw[h.fix c i j a b];exact rA d c i j a b
theorem zm.uniq(h:zm tx Ps C)(g:zm tx Ps D)(c:Vx)(i j:Nat)(a:i<tx.length+1)(b:j<tx.length+1):C c i j=D c i j:=by have⟨n,e⟩:=h.low;have⟨m,d⟩:=g.low;exact Xu (((e.trans (g.above n))) c i j a b) ((d.trans (h.above m)) c i j a b)
theorem xT(P:eK)(s:Vx)(h:∀c i j,i<tx.length+1->j<tx.length+1->C c i j=D c i j)(i j:Nat)(a:i<tx.length+1)(b:j<tx.length+1):cD tx C P s i j=cD tx D P s i j :=
 Xu (pa P s (λc i j a b=>Xa (h c i j a b)) i j a b) (pa P s (λc i j a b=>Xa (h c i j a b).symm) i j a b)
theorem zm.prod(h:zm tx Ps C)(b:l<tx.length+1)(c:H<tx.length+1)(a:C o l H=1) :
  ∃k,∃d:k<Ps.length,(Ps[k].code.toList==o.toList)=true/\mV tx C Ps[k] l H=1/\∀m,∀f:m<Ps.length,(Ps[m].code.toList==o.toList)=true->0<mV tx C Ps[m] l H->m=k:=by have e:=h.fix o l H b c;rw[a]at e;have e:=RH.1 e.symm;grind [NB,El,mV,Lz,zbl]
end
def oO(tx:Vy)(C:pT)(P:eK)(i j k:Nat):Nat :=
 ((List.range (tx.length+1)).find? (λm=>decide (0<wy (tx.length+1) (cD tx C P) (P.body.take k) i m)&&decide (0<wy (tx.length+1) (cD tx C P) (P.body.drop k) m j))).getD 0
def s9(P:eK)(v:Nat):Nat:=((List.range P.body.length).find? (λk=>cJ P.vars (P.body.getD k ⟨#[]⟩)==some v)).getD 0
def p9(tx:Vy)(C:pT)(P:eK)(i j v:Nat):Nat×Nat:=(oO tx C P i j (s9 P v),oO tx C P i j (s9 P v+1))
def Nl(tx:Vy)(Ps:List eK)(C:pT)(c:Vx)(i j:Nat):Option eK:=Ps.find? (λP=>(P.code.toList==c.toList)&&decide (0<mV tx C P i j))
def qG(tx:Vy)(Ps:List eK)(C:pT):Nat->Vx->Nat->Nat->Vy
 | 0,_,_,_=>[]
 | n+1,c,i,j =>
  match Nl tx Ps C c i j with
  | none=>[]
  | some P=>((List.range P.vars.length).map (λv=>qG tx Ps C n (P.types.getD v ⟨#[]⟩) (p9 tx C P i j v).1 (p9 tx C P i j v).2)).flatten++[P.Y2]
structure kG(P:eK):Prop where
 len:P.types.length=P.vars.length
 occ:∀v,v<P.vars.length->∃k,k<P.body.length/\cJ P.vars (P.body.getD k ⟨#[]⟩)=some v
 one:∀v a b,a<P.body.length->b<P.body.length->cJ P.vars (P.body.getD a ⟨#[]⟩)=some v->cJ P.vars (P.body.getD b ⟨#[]⟩)=some v->a=b
section
variable {tx:Vy} {Ps:List eK} {C:pT} {P:eK} {i j:Nat}
theorem lF(b:i<tx.length+1)(a:mV tx C P i j=1)(k:Nat):oO tx C P i j k<tx.length+1/\wy (tx.length+1) (cD tx C P) (P.body.take k) i (oO tx C P i j k)=1/\wy (tx.length+1) (cD tx C P) (P.body.drop k) (oO tx C P i j k) j=1 /\
  ∀q,q<tx.length+1->0<wy (tx.length+1) (cD tx C P) (P.body.take k) i q->0<wy (tx.length+1) (cD tx C P) (P.body.drop k) q j->q=oO tx C P i j k:=by (have⟨m,l,c,d,n⟩:=RN (S:=tx.length+1) (f:=cD tx C P) P.body i j b a k;have e:oO tx C P i j k=m:=by unfold oO;cases g:(List.range (tx.length+1)).find? (λm=>decide (0<wy (tx.length+1) (cD tx C P) (P.body.take k) i m)&&decide (0<wy (tx.length+1) (cD tx C P) (P.body.drop k) m j)) with|none=>grind|some z=>grind);grind
theorem zaa(a:i<tx.length+1)(b:mV tx C P i j=1):oO tx C P i j 0=i :=
 ((lF a b 0).2.2.2 i a (by show 0<(if i=i then 1 else 0);simp) (by grind [mV])).symm
theorem Vs(b:i<tx.length+1)(c:j<tx.length+1)(a:mV tx C P i j=1):oO tx C P i j P.body.length=j :=
 ((lF b a P.body.length).2.2.2 j c (by grind [mV]) (by rw[Yt];show 0<(if j=j then 1 else 0);simp)).symm
theorem wN(b:i<tx.length+1)(a:mV tx C P i j=1)(k:Nat)(c:k<P.body.length):cD tx C P P.body[k] (oO tx C P i j k) (oO tx C P i j (k+1))=1 :=
 RO P.body i j b a k c _ _ (lF b a k).1 (lF b a (k+1)).1 (lF b a k).2.1 (lF b a k).2.2.1 (lF b a (k+1)).2.1 (lF b a (k+1)).2.2.1
theorem yJ(b:kG P){v:Nat}(a:v<P.vars.length):s9 P v<P.body.length/\cJ P.vars (P.body.getD (s9 P v) ⟨#[]⟩)=some v:=by have⟨k,d,e⟩:=b.occ v a;unfold s9;cases c:(List.range P.body.length).find? (λk=>cJ P.vars (P.body.getD k ⟨#[]⟩)==some v) with|none=>grind|some z=>grind
theorem zbK(a:kG P)(b:l<P.vars.length)(c:H<P.body.length)(d:cJ P.vars (P.body.getD H ⟨#[]⟩)=some l):s9 P l=H:=a.one l _ _ (yJ a b).1 c (yJ a b).2 d
theorem lL(a:m<M.length):M.getD m ⟨#[]⟩=M[m]:=by grind
theorem qN(h:cJ P.vars o=some l):cD tx C P o H N=C (P.types.getD l ⟨#[]⟩) H N:=by unfold cD;rw[h]
theorem zm.pick(h:zm tx Ps C)(f:i<tx.length+1)(g:j<tx.length+1)(c:C o i j=1) :
  ∃k,∃b:k<Ps.length,Nl tx Ps C o i j=some Ps[k]/\(Ps[k].code.toList==o.toList)=true/\mV tx C Ps[k] i j=1/\∀m,∀l:m<Ps.length,(Ps[m].code.toList==o.toList)=true->0<mV tx C Ps[m] i j->m=k:=by have⟨k,b,e,p,n⟩:=h.prod f g c;refine⟨k,b,?_,e,p,n⟩;unfold Nl;cases a:Ps.find? (λP=>(P.code.toList==o.toList)&&decide (0<mV tx C P i j)) with|none=>grind|some q=>have d:=XG a;simp[Bool.and_eq_true,decide_eq_true_eq]at d;obtain⟨m,l,rfl⟩:=Wi (V3 a);grind
theorem zm.kids(h:zm tx Ps C)(ok:∀P∈Ps,kG P)(d:i<tx.length+1)(N:j<tx.length+1)(L:C o i j=1)(S:0<Cp tx Ps (l+1) o i j)(M:Nl tx Ps C o i j=some P)(v:Nat)(W:v<P.vars.length) :
  (p9 tx C P i j v).1<tx.length+1/\(p9 tx C P i j v).2<tx.length+1/\C (P.types.getD v ⟨#[]⟩) (p9 tx C P i j v).1 (p9 tx C P i j v).2=1/\0<Cp tx Ps l (P.types.getD v ⟨#[]⟩) (p9 tx C P i j v).1 (p9 tx C P i j v).2:=by
 have⟨k,hk,E,hc,p,V⟩:=h.pick d N L;rw[M]at E;cases E;(have⟨n,g⟩:=yJ (ok Ps[k] (by simp)) W;rw[lL _ _ n]at g;have F:=wN d p (s9 Ps[k] v) n;rw[qN g]at F;refine⟨(lF d p _).1,(lF d p _).1,F,?_⟩;have A:0<FC tx Ps (Cp tx Ps l) o i j:=S;have⟨m,R,T⟩:=NB (RI.1 A);have u:(Ps[m].code.toList==o.toList)=true:=by grind [El]);(have r:0<mV tx (Cp tx Ps l) Ps[m] i j:=by grind [El]);have t:=h.above l;have w:=V m R u (VG r (JE _ t i j d));subst w;have⟨a,b,e,c,p1,G,p3⟩:=zbz Ps[m].body i j d r (s9 Ps[m] v) n;have H:0<wy (tx.length+1) (cD tx C Ps[m]) (Ps[m].body.take (s9 Ps[m] v)) i a:=VG p1 (xB _ (λs _ x y B D=>pa _ s t x y B D) i a d);have I:0<cD tx C Ps[m] (Ps[m].body[s9 Ps[m] v]) a b:=VG G (pa _ _ t a b e c);have K:0<wy (tx.length+1) (cD tx C Ps[m]) (Ps[m].body.drop (s9 Ps[m] v+1)) b j:=VG p3 (xB _ (λs _ x y B D=>pa _ s t x y B D) b j c)
 have ea:a=oO tx C Ps[m] i j (s9 Ps[m] v):=(lF d p _).2.2.2 a e H (by
  rw[zR _ _ _ _ n];exact VG (Nat.mul_pos I K) (BK (f:=λq=>cD tx C Ps[m] (Ps[m].body[s9 Ps[m] v]) a q*wy (tx.length+1) (cD tx C Ps[m]) (Ps[m].body.drop (s9 Ps[m] v+1)) q j) c))
 have eb:b=oO tx C Ps[m] i j (s9 Ps[m] v+1):=(lF d p _).2.2.2 b c (by
  rw[zS _ _ _ _ n d c];exact VG (Nat.mul_pos H I) (BK (f:=λz=>wy (tx.length+1) (cD tx C Ps[m]) (Ps[m].body.take (s9 Ps[m] v)) i z*cD tx C Ps[m] (Ps[m].body[s9 Ps[m] v]) z b) e)) K
 rw[qN g]at G;show 0<Cp tx Ps l _ (oO tx C Ps[m] i j (s9 Ps[m] v)) (oO tx C Ps[m] i j (s9 Ps[m] v+1));(grind)
end
section
variable {α:Type} {S:Nat} {f g:α->Nat->Nat->Nat}
theorem zdr(a:List α)(i j:Nat)(b:i<S)(e:∀x∈a,∀p q,q<p->f x p q=0)(k:∀x∈a,∀p q,q<p->g x p q=0)(h:∀x∈a,∀p q,i<=p->p<S->q<S->f x p q=g x p q):wy S f a i j=wy S g a i j:=by induction a generalizing i with|nil=>rfl|cons x r d=>refine zc (λm c=>?_);grind
theorem Jd{f:Nat->Nat}(n:Nat)(h:∀a,a<m->f a=0):sm f (m+n)=sm (λd=>f (m+d)) n:=by induction n with|zero=>exact BO h|succ n b=>grind [sm]
theorem zbo{f:Nat->Nat}{n m:Nat}(a:n<=m)(h:∀k,n<=k->k<m->f k=0):sm f m=sm f n:=by induction m with|zero=>grind|succ m b=>grind [sm]
end
def mx(C:pT):Prop:=∀c i j,j<i->C c i j=0
section
variable {tx:Vy} {Ps:List eK} {C D:pT}
theorem kM(P:eK)(t:mx C)(s:Vx)(i j:Nat)(h:j<i):cD tx C P s i j=0:=by unfold cD;split;{exact t _ _ _ h};grind
theorem NO(P:eK)(t:mx C)(i j:Nat)(h:j<i):mV tx C P i j=0:=Co _ (λs _ a b c=>kM P t s a b c) i j h
theorem NA{f:eK->Nat}{l:List eK}(h:∀P∈l,f P=0):BJ f l=0:=by induction l with|nil=>rfl|cons P r a=>grind [BJ]
theorem Um{f g:eK->Nat}{l:List eK}(h:∀P∈l,f P=g P):BJ f l=BJ g l :=
 Xu (LA (by grind)) (LA (by grind))
theorem Em(t:mx C):mx (FC tx Ps C):=λc i j h=>by
 unfold FC;rw[NA (by grind [El,NO])];rfl
theorem zbD(P:eK)(f:mx C)(g:mx D)(i j:Nat)(a:i<tx.length+1)(h:∀c p q,i<=p->p<tx.length+1->q<tx.length+1->C c p q=D c p q):mV tx C P i j=mV tx D P i j:=by refine zdr _ i j a (by grind [kM]) (by grind [kM]) (λs _ p q e b d=>?_);grind [cD]
theorem zb1(b:mx C)(d:mx D)(c:Vx)(i j:Nat)(a:i<tx.length+1)(h:∀c p q,i<=p->p<tx.length+1->q<tx.length+1->C c p q=D c p q):FC tx Ps C c i j=FC tx Ps D c i j:=by grind [FC,Um,El,zbD]
theorem JL:FC tx Ps C z2 y m<=2:=pq _
structure sU(tx:Vy)(Ps:List eK)(C:pT)(b:Nat):Prop where
 two:∀c i j,C c i j<=2
 tri:mx C
 nil:∀c i j,i<b->C c i j=0
 low:∃n,En (tx.length+1) C (Cp tx Ps n)
 fix:∀c i j,b<=i->i<tx.length+1->j<tx.length+1->C c i j=FC tx Ps C c i j
theorem sU.first:sU tx Ps (λ_ _ _=>0) (tx.length+1):=⟨by simp,λ_ _ _ _=>rfl,λ_ _ _ _=>rfl,⟨0,λ_ _ _ _ _=>VC _⟩,by omega⟩
theorem sU.done(h:sU tx Ps C 0):zm tx Ps C:=⟨λc i j a b=>h.fix c i j (V5 _) a b,h.low⟩
structure QP(tx:Vy)(Ps:List eK)(C:pT)(b:Nat):Prop where
 two:∀c i j,C c i j<=2
 tri:mx C
 nil:∀c i j,i<b->C c i j=0
 low:∃n,En (tx.length+1) C (Cp tx Ps n)
 fix:∀c i j,b<i->i<tx.length+1->j<tx.length+1->C c i j=FC tx Ps C c i j
 up:∀c j,j<tx.length+1->C c b j<=FC tx Ps C c b j
theorem sU.row(h:sU tx Ps C (l+1)):QP tx Ps C l :=
 ⟨h.two,h.tri,λc i j a=>h.nil c i j (by omega),h.low,λc i j a=>h.fix c i j (by omega),λc j _=>by rw[h.nil c l j (by omega)];simp⟩
theorem QP.done(h:QP tx Ps C l)(d:∀c j,j<tx.length+1->FC tx Ps C c l j<=C c l j):sU tx Ps C l :=
 ⟨h.two,h.tri,h.nil,h.low,λc i j f a b=>by
  by_cases e:i=l
  ·subst e;exact Xu (h.up c j b) (d c j b)
  ·exact h.fix c i j (by omega) a b⟩
theorem QP.step(h:QP tx Ps C l)(p:l<tx.length+1)(g:∀c j,j<tx.length+1->D c l j=FC tx Ps C c l j)(d:∀c i j,i≠l∨¬j<tx.length+1->D c i j=C c i j):QP tx Ps D l:=by (have q:En (tx.length+1) C D:=λc i j b a=>by by_cases e:i=l;{subst e;rw[g c j a];exact h.up c j a};grind);(have m:mx D:=λc i j a=>by by_cases e:i=l/\j<tx.length+1;{obtain⟨rfl,o⟩:=e;rw[g c j o];exact Em h.tri c i j a};{rw[d c i j (by omega)];exact h.tri c i j a});refine⟨λc i j=>?_,m,λc i j b=>by rw[d c i j (VY (by omega))];exact h.nil c i j b,?_,λc i j b f a=>?_,λc j a=>?_⟩;{by_cases e:i=l/\j<tx.length+1;{grind [JL]};{rw[d c i j (by omega)];exact h.two c i j}};{obtain⟨n,k⟩:=h.low;refine⟨n+1,λc i j b a=>?_⟩;by_cases e:i=l;{subst e;rw[g c j a];exact rA k c i j b a};{rw[d c i j (VY e)];exact(k.trans (zbG n)) c i j b a}};{rw[d c i j (VY (by omega)),h.fix c i j b f a];exact zb1 h.tri m c i j f (by grind)};{rw[g c j a];exact rA q c l j p a}
structure UY(tx:Vy)(Ps:List eK)(C:pT):Prop where
 two:∀c i j,C c i j<=2
 tri:mx C
 low:∃n,En (tx.length+1) C (Cp tx Ps n)
 up:En (tx.length+1) C (FC tx Ps C)
theorem UY.first:UY tx Ps (λ_ _ _=>0):=⟨λ_ _ _=>V5 _,λ_ _ _ _=>rfl,⟨0,λ_ _ _ _ _=>VC _⟩,λ_ _ _ _ _=>V5 _⟩
theorem UY.done(h:UY tx Ps C)(d:En (tx.length+1) (FC tx Ps C) C):zm tx Ps C:=⟨λc i j a b=>Xu (h.up c i j a b) (d c i j a b),h.low⟩
theorem UY.step(h:UY tx Ps C)(d:∀c i j,D c i j=C c i j∨(i<tx.length+1/\j<tx.length+1/\D c i j=FC tx Ps C c i j)):UY tx Ps D:=by (have g:En (tx.length+1) C D:=λc i j b a=>by rcases d c i j with e | ⟨-,-,e⟩;{omega};{rw[e];exact h.up c i j b a});refine⟨λc i j=>?_,λc i j a=>?_,?_,λc i j b a=>?_⟩;{rcases d c i j with e | ⟨-,-,e⟩;{rw[e];exact h.two c i j};grind [JL]};{rcases d c i j with e | ⟨-,-,e⟩;{rw[e];exact h.tri c i j a};{rw[e];exact Em h.tri c i j a}};{obtain⟨n,f⟩:=h.low;refine⟨n+1,λc i j b a=>?_⟩;rcases d c i j with e | ⟨-,-,e⟩;{rw[e];exact(f.trans (zbG n)) c i j b a};{rw[e];exact rA f c i j b a}};{rcases d c i j with e | ⟨-,-,e⟩;{rw[e];exact VK (h.up c i j b a) (rA g c i j b a)};{rw[e];exact rA g c i j b a}}
end
def CG(codes:Vy)(G:Nat->Nat->Nat->Nat):pT:=λc i j =>
 match cJ codes c with
 | some k=>G k i j
 | none=>0
section
variable {tx:Vy} {Ps:List eK} {C:pT} {P:eK}
theorem zce(t:mx C)(s:Vx)(r:Vy)(i j:Nat)(b:j<tx.length+1)(c:cJ P.vars s=none) :
  wy (tx.length+1) (cD tx C P) (s :: r) i j=if i<j/\((tx.getD i ⟨#[]⟩).toList==s.toList)=true then wy (tx.length+1) (cD tx C P) r (i+1) j else 0:=by (show sm (λm=>cD tx C P s i m*wy (tx.length+1) (cD tx C P) r m j) (tx.length+1)=_;have a:∀m,cD tx C P s i m=if m=i+1/\i<tx.length/\((tx.getD i ⟨#[]⟩).toList==s.toList)=true then 1 else 0:=by grind [cD]);by_cases h:i<j/\((tx.getD i ⟨#[]⟩).toList==s.toList)=true;{rw[VO h,Un (k:=i+1) (by omega) (by grind),a,VO ⟨rfl,by omega,h.2⟩,Nat.one_mul]};grind [BO,Co,kM]
theorem zcf(t:mx C)(s:Vx)(r:Vy)(i j v:Nat)(b:i<=j)(c:j<tx.length+1)(e:cJ P.vars s=some v) :
  cp (wy (tx.length+1) (cD tx C P) (s :: r) i j)=cp (sm (λd=>C (P.types.getD v ⟨#[]⟩) i (i+d)*cp (wy (tx.length+1) (cD tx C P) r (i+d) j)) (j+1-i)):=by (have a:wy (tx.length+1) (cD tx C P) (s :: r) i j=sm (λd=>C (P.types.getD v ⟨#[]⟩) i (i+d)*wy (tx.length+1) (cD tx C P) r (i+d) j) (j+1-i):=by show sm (λm=>cD tx C P s i m*wy (tx.length+1) (cD tx C P) r m j) (tx.length+1)=_;rw[zbo (n:=j+1) (by omega) (by grind [Co,kM])];rw[show j+1=i+(j+1-i) by omega,Jd i (j+1-i) (by grind [kM]),show i+(j+1-i)-i=j+1-i by omega];grind [zc,qN]);rw[a,MG,MG (λd=>C (P.types.getD v ⟨#[]⟩) i (i+d)*cp (wy (tx.length+1) (cD tx C P) r (i+d) j))];congr 1;refine zc (λd _=>?_);grind [RG,cp,sx,pq,wy,cD]
def MU(tx:Vy)(C:pT)(P:eK)(b k m e:Nat):Nat:=cp (sm (λd=>cp (wy (tx.length+1) (cD tx C P) (P.body.take k) b (b+d))*cD tx C P (P.body.getD k ⟨#[]⟩) (b+d) e) m)
theorem EU:MU tx C P p x (y+1) m=cp (MU tx C P p x y m+cp (wy (tx.length+1) (cD tx C P) (P.body.take x) p (p+y))*cD tx C P (P.body.getD x ⟨#[]⟩) (p+y) m):=zE _ _
theorem zar(t:mx C)(b k e:Nat)(g:k<P.body.length)(c:b<tx.length+1)(j:e<tx.length+1):MU tx C P b k (tx.length+1-b) e=cp (wy (tx.length+1) (cD tx C P) (P.body.take (k+1)) b e):=by (rw[zS _ _ _ _ g c j];have i:sm (λm=>wy (tx.length+1) (cD tx C P) (P.body.take k) b m*cD tx C P P.body[k] m e) (tx.length+1)=sm (λd=>wy (tx.length+1) (cD tx C P) (P.body.take k) b (b+d)*cD tx C P P.body[k] (b+d) e) (tx.length+1-b):=by have:=Jd (f:=λm=>wy (tx.length+1) (cD tx C P) (P.body.take k) b m*cD tx C P P.body[k] m e) b (tx.length+1-b) (λm l=>by show _*_=0;rw[Co _ (λs _ a b c=>kM P t s a b c) b m l,Nat.zero_mul]);rw[show b+(tx.length+1-b)=tx.length+1 by omega]at this;exact this);unfold MU;rw[i,MG,MG (λd=>wy (tx.length+1) (cD tx C P) (P.body.take k) b (b+d)*cD tx C P P.body[k] (b+d) e),lL _ _ g];grind [zc,RG,wy,cD,sx,pq]
theorem zas(t:mx C)(b k m e:Nat)(h:e<b+m):MU tx C P b k (m+1) e=MU tx C P b k m e:=by rw[EU,kM P t _ _ _ h,Nat.mul_zero,WF];exact sx (pq _)
theorem R9(h:∀c i j,C c i j<=2)(s:Vx)(i j:Nat):cD tx C P s i j<=2:=by grind [cD]
end
def qT(n:Nat):Nat:=if n<64 then n else 64
structure Eo(G n:Nat)(ls t:Vy)(n':Nat)(ls':Vy):Prop where
 a:n+t.length<=64->n'=n+t.length/\ls'=ls++t
 b:64<n+t.length->64<n'
 c:n<n'
 d:n'<=n+1+G*(qT n'-qT n)
 e:ls'.length<=ls.length+(qT n'-qT n)
structure Ve(G k n:Nat)(ls t:Vy)(n':Nat)(ls':Vy):Prop where
 a:n+t.length<=64->n'=n+t.length/\ls'=ls++t
 b:64<n+t.length->64<n'
 c:n<=n'
 d:n'<=n+k+G*(qT n'-qT n)
 e:ls'.length<=ls.length+(qT n'-qT n)
theorem Ve.first:Ve z4 0 q M [] q M :=
 ⟨by simp,by simp,VC _,by omega,by omega⟩
theorem A9(h:l<=H):qT l<=qT H:=by grind [qT]
theorem Ve.next{f:Nat}{i j:Vy}(h:Ve l H N V W s i)(g:Eo l s i z7 f j):Ve l (H+1) N V (W++z7) f j:=by (have p:=A9 h.c;have r:=A9 (WO g.c);have t:l*(qT f-qT N)=l*(qT s-qT N)+l*(qT f-qT s):=by rw[<-Nat.mul_add];grind);have x:=h.c;have u:=g.c;have y:=h.d;have v:=g.d;have A:=h.e;have w:=g.e;refine⟨λq=>?_,λq=>?_,by omega,by omega,by omega⟩;{rw[VQ]at q;obtain⟨k,m⟩:=h.a (by omega);obtain⟨n,o⟩:=g.a (by omega);grind};{rw[VQ]at q;by_cases z:N+W.length<=64;{obtain⟨k,m⟩:=h.a z;exact g.b (by omega)};{have:=h.b (by omega);omega}}
theorem Eo.node(h:Ve l H (N+1) V W s z7)(t:H<=l)(u:N<64):Eo l N V (W++[o]) s (z7++[o]):=by (have n:=h.c;have p:=h.d;have r:=h.e;have i:qT N=N:=by grind [qT]);(have j:N+1<=qT s:=by grind [qT]);(have k:qT (N+1)=N+1:=by grind [qT]);(have m:l*(qT s-N)=l+l*(qT s-(N+1)):=by rw[show qT s-N=1+(qT s-(N+1)) by omega,Nat.mul_add,XZ]);refine⟨λq=>?_,λq=>?_,by omega,?_,?_⟩;{rw[VQ]at q;replace q:N+(W.length+1)<=64:=q;obtain⟨f,g⟩:=h.a (by omega);grind};{rw[VQ]at q;replace q:64<N+(W.length+1):=q;exact h.b (by omega)};{grind};grind
theorem Eo.late(a:64<=H)(b:0<W.length):Eo l H V W (H+1) V :=
 ⟨λq=>by omega,λ_=>by omega,by omega,by omega,by omega⟩
section
variable {tx:Vy} {Ps:List eK} {C:pT} {i j:Nat}
theorem UI(h:zm tx Ps C){r:Nat}(b:i<tx.length+1)(c:j<tx.length+1)(a:C o i j=1):0<(qG tx Ps C (r+1) o i j).length:=by obtain⟨k,d,e,-⟩:=h.pick b c a;show 0<(match Nl tx Ps C o i j with | none=>[] | some P=>_:Vy).length;grind
theorem rZ{P:eK}(a:Nl tx Ps C o i j=some P):qG tx Ps C (l+1) o i j=((List.range P.vars.length).map (λv=>qG tx Ps C l (P.types.getD v ⟨#[]⟩) (p9 tx C P i j v).1 (p9 tx C P i j v).2)).flatten++[P.Y2]:=by (show(match Nl tx Ps C o i j with | none=>[] | some P=>_:Vy)=_);rw[a]
end
def lm(f:Nat->Vy)(k:Nat):Vy:=((List.range k).map f).flatten
theorem qR(f:Nat->Vy)(k:Nat):lm f (k+1)=lm f k++f k:=by unfold lm;rw[Wo,Wg,List.flatten_append];simp
section
variable {tx:Vy} {Ps:List eK} {C D:pT}
theorem ze6{α:Type}{f g:α->Nat->Nat->Nat}(a:List α)(h:∀x∈a,∀i j,i<l->j<l->f x i j=g x i j)(i j:Nat)(b:i<l):wy l f a i j=wy l g a i j :=
 Xu (xB a (by grind) i j b) (xB a (by grind) i j b)
def Gb(S:Nat)(C D:pT):Prop:=∀c i j,i<S->j<S->C c i j=D c i j
theorem UU(h:Gb (tx.length+1) C D)(P:eK)(i j:Nat)(e:i<tx.length+1):mV tx C P i j=mV tx D P i j:=ze6 _ (λs _ a b c d=>xT P s h a b c d) i j e
theorem Di{α:Type}{l:List α}{p q:α->Bool}(h:∀x∈l,p x=q x):l.find? p=l.find? q:=by induction l with|nil=>rfl|cons y r a=>grind
theorem RK(h:Gb (tx.length+1) C D)(P:eK)(i j k:Nat)(f:i<tx.length+1):oO tx C P i j k=oO tx D P i j k:=by unfold oO;congr 1;refine Di (λm e=>?_);have e:=VZ.1 e;rw[ze6 _ (λs _ a b c d=>xT P s h a b c d) i m f,ze6 _ (λs _ a b c d=>xT P s h a b c d) m j e]
theorem Tv(h:Gb (tx.length+1) C D)(c:Vx)(i j:Nat)(a:i<tx.length+1):Nl tx Ps C c i j=Nl tx Ps D c i j:=by grind [Nl,Di,UU]
theorem zbw(h:Gb (tx.length+1) C D)(is:zm tx Ps C)(l:∀P∈Ps,kG P):∀(r:Nat) (c:Vx) (i j:Nat),i<tx.length+1->j<tx.length+1->C c i j=1->0<Cp tx Ps r c i j->qG tx Ps C r c i j=qG tx Ps D r c i j:=by intro r;induction r with|zero=>intro c i j _ _ _ _;rfl|succ r s=>intro c i j a f e b;have⟨k,q,d,_⟩:=is.pick a f e;rw[rZ d,rZ (Tv h c i j a ▸ d)];congr 2;refine Wz (λv g=>?_);have⟨m,n,o,p⟩:=is.kids l a f e b d v (VZ.1 g);grind [p9,RK]
theorem zea(is:zm tx Ps C)(m:∀P∈Ps,kG P):∀(r q:Nat) (c:Vx) (i j:Nat),r<=q->i<tx.length+1->j<tx.length+1->C c i j=1->0<Cp tx Ps r c i j->qG tx Ps C r c i j=qG tx Ps C q c i j:=by intro r;induction r with|zero=>intro q c i j _ _ _ _ g;exact absurd g (XE _)|succ r w=>intro q c i j u e f d a;obtain⟨q,rfl⟩:∃z,q=z+1:=⟨q-1,by omega⟩;obtain⟨k,t,b,-⟩:=is.pick e f d;rw[rZ b,rZ b];congr 2;refine Wz (λv l=>?_);have⟨n,o,p,s⟩:=is.kids m e f d a b v (VZ.1 l);grind
theorem zdl(is:zm tx Ps C)(f:∀P∈Ps,kG P)(b:l<tx.length+1)(c:H<tx.length+1)(a:C o l H=1)(e:0<Cp tx Ps N o l H)(d:0<Cp tx Ps s o l H):qG tx Ps C N o l H=qG tx Ps C s o l H:=by grind [zea]
def xg(tx:Vy)(Ps:List eK)(C:pT)(r:Nat)(c:Vx):Int×Vy :=
 if C c 0 tx.length=0 then(10,[])
 else if C c 0 tx.length=1 then(if 64<(qG tx Ps C r c 0 tx.length).length then(3,[]) else(0,qG tx Ps C r c 0 tx.length))
 else(11,[])
def sS(tx:Vy)(Ps:List eK)(c:Vx)(res:Int×Vy):Prop:=∃C r,zm tx Ps C/\(C c 0 tx.length=1->0<Cp tx Ps r c 0 tx.length)/\res=xg tx Ps C r c
theorem Tp(f:∀P∈Ps,kG P){x y:Int×Vy}(i:sS tx Ps o x)(j:sS tx Ps o y):x=y:=by obtain⟨C,r,c,g,rfl⟩:=i;obtain⟨D,q,id,d,rfl⟩:=j;have h:Gb (tx.length+1) C D:=c.uniq id;unfold xg;rw[h o 0 tx.length (by omega) (by omega)];by_cases b:D o 0 tx.length=1;{(have a:C o 0 tx.length=1:=by rwa [h o 0 tx.length (by omega) (by omega)]);have e:qG tx Ps C r o 0 tx.length=qG tx Ps D q o 0 tx.length:=(zdl c f (by omega) (by omega) a (g a) (d b)).trans (zbw h c f _ _ _ _ (by omega) (by omega) a (d b));rw[e]};{rw[VS b,VS b]}
theorem Nh(is:zm tx Ps C)(c:Vx):∃r,C c 0 tx.length=1->0<Cp tx Ps r c 0 tx.length:=by have⟨n,a⟩:=is.low;exact⟨n,λh=>by have:=a c 0 tx.length (by omega) (by omega);omega⟩
end
section
variable {d:Db}
def st0:St:=⟨0,⟨#[]⟩,[],[],⟨⟨#[]⟩,0,0⟩,0⟩
def dP(l:List St)(n:Nat):St:=(l[n]?).getD st0
theorem iH(h:l<z0.length):dP z0 l=z0[l]:=by grind [dP]
def lz(L:Vy)(x:Vx):Nat:=L.countP (λy=>y.toList==x.toList)
def lfP(s:St):eK:=⟨s.Y2,bJ s,[aF s],[],[]⟩
def FX(l:List St)(n:Nat):eK:=⟨(dP l n).Y2,bJ (dP l n),(dP l n).YH.drop 1,(aY l n).map (λh=>aF (dP l h)),(aY l n).map (λh=>bJ (dP l h))⟩
def tF(l:List St)(n:Nat):Bool:=(pH l n).isEmpty&&(aY l n).all (λh=>((dP l h).Y1==2)&&(lz ((dP l n).YH.drop 1) (aF (dP l h))==1))
def oG(l:List St)(a:Nat):List eK:=((aY l a).filter (λh=>(dP l h).Y1==2)).map (λh=>lfP (dP l h))++((List.range a).filter (λn=>((dP l n).Y1==4)&&tF l n)).map (FX l)
theorem zcr{α β:Type}{f:α->Option β}{g:α->β}{l:List α}(h:∀x∈l,f x=some (g x)):l.filterMap f=l.map g:=by induction l with|nil=>rfl|cons x r a=>grind
theorem Od{α:Type}(L:List α)(p:α->Bool)(a b:Nat)(c:a<L.length)(g:b<L.length)(i:a≠b)(e:p L[a]=true)(f:p L[b]=true):2<=L.countP p:=by (have d:∀(L:List α) (a:Nat) (c:a<L.length),p L[a]=true->1<=L.countP p:=by grind);induction L generalizing a b with|nil=>grind|cons y r j=>grind
theorem qQ(h:H∈aY z0 l):H<z0.length/\((dP z0 H).Y1=2∨(dP z0 H).Y1=3):=by grind [aY,gU,iH,Dw,tM]
theorem Fp(F:uW d)(P:eK)(m:P∈oG d.YY l):kG P:=by rcases V7.1 m with h | h;{obtain⟨n,-,rfl⟩:=WG.1 h;exact⟨rfl,(λv c=>by exact absurd c (Xg _)),λv l b _ _ a=>by cases a⟩};{(obtain⟨n,r,rfl⟩:=WG.1 h;have e:=(Ww.1 r).2;rw[We]at e;have e:=e.2;unfold tF at e;rw[We,WK]at e;have i:(aY d.YY n).map (λh=>aF (dP d.YY h))=gy d.YY (aY d.YY n):=by grind [gy,zcr,qQ,so,iH]);(have f:wk (FX d.YY n).vars:=by show wk ((aY d.YY n).map _);rw[i];exact F.vsd);(have g:∀v,v<(FX d.YY n).vars.length->lz (FX d.YY n).body ((FX d.YY n).vars.getD v ⟨#[]⟩)=1:=by grind [aY,aF,dP,FX]);refine⟨by show((aY d.YY n).map _).length=((aY d.YY n).map _).length;simp,λv c=>?_,λv l b o p a j=>?_⟩;{(have a:=g v c;unfold lz at a;have:0<(FX d.YY n).body.countP (λy=>y.toList==((FX d.YY n).vars.getD v ⟨#[]⟩).toList):=by omega);obtain⟨y,s,t⟩:=List.countP_pos_iff.1 this;obtain⟨k,q,rfl⟩:=Wi s;refine⟨k,q,?_⟩;grind [lL,tR,xx,om]};{have c:=VZ.1 (V3 a);rw[lL _ _ o,tR f c]at a;rw[lL _ _ p,tR f c]at j;grind [lz,Od,FX,xx,om]}}
end
def U0(T:List Tk)(S:List Sm)(h:Nat):eK:=⟨bS T (ay S h),(bE T (ay S h).h).getD 0 ⟨#[]⟩,(bE T (ay S h).h).drop 1,[],[]⟩
def U4(T:List Tk)(S:List Sm)(b:Nat):eK:=⟨bS T (ay S b),(bE T (ay S b).h).getD 0 ⟨#[]⟩,(bE T (ay S b).h).drop 1,(ci T S b).map (λj=>(bE T (ay S j).h).getD 1 ⟨#[]⟩),(ci T S b).map (λj=>(bE T (ay S j).h).getD 0 ⟨#[]⟩)⟩
def tG(T:List Tk)(S:List Sm)(b:Nat):Bool:=(fX T S b).isEmpty&&(ci T S b).all (λj=>!((ay S j).k.toList == [36,101])&&(lz (bE T (ay S b).h) ((bE T (ay S j).h).getD 1 ⟨#[]⟩)==1))
def vk(T:List Tk)(S:List Sm)(a:Nat):List eK:=((ci T S a).filter (λj=>(ay S j).k.toList == [36,102])).map (U0 T S)++((List.range a).filter (λb=>((ay S b).k.toList == [36,97])&&tG T S b)).map (U4 T S)
section
variable {T:List Tk} {d:Db}
theorem lk.one(R:lk T d)(a:l<d.YY.length):fS (ay (ah T) (bW (ah T) l)).k.toList (dP d.YY l).Y1/\(dP d.YY l).Y2=bS T (ay (ah T) (bW (ah T) l))/\(dP d.YY l).YH=bE T (ay (ah T) (bW (ah T) l)).h:=by have⟨s,b,h⟩:=R.get a;grind [dP]
theorem lk.leaf(R:lk T d)(F:uW d)(f:l<d.YY.length)(c:(dP d.YY l).Y1=2):lfP (dP d.YY l)=U0 T (ah T) (bW (ah T) l):=by
 (have⟨_,i,j⟩:=R.one f;have e:(dP d.YY l).YH.length=2:=by rw[iH f]at c ⊢;exact F.fl l _ (by simp) c)
 unfold lfP U0;rw[<-i,<-j];have g:[aF (dP d.YY l)]=(dP d.YY l).YH.drop 1:=by
  unfold aF;rw[VO ⟨by grind,by omega⟩];generalize (dP d.YY l).YH=L at e
  match L,e with
  | [a,b],_=>rfl
 rw[g];rfl
theorem Ti{L:Vy}(h:∀y,L[0]?=some y->y≠o):lz L o=lz (L.drop 1) o:=by cases L with|nil=>rfl|cons y r=>grind [lz,Qu]
theorem lk.isRule(R:lk T d)(F:uW d)(C:zk d)(f:l<d.YY.length)(u:(dP d.YY l).Y1=4):tF d.YY l=tG T (ah T) (bW (ah T) l):=by (unfold tF tG;rw[R.pairs (R.flo F) f F.vsd,<-R.hyps (R.flo F) f,List.all_map];congr 1;rw[Xh,WK,WK];have g:∀h∈aY d.YY l,(((dP d.YY h).Y1==2)&&(lz ((dP d.YY l).YH.drop 1) (aF (dP d.YY h))==1))=((λj=>!((ay (ah T) j).k.toList == [36,101])&&(lz (bE T (ay (ah T) (bW (ah T) l)).h) ((bE T (ay (ah T) j).h).getD 1 ⟨#[]⟩)==1)) ∘ bW (ah T)) h:=λh n=>by have⟨i,a⟩:=qQ n;have⟨r,_,v⟩:=R.one i;have⟨_,_,s⟩:=R.one f;have⟨t,_,_,_⟩:=gi r;simp only[Function.comp];rw[<-t];rcases a with e | e;{(rw[e];have o:(dP d.YY h).YH.length=2:=(by rw[iH i]at e ⊢;exact F.fl h _ (by simp) e);have m:aF (dP d.YY h)=(bE T (ay (ah T) (bW (ah T) h)).h).getD 1 ⟨#[]⟩:=by grind [aF]);(rw[<-m,<-s];have p:aF (dP d.YY h)∈d.YK:=by have b:dP d.YY h∈d.YY:=(by grind [iH]);refine(C.st _ b (by omega)).2 e _ ?_;grind);rw[Ti (L:=(dP d.YY l).YH) (λy q c=>?_)];{rfl};{have b:dP d.YY l∈d.YY:=(by grind [iH]);have:=(C.st _ b (by omega)).1 y q;rw[c]at this;exact C.cv _ this p}};grind);grind
theorem lk.Y9(R:lk T d)(F:uW d)(f:l<d.YY.length)(c:tF d.YY l=true):FX d.YY l=U4 T (ah T) (bW (ah T) l):=by
 have⟨_,k,m⟩:=R.one f;unfold FX U4;rw[<-R.hyps (R.flo F) f,XO,XO,<-k,<-m];unfold tF at c;rw[We,WK]at c
 have g:(aY d.YY l).map (λh=>aF (dP d.YY h))=(aY d.YY l).map ((λj=>(bE T (ay (ah T) j).h).getD 1 ⟨#[]⟩) ∘ bW (ah T)):=Wz (λh a=>by
  have e:=(qQ a).1;have b:=c.2 h a;rw[We]at b;have b:(dP d.YY h).Y1=2:=by grind
  have n:(dP d.YY h).YH.length=2:=by rw[iH e]at b ⊢;exact F.fl h _ (by simp) b
  simp[Function.comp];rw[<-(R.one e).2.2]
  grind [aF])
 have i:(aY d.YY l).map (λh=>bJ (dP d.YY h))=(aY d.YY l).map ((λj=>(bE T (ay (ah T) j).h).getD 0 ⟨#[]⟩) ∘ bW (ah T)):=Wz (λh a=>by
  simp[Function.comp];rw[<-(R.one (qQ a).1).2.2];rfl)
 rw[g,i];rfl
theorem lk.prds(R:lk T d)(F:uW d)(C:zk d)(g:l<d.YY.length):oG d.YY l=vk T (ah T) (bW (ah T) l):=by
 unfold oG vk;congr 1
 ·rw[<-R.hyps (R.flo F) g,List.filter_map,XO]
  have e:(aY d.YY l).filter (λh=>(dP d.YY h).Y1==2)=(aY d.YY l).filter ((λj=>(ay (ah T) j).k.toList == [36,102]) ∘ bW (ah T)):=XP (λh c=>by
   simp[Function.comp];rw[(gi (R.one (qQ c).1).1).2.1])
  rw[e];refine Wz (λh c=>?_);rw[<-e]at c;have⟨m,f⟩:=Ww.1 c;exact R.leaf F (qQ m).1 (by grind)
 {(have o:=R.hel.len;have e:((List.range l).filter (λn=>((dP d.YY n).Y1==4)&&tF d.YY n)).map (bW (ah T))=(List.range (bW (ah T) l)).filter (λb=>((ay (ah T) b).k.toList == [36,97])&&tG T (ah T) b):=by rw[<-oP (WO g),<-oP (WO (R.hel.at_ g))];refine uF o (λj s h=>?_) (λn a=>?_);{grind [qB]};{(have r:=R.hel.at_ a;have p:decide (n<l)=decide (bW (ah T) n<bW (ah T) l):=by by_cases h:n<l;{rw[Xo h,Xo (nB h (by omega))]};{rw[Xt h,Xt];by_cases e:n=l;{rw[e];omega};{have:=nB (S:=ah T) (show l<n by omega) (o ▸ a);omega}});(rw[p];congr 1;have i:=(R.one a).1;have q:((dP d.YY n).Y1==4)=((ay (ah T) (bW (ah T) n)).k.toList == [36,97]):=by generalize (dP d.YY n).Y1=k at i;generalize (ay (ah T) (bW (ah T) n)).k.toList=L at i;(rcases i with ⟨rfl,rfl⟩ | ⟨rfl,rfl⟩ | ⟨rfl,rfl⟩ | ⟨rfl,rfl⟩ | ⟨rfl,rfl⟩ | ⟨rfl,rfl⟩ | ⟨rfl,rfl⟩) <;> rfl);rw[<-q];cases t:((dP d.YY n).Y1==4);{rfl};{rw[R.isRule F C a (by grind)]}});rw[<-e,XO];refine Wz (λn a=>?_);have⟨m,f⟩:=Ww.1 a;rw[We]at f;exact R.Y9 F (by grind) f.2}
end
def jd(L K:Nat)(f:Nat->Nat->Nat):VB:=(List.range (L*K)).map (λt=>f (t / K) (t % K))
theorem qi(a:l<N)(b:H<s):l*s+H<N*s:=by have:(l+1)*s<=N*s:=Xj _ a;grind
theorem tC(a:H<N):(l*N+H) / N=l:=by rw[Ye,Yy (by omega),Nat.div_eq_of_lt a,WF]
theorem tD(a:H<N):(l*N+H) % N=H:=by rw[Ye,Nat.mul_add_mod,Nat.mod_eq_of_lt a]
theorem Dn:(jd A z u).length=A*z:=by simp[jd]
theorem AM(b:l<N)(a:H<s):(jd N s u)[l*s+H]?=some (u l H):=by grind [qi,jd,tC,tD]
def oy(f:Nat->Nat->Nat)(l c v:Nat):Nat->Nat->Nat:=λa b=>if a=l/\b=c then v else f a b
theorem Do(c:l<N)(b:H<s):(jd N s u).set (l*s+H) m=jd N s (oy u l H m):=by have d:=qi c b;apply WC;intro t;rw[WN];by_cases a:t<N*s;{(have e:(jd N s (oy u l H m))[t]?=some (oy u l H m (t / s) (t % s)):=by simp[jd,a]);rw[e,Dn];by_cases h:l*s+H=t;{grind [tC,tD,oy]};{(rw[VS h];have f:¬(t / s=l/\t % s=H):=by rintro ⟨g,i⟩;have:=Nat.div_add_mod t s;grind);simp[jd,a,oy,f]}};grind [jd,Dn,oy]
theorem xW{f g:Nat->Nat->Nat}(h:∀a c,a<l->c<H->f a c=g a c):jd l H f=jd l H g:=by (refine Wz (λt b=>?_);have b:=VZ.1 b;have d:0<H:=by grind);exact h _ _ (Nat.div_lt_of_lt_mul (by grind)) (Nat.mod_lt _ d)
structure di(w:World)(g a L K:Nat)(f:Nat->Nat->Nat):Prop where
 Y0:w.heap[g]?=some (aJ #[J L,J K,Q (some (aE a)) (L*K) (L*K)] 317)
 arr:cU w a (jd L K f)
 ne:a≠g
section
variable {w w':World} {g a L K:Nat} {f f':Nat->Nat->Nat}
theorem di.YZ{S:VB}(h:di w g a L K f)(k:O S w w')(b:g∉S)(c:a∉S):di w' g a L K f:=⟨k.get h.Y0 b,k.get h.arr c,h.ne⟩
theorem di.YM(h:di w g a L K f)(k:aI w w'):di w' g a L K f:=h.YZ k (by simp) (by simp)
theorem di.ext(h:di w g a L K f)(e:∀l c,l<L->c<K->f l c=f' l c):di w g a L K f':=⟨h.Y0,by rw[<-xW e];exact h.arr,h.ne⟩
theorem di.lt(h:di w g a L K f):g<w.heap.size/\a<w.heap.size:=⟨ae h.Y0,ae h.arr⟩
theorem di.cells(h:di w g a L K f):aP w g 0 (J L)/\aP w g 1 (J K)/\aP w g 2 (Q (some (aE a)) (L*K) (L*K)):=by refine⟨?_,?_,?_⟩ <;> exact bR h.Y0 rfl
theorem di.cell(h:di w g a L K f)(c:l<L)(b:H<K):w.cell? (X a (l*K+H))=some (J (f l H)):=by rw[aC h.arr];grind [fC,AM]
theorem di.set(h:di w g a L K f)(v:Nat)(c:l<L)(b:H<K):di (w.setCell (X a (l*K+H)) (J v)) g a L K (oy f l H v):=by refine⟨?_,?_,h.ne⟩;{rw[VN _ _ _ _ (λe=>h.ne e.symm)];exact h.Y0};{show _=_;rw[ab h.arr,Wd,<-Do f v c b];simp[fC]}
end
theorem tP(t:x<=1000000)(s:y<=1000) :
  aU 193 #[J x,J y] I λe m=>∃g a,e=cM (bh g)/\di m g a x y (λ_ _=>0)/\I.heap.size<=g/\I.heap.size<=a/\aI I m:=by (obtain⟨z,f,j,k,w⟩:=VT rJ;have u:x*y<=1000000*1000:=Wm t s;have p:Z (jd x y (λ_ _=>0)=List.replicate (x*y) 0):=by show _=_;unfold jd;rw[List.map_const'];simp);obtain⟨n,i⟩:∃n,x*y=n:=⟨_,rfl⟩;(have v:(x:Int)*(y:Int)=(n:Int):=by omega);have B:=λI=>cC (P:=prog) I 25 3 z _ underlying25 f j n 1 k (by grind) (by omega);obtain⟨b,c⟩:=aX (madeCells (J 0).cells (n*1));have d:Z (b=(fC (jd x y (λ_ _=>0))).toArray):=cI (by rw[p.o,i,<-c.o,qU]);rw[c.o]at B;rw[i]at u;have C:Z _:=i;go_enter func193,ntmps193;go_wp2;go_ret;have A:aI I (I.alloc (aJ b 3)):=bQ.alloc _;have l:aI (I.alloc (aJ b 3)) ((I.alloc (aJ b 3)).alloc (aJ #[J x,J y,Q (some (aE I.heap.size)) n n] 317)):=bQ.alloc _;have q:(I.alloc (aJ b 3)).heap[I.heap.size]?=some (aJ b 3):=VD _ _;have r:=VD (I.alloc (aJ b 3)) (aJ #[J x,J y,Q (some (aE I.heap.size)) n n] 317);rw[show(I.alloc (aJ b 3)).heap.size=I.heap.size+1 by simp]at r;refine⟨I.heap.size+1,I.heap.size,rfl,⟨by grind,?_,by omega⟩,by omega,by omega,A.trans l⟩;show _=_;rw[<-d.o];exact l.gt q
theorem Ia(h:di I q E A z u)(j:A<=1000000)(c:z<=1000)(l:x<A)(k:y<z) :
  aU 222 #[bh q,J x,J y] I (iw (J (x*z+y:Nat)) I):=by obtain⟨g,i,-⟩:=h.cells;have d:=h.lt.1;have a:x*z<=1000000*1000:=Wm (by omega) c;obtain⟨b,e⟩:∃b,x*z=b:=⟨_,rfl⟩;(have f:(x:Int)*(z:Int)=(b:Int):=by omega);rw[e]at a ⊢;go_enter func222,ntmps222;go_wp2;go_ret;exact⟨aw (by go_num),rfl⟩
theorem OI(a:B<0) :
  aU 222 #[bh x,J B,J y] I (iw (J (-1)) I):=by go_enter func222,ntmps222;go_wp2;go_ret;exact⟨rfl,rfl⟩
theorem C4(h:di I q E A z u)(e:A<=1000000)(d:z<=1000)(c:x<A)(b:y<z) :
  aU 196 #[bh q,J x,J y] I (iw (J (u x y)) I):=by (have a:Z _:=Ia q E A z u x y I h e d c b;obtain⟨-,-,m⟩:=h.cells;have o:=h.cell c b;obtain⟨i,f⟩:=h.lt;have j:=qi c b;have g:A*z<=1000000*1000:=Wm e d;generalize x*z+y=l at *;generalize A*z=n at *;generalize u x y=v at *;have k:(l:Int)<(n:Int):=by omega);go_enter func196,ntmps196;go_wp2_with (go_at_call 222;refine dZ a ?_);go_ret;exact⟨rfl,rfl⟩
theorem zcb(b:B<0) :
  aU 196 #[bh x,J B,J y] I (iw (J 0) I):=by have a:Z _:=OI x B y I b;go_enter func196,ntmps196;go_wp2_with (go_at_call 222;refine dZ a ?_);go_ret;exact⟨rfl,rfl⟩
def zb(v:Nat)(m:Int):Nat:=if 0<m then cp (v+m.toNat) else v
theorem yk(h:di I q E A z u)(D:A<=1000000)(C:z<=1000)(j:p<A)(i:x<z)(T:u p x<=2)(hm:-2<=B/\B<=4) :
  aU 221 #[bh q,J p,J x,J B] I λe F=>e=cM (bool (decide (0<B) && !(u p x==2)))/\di F q E A z (oy u p x (zb (u p x) B))/\O [E] I F:=by (have b:Z _:=Ia q E A z u p x I h D C j i;obtain⟨c0,c1,L⟩:=h.cells;have t:=h.cell j i;obtain⟨P,N⟩:=h.lt;have R:=h.ne;have k:=qi j i;have m:A*z<=1000000*1000:=Wm D C;have c:Z _:=λ(v:Nat)=>h.set v j i;have d:Z (∀v l:Nat,di ((I.setCell (X E (p*z+x)) (J v)).setCell (X E (p*z+x)) (J l)) q E A z (oy u p x l)):=λv l=>((h.set v j i).set l j i).ext (by grind [oy]);have a:Z (u p x=zb (u p x) B->di I q E A z (oy u p x (zb (u p x) B))):=λe=>h.ext (λac y _ _=>by grind [oy]);have r:I.frozen? (X E (p*z+x))=false:=au h.arr _;have W:Z _:=h;obtain⟨v,K⟩:=aX (u p x);rw[K.o]at t T a ⊢;obtain⟨V,H⟩:=aX (p*z+x);rw[H.o]at t k b c d r;obtain⟨n,G⟩:=aX (A*z);rw[G.o]at L k m;have S:(V:Int)<(n:Int):=by omega);by_cases M:0<B;{by_cases w:v=2;{have s:((v:Int)==2)=true:=(by simp[w]);have f:Z (v=zb v B):=cI (by grind [zb,cp]);have g:Z ((decide (0<B) && !(v==2))=false):=cI (by simp[w]);go_enter func221,ntmps221;go_wp2_with (go_at_call 222;refine dZ b ?_);go_ret;exact⟨aN g.o.symm,a f,O.refl _ _⟩};{have s:((v:Int)==2)=false:=(by grind);have g:Z ((decide (0<B) && !(v==2))=true):=cI (by grind);by_cases h3:2<(v:Int)+B;{have f:Z (zb v B=2):=(by show _=_;grind [zb,cp]);go_enter func221,ntmps221;go_wp2_with (go_at_call 222;refine dZ b ?_);go_ret;refine⟨aN g.o.symm,?_,((O.refl [E] I).sl1 _).sl1 _⟩;have:=d (v+B.toNat) 2;rw[show(((v+B.toNat:Nat)):Int)=(v:Int)+B by omega]at this;rw[f.o];exact this};{have f:Z ((zb v B:Int)=v+B):=(by show _=_;grind [zb,cp]);go_enter func221,ntmps221;go_wp2_with (go_at_call 222;refine dZ b ?_);go_ret;refine⟨aN g.o.symm,?_,(O.refl [E] I).sl1 _⟩;have:=c (zb v B);rw[f.o]at this;exact this}}};{(have f:Z (v=zb v B):=by show _=_;grind [zb]);have g:Z ((decide (0<B) && !(v==2))=false):=cI (by simp[M]);go_enter func221,ntmps221;go_wp2_with (go_at_call 222;refine dZ b ?_);go_ret;exact⟨aN g.o.symm,a f,O.refl _ _⟩}
structure oM where
 Y2:Vx
 code:Nat
 ap:Nat
 np:Nat
 ag:Vz
 gs:VB
def pdV(p:oM):List Value:=[Y p.Y2,J p.code,Q (some (aE p.ap)) p.np p.np,Q p.ag p.gs.length p.gs.length]
def Bi(p:oM):Value:=agg #[Y p.Y2,J p.code,Q (some (aE p.ap)) p.np p.np,Q p.ag p.gs.length p.gs.length]
def ptD(vs:Vy)(s:Vx):List Value:=[Y s,J (ji (cJ vs s))]
structure qz(w:World)(codes:Vy)(p:oM)(P:eK):Prop where
 lab:p.Y2=P.Y2
 cod:cJ codes P.code=some p.code
 np:p.np=P.body.length
 parts:dg w (some (aE p.ap)) 2 (ptD P.vars) P.body
 ng:p.gs.length=P.types.length
 len:P.vars.length=P.types.length
 gaps:nP w p.ag p.gs
 typ:∀v (h:v<p.gs.length),cJ codes (P.types.getD v ⟨#[]⟩)=some p.gs[v]
theorem qz.YM{w a:World}{p:oM}{P:eK}(h:qz w V p P)(k:aI w a):qz a V p P:=⟨h.lab,h.cod,h.np,h.parts.YM k,h.ng,h.len,h.gaps.YM k,h.typ⟩
structure xC(w:World)(gm:Nat)(codes:Vy)(Ps:List eK)(L:List oM)(hc hp:U):Prop where
 Y0:w.heap[gm]?=some (aJ #[Q hc.ao codes.length hc.cap,Q hp.ao L.length hp.cap] 235)
 cod:dM w hc codes
 prd:dg w hp.ao 4 pdV L
 cap:L.length<=hp.cap
 len:L.length=Ps.length
 each:∀(n:Nat) (p:oM) (P:eK),L[n]?=some p->Ps[n]?=some P->qz w codes p P
section
variable {w w':World} {gm:Nat} {codes:Vy} {Ps:List eK} {L:List oM} {hc hp:U}
theorem xC.YM(h:xC w gm codes Ps L hc hp)(k:aI w w'):xC w' gm codes Ps L hc hp:=⟨k.gt h.Y0,h.cod.YM k,h.prd.YM k,h.cap,h.len,λn p P a b=>(h.each n p P a b).YM k⟩
theorem xC.cells(h:xC w gm codes Ps L hc hp):aP w gm 0 (Q hc.ao codes.length hc.cap)/\aP w gm 1 (Q hp.ao L.length hp.cap):=by refine⟨?_,?_⟩ <;> exact bR h.Y0 rfl
theorem xC.lt(h:xC w gm codes Ps L hc hp):gm<w.heap.size:=ae h.Y0
end
theorem xK(a:List eK)(L:List oM)(b d:U)(w:World)(h:xC w q M a L b d) :
  aU 194 #[bh q] w (iw (J M.length) w):=by have⟨e,_⟩:=h.cells;have c:=h.lt;go_enter func194,ntmps194;go_wp2;go_ret;exact⟨rfl,rfl⟩
theorem GC(a:List eK)(L:List oM)(b d:U)(w:World)(h:xC w q M a L b d) :
  aU 197 #[bh q] w (iw (J L.length) w):=by have⟨_,e⟩:=h.cells;have c:=h.lt;go_enter func197,ntmps197;go_wp2;go_ret;exact⟨rfl,rfl⟩
theorem Dl(j:U)(x:Vx)(w:World)(u:aP w q 0 (Q j.ao M.length j.cap))(n:q<w.heap.size)(v:dM w j M)(N:M.length<=1073741824) :
  aU 145 #[bh q,Y x] w (iw (J (ji (cJ M x))) w):=by have⟨s,c⟩:=aX (j.ao);rw[c.o]at u;go_enter func145,ntmps145;go_wp2;go_loopg [5] M.length (λg i wr=>∃k:Nat,k<=M.length/\g=M.length-k/\i=J k/\Z (∀i,i<k->((M.getD i ⟨#[]⟩).toList==x.toList)=false)/\wr=w);{exact⟨0,by omega,by omega,rfl,λi r=>by omega,rfl⟩};obtain⟨k,L,K,rfl,a,rfl⟩:=hrel;by_cases b:k<M.length;{rcases v with B | ⟨g,d,z,t,A,m,p,H,I⟩;{rw[B]at b;simp at b};{have G:aP wr g (d+k) (Y M[k]):=bR m (p k M[k] (by simp));obtain rfl:s=some (X g d):=c.o.symm.trans A;have f:Z _:=iZ M k b;have n:=ae m;have D:(k:Int)<M.length:=(by omega);generalize M[k]=y at *;clear m p;cases C:(y.toList==x.toList);{(have F:Z (∀i,i<k+1->((M.getD i ⟨#[]⟩).toList==x.toList)=false):=by intro i r;by_cases e:i=k;{subst e;rwa [f.o]};{exact a i (by omega)});clear f;go_wp2;go_roundg (M.length-(k+1));{grind};omega};{have l:Z (cJ M x=some k):=jZ b (f.o ▸ C) a;clear f;go_wp2;go_ret;exact⟨aw (by rw[l.o];rfl),rfl⟩}}};{(have l:Z (cJ M x=none):=jI (λi r=>a i (by omega));have E:¬(k:Int)<M.length:=by omega);go_wp2;go_ret;exact⟨aw (by rw[l.o];rfl),rfl⟩}
theorem tU(b:List eK)(L:List oM)(f m:U)(n:Nat)(t:n<L.length)(w:World)(h:xC w q M b L f m) :
  aU 198 #[bh q,J n] w (kt (Bi L[n]) w):=by (have⟨_,c⟩:=h.cells;have k:=h.lt;have i:=h.cap;have⟨g,e,j,a⟩:=h.prd n L[n] (by simp);have d:=a 0 _ rfl;have o:=a 1 _ rfl;have r:=a 2 _ rfl;have s:=a 3 _ rfl;rw[WF]at d;rw[e]at c;have l:(n:Int)<L.length:=by omega);unfold Bi;generalize L[n]=p at *;go_enter func198,ntmps198;go_wp2;exact VJ (v:=agg #[Y p.Y2,J p.code,Q (some (aE p.ap)) p.np p.np,Q p.ag p.gs.length p.gs.length]) (by simp[results,results198,go_sem]) rfl ⟨rfl,(O.refl ..).alloc _⟩
def yR(S:Nat)(G:Nat->Nat->Nat->Nat):Nat->Nat->Nat:=λl e=>G (l / S) (l % S) e
structure gF(w:World)(c gm:Nat)(hs:U)(tx:Vy)(cg ca nc:Nat)(G:Nat->Nat->Nat->Nat):Prop where
 Y0:w.heap[c]?=some (aJ #[bh gm,Q hs.ao tx.length hs.cap,J (tx.length+1:Nat),bh cg] 295)
 cnt:di w cg ca (nc*(tx.length+1)) (tx.length+1) (yR (tx.length+1) G)
section
variable {w w':World} {c gm cg ca nc:Nat} {hs:U} {tx:Vy} {G:Nat->Nat->Nat->Nat}
theorem gF.YM(h:gF w c gm hs tx cg ca nc G)(k:aI w w'):gF w' c gm hs tx cg ca nc G:=⟨k.gt h.Y0,h.cnt.YM k⟩
theorem gF.cells(h:gF w c gm hs tx cg ca nc G):aP w c 0 (bh gm)/\aP w c 1 (Q hs.ao tx.length hs.cap)/\aP w c 2 (J (tx.length+1:Nat))/\aP w c 3 (bh cg):=by refine⟨?_,?_,?_,?_⟩ <;> exact bR h.Y0 rfl
theorem gF.lt(h:gF w c gm hs tx cg ca nc G):c<w.heap.size:=ae h.Y0
end
set_option maxRecDepth 100000
theorem tu(h:gF I z3 z4 z5 t q E A R)(D:A*(t.length+1)<=1000000)(N:t.length<=100)(C:p<A)(n:x<t.length+1)(r:y<t.length+1) :
  aU 146 #[bh z3,J p,agg #[J x,J y]] I λg l=>g=cM (J (R p x y))/\aI I l:=by (have⟨W,f⟩:=aX (I.alloc (aJ #[J x,J y] 242));have s:=dI f;have m:=dL f;have⟨K,L⟩:=vG m;have k:=ae m;have i:=h.YM s;have⟨_,_,u,M⟩:=i.cells;have B:=i.lt;have j:=qi C n;have a:Z (∀d,aI W d->aU 196 #[bh q,J (p*(t.length+1)+x:Nat),J y] d λg l=>g=cM (J (R p x y))/\l=d):=λd b=>by have:=C4 q E (A*(t.length+1)) (t.length+1) (yR (t.length+1) R) (p*(t.length+1)+x) y d (i.cnt.YM b) D (by omega) j r;rw[show yR (t.length+1) R (p*(t.length+1)+x) y=R p x y by grind [yR,tC,tD]]at this;exact this);have e:Z _:=s;have⟨S,v⟩:∃S,t.length+1=S:=⟨_,rfl⟩;rw[v]at u n r j a;have⟨b,F⟩:∃b,p*S=b:=⟨_,rfl⟩;(have G:(p:Int)*(S:Int)=(b:Int):=by omega);(rw[F]at j a;simp[Int.natCast_add]at a;have H:b<=1000000:=by grind);(have⟨P,c⟩:=aX (I.heap.size);rw[c.o]at K L k;have z:(x:Int)<(S:Int):=by omega);(have w:decide ((x:Int)<0)=false:=by rfl);go_enter func146,ntmps146;go_upto_region 1 with fail;rw[f.o,c.o];go_quiet (fail);go_upto_region 3 with fail;go_quiet ((go_at_call 196;exact Ft (a _ (bQ.drewN _))));go_wp2;go_ret;exact⟨rfl,(e.o.drewN _).drewN _⟩
theorem wm{G:Nat->Nat->Nat->Nat}(h:cJ V o=some l)(i j:Nat):CG V G o i j=G l i j:=by unfold CG;rw[h]
theorem GT(p:oM)(P:eK)(k i j:Nat)(w:World)(h:gF w z3 z4 z5 t E A M.length R)(r:qz w M p P)(S:dM w z5 t)(hn:M.length*(t.length+1)<=1000000)(ht:t.length<=100)(hk:k<P.body.length)(ax:P.body.length<=1000000)(hi:i<t.length+1)(hj:j<t.length+1) :
  Calls prog 223 #[pointer (some ⟨z3,0,none⟩),Bi p,int i64 k,agg #[int i64 i,int i64 j]] w λe V=>e=returned (int i64 (cD t (CG M R) P P.body[k] i j))/\O [] w V:=by (have⟨W,B⟩:=aX ((w.alloc (.cells #[string p.Y2,int i64 p.code,slice (some ⟨p.ap,0,none⟩) p.np p.np,slice p.ag p.gs.length p.gs.length] 289)).alloc (.cells #[int i64 i,int i64 j] 242));have T:O [] w (w.alloc (.cells #[string p.Y2,int i64 p.code,slice (some ⟨p.ap,0,none⟩) p.np p.np,slice p.ag p.gs.length p.gs.length] 289)):=bQ.alloc _;have u:O [] w W:=by rw[<-B.o];exact T.alloc _);(have D:W.heap[w.heap.size]?=some (.cells #[string p.Y2,int i64 p.code,slice (some ⟨p.ap,0,none⟩) p.np p.np,slice p.ag p.gs.length p.gs.length] 289):=by rw[<-B.o];exact(bQ.alloc _).gt (VD w _));(have F:W.heap[w.heap.size+1]?=some (.cells #[int i64 i,int i64 j] 242):=by rw[<-B.o];have:=VD (w.alloc (.cells #[string p.Y2,int i64 p.code,slice (some ⟨p.ap,0,none⟩) p.np p.np,slice p.ag p.gs.length p.gs.length] 289)) (.cells #[int i64 i,int i64 j] 242);simp_all);have C:=h.YM u;have c:=r.YM u;have⟨g,e1,a0,b⟩:=c.parts k P.body[k] (by simp);cases e1;(have d0:=b 0 _ rfl;have N:=b 1 _ rfl;rw[WF]at d0;have m:=r.np;have⟨_,_,p2,p3⟩:=Ak D;have⟨s0,s1⟩:=vG F;have ai:=ae D;have I:=ae F;have⟨_,c1,_,_⟩:=C.cells;have az:=C.lt;have a:Z _:=u;have⟨sb,f⟩:=aX (w.heap.size+1);rw[f.o]at s0 s1 I;have⟨pb,d⟩:=aX (w.heap.size);rw[d.o]at p2 p3 ai;have a8:(k:Int)<(p.np:Int):=by omega);(have ba:p.np<=1000000:=by omega);unfold Bi;cases s:cJ P.vars P.body[k] with|some v=>{(have am:v<p.gs.length:=by rw[r.ng,<-r.len];exact VZ.1 (V3 s));(have K:=r.typ v am;have n:Z (cD t (CG M R) P P.body[k] i j=R p.gs[v] i j):=cI (by rw[qN s,wm K]);have⟨gg,e2,ac,aS⟩:=c.gaps v p.gs[v] (by simp);have al:Z _:=λx (q:O [] W x)=>tu z3 z4 z5 t E A M.length R p.gs[v] i j x (C.YM q) hn ht (VZ.1 (V3 K)) hi hj;rw[n.o];rw[e2]at p3;clear e2;rw[s]at N;replace N:W.cell? ⟨p.ap,k*2+1,none⟩=some (int i64 (v:Int)):=N;generalize p.gs[v]=kc at *;have bc:(v:Int)<(p.gs.length:Int):=by omega);(generalize R kc i j=bd at *;have HC:Z (∀x,O [] W x->x.cell? ⟨pb,3,none⟩=some (slice (some ⟨gg,0,none⟩) p.gs.length p.gs.length)/\x.cell? ⟨gg,v,none⟩=some (int i64 kc)/\x.cell? ⟨sb,0,none⟩=some (int i64 i)/\x.cell? ⟨sb,1,none⟩=some (int i64 j)):=λx q=>by refine⟨?_,?_,?_,?_⟩;{rwa [Wc (q.block _ ai (by simp))]};{rwa [Wc (q.block _ ac (by simp))]};{rwa [Wc (q.block _ I (by simp))]};{rwa [Wc (q.block _ I (by simp))]});clear h r C c b D F u T m n s K S;go_enter func223,ntmps223;go_upto_region 1 with fail;rw[B.o,f.o,d.o];go_upto_region 5 with fail;go_region_held3 (λV=>V.cell? ⟨pb,3,none⟩=some (slice (some ⟨gg,0,none⟩) p.gs.length p.gs.length)/\V.cell? ⟨gg,v,none⟩=some (int i64 kc)/\V.cell? ⟨sb,0,none⟩=some (int i64 i)/\V.cell? ⟨sb,1,none⟩=some (int i64 j)) (go_keep) ((go_at_call 146;refine de (al.o _ (by exact(O.refl [] W).drew)) λw3 k3=>?_;have⟨x0,x1,x2,x3⟩:=HC.o w3 ((O.refl [] W).drew.trans k3)));go_wp2;go_ret;exact⟨rfl,a.o.trans ((O.refl [] W).drew.trans k3)⟩}|none=>(rw[s]at N;replace N:W.cell? ⟨p.ap,k*2+1,none⟩=some (int i64 (-1)):=N;have l:cD t (CG M R) P P.body[k] i j=if j=i+1/\i<t.length/\((t.getD i ⟨#[]⟩).toList==P.body[k].toList)=true then 1 else 0:=by unfold cD;rw[s]);(have a6:decide ((i:Int)<0)=false:=by rfl);have L:=S.YM u;generalize P.body[k]=y at *;by_cases H:i<t.length;{have aq:decide (t.length<=i)=false:=(by grind);by_cases ad:j=i+1;{rcases L with h0 | ⟨gt,ao,av,be,a1,a2,a3,a4,a5⟩;{rw[h0]at H;simp at H};{have t0:W.cell? ⟨gt,ao+i,none⟩=some (string t[i]):=bR a2 (by grind);have aT:=ae a2;rw[a1]at c1;have G:=lL t i H;rw[G]at l;have a7:(i:Int)<t.length:=(by omega);have af:((j:Int) != (i:Int)+1)=false:=(by grind);generalize t[i]=z at *;cases hb:(z.toList==y.toList);{have n:Z (cD t (CG M R) P y i j=0):=(by show _=_;grind);rw[n.o];clear h r C c b D F u T m l s S G a1 a2 a3 a4 a5 ad;go_enter func223,ntmps223;(go_upto_region 1 with fail);rw[B.o,f.o,d.o];(go_upto_region 6 with fail);go_quiet (fail);(go_upto_region 8 with fail);go_quiet (fail);go_wp2;go_ret;exact⟨rfl,by first | exact a.o.drewN _ | exact(a.o.drewN _).drewN _⟩};{have n:Z (cD t (CG M R) P y i j=1):=(by show _=_;grind);rw[n.o];clear h r C c b D F u T m l s S G a1 a2 a3 a4 a5 ad;go_enter func223,ntmps223;(go_upto_region 1 with fail);rw[B.o,f.o,d.o];(go_upto_region 6 with fail);go_quiet (fail);(go_upto_region 8 with fail);go_quiet (fail);go_wp2;go_ret;exact⟨rfl,by first | exact a.o.drewN _ | exact(a.o.drewN _).drewN _⟩}}};{have af:(((j:Nat):Int) != (i:Int)+1)=true:=(by grind);have n:Z (cD t (CG M R) P y i j=0):=cI (by grind);rw[n.o];clear h r C c b D F u T m l s S L;go_enter func223,ntmps223;(go_upto_region 1 with fail);rw[B.o,f.o,d.o];(go_upto_region 6 with fail);go_quiet (fail);go_wp2;go_ret;exact⟨rfl,by first | exact a.o.drewN _ | exact(a.o.drewN _).drewN _⟩}};{have ar:(t.length:Int)<=(i:Int):=(by omega);have n:Z (cD t (CG M R) P y i j=0):=cI (by grind);rw[n.o];clear h r C c b D F u T m l s S L;go_enter func223,ntmps223;(go_upto_region 1 with fail);rw[B.o,f.o,d.o];(go_upto_region 6 with fail);go_quiet (fail);go_wp2;go_ret;exact⟨rfl,by first | exact a.o.drewN _ | exact(a.o.drewN _).drewN _⟩}
end Go.Proofs.YtpdholcaobgofaaGreat
