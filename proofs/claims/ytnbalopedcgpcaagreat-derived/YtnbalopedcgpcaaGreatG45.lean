import Derived.Test.YtnbalopedcgpcaaGreatG35
import Derived.Test.YtnbalopedcgpcaaGreatG44
namespace Go.Proofs.YtnbalopedcgpcaaGreat
open Go.RowKit Tryz
open Option renaming none->XJ,some->XK
open Bool renaming true->XL,false->XM
set_option maxHeartbeats 0
variable{f:List ByteArray}{w n a:Nat}{x D:ByteArray}{s:ByteArray->ByteArray}{v:cY}{H:Db}{y:St}{b:List St}{N:ByteArray->Prop}{i:kn}(d:List ByteArray)(I:List St)(o:Nat)(m:ByteArray)
def rj(l:List St)(vs:List ByteArray)(ms:List Bool)(A:List gX)(S S':List (List ByteArray)×List (List ByteArray)):Prop:=∀fin goal B,dM l vs ms fin goal (A++B) S=dM l vs ms fin goal B S'
section
variable {l:List St} {vs:List ByteArray} {ms:List Bool} {A B:List gX} {S S1 S2:List (List ByteArray)×List (List ByteArray)}
theorem rj.nil:rj l vs ms [] S S:=fun _ _ _=>rfl
theorem rj.app(h:rj l vs ms A S S1)(g:rj l vs ms B S1 S2):rj l vs ms (A++B) S S2:=fun b a X=>by rw[QU,h,g]
theorem rj.one{s:gX}{a:List (List ByteArray)}(h:eV l vs ms S.1 S.2 s=((0,f),a))(d:f.length<=32):rj l vs ms [s] S (S.1++[f],a++[f]):=fun c b B=>by
 show dM l vs ms c b (s :: B) S=_;have e:ie l vs ms S s=(0,S.1++[f],a++[f]):=by
  unfold ie;rw[h];simp only[beq_self_eq_true,if_true];rw[PJ d]
 rw[dM,e];simp
end
def vL(tx:List ByteArray)(i j:Nat):List ByteArray:=(tx.drop i).take (j-i)
theorem Mc:vL d o o=[]:=by unfold vL;rw[Rb,TT]
theorem Ec(b:w<=n)(c:n<=a):vL d w a=vL d w n++vL d n a:=by
 unfold vL;rw[show a-w=(n-w)+(a-n) by omega,List.take_add,List.drop_drop,show w+(n-w)=n by omega]
theorem Md(h:w<d.length):vL d w (w+1)=[d.getD w ⟨#[]⟩]:=by
 unfold vL;rw[show w+1-w=1 by omega,fS _ _ h,Qh h];rfl
theorem Mb(j:Nat):(vL d o j).length<=d.length:=by
 unfold vL;rw[QM,Ra];omega
theorem Ma:vL d 0 d.length=d:=by unfold vL;simp
def Al(ρ:ByteArray->ByteArray)(P:cY)(es:List (List ByteArray))(s:ByteArray):List ByteArray:=match aZ P.vars s with
 | none=>[ρ s]
 | some v=>(es.getD v []).drop 1
def Kz(l:List St)(vs:List ByteArray)(ms:List Bool)(ρ:ByteArray->ByteArray)(n:Nat)(P:cY):Prop :=
 ∀(p:Pl) (sh th es:List (List ByteArray)),es.length=P.vars.length->(∀v,v<P.vars.length->∃r,es.getD v []=P.types.getD v ⟨#[]⟩ :: r)->(P.code :: P.body.flatMap (Al ρ P es)).length<=32 ->
  eV l vs ms sh (th++es) ⟨2,n,p⟩=((0,P.code :: P.body.flatMap (Al ρ P es)),th)
section
variable {tx:List ByteArray} {Ps:List cY} {C:kn}
theorem M8(n:Nat):iZ (pR tx Ps n):=by
 induction n with
 | zero=>exact fun _ _ _ _=>rfl
 | succ n a=>exact AU a
theorem uL.tri(is:uL tx Ps C)(b:w<tx.length+1)(c:n<tx.length+1)(h:0<C x w n):w<=n:=by
 obtain⟨e,d⟩:=is.low;refine Re (fun q=>?_);have a:=d x w n b c;rw[M8 e x w n (by omega)]at a;omega
theorem Bg(is:uL tx Ps C)(x:kZ v)(d:w<tx.length+1)(f:jS tx C v w n=1){es:List (List ByteArray)}(t:∀a,a<v.vars.length->(es.getD a []).drop 1=(vL tx (rc tx C v w n a).1 (rc tx C v w n a).2).map ρ)(k:Nat)(B:k<=v.body.length) :
  w<=nA tx C v w n k/\(v.body.take k).flatMap (Al ρ v es)=(vL tx w (nA tx C v w n k)).map ρ:=by
 induction k with
 | zero=>rw[KR d f,Mc];exact⟨PB _,rfl⟩
 | succ k u =>
  have b:k<v.body.length:=by omega
  obtain⟨l,r⟩:=u (by omega);have c:=wt d f k b;have o:=(gZ d f k).1;have p:=(gZ d f (k+1)).1;rw[Qu b,QQ,r,RO];unfold Al;cases e:aZ v.vars v.body[k] with
  | none =>
   unfold cr at c;rw[e]at c;simp only at c;split at c
   ·next q =>
    obtain⟨y,z,A⟩:=q;refine⟨by omega,?_⟩;rw[y,Ec tx l (RY _),Qp,Md tx z,ed A];rfl
   ·omega
  | some a =>
   have m:a<v.vars.length:=PV.1 (Qc e);have i:oj v a=k:=MH x m b (by rw[fS _ _ b];exact e);rw[oU e]at c;have j:=is.tri o p (by omega:0<C (v.types.getD a ⟨#[]⟩) (nA tx C v w n k) (nA tx C v w n (k+1)));refine⟨by omega,?_⟩;have g:=t a m;unfold rc at g;rw[i]at g
   show(vL tx w (nA tx C v w n k)).map ρ++(es.getD a []).drop 1=_
   rw[g,Ec tx l j,Qp]
theorem vm{α β:Type}{f:α->β}{A:List α}{x y:List β}(h:A.map f=x++y):∃a b,A=a++b/\a.map f=x/\b.map f=y:=by
 obtain⟨a,b,c,d,e⟩:=List.map_eq_append_iff.1 h;exact⟨a,b,c,d,e⟩
theorem CX(is:uL tx Ps C)(U:∀P∈Ps,kZ P)(ac:tx.length<=10){l:List St}{vs:List ByteArray}{ms:List Bool}{num:ByteArray->Nat}(hs:∀P∈Ps,Kz l vs ms ρ (num P.label) P)(r:Nat) :
  ∀(c:ByteArray) (i j:Nat),i<tx.length+1->j<tx.length+1->C c i j=1->0<pR tx Ps r c i j->∀A:List gX,A.map (fun d=>(d.kind,d.Uc))=(pO tx Ps C r c i j).map (fun x=>((2:Int),num x)) ->
  ∀S,∃m,rj l vs ms A S (m,S.2++[c :: (vL tx i j).map ρ]):=by
 induction r with
 | zero=>intro c i j _ _ _ h;exact absurd h (RT _)
 | succ r ih =>
  intro c i j y J N hr A O S;obtain⟨k,Q,R,hc,T,-⟩:=is.pick y J N;have L:=U Ps[k] (PD Q);have t:=fun v g=>is.kids U y J N hr R v g;have I:=hs Ps[k] (PD Q);rw[xH R,Qp]at O;generalize Ps[k]=P at *;obtain rfl:P.code=c:=ed hc;obtain⟨f,V,rfl,F,o⟩:=vm O
  -- what stands in its gaps
  have w:∀n,n<=P.vars.length->∀f:List gX,f.map (fun d=>(d.kind,d.Uc))=(oZ (fun v=>pO tx Ps C r (P.types.getD v ⟨#[]⟩) (rc tx C P i j v).1 (rc tx C P i j v).2) n).map (fun x=>((2:Int),num x)) ->
    ∃m,rj l vs ms f S (m,S.2++(List.range n).map (fun v=>P.types.getD v ⟨#[]⟩ :: (vL tx (rc tx C P i j v).1 (rc tx C P i j v).2).map ρ)):=by
   intro n
   induction n with
   | zero =>
    intro _ f h;have h0:f=[]:=by simpa [oZ] using h
    subst h0;exact⟨S.1,by simpa using rj.nil⟩
   | succ n K =>
    intro hn f h;rw[vg,Qp]at h;obtain⟨a,b,rfl,ha,q⟩:=vm h;obtain⟨D,z⟩:=K (by omega) a ha;obtain⟨W,X,Y,Z⟩:=t n (by omega);obtain⟨s2,B⟩:=ih _ _ _ W X Y Z b q (D,S.2++(List.range n).map (fun v=>P.types.getD v ⟨#[]⟩ :: (vL tx (rc tx C P i j v).1 (rc tx C P i j v).2).map ρ));refine⟨s2,?_⟩;have:=z.app B;rw[QB,Qp,<-QU];exact this
  obtain⟨D,z⟩:=w P.vars.length (PB _) f F;obtain⟨E,G⟩:∃E,E=(List.range P.vars.length).map (fun v=>P.types.getD v ⟨#[]⟩ :: (vL tx (rc tx C P i j v).1 (rc tx C P i j v).2).map ρ):=⟨_,rfl⟩
  have H:E.length=P.vars.length:=by rw[G];simp
  have p:∀v,v<P.vars.length->E.getD v []=P.types.getD v ⟨#[]⟩ :: (vL tx (rc tx C P i j v).1 (rc tx C P i j v).2).map ρ:=fun v g=>by
   rw[G,Py,Qi,Sl g];rfl
  rw[<-G]at z;have q:=(Bg is (ρ:=ρ) L y T (es:=E) (fun v g=>by rw[p v g];rfl) P.body.length (PB _)).2;rw[Qy,Ds y J T]at q;have e:(P.code :: P.body.flatMap (Al ρ P E)).length<=32:=by
   rw[q,Qw,P0];have:=Mb tx i j;omega
  obtain⟨d,rfl⟩:∃d,V=[d]:=by
   have:=congrArg List.length o;simp at this;exact List.length_eq_one_iff.1 this
  obtain⟨e1,e2⟩:d.kind=2/\d.Uc=num P.label:=by simpa using o
  have u:=I d.at_ D S.2 E H (fun v g=>⟨_,p v g⟩) e;have M:(⟨2,num P.label,d.at_⟩:gX)=d:=by rw[<-e1,<-e2]
  rw[M]at u;have B:=rj.one (S:=(D,S.2++E)) u e;rw[q]at B;exact⟨_,z.app B⟩
structure OV(ρ:ByteArray->ByteArray)(P Q:cY):Prop where
 code:Q.code=P.code
 types:Q.types=P.types
 len:Q.body.length=P.body.length
 pos:∀(k:Nat) (x y:ByteArray),P.body[k]?=XK x->Q.body[k]?=XK y->aZ Q.vars y=aZ P.vars x/\(aZ P.vars x=XJ->y=ρ x)
theorem NX{α:Type}{f g:α->Nat->Nat->Nat}:∀(a b:List α) (i j:Nat),b.length=a.length->i<w->0<wy w f a i j->(∀(k:Nat) x y p q,a[k]?=XK x->b[k]?=XK y->p<w->q<w->0<f x p q->0<g y p q)->0<wy w g b i j:=by
 intro a
 induction a with
 | nil =>
  intro b i j c l h _;have t:b=[]:=Qb c;rw[t];exact h
 | cons x r z =>
  intro b i j c l h e;cases b with
  | nil=>simp at c
  | cons y s =>
   have o:0<sm (fun m=>f x i m*wy w f r m j) w:=h;obtain⟨m,d,n⟩:=xB o;have A:0<f x i m:=Sp n;have B:0<wy w f r m j:=Sy n;have C:=e 0 x y i m rfl rfl l d A;have D:=z s m j (by simpa using c) d B (fun k x y p q u v=>e (k+1) x y p q (by simpa using u) (by simpa using v));exact PH (TY C D) (ra (f:=fun m=>g y i m*wy w g s m j) d)
theorem Iv(ρ:ByteArray->ByteArray)(tx:List ByteArray)(h:w<tx.length):(tx.map ρ).getD w ⟨#[]⟩=ρ (tx.getD w ⟨#[]⟩):=by
 rw[Py,Qi,Py,Px h];rfl
theorem Nt{Qs:List cY}(C:∀P∈Ps,(∀x∈P.body,aZ P.vars x=XJ->x∈tx)->∃Q∈Qs,OV ρ P Q)(n:Nat) :
  ∀(c:ByteArray) (i j:Nat),i<tx.length+1->0<pR tx Ps n c i j->0<pR (tx.map ρ) Qs n c i j:=by
 induction n with
 | zero=>intro c i j _ h;exact absurd h (RT _)
 | succ n I =>
  intro c i j w h;have B:0<cp (qY (ol tx (pR tx Ps n) c i j) Ps):=h;obtain⟨k,E,d⟩:=xz (wo.1 B);have u:(Ps[k].code.toList==c.toList)=XL:=by
   unfold ol at d;split at d
   ·next q=>exact q
   ·omega
  have A:0<jS tx (pR tx Ps n) Ps[k] i j:=by unfold ol at d;rw[PJ u]at d;exact d
  have l:∀x∈Ps[k].body,aZ Ps[k].vars x=XJ->x∈tx:=by
   intro x l G;obtain⟨q,z,rfl⟩:=QC l;obtain⟨a,b,-,-,-,o,-⟩:=El Ps[k].body i j w A q z;unfold cr at o;rw[G]at o;simp only at o;split at o
   ·next e =>
    rw[<-ed e.2.2,fS _ _ e.2.1];exact PD _
   ·omega
  obtain⟨Q,D,R⟩:=C Ps[k] (PD E) l;obtain⟨m,F,rfl⟩:=QC D;have t:0<jS (tx.map ρ) (pR (tx.map ρ) Qs n) Qs[m] i j:=by
   unfold jS;rw[P0];refine NX _ _ i j R.len w A (fun J x y p q l H d z g=>?_);obtain⟨K,L⟩:=R.pos J x y l H;unfold cr at g ⊢;rw[K,R.types];cases r:aZ Ps[k].vars x with
   | some v =>
    rw[r]at g;exact I _ p q d g
   | none =>
    rw[r]at g;simp only at g ⊢;split at g
    ·next e =>
     rw[PJ ⟨e.1,by rw[P0];exact e.2.1,by rw[L r,Iv ρ tx e.2.1,ed e.2.2];exact Rc _⟩];exact PY
    ·omega
  show 0<cp (qY (ol (tx.map ρ) (pR (tx.map ρ) Qs n) c i j) Qs);refine wo.2 (PH ?_ (xy (f:=ol (tx.map ρ) (pR (tx.map ρ) Qs n) c i j) m F));unfold ol;rw[R.code,PJ u];exact t
end
def N3(d:Db):Prop:=∀s∈d.Us,jl s.kind=XL->s.til=0
theorem N3.take(h:N3 H)(x:ByteArray)(p:Pl):N3 (aK H x p).2:=by
 intro s d b;rcases pH H x p with e | ⟨y,-,e⟩ | ⟨e,-⟩
 ·rw[e]at d;exact h s d b
 ·rw[e]at d;obtain⟨i,a⟩:=List.mem_iff_getElem?.1 d;rw[fH]at a;cases f:H.Us[i]? with
  | none=>rw[f]at a;cases a
  | some u =>
   rw[f]at a;replace a:(if y<=i/\i<H.Us.length then dE H.Us.length u else u)=s:=Qo a;have g:=Qf f;by_cases q:y<=i/\i<H.Us.length
   ·rw[PJ q]at a;unfold dE at a;split at a
    ·next c =>
     rw[<-a]at b;have b:jl u.kind=XL:=b;rw[c.2]at b;cases b
    ·rw[<-a]at b ⊢;exact h u g b
   ·rw[PG q]at a;rw[<-a]at b ⊢;exact h u g b
 ·rw[e]at d;rcases Qe.1 d with q | q
  ·exact h s q b
  ·rw[Qd.1 q]
theorem Cu(s:ByteArray)(f:Nat):∀k d,N3 d->N3 (cV m s f k d).2:=by
 induction f with
 | zero=>intro k d h;exact h
 | succ f a =>
  intro k d h;rw[cV];split
  ·split
   ·exact a _ _ (h.take _ _)
   ·exact h.take _ _
  ·split
   ·split <;> exact h
   ·exact h
theorem LS:N3 (aJ m).2:=Cu _ m _ 0 _ (fun s a=>by cases a)
def mT(l:List St)(k:Nat):List ByteArray:=(lx l k).map (fun h=>ax (l.getD h dJ))
def qq(z:ByteArray)(us:List ByteArray)(x:ByteArray):ByteArray:=match aZ us x with
 | none=>x
 | some i=>nm z (m9 120 i)
theorem xq(h:D∉f):qq x f D=D:=by unfold qq;rw[dU.2 h]
theorem Aa(h:aZ f D=XK w):qq x f D=nm x (m9 120 w):=by unfold qq;rw[h]
structure mN(T z:ByteArray)(k:Nat)(L:List St)(g ws:List ByteArray):Prop where
 fine:dV T
 zed:lu T z
 at_:fD (aJ T).2.Us k=XL
 new:Kx (aJ T).2.Us L z (mT (aJ T).2.Us k) g ws
section
variable {T z:ByteArray} {k:Nat} {L:List St} {g ws:List ByteArray}
theorem mN.nm(X:mN T z k L g ws):Nm (GP T) (aJ T).2:=mE T X.fine.size
theorem mN.old(X:mN T z k L g ws)(h:w<(aJ T).2.Us.length):L[w]?=(aJ T).2.Us[w]?:=by
 obtain⟨M,e⟩:=X.new.pre;rw[e,PC h]
theorem mN.kl(X:mN T z k L g ws):k<(aJ T).2.Us.length:=by
 have h:=X.at_;unfold fD at h;cases a:(aJ T).2.Us[k]? with
 | none=>rw[a]at h;cases h
 | some s=>exact(PT.1 a).1
abbrev aS (T:ByteArray) (k:Nat):Nat:=(aJ T).2.Us.length+(mT (aJ T).2.Us k).length
theorem mN.heldO(X:mN T z k L g ws)(a:(aJ T).2.Us[w]?=XK y)(c:jl y.kind=XL):bZ L w (aS T k)=XL:=by
 have d:=(PT.1 a).1;have b:=LS T y (Qf a) c;rw[iD (by rw[X.old d];exact a)];exact⟨by unfold aS;omega,PI b⟩
theorem mN.heldN(X:mN T z k L g ws)(a:w<(mT (aJ T).2.Us k).length):bZ L ((aJ T).2.Us.length+w) (aS T k)=XL:=by
 obtain⟨p,b⟩:=X.new.flt w a;rw[iD b];exact⟨by unfold aS;omega,PK (by show _<L.length;rw[X.new.len];unfold aS;omega)⟩
theorem mN.other(X:mN T z k L g ws)(i:(aJ T).2.Us[w]?=XK y)(f:y.kind≠1)(b:List UInt8):(y.label.toList==(Go.Proofs.YtnbalopedcgpcaaGreat.nm z b).toList)=XM:=by
 cases h:(y.label.toList==(Go.Proofs.YtnbalopedcgpcaaGreat.nm z b).toList)
 ·rfl
 ·have e:=ed h;have d:=X.nm.Us y (Qf i);have a:2<=y.kind/\y.kind<=5:=d.kind.resolve_left f;have c:=(d.lab a).1.2;rw[e]at c;exact absurd c.pre X.zed.fresh
theorem IY(h:∀s,b[n]?=XK s->s.kind≠1->(s.label.toList==x.toList)=XM):gK b x w n=XM:=by
 unfold gK;cases c:b[n]? with
 | none=>rfl
 | some s =>
  simp only;by_cases a:s.kind=1
  ·rw[a];simp
  ·rw[h s c a];rfl
theorem mN.findO(X:mN T z k L g ws)(a:(aJ T).2.Us[w]?=XK y)(b:jl y.kind=XL):ez L y.label (aS T k)=XK w:=by
 have l:=(PT.1 a).1;have f:y.kind≠1:=fun e=>by rw[e]at b;cases b
 have c:L[w]?=XK y:=by rw[X.old l];exact a
 unfold ez;refine dN (by rw[X.new.len];omega) ?_ (fun i j=>IY (fun u d m=>?_))
 ·unfold gK;rw[c];simp only;rw[X.heldO a b,Rc,P7.2 f];rfl
 ·rw[X.old (by omega)]at d;exact X.nm.diff i w u y j d a m f
theorem mN.findN(X:mN T z k L g ws)(c:w<(mT (aJ T).2.Us k).length)(l:(mT (aJ T).2.Us k).length<4200):ez L (Go.Proofs.YtnbalopedcgpcaaGreat.nm z (tQ 120 w)) (aS T k)=XK ((aJ T).2.Us.length+w):=by
 obtain⟨p,d⟩:=X.new.flt w c;unfold ez;refine dN (by rw[X.new.len];omega) ?_ (fun j i=>IY (fun u b f=>?_))
 ·unfold gK;rw[d];simp only;rw[X.heldN c,Rc];rfl
 ·by_cases q:j<(aJ T).2.Us.length
  ·rw[X.old q]at b;exact X.other b f _
  ·obtain⟨m,a⟩:=X.new.flt (j-(aJ T).2.Us.length) (by omega);rw[show(aJ T).2.Us.length+(j-(aJ T).2.Us.length)=j by omega,b]at a;rw[Qo a]
   show((Go.Proofs.YtnbalopedcgpcaaGreat.nm z _).toList==(Go.Proofs.YtnbalopedcgpcaaGreat.nm z _).toList)=XM
   rw[Cd,P7];intro e;have:=JM (by omega) (by omega) e;omega
theorem IT(k:Nat):(eP I k).length=(mT I k).length:=by rw[qe];unfold mT;simp
theorem lM(h:w<b.length):b.getD w dJ=b[w]:=by rw[Py,Px h];rfl
theorem dI(h:w<b.length):bL b w=b.getD w dJ:=by rw[dO h,lM h]
theorem mN.var(X:mN T z k L g ws)(a:w<(lx (aJ T).2.Us k).length):aZ (eP (aJ T).2.Us k) (ak ((aJ T).2.Us.getD (lx (aJ T).2.Us k)[w] dJ))=XK w:=by
 have A:=G5 X.nm (qk T) X.at_;have e:(eP (aJ T).2.Us k).getD w ⟨#[]⟩=ak ((aJ T).2.Us.getD (lx (aJ T).2.Us k)[w] dJ):=by
  rw[qe,Py,Qi,Px a];rfl
 rw[<-e];exact vB A.hy.uq (by show w<(eP _ _).length;rw[qe,P0];exact a)
theorem MY{k:Nat}(a:w<(lx b k).length):gD (mT b k) w=ax (b.getD (lx b k)[w] dJ):=by
 unfold gD mT;rw[Py,Qi,Px a];rfl
theorem lK{k:Nat}(f:w∈lx b k):w∈al b k/\w<b.length/\(b.getD w dJ).kind=2:=by
 obtain⟨c,a⟩:=QA.1 f;obtain⟨s,d,-,g⟩:=gz.1 c;have e:=nE d;rw[e]at a ⊢;refine⟨c,(PT.1 d).1,?_⟩;rcases g with q | q
 ·exact q.1
 ·rw[q]at a;cases a
theorem mN.leaf(X:mN T z k L g ws)(n:List ByteArray)(m:List Bool)(c:w<(lx (aJ T).2.Us k).length):Kz L n m (qq z (eP (aJ T).2.Us k)) ((aJ T).2.Us.length+w) (BN (bL (aJ T).2.Us (lx (aJ T).2.Us k)[w])):=by
 intro p q r i l _ _;have d:i=[]:=Qb l;subst d;obtain⟨o,b⟩:=X.new.flt w (by unfold mT;rw[P0];exact c);have a:=(lK (PD c)).2.1;unfold eV;rw[PG (by decide:¬((2:Int)==3)=XL)];have j:fD L ((aJ T).2.Us.length+w)=XM:=by unfold fD;rw[b];rfl
 simp only[j,Bool.false_eq_true,if_false,List.append_nil];rw[nE b,MY c];have e:(BN (bL (aJ T).2.Us (lx (aJ T).2.Us k)[w])).code=ax ((aJ T).2.Us.getD (lx (aJ T).2.Us k)[w] dJ):=by rw[dI a];rfl
 have f:(BN (bL (aJ T).2.Us (lx (aJ T).2.Us k)[w])).body.flatMap (Al (qq z (eP (aJ T).2.Us k)) (BN (bL (aJ T).2.Us (lx (aJ T).2.Us k)[w])) [])=[Go.Proofs.YtnbalopedcgpcaaGreat.nm z (m9 120 w)]:=by
  rw[dI a];show [ak ((aJ T).2.Us.getD (lx (aJ T).2.Us k)[w] dJ)].flatMap _=_;rw[RO];show [qq z (eP (aJ T).2.Us k) (ak ((aJ T).2.Us.getD (lx (aJ T).2.Us k)[w] dJ))]=_;rw[Aa (X.var c)]
 rw[e,f]
theorem sQ(h:j8 b w=XL):bN b w=[]/\∀h∈al b w,(bL b h).kind=2:=by
 unfold j8 at h;rw[Ql,QH]at h;refine⟨List.isEmpty_iff.1 h.1,fun x a=>?_⟩;have:=h.2 x a;rw[Ql]at this;exact Rh this.1
theorem mN.rule(X:mN T z k L g ws)(O:List ByteArray)(K:List Bool)(hm:w<k)(S:(bL (aJ T).2.Us w).kind=4)(Q:j8 (aJ T).2.Us w=XL):Kz L O K (qq z (eP (aJ T).2.Us k)) w (mb (aJ T).2.Us w):=by
 have V:=qk T;have N:=X.nm;have ag:=X.kl;obtain⟨M,eL⟩:=X.new.pre;obtain⟨l,P⟩:∃l,l=(aJ T).2.Us:=⟨_,rfl⟩
 rw[<-P]at S Q ag eL ⊢;have d:w<l.length:=by omega
 have ai:l[w]?=XK (l.getD w dJ):=by rw[lM d,Px d]
 rw[dI d]at S;have F:fD l w=XL:=by unfold fD;rw[ai];simp only;rw[S];rfl
 have A:NZ l w:=by rw[P]at F ⊢;exact G5 N V F
 obtain⟨ah,ad⟩:=sQ Q;have o:∀h∈al l w,(l.getD h dJ).kind=2:=fun h f=>by
  rw[<-dI (j7 f).1];exact ad h f
 have ef:lx l w=al l w:=by
  unfold lx;rw[List.filter_eq_self];intro h f;rw[o h f];rfl
 have a:eP l w=(al l w).map (fun h=>ak (l.getD h dJ)):=by rw[qe,ef]
 have t:(mb l w).vars=eP l w:=by
  rw[a];exact QN (fun h f=>by rw[dI (j7 f).1])
 have R:(mb l w).types=(al l w).map (fun h=>ax (l.getD h dJ)):=QN (fun h f=>by rw[dI (j7 f).1]);intro p sh th s H W Y;obtain⟨c,D,m⟩:∃c D,(l.getD w dJ).Ub=c :: D:=by
  cases f:(l.getD w dJ).Ub with
  | nil=>exact absurd f A.ne
  | cons c D=>exact⟨c,D,rfl⟩
 have y:(mb l w).code=c:=by show ax (bL l w)=c;rw[dI d];unfold ax;rw[m];rfl
 have u:(mb l w).body=D:=by show(bL l w).Ub.drop 1=D;rw[dI d,m];rfl
 obtain⟨σ,hσ⟩:∃σ:ByteArray->List ByteArray,σ=fun x=>match aZ (eP l w) x with | some v=>(s.getD v []).drop 1 | none=>[]:=⟨_,rfl⟩
 have Z:(al l w).map (GR l (eP l w) σ)=s:=by
  have C:(al l w).length=s.length:=by rw[H,t,a,P0]
  apply Ty
  ·rw[P0];exact C
  ·intro v h1 h2;have J:v<(al l w).length:=(by rw[P0]at h1;exact h1);rw[List.getElem_map];unfold GR;have b:=PD J;rw[PG (by rw[o _ b];decide)];have I:aZ (eP l w) (ak (l.getD (al l w)[v] dJ))=XK v:=by
    have e:(eP l w).getD v ⟨#[]⟩=ak (l.getD (al l w)[v] dJ):=(by rw[a,Py,Qi,Px J];rfl);rw[<-e];exact vB A.hy.uq (by show v<(eP l w).length;rw[a,P0];exact J)
   have hσv:σ (ak (l.getD (al l w)[v] dJ))=(s.getD v []).drop 1:=by
    rw[hσ];simp only[I]
   rw[hσv];obtain⟨r,Q⟩:=W v (by rw[t,a,P0];exact J);have e2:s.getD v []=s[v]:=by rw[Py,Px h2];rfl
   have e3:(mb l w).types.getD v ⟨#[]⟩=ax (l.getD (al l w)[v] dJ):=(by rw[R,Py,Qi,Px J];rfl);rw[<-e2,Q,e3];rfl
 have n:(l.getD w dJ).Ub.flatMap (mS (eP l w) σ)=(mb l w).code :: (mb l w).body.flatMap (Al (qq z (eP l k)) (mb l w) s):=by
  rw[m,QE,y,u];have U:mS (eP l w) σ c=[c]:=by
   refine pF ?_;have:=A.tc;unfold ax at this;rw[m]at this;exact dU.1 this
  rw[U,List.singleton_append];congr 1;refine wG (fun x hx=>?_);unfold Al;rw[t];cases E:aZ (eP l w) x with
  | none =>
   rw[pF (dU.1 E)];show [x]=[qq z (eP l k) x]
   rw[xq];intro b;have am:OQ (aJ T).2.Us w x:=PI (by rw[<-P,m];exact Qk _ hx);rw[P]at F E b;rcases MM N V F am with q | q
   ·exact V.cv x q (wZ N V b)
   ·exact dU.1 E q
  | some v =>
   have b:x∈eP l w:=by
    refine Re (fun q=>?_);rw[dU.2 q]at E;cases E
   rw[xC b,hσ];simp only[E]
 have B:j9 l w (eP l w,(eP l w).map σ) O K=XL:=by
  unfold j9;rw[QX];intro i _ j hj ac;unfold lm;cases ha:cR (eP l w).length (cT l w (eP l w)) i j
  ·rfl
  ·have:=(FJ A (p:=(gD (eP l w) i,gD (eP l w) j))).2 ⟨i,j,ac,hj,ha,rfl⟩;rw[ah]at this;cases this
 rw[eL,vJ l M O K sh (th++s) ⟨2,w,p⟩ (fun _=>d)];unfold eV;rw[PG (by decide:¬((2:Int)==3)=XL)];simp only[F,if_true];have G:=ye A σ (vs:=O) (ms:=K) th (fun h f k3=>by rw[o h f]at k3;cases k3) B (by rw[n];exact Y);rw[Z]at G;rw[G,n];congr 1;have C:(al l w).length=s.length:=by rw[H,t,a,P0]
 rw[C,PQ,Nat.add_sub_cancel];exact List.take_left
end
theorem Ce{fin:Pl}{g:ByteArray->Nat}(c:List (ByteArray×Pl)):∀a:List gX,(∀x∈c,ez b x.1 w=XK (g x.1)/\(x.1.toList == [63])=XM)->0<a.length+c.length->cO b w fin c a=(a++c.map (fun x=>⟨2,g x.1,x.2⟩),cy):=by
 induction c with
 | nil =>
  intro a _ h;rw[cO,PG (by simp at h;omega),Tg,Qz]
 | cons x r j =>
  obtain⟨t,p⟩:=x;intro a f _;obtain⟨d,e⟩:=f (t,p) (by simp);simp only at d e;rw[cO,PG (by rw[e];simp),d];simp only;rw[j _ (fun y i=>f y (Qk _ i)) (by simp;omega)];simp
theorem Il{α:Type}(p:α->Bool)(L:List α)(q:Nat)(x:α)(h:L[q]?=XK x)(b:p x=XL):(L.filter p)[((L.take q).filter p).length]?=XK x:=by
 have c:=(PT.1 h).1;have e:L=L.take q++x :: L.drop (q+1):=by
  have:=(PT.1 h).2;rw[<-this,<-Qh c,Rq]
 have a:L.filter p=(L.take q).filter p++x :: (L.drop (q+1)).filter p:=by
  conv=>lhs;rw[e]
  rw[Qt,Sz b]
 rw[a,PR (PB _),Rb];rfl
theorem zI{α:Type}{L:List α}(h:L.Nodup){x:α}(d:L[w]?=XK x)(f:L[n]?=XK x):w=n:=by
 have a:=(PT.1 d);have b:=(PT.1 f);have c:=Tq.1 h;have e:=a.2.trans b.2.symm;rcases R0 w n with q | q | q
 ·exact absurd e (c w n a.1 b.1 q)
 ·exact q
 ·exact absurd e.symm (c n w b.1 a.1 q)
def O7(l:List St)(k q:Nat):Nat:=(((al l k).take q).filter (fun h=>!((l.getD h dJ).kind==3))).length
def OX(l:List St)(k q:Nat):Nat:=(((al l k).take q).filter (fun h=>(l.getD h dJ).kind==3)).length
def LG(z:ByteArray)(l:List St)(k q:Nat):ByteArray:=if((l.getD ((al l k).getD q 0) dJ).kind==3)=XL then nm z (101 :: 120 :: (dy (OX l k q)).toList) else nm z (tQ 120 (O7 l k q))
def iJ(z:ByteArray)(l:List St)(k:Nat)(x:ByteArray):ByteArray:=match aZ ((al l k).map (mQ l)) x with
 | none=>x
 | some q=>LG z l k q
theorem Lr(h:w<b.length):mQ b w=(b.getD w dJ).label:=by unfold mQ;rw[Px h,lM h]
section
variable {T z:ByteArray} {k:Nat}
theorem DJ(f:Nm N H)(k:n∈al H.Us w)(i:H.Us[a]?=XK y)(g:y.kind≠1)(e:(mQ H.Us n).toList=y.label.toList):n=a:=by
 obtain⟨u,d,-,c⟩:=gz.1 k;have b:u.kind≠1:=by rcases c with q | q <;> omega
 have j:mQ H.Us n=u.label:=by unfold mQ;rw[d]
 rw[j]at e;rcases R0 n a with q | q | q
 ·have:=f.diff n a u y q d i b g;rw[e,Rc]at this;cases this
 ·exact q
 ·have:=f.diff a n y u q i d g b;rw[e,Rc]at this;cases this
theorem sO:(al I o).Nodup:=(nF I o).imp (fun h=>Nat.ne_of_lt h)
theorem zY(p:Nm N H)(o:w<(lx H.Us k).length):iJ z H.Us k (H.Us.getD (lx H.Us k)[w] dJ).label=nm z (tQ 120 w):=by
 have a:=lK (PD o);obtain⟨q,g,d⟩:=QC a.1;have r:H.Us[(lx H.Us k)[w]]?=XK (H.Us.getD (lx H.Us k)[w] dJ):=by rw[lM a.2.1,Px a.2.1]
 have f:aZ ((al H.Us k).map (mQ H.Us)) (H.Us.getD (lx H.Us k)[w] dJ).label=XK q:=by
  unfold aZ;have c:∀j (m:j<(al H.Us k).length),((al H.Us k).map (mQ H.Us)).getD j ⟨#[]⟩=mQ H.Us (al H.Us k)[j]:=fun j m=>by
   rw[Py,Qi,Px m];rfl
  refine dN (by rw[P0];exact g) ?_ (fun j m=>?_)
  ·rw[c q g,d,Lr a.2.1];exact Rc _
  ·have b:j<(al H.Us k).length:=(by omega);rw[c j b,P7];intro e;have:=DJ p (PD b) r (by rw[a.2.2];decide) e;have s:=zI (sO H.Us k) (Px b) (show(al H.Us k)[q]?=XK (al H.Us k)[j] by rw[Px g,d,this]);omega
 have l:(al H.Us k).getD q 0=(lx H.Us k)[w]:=by rw[Py,Px g,d];rfl
 have i:O7 H.Us k q=w:=by
  have n:=Il (fun h=>!((H.Us.getD h dJ).kind==3)) (al H.Us k) q _ (Px g) (by rw[d,a.2.2];rfl);rw[d]at n;exact zI ((sO H.Us k).filter _) n (Px o)
 unfold iJ;rw[f];simp only;unfold LG;rw[l,PG (by rw[a.2.2];decide),i]
theorem zZ(g:Nm N H)(d:H.Us[w]?=XK y)(l:y.kind=4):iJ z H.Us k y.label=y.label:=by
 have a:aZ ((al H.Us k).map (mQ H.Us)) y.label=XJ:=by
  unfold aZ;refine eI (fun j b=>?_);rw[P0]at b;rw[Py,Qi,Px b]
  show((mQ H.Us (al H.Us k)[j]).toList==y.label.toList)=XM
  rw[P7];intro e;have i:=DJ g (PD b) d (by omega) e;obtain⟨u,f,-,c⟩:=gz.1 (PD b);rw[i,d]at f;have:=Qo f;subst this;rcases c with q | q <;> omega
 unfold iJ;rw[a]
theorem pt(f:v∈dp b k):(∃i,∃d:i<(lx b k).length,v=BN (bL b (lx b k)[i]))∨∃m,m<k/\(bL b m).kind=4/\j8 b m=XL/\v=mb b m:=by
 rcases Qe.1 f with q | q
 ·obtain⟨h,j,rfl⟩:=Qj.1 q;obtain⟨c,a⟩:=QA.1 j;have g:h∈lx b k:=by
   refine QA.2 ⟨c,?_⟩;rw[<-dI (j7 c).1,Rh a];rfl
  obtain⟨i,d,e⟩:=QC g;exact PI ⟨i,d,by rw[e]⟩
 ·obtain⟨m,l,rfl⟩:=Qj.1 q;obtain⟨c,a⟩:=QA.1 l;rw[Ql]at a;exact PK ⟨m,PV.1 c,Rh a.1,a.2,rfl⟩
theorem vT{tx:List ByteArray}{Ps:List cY}{C:kn}(r:Nat):∀c i j,∀x∈pO tx Ps C r c i j,∃P∈Ps,x=P.label:=by
 induction r with
 | zero=>intro c i j x a;cases a
 | succ r f =>
  intro c i j x a;cases b:MT tx Ps C c i j with
  | none =>
   rw[pO,b]at a;cases a
  | some P =>
   rw[xH b]at a;rcases Qe.1 a with q | q
   ·obtain⟨y,e,d⟩:=List.mem_flatten.1 q;obtain⟨v,-,rfl⟩:=Qj.1 e;exact f _ _ _ x d
   ·exact⟨P,Qc b,Qd.1 q⟩
variable {L:List St} {g ws:List ByteArray}
def nQ(L:List St)(a:Nat)(w:ByteArray):Nat:=(ez L w a).getD 0
theorem mN.names(X:mN T z k L g ws)(t:(mT (aJ T).2.Us k).length<4200)(q:List ByteArray)(o:List Bool){P:cY}(r:P∈dp (aJ T).2.Us k) :
  ∃n,ez L (iJ z (aJ T).2.Us k P.label) (aS T k)=XK n/\Kz L q o (qq z (eP (aJ T).2.Us k)) n P/\n<aS T k/\((gS L n).Uh=0∨(gS L n).Uh=1)/\dF (iJ z (aJ T).2.Us k P.label)=XL/\Wd (iJ z (aJ T).2.Us k P.label):=by
 have s:=X.kl;rcases pt r with ⟨i,f,rfl⟩ | ⟨m,u,d,w,rfl⟩
 ·have l:=lK (PD f);have b:i<(mT (aJ T).2.Us k).length:=by unfold mT;rw[P0];exact f
  have e:iJ z (aJ T).2.Us k (BN (bL (aJ T).2.Us (lx (aJ T).2.Us k)[i])).label=Go.Proofs.YtnbalopedcgpcaaGreat.nm z (tQ 120 i):=by
   rw[dI l.2.1];exact zY X.nm f
  obtain⟨p,v⟩:=X.new.flt i b;obtain⟨x,y⟩:=pL X.zed _ (Ea (by omega:i<4200));rw[e];refine⟨_,X.findN b t,X.leaf q o f,by unfold aS;omega,PI ?_,y,x⟩;unfold gS gL;rw[v];rfl
 ·have a:m<(aJ T).2.Us.length:=by omega
  have j:(aJ T).2.Us[m]?=XK (bL (aJ T).2.Us m):=by rw[dO a,Px a]
  have e:iJ z (aJ T).2.Us k (mb (aJ T).2.Us m).label=(bL (aJ T).2.Us m).label:=zZ X.nm j d;have c:=(X.nm.Us _ (Qf j)).lab (by omega);rw[e];refine⟨m,X.findO j (by rw[d];rfl),X.rule q o u d w,by unfold aS;omega,PK ?_,c.2.1,c.1.1.1⟩;unfold gS gL;rw[X.old a,j];simp only;rw[d];rfl
theorem vh(h:dF x=XL):(x.toList == [40])=XM/\(x.toList == [63])=XM:=by
 refine⟨?_,?_⟩
 ·cases q:(x.toList == [40])
  ·rfl
  ·have e:x=⟨#[40]⟩:=eC (by rw[Rh q,Qv]);rw[e]at h;exact absurd h (by decide +kernel)
 ·cases q:(x.toList == [63])
  ·rfl
  ·have e:x=⟨#[63]⟩:=eC (by rw[Rh q,Qv]);rw[e]at h;exact absurd h (by decide +kernel)
theorem mN.verified(X:mN T z k L (x :: f.map (qq z (eP (aJ T).2.Us k))) ((pO f (dp (aJ T).2.Us k) i w x 0 f.length).map (iJ z (aJ T).2.Us k)))(W:(mT (aJ T).2.Us k).length<4200)(ok:∀P∈dp (aJ T).2.Us k,kZ P)(is:uL f (dp (aJ T).2.Us k) i)(J:f.length<=10)(O:i x 0 f.length=1)(S:0<pR f (dp (aJ T).2.Us k) w x 0 f.length) :
  gS L (aS T k)=⟨Go.Proofs.YtnbalopedcgpcaaGreat.nm z [110],5,0,db⟩:=by
 obtain⟨p,j,c,F⟩:=X.new.thm;have F:L[aS T k]?=XK _:=F;obtain⟨C,M⟩:∃C,C=rC L (aS T k):=⟨_,rfl⟩
 obtain⟨D,K⟩:∃D,D=cT L (aS T k) C:=⟨_,rfl⟩
 have m:=fun P d=>X.names (P:=P) W C D d;have b:=fun a G=>vT (tx:=f) (Ps:=dp (aJ T).2.Us k) (C:=i) w x 0 f.length a G;obtain⟨o,B⟩:∃o,o=pO f (dp (aJ T).2.Us k) i w x 0 f.length:=⟨_,rfl⟩
 rw[<-B]at b c
 -- the words
 have hw:∀a∈j,ez L a.1 (aS T k)=XK (nQ L (aS T k) a.1)/\(a.1.toList == [63])=XM:=fun a G=>by
  have:a.1∈o.map (iJ z (aJ T).2.Us k):=by rw[<-c];exact RH G
  obtain⟨y,H,e⟩:=Qj.1 this;obtain⟨P,d,rfl⟩:=b y H;obtain⟨n,I,-,-,-,N,-⟩:=m P d;rw[<-e];refine⟨?_,(vh N).2⟩;unfold nQ;rw[I];rfl
 have R:0<o.length:=by
  rw[B];obtain⟨U,rfl⟩:∃U,w=U+1:=by
   cases w with
   | zero=>exact absurd S (RT _)
   | succ w=>exact⟨w,rfl⟩
  exact CW is (by omega) (by omega) O
 have Z:j.length=o.length:=by
  have:=congrArg List.length c;simpa using this
 have g:=Ce (fin:=p) j [] hw (by simp;omega);rw[RU]at g;have u:qc ⟨5,Go.Proofs.YtnbalopedcgpcaaGreat.nm z [110],x :: f.map (qq z (eP (aJ T).2.Us k)),j,p,0⟩=XM:=by
  unfold qc;cases Y:j with
  | nil=>rfl
  | cons a q =>
   obtain⟨t,pl⟩:=a;have:t∈o.map (iJ z (aJ T).2.Us k):=(by rw[<-c,Y];simp);obtain⟨y,H,e⟩:=Qj.1 this;obtain⟨P,d,rfl⟩:=b y H;obtain⟨n,-,-,-,-,N,-⟩:=m P d;rw[<-e];exact(vh N).1
 have E:eB L (aS T k) ⟨5,Go.Proofs.YtnbalopedcgpcaaGreat.nm z [110],x :: f.map (qq z (eP (aJ T).2.Us k)),j,p,0⟩=(j.map (fun a=>⟨2,nQ L (aS T k) a.1,a.2⟩),cy):=by
  unfold eB;rw[u,PG (by simp)];exact g
 have r:ub (j.map (fun a=>(⟨2,nQ L (aS T k) a.1,a.2⟩:gX)))=XJ:=by
  unfold ub;refine eI (fun ag Q=>?_);rw[P0]at Q;rw[Qi,Px Q];rfl
 have v:dM L C D p (x :: f.map (qq z (eP (aJ T).2.Us k))) (j.map (fun a=>⟨2,nQ L (aS T k) a.1,a.2⟩)) ([],[])=cy:=by
  have ht:=CX is ok J (l:=L) (vs:=C) (ms:=D) (ρ:=qq z (eP (aJ T).2.Us k)) (num:=fun a=>nQ L (aS T k) (iJ z (aJ T).2.Us k a)) (fun P d=>by
   obtain⟨n,I,q2,-⟩:=m P d;have:nQ L (aS T k) (iJ z (aJ T).2.Us k P.label)=n:=(by unfold nQ;rw[I];rfl);rw[this];exact q2) w x 0 f.length (by omega) (by omega) O S (j.map (fun a=>⟨2,nQ L (aS T k) a.1,a.2⟩)) (by
    rw[<-B,RM];have:o.map (fun a=>((2:Int),nQ L (aS T k) (iJ z (aJ T).2.Us k a)))=(o.map (iJ z (aJ T).2.Us k)).map (fun ad=>((2:Int),nQ L (aS T k) ad)):=by rw[RM];rfl
    rw[this,<-c,RM]
    rfl) ([],[])
  obtain⟨ac,d⟩:=ht;have:=d p (x :: f.map (qq z (eP (aJ T).2.Us k))) [];rw[Qz]at this;rw[this,dM];rw[Ma]
  show(if wD _ _=XL then cy else _)=cy
  rw[PJ (yM _)]
 have A:jE (ck L (aS T k)) (j.map (fun a=>⟨2,nQ L (aS T k) a.1,a.2⟩))=XL:=by
  unfold jE;rw[QH];intro s F;obtain⟨a,G,rfl⟩:=Qj.1 F;have:a.1∈o.map (iJ z (aJ T).2.Us k):=by rw[<-c];exact RH G
  obtain⟨y,H,e⟩:=Qj.1 this;obtain⟨P,d,rfl⟩:=b y H;obtain⟨n,I,-,q3,q4,-⟩:=m P d;have V:nQ L (aS T k) a.1=n:=by unfold nQ;rw[<-e,I];rfl
  show(!((2:Int)==2) || !(yl (jy (ck L (aS T k)) (nQ L (aS T k) a.1))))=XL
  rw[V,NP L q3];rcases q4 with q | q <;> rw[q] <;> rfl
 unfold gS gL;rw[F];simp only;rw[PG (by decide),PJ (by decide)];unfold dP;rw[E];simp only[r];rw[PJ (by decide)];unfold dH;simp only;rw[<-M,<-K,v];unfold it;rw[PJ (by decide),r];simp only;rw[PJ A]
theorem mN.rows(X:mN T z k L g ws)(h:gS L (aS T k)=⟨Go.Proofs.YtnbalopedcgpcaaGreat.nm z [110],5,0,db⟩):f7 L=f7 (aJ T).2.Us++[⟨Go.Proofs.YtnbalopedcgpcaaGreat.nm z [110],5,0,db⟩]:=by
 have G:=iA T X.fine.size X.fine.inc;obtain⟨M,e⟩:=X.new.pre;have a:L.length=aS T k+1:=by rw[X.new.len]
 unfold f7;rw[a,ck,Qt];have b:gL L (aS T k) (ck L (aS T k))=⟨Go.Proofs.YtnbalopedcgpcaaGreat.nm z [110],5,0,db⟩:=h;rw[b];congr 1;unfold aS;have c:ck L (aJ T).2.Us.length=ck (aJ T).2.Us (aJ T).2.Us.length:=by rw[e];exact Ej _ M G.ok G.prf _ (PB _)
 rw[rP,TU,Qp,Qt,<-rP,c,RM];have d:((List.range (mT (aJ T).2.Us k).length).map (gS L ∘ fun x=>(aJ T).2.Us.length+x)).filter (fun r=>!(r.Uh==0))=[]:=by
  rw[Rm];intro r l;obtain⟨i,f,rfl⟩:=Qj.1 l;obtain⟨p,j⟩:=X.new.flt i (PV.1 f);show ¬(!((gS L ((aJ T).2.Us.length+i)).Uh==0))=XL;unfold gS gL;rw[j];show ¬(!(ly.Uh==0))=XL;decide
 rw[d,Qz]
theorem mN.find(X:mN T z k L g ws):da L (Go.Proofs.YtnbalopedcgpcaaGreat.nm z [110])=XK (aS T k):=by
 obtain⟨p,i,-,b⟩:=X.new.thm;unfold da;refine dN (by rw[X.new.len];unfold aS;omega) ?_ (fun j e=>?_)
 ·have b:L[aS T k]?=XK _:=b;unfold du;rw[b];simp only;rw[Rc];rfl
 ·unfold du;cases c:L[j]? with
  | none=>rfl
  | some u =>
   simp only;by_cases q:j<(aJ T).2.Us.length
   ·rw[X.old q]at c;by_cases d:u.kind=1
    ·rw[d];rw[Bool.and_eq_false_iff];exact PK rfl
    ·rw[X.other c d];rfl
   ·unfold aS at e;obtain⟨f,a⟩:=X.new.flt (j-(aJ T).2.Us.length) (by omega);rw[show(aJ T).2.Us.length+(j-(aJ T).2.Us.length)=j by omega,c]at a;rw[Qo a,Bool.and_eq_false_iff];exact PK rfl
theorem Fc{M:List St}(h:w<b.length):j8 (b++M) w=j8 b w/\mb (b++M) w=mb b w/\bL (b++M) w=bL b w:=by
 have d:∀n,n<b.length->bL (b++M) n=bL b n:=fun n j=>by unfold bL;rw[PC j]
 have e:=mA b M w h;have c:∀x∈al b w,x<b.length:=fun x a=>(j7 a).1;refine⟨?_,?_,d w h⟩
 ·unfold j8;have g:bN (b++M) w=bN b w:=by
   unfold bN;rw[e];have i:bt (b++M) (al b w)=bt b (al b w):=by
    unfold bt;refine oW _ _ _ (fun x a=>?_);unfold eJ;rw[PC (c x a)]
   rw[i,nM b M w h]
  rw[g,e,d w h];congr 1;rw[Su,QH,QH];constructor <;> intro f x a
  ·have:=f x a;rw[d x (c x a)]at this;exact this
  ·rw[d x (c x a)];exact f x a
 ·unfold mb;rw[e,d w h];congr 1
  ·exact QN (fun x a=>by rw[d x (c x a)])
  ·exact QN (fun x a=>by rw[d x (c x a)])
theorem mN.tree(X:mN T z k L (x :: f.map (qq z (eP (aJ T).2.Us k))) ws)(is:uL f (dp (aJ T).2.Us k) i)(S:f.length<=10)(h1:i x 0 f.length=1){A:Int×List ByteArray}(a:iB L (Go.Proofs.YtnbalopedcgpcaaGreat.nm z [110]) x A):A.1≠10:=by
 have N:=X.nm;have V:=qk T;have ad:=X.kl;obtain⟨p,ps,-,D⟩:=X.new.thm;have D:L[aS T k]?=XK _:=D;have G:(bL L (aS T k)).Ub=x :: f.map (qq z (eP (aJ T).2.Us k)):=by unfold bL;rw[D];rfl
 unfold iB at a;rw[X.find]at a;simp only at a;unfold MF at a;rw[G,List.drop_one,List.tail_cons,P0,PG (by omega)]at a;obtain⟨C',r',H,-,rfl⟩:=a;obtain⟨n,F⟩:=is.low;have u:0<pR f (dp (aJ T).2.Us k) n x 0 f.length:=by have:=F x 0 f.length (by omega) (by omega);omega
 obtain⟨M,R⟩:=X.new.pre
 have o:=Nt (tx:=f) (Ps:=dp (aJ T).2.Us k) (Qs:=dp L (aS T k)) (ρ:=qq z (eP (aJ T).2.Us k)) (fun P W b=>by
  rcases pt W with ⟨e,C,rfl⟩ | ⟨m,hm,E,O,rfl⟩
  ·have g:=lK (PD C);have t:e<(mT (aJ T).2.Us k).length:=(by unfold mT;rw[P0];exact C);obtain⟨p2,o⟩:=X.new.flt e t;have Q:=X.var C;have v:ak ((aJ T).2.Us.getD (lx (aJ T).2.Us k)[e] dJ)∈f:=by
    refine b _ ?_ rfl;rw[dI g.2.1];exact Qd.2 rfl
   have l:bL L ((aJ T).2.Us.length+e)=⟨2,Go.Proofs.YtnbalopedcgpcaaGreat.nm z (tQ 120 e),[gD (mT (aJ T).2.Us k) e,Go.Proofs.YtnbalopedcgpcaaGreat.nm z (m9 120 e)],[],p2,L.length⟩:=(by unfold bL;rw[o];rfl);have s:(aJ T).2.Us.length+e∈al L (aS T k):=by
    refine gz.2 ⟨_,o,X.heldN t,PI ⟨rfl,?_⟩⟩;refine mn.2 (PI ?_);unfold symsAt;rw[D];show ak _∈x :: f.map _;refine Qk _ (Qj.2 ⟨_,v,?_⟩);rw[Aa Q];rfl
   refine⟨BN (bL L ((aJ T).2.Us.length+e)),Ry _ (Qj.2 ⟨_,QA.2 ⟨s,by rw[l];rfl⟩,rfl⟩),?_⟩;rw[l,dI g.2.1];refine⟨?_,rfl,rfl,fun q B y b d=>?_⟩
   ·show gD (mT (aJ T).2.Us k) e=ax _;exact MY C
   ·match q,b,d with
    | 0,b,d =>
     have b:ak _=B:=Qo b;have d:Go.Proofs.YtnbalopedcgpcaaGreat.nm z (m9 120 e)=y:=Qo d;refine⟨rfl,fun _=>?_⟩;rw[<-b,<-d,Aa Q]
    | q+1,b,d=>cases b
  ·have j:m<(aJ T).2.Us.length:=(by omega);obtain⟨I,J,K⟩:=Fc (M:=M) j;rw[<-R]at I J K;refine⟨mb L m,List.mem_append_right _ (Qj.2 ⟨m,QA.2 ⟨PV.2 (by unfold aS;omega),by rw[I,K,E,O];rfl⟩,rfl⟩),?_⟩;rw[J];refine⟨rfl,rfl,rfl,fun q B y b d=>?_⟩;rw[b]at d;have d:=Qo d;subst d;refine⟨rfl,fun F=>?_⟩;rw[xq];intro g;have U:fD (aJ T).2.Us m=XL:=by
    unfold fD;rw[Px j];rw[dO j]at E;simp only;rw[E];rfl
   obtain⟨-,ac⟩:=sQ O;have w:B∈(bL (aJ T).2.Us m).Ub:=Sh (Qf b);rw[dI j]at w;rcases MM N V U (PI w) with c | c
   ·exact V.cv B c (wZ N V g)
   ·have:B∈(mb (aJ T).2.Us m).vars:=by
     rw[qe]at c;obtain⟨h,Z,rfl⟩:=Qj.1 c;have r:=lK Z;exact Qj.2 ⟨h,r.1,by rw[dI r.2.1]⟩
    exact dU.1 F this) n x 0 f.length (by omega) u
 have Y:=H.above n x 0 f.length (by rw[P0];omega) (by rw[P0];omega);unfold uu;rw[P0];rw[PG (by omega)];split
 ·split
  ·show(3:Int)≠10;decide
  ·show(0:Int)≠10;decide
 ·show(11:Int)≠10;decide
end
end Go.Proofs.YtnbalopedcgpcaaGreat
