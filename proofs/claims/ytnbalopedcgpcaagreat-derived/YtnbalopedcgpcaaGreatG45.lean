import Derived.Test.YtnbalopedcgpcaaGreatG35
import Derived.Test.YtnbalopedcgpcaaGreatG44
namespace Go.Proofs.YtnbalopedcgpcaaGreat
open Go.RowKit Tryz
open Option renaming none->XJ,some->XK
open Bool renaming true->XL,false->XM
set_option maxHeartbeats 0
variable{f:List ByteArray}{w n a:Nat}{x D:ByteArray}{v:cY}{H:Db}{y:St}{b:List St}{N:ByteArray->Prop}{i:kn}(d:List ByteArray)(I:List St)(o:Nat)(m:ByteArray)
def rk(l:List St)(vs:List ByteArray)(ms:List Bool)(A:List gY)(S S':List (List ByteArray)×List (List ByteArray)):Prop:=∀fin goal B,dM l vs ms fin goal (A++B) S=dM l vs ms fin goal B S'
section
variable {l:List St} {vs:List ByteArray} {ms:List Bool} {A B:List gY} {S S1 S2:List (List ByteArray)×List (List ByteArray)}
theorem rk.nil:rk l vs ms [] S S:=fun _ _ _=>rfl
theorem rk.app(h:rk l vs ms A S S1)(g:rk l vs ms B S1 S2):rk l vs ms (A++B) S S2:=fun b a X=>by rw[QY,h,g]
theorem rk.one{s:gY}{a:List (List ByteArray)}(h:eW l vs ms S.1 S.2 s=((0,f),a))(d:f.length<=32):rk l vs ms [s] S (S.1++[f],a++[f]):=fun c b B=>by
 show dM l vs ms c b (s :: B) S=_;have e:ig l vs ms S s=(0,S.1++[f],a++[f]):=by
  unfold ig;rw[h];simp only[beq_self_eq_true,if_true];rw[PZ d]
 rw[dM,e];simp
end
def vL(tx:List ByteArray)(i j:Nat):List ByteArray:=(tx.drop i).take (j-i)
theorem Mf:vL d o o=[]:=by unfold vL;rw[Rl,Uh]
theorem Ec(b:w<=n)(c:n<=a):vL d w a=vL d w n++vL d n a:=by
 unfold vL;rw[show a-w=(n-w)+(a-n) by omega,List.take_add,List.drop_drop,show w+(n-w)=n by omega]
theorem Mg(h:w<d.length):vL d w (w+1)=[d.getD w ⟨#[]⟩]:=by
 unfold vL;rw[show w+1-w=1 by omega,fT _ _ h,Qr h];rfl
theorem Me(j:Nat):(vL d o j).length<=d.length:=by
 unfold vL;rw[QW,Rk];omega
theorem Md:vL d 0 d.length=d:=by unfold vL;simp
def Al(rh0:ByteArray->ByteArray)(P:cY)(es:List (List ByteArray))(s:ByteArray):List ByteArray:=match aZ P.vars s with
 | none=>[rh0 s]
 | some v=>(es.getD v []).drop 1
def KD(l:List St)(vs:List ByteArray)(ms:List Bool)(rh0:ByteArray->ByteArray)(n:Nat)(P:cY):Prop :=
 ∀(p:Pl) (sh th es:List (List ByteArray)),es.length=P.vars.length->(∀v,v<P.vars.length->∃r,es.getD v []=P.types.getD v ⟨#[]⟩ :: r)->(P.code :: P.body.flatMap (Al rh0 P es)).length<=32 ->
  eW l vs ms sh (th++es) ⟨2,n,p⟩=((0,P.code :: P.body.flatMap (Al rh0 P es)),th)
section
variable {tx:List ByteArray} {Ps:List cY} {C:kn}
theorem Nc(n:Nat):iZ (pS tx Ps n):=by
 induction n with
 | zero=>exact fun _ _ _ _=>rfl
 | succ n a=>exact AU a
theorem uL.tri(is:uL tx Ps C)(b:w<tx.length+1)(c:n<tx.length+1)(h:0<C x w n):w<=n:=by
 obtain⟨e,d⟩:=is.low;refine Ro (fun q=>?_);have a:=d x w n b c;rw[Nc e x w n (by omega)]at a;omega
theorem Bg(is:uL tx Ps C){rh0:ByteArray->ByteArray}(u:kZ v)(d:w<tx.length+1)(f:jS tx C v w n=1){es:List (List ByteArray)}(s:∀a,a<v.vars.length->(es.getD a []).drop 1=(vL tx (rd tx C v w n a).1 (rd tx C v w n a).2).map rh0)(k:Nat)(A:k<=v.body.length) :
  w<=nB tx C v w n k/\(v.body.take k).flatMap (Al rh0 v es)=(vL tx w (nB tx C v w n k)).map rh0:=by
 induction k with
 | zero=>rw[KY d f,Mf];exact⟨PQ _,rfl⟩
 | succ k t =>
  have b:k<v.body.length:=by omega
  obtain⟨l,r⟩:=t (by omega);have c:=wt d f k b;have o:=(g7 d f k).1;have p:=(g7 d f (k+1)).1;rw[QE b,Q1,r,R4];unfold Al;cases e:aZ v.vars v.body[k] with
  | none =>
   unfold cr at c;rw[e]at c;simp only at c;split at c
   ·next q =>
    obtain⟨x,y,z⟩:=q;refine⟨by omega,?_⟩;rw[x,Ec tx l (Sa _),QA,Mg tx y,ed z];rfl
   ·omega
  | some a =>
   have m:a<v.vars.length:=Qe.1 (Qm e);have i:ol v a=k:=MM u m b (by rw[fT _ _ b];exact e);rw[oW e]at c;have j:=is.tri o p (by omega:0<C (v.types.getD a ⟨#[]⟩) (nB tx C v w n k) (nB tx C v w n (k+1)));refine⟨by omega,?_⟩;have g:=s a m;unfold rd at g;rw[i]at g
   show(vL tx w (nB tx C v w n k)).map rh0++(es.getD a []).drop 1=_
   rw[g,Ec tx l j,QA]
theorem vm{α β:Type}{f:α->β}{A:List α}{x y:List β}(h:A.map f=x++y):∃a b,A=a++b/\a.map f=x/\b.map f=y:=by
 obtain⟨a,b,c,d,e⟩:=List.map_eq_append_iff.1 h;exact⟨a,b,c,d,e⟩
theorem CX(is:uL tx Ps C)(T:∀P∈Ps,kZ P)(ac:tx.length<=10){l:List St}{vs:List ByteArray}{ms:List Bool}{rh0:ByteArray->ByteArray}{num:ByteArray->Nat}(hs:∀P∈Ps,KD l vs ms rh0 (num P.label) P)(r:Nat) :
  ∀(c:ByteArray) (i j:Nat),i<tx.length+1->j<tx.length+1->C c i j=1->0<pS tx Ps r c i j->∀A:List gY,A.map (fun s=>(s.kind,s.Un))=(pP tx Ps C r c i j).map (fun x=>((2:Int),num x)) ->
  ∀S,∃g,rk l vs ms A S (g,S.2++[c :: (vL tx i j).map rh0]):=by
 induction r with
 | zero=>intro c i j _ _ _ h;exact absurd h (R8 _)
 | succ r ih =>
  intro c i j w I M hr A N S;obtain⟨k,O,Q,hc,R,-⟩:=is.pick w I M;have K:=T Ps[k] (PT O);have q:=fun v f=>is.kids T w I M hr Q v f;have H:=hs Ps[k] (PT O);rw[xH Q,QA]at N;generalize Ps[k]=P at *;obtain rfl:P.code=c:=ed hc;obtain⟨e,U,rfl,D,m⟩:=vm N
  -- what stands in its gaps
  have u:∀n,n<=P.vars.length->∀e:List gY,e.map (fun s=>(s.kind,s.Un))=(o8 (fun v=>pP tx Ps C r (P.types.getD v ⟨#[]⟩) (rd tx C P i j v).1 (rd tx C P i j v).2) n).map (fun x=>((2:Int),num x)) ->
    ∃g,rk l vs ms e S (g,S.2++(List.range n).map (fun v=>P.types.getD v ⟨#[]⟩ :: (vL tx (rd tx C P i j v).1 (rd tx C P i j v).2).map rh0)):=by
   intro n
   induction n with
   | zero =>
    intro _ e h;have h0:e=[]:=by simpa [o8] using h
    subst h0;exact⟨S.1,by simpa using rk.nil⟩
   | succ n J =>
    intro hn e h;rw[vg,QA]at h;obtain⟨a,b,rfl,ha,p⟩:=vm h;obtain⟨B,y⟩:=J (by omega) a ha;obtain⟨V,W,X,Y⟩:=q n (by omega);obtain⟨s2,z⟩:=ih _ _ _ V W X Y b p (B,S.2++(List.range n).map (fun v=>P.types.getD v ⟨#[]⟩ :: (vL tx (rd tx C P i j v).1 (rd tx C P i j v).2).map rh0));refine⟨s2,?_⟩;have:=y.app z;rw[QM,QA,<-QY];exact this
  obtain⟨B,y⟩:=u P.vars.length (PQ _) e D;obtain⟨E,F⟩:∃E,E=(List.range P.vars.length).map (fun v=>P.types.getD v ⟨#[]⟩ :: (vL tx (rd tx C P i j v).1 (rd tx C P i j v).2).map rh0):=⟨_,rfl⟩
  have G:E.length=P.vars.length:=by rw[F];simp
  have o:∀v,v<P.vars.length->E.getD v []=P.types.getD v ⟨#[]⟩ :: (vL tx (rd tx C P i j v).1 (rd tx C P i j v).2).map rh0:=fun v f=>by
   rw[F,PK,Qt,Sw f];rfl
  rw[<-F]at y;have p:=(Bg is (rh0:=rh0) K w R (es:=E) (fun v f=>by rw[o v f];rfl) P.body.length (PQ _)).2;rw[QJ,Ds w I R]at p;have d:(P.code :: P.body.flatMap (Al rh0 P E)).length<=32:=by
   rw[p,QG,Qh];have:=Me tx i j;omega
  obtain⟨s,rfl⟩:∃s,U=[s]:=by
   have:=congrArg List.length m;simp at this;exact List.length_eq_one_iff.1 this
  obtain⟨Z,e2⟩:s.kind=2/\s.Un=num P.label:=by simpa using m
  have t:=H s.at_ B S.2 E G (fun v f=>⟨_,o v f⟩) d;have L:(⟨2,num P.label,s.at_⟩:gY)=s:=by rw[<-Z,<-e2]
  rw[L]at t;have z:=rk.one (S:=(B,S.2++E)) t d;rw[p]at z;exact⟨_,y.app z⟩
structure O5(rh0:ByteArray->ByteArray)(P Q:cY):Prop where
 code:Q.code=P.code
 types:Q.types=P.types
 len:Q.body.length=P.body.length
 pos:∀(k:Nat) (x y:ByteArray),P.body[k]?=XK x->Q.body[k]?=XK y->aZ Q.vars y=aZ P.vars x/\(aZ P.vars x=XJ->y=rh0 x)
theorem N3{α:Type}{f g:α->Nat->Nat->Nat}:∀(a b:List α) (i j:Nat),b.length=a.length->i<w->0<wy w f a i j->(∀(k:Nat) x y p q,a[k]?=XK x->b[k]?=XK y->p<w->q<w->0<f x p q->0<g y p q)->0<wy w g b i j:=by
 intro a
 induction a with
 | nil =>
  intro b i j c l h _;have t:b=[]:=Ql c;rw[t];exact h
 | cons x r z =>
  intro b i j c l h e;cases b with
  | nil=>simp at c
  | cons y s =>
   have o:0<sm (fun m=>f x i m*wy w f r m j) w:=h;obtain⟨m,d,n⟩:=xB o;have A:0<f x i m:=SA n;have B:0<wy w f r m j:=SN n;have C:=e 0 x y i m rfl rfl l d A;have D:=z s m j (by simpa using c) d B (fun k x y p q u v=>e (k+1) x y p q (by simpa using u) (by simpa using v));exact PY (Uj C D) (rc (f:=fun m=>g y i m*wy w g s m j) d)
theorem Ix(a:ByteArray->ByteArray)(tx:List ByteArray)(h:w<tx.length):(tx.map a).getD w ⟨#[]⟩=a (tx.getD w ⟨#[]⟩):=by
 rw[PK,Qt,PK,PJ h];rfl
theorem Nx{Qs:List cY}{rh0:ByteArray->ByteArray}(B:∀P∈Ps,(∀x∈P.body,aZ P.vars x=XJ->x∈tx)->∃Q∈Qs,O5 rh0 P Q)(n:Nat) :
  ∀(c:ByteArray) (i j:Nat),i<tx.length+1->0<pS tx Ps n c i j->0<pS (tx.map rh0) Qs n c i j:=by
 induction n with
 | zero=>intro c i j _ h;exact absurd h (R8 _)
 | succ n H =>
  intro c i j u h;have A:0<cp (qZ (om tx (pS tx Ps n) c i j) Ps):=h;obtain⟨k,D,d⟩:=xz (wo.1 A);have t:(Ps[k].code.toList==c.toList)=XL:=by
   unfold om at d;split at d
   ·next q=>exact q
   ·omega
  have z:0<jS tx (pS tx Ps n) Ps[k] i j:=by unfold om at d;rw[PZ t]at d;exact d
  have l:∀x∈Ps[k].body,aZ Ps[k].vars x=XJ->x∈tx:=by
   intro x l F;obtain⟨q,w,rfl⟩:=QN l;obtain⟨a,b,-,-,-,o,-⟩:=El Ps[k].body i j u z q w;unfold cr at o;rw[F]at o;simp only at o;split at o
   ·next e =>
    rw[<-ed e.2.2,fT _ _ e.2.1];exact PT _
   ·omega
  obtain⟨Q,C,R⟩:=B Ps[k] (PT D) l;obtain⟨m,E,rfl⟩:=QN C;have s:0<jS (tx.map rh0) (pS (tx.map rh0) Qs n) Qs[m] i j:=by
   unfold jS;rw[Qh];refine N3 _ _ i j R.len u z (fun I x y p q l G d w g=>?_);obtain⟨J,K⟩:=R.pos I x y l G;unfold cr at g ⊢;rw[J,R.types];cases r:aZ Ps[k].vars x with
   | some v =>
    rw[r]at g;exact H _ p q d g
   | none =>
    rw[r]at g;simp only at g ⊢;split at g
    ·next e =>
     rw[PZ ⟨e.1,by rw[Qh];exact e.2.1,by rw[K r,Ix rh0 tx e.2.1,ed e.2.2];exact Rm _⟩];exact Qf
    ·omega
  show 0<cp (qZ (om (tx.map rh0) (pS (tx.map rh0) Qs n) c i j) Qs);refine wo.2 (PY ?_ (xy (f:=om (tx.map rh0) (pS (tx.map rh0) Qs n) c i j) m E));unfold om;rw[R.code,PZ t];exact s
end
def N8(d:Db):Prop:=∀s∈d.UD,jl s.kind=XL->s.til=0
theorem N8.take(h:N8 H)(x:ByteArray)(p:Pl):N8 (aK H x p).2:=by
 intro s d b;rcases pJ H x p with e | ⟨y,-,e⟩ | ⟨e,-⟩
 ·rw[e]at d;exact h s d b
 ·rw[e]at d;obtain⟨i,a⟩:=List.mem_iff_getElem?.1 d;rw[fI]at a;cases f:H.UD[i]? with
  | none=>rw[f]at a;cases a
  | some u =>
   rw[f]at a;replace a:(if y<=i/\i<H.UD.length then dE H.UD.length u else u)=s:=Qz a;have g:=Qp f;by_cases q:y<=i/\i<H.UD.length
   ·rw[PZ q]at a;unfold dE at a;split at a
    ·next c =>
     rw[<-a]at b;have b:jl u.kind=XL:=b;rw[c.2]at b;cases b
    ·rw[<-a]at b ⊢;exact h u g b
   ·rw[PV q]at a;rw[<-a]at b ⊢;exact h u g b
 ·rw[e]at d;rcases Qo.1 d with q | q
  ·exact h s q b
  ·rw[Qn.1 q]
theorem Cu(s:ByteArray)(f:Nat):∀k d,N8 d->N8 (cV m s f k d).2:=by
 induction f with
 | zero=>intro k d h;exact h
 | succ f a =>
  intro k d h;rw[cV];split
  ·split
   ·exact a _ _ (h.take _ _)
   ·exact h.take _ _
  ·split
   ·split <;> exact h
   ·exact h
theorem LV:N8 (aJ m).2:=Cu _ m _ 0 _ (fun s a=>by cases a)
def mU(l:List St)(k:Nat):List ByteArray:=(ly l k).map (fun h=>ax (l.getD h dJ))
def qr(z:ByteArray)(us:List ByteArray)(x:ByteArray):ByteArray:=match aZ us x with
 | none=>x
 | some i=>nm z (na 120 i)
theorem xq(h:D∉f):qr x f D=D:=by unfold qr;rw[dU.2 h]
theorem Aa(h:aZ f D=XK w):qr x f D=nm x (na 120 w):=by unfold qr;rw[h]
structure mO(T z:ByteArray)(k:Nat)(L:List St)(g ws:List ByteArray):Prop where
 fine:dV T
 zed:lx T z
 at_:fE (aJ T).2.UD k=XL
 new:Kz (aJ T).2.UD L z (mU (aJ T).2.UD k) g ws
section
variable {T z:ByteArray} {k:Nat} {L:List St} {g ws:List ByteArray}
theorem mO.nm(X:mO T z k L g ws):Nm (GR T) (aJ T).2:=mF T X.fine.size
theorem mO.old(X:mO T z k L g ws)(h:w<(aJ T).2.UD.length):L[w]?=(aJ T).2.UD[w]?:=by
 obtain⟨M,e⟩:=X.new.pre;rw[e,PR h]
theorem mO.kl(X:mO T z k L g ws):k<(aJ T).2.UD.length:=by
 have h:=X.at_;unfold fE at h;cases a:(aJ T).2.UD[k]? with
 | none=>rw[a]at h;cases h
 | some s=>exact(Qc.1 a).1
abbrev aS (T:ByteArray) (k:Nat):Nat:=(aJ T).2.UD.length+(mU (aJ T).2.UD k).length
theorem mO.heldO(X:mO T z k L g ws)(a:(aJ T).2.UD[w]?=XK y)(c:jl y.kind=XL):bZ L w (aS T k)=XL:=by
 have d:=(Qc.1 a).1;have b:=LV T y (Qp a) c;rw[iE (by rw[X.old d];exact a)];exact⟨by unfold aS;omega,P0 b⟩
theorem mO.heldN(X:mO T z k L g ws)(a:w<(mU (aJ T).2.UD k).length):bZ L ((aJ T).2.UD.length+w) (aS T k)=XL:=by
 obtain⟨p,b⟩:=X.new.flt w a;rw[iE b];exact⟨by unfold aS;omega,P7 (by show _<L.length;rw[X.new.len];unfold aS;omega)⟩
theorem mO.other(X:mO T z k L g ws)(i:(aJ T).2.UD[w]?=XK y)(f:y.kind≠1)(b:List UInt8):(y.label.toList==(Go.Proofs.YtnbalopedcgpcaaGreat.nm z b).toList)=XM:=by
 cases h:(y.label.toList==(Go.Proofs.YtnbalopedcgpcaaGreat.nm z b).toList)
 ·rfl
 ·have e:=ed h;have d:=X.nm.UD y (Qp i);have a:2<=y.kind/\y.kind<=5:=d.kind.resolve_left f;have c:=(d.lab a).1.2;rw[e]at c;exact absurd c.pre X.zed.fresh
theorem I0(h:∀s,b[n]?=XK s->s.kind≠1->(s.label.toList==x.toList)=XM):gK b x w n=XM:=by
 unfold gK;cases c:b[n]? with
 | none=>rfl
 | some s =>
  simp only;by_cases a:s.kind=1
  ·rw[a];simp
  ·rw[h s c a];rfl
theorem mO.findO(X:mO T z k L g ws)(a:(aJ T).2.UD[w]?=XK y)(b:jl y.kind=XL):ez L y.label (aS T k)=XK w:=by
 have l:=(Qc.1 a).1;have f:y.kind≠1:=fun e=>by rw[e]at b;cases b
 have c:L[w]?=XK y:=by rw[X.old l];exact a
 unfold ez;refine dN (by rw[X.new.len];omega) ?_ (fun i j=>I0 (fun u d m=>?_))
 ·unfold gK;rw[c];simp only;rw[X.heldO a b,Rm,Qi.2 f];rfl
 ·rw[X.old (by omega)]at d;exact X.nm.diff i w u y j d a m f
theorem mO.findN(X:mO T z k L g ws)(c:w<(mU (aJ T).2.UD k).length)(l:(mU (aJ T).2.UD k).length<4200):ez L (Go.Proofs.YtnbalopedcgpcaaGreat.nm z (tQ 120 w)) (aS T k)=XK ((aJ T).2.UD.length+w):=by
 obtain⟨p,d⟩:=X.new.flt w c;unfold ez;refine dN (by rw[X.new.len];omega) ?_ (fun j i=>I0 (fun u b f=>?_))
 ·unfold gK;rw[d];simp only;rw[X.heldN c,Rm];rfl
 ·by_cases q:j<(aJ T).2.UD.length
  ·rw[X.old q]at b;exact X.other b f _
  ·obtain⟨m,a⟩:=X.new.flt (j-(aJ T).2.UD.length) (by omega);rw[show(aJ T).2.UD.length+(j-(aJ T).2.UD.length)=j by omega,b]at a;rw[Qz a]
   show((Go.Proofs.YtnbalopedcgpcaaGreat.nm z _).toList==(Go.Proofs.YtnbalopedcgpcaaGreat.nm z _).toList)=XM
   rw[Cd,Qi];intro e;have:=JO (by omega) (by omega) e;omega
theorem IV(k:Nat):(eQ I k).length=(mU I k).length:=by rw[qg];unfold mU;simp
theorem lN(h:w<b.length):b.getD w dJ=b[w]:=by rw[PK,PJ h];rfl
theorem dI(h:w<b.length):bL b w=b.getD w dJ:=by rw[dO h,lN h]
theorem mO.var(X:mO T z k L g ws)(a:w<(ly (aJ T).2.UD k).length):aZ (eQ (aJ T).2.UD k) (ak ((aJ T).2.UD.getD (ly (aJ T).2.UD k)[w] dJ))=XK w:=by
 have A:=G7 X.nm (ql T) X.at_;have e:(eQ (aJ T).2.UD k).getD w ⟨#[]⟩=ak ((aJ T).2.UD.getD (ly (aJ T).2.UD k)[w] dJ):=by
  rw[qg,PK,Qt,PJ a];rfl
 rw[<-e];exact vB A.hy.uq (by show w<(eQ _ _).length;rw[qg,Qh];exact a)
theorem M3{k:Nat}(a:w<(ly b k).length):gD (mU b k) w=ax (b.getD (ly b k)[w] dJ):=by
 unfold gD mU;rw[PK,Qt,PJ a];rfl
theorem lL{k:Nat}(f:w∈ly b k):w∈al b k/\w<b.length/\(b.getD w dJ).kind=2:=by
 obtain⟨c,a⟩:=QL.1 f;obtain⟨s,d,-,g⟩:=gz.1 c;have e:=nF d;rw[e]at a ⊢;refine⟨c,(Qc.1 d).1,?_⟩;rcases g with q | q
 ·exact q.1
 ·rw[q]at a;cases a
theorem mO.leaf(X:mO T z k L g ws)(n:List ByteArray)(m:List Bool)(c:w<(ly (aJ T).2.UD k).length):KD L n m (qr z (eQ (aJ T).2.UD k)) ((aJ T).2.UD.length+w) (BN (bL (aJ T).2.UD (ly (aJ T).2.UD k)[w])):=by
 intro p q r i l _ _;have d:i=[]:=Ql l;subst d;obtain⟨o,b⟩:=X.new.flt w (by unfold mU;rw[Qh];exact c);have a:=(lL (PT c)).2.1;unfold eW;rw[PV (by decide:¬((2:Int)==3)=XL)];have j:fE L ((aJ T).2.UD.length+w)=XM:=by unfold fE;rw[b];rfl
 simp only[j,Bool.false_eq_true,if_false,List.append_nil];rw[nF b,M3 c];have e:(BN (bL (aJ T).2.UD (ly (aJ T).2.UD k)[w])).code=ax ((aJ T).2.UD.getD (ly (aJ T).2.UD k)[w] dJ):=by rw[dI a];rfl
 have f:(BN (bL (aJ T).2.UD (ly (aJ T).2.UD k)[w])).body.flatMap (Al (qr z (eQ (aJ T).2.UD k)) (BN (bL (aJ T).2.UD (ly (aJ T).2.UD k)[w])) [])=[Go.Proofs.YtnbalopedcgpcaaGreat.nm z (na 120 w)]:=by
  rw[dI a];show [ak ((aJ T).2.UD.getD (ly (aJ T).2.UD k)[w] dJ)].flatMap _=_;rw[R4];show [qr z (eQ (aJ T).2.UD k) (ak ((aJ T).2.UD.getD (ly (aJ T).2.UD k)[w] dJ))]=_;rw[Aa (X.var c)]
 rw[e,f]
theorem sQ(h:j8 b w=XL):bN b w=[]/\∀h∈al b w,(bL b h).kind=2:=by
 unfold j8 at h;rw[Qw,QR]at h;refine⟨List.isEmpty_iff.1 h.1,fun x a=>?_⟩;have:=h.2 x a;rw[Qw]at this;exact Rr this.1
theorem mO.rule(X:mO T z k L g ws)(R:List ByteArray)(Q:List Bool)(hm:w<k)(Y:(bL (aJ T).2.UD w).kind=4)(U:j8 (aJ T).2.UD w=XL):KD L R Q (qr z (eQ (aJ T).2.UD k)) w (md (aJ T).2.UD w):=by
 have V:=ql T;have N:=X.nm;have am:=X.kl;obtain⟨M,eL⟩:=X.new.pre;obtain⟨l,S⟩:∃l,l=(aJ T).2.UD:=⟨_,rfl⟩
 rw[<-S]at Y U am eL ⊢;have f:w<l.length:=by omega
 have ap:l[w]?=XK (l.getD w dJ):=by rw[lN f,PJ f]
 rw[dI f]at Y;have I:fE l w=XL:=by unfold fE;rw[ap];simp only;rw[Y];rfl
 have A:N5 l w:=by rw[S]at I ⊢;exact G7 N V I
 obtain⟨ao,ai⟩:=sQ U;have s:∀h∈al l w,(l.getD h dJ).kind=2:=fun h m=>by
  rw[<-dI (j7 m).1];exact ai h m
 have ef:ly l w=al l w:=by
  unfold ly;rw[List.filter_eq_self];intro h m;rw[s h m];rfl
 have b:eQ l w=(al l w).map (fun h=>ak (l.getD h dJ)):=by rw[qg,ef]
 have u:(md l w).vars=eQ l w:=by
  rw[b];exact QX (fun h m=>by rw[dI (j7 m).1])
 have W:(md l w).types=(al l w).map (fun h=>ax (l.getD h dJ)):=QX (fun h m=>by rw[dI (j7 m).1]);intro p sh th t K ac ad;obtain⟨c,G,n⟩:∃c G,(l.getD w dJ).Um=c :: G:=by
  cases m:(l.getD w dJ).Um with
  | nil=>exact absurd m A.ne
  | cons c G=>exact⟨c,G,rfl⟩
 have C:(md l w).code=c:=by show ax (bL l w)=c;rw[dI f];unfold ax;rw[n];rfl
 have B:(md l w).body=G:=by show(bL l w).Um.drop 1=G;rw[dI f,n];rfl
 obtain⟨a,y⟩:∃a:ByteArray->List ByteArray,a=fun x=>match aZ (eQ l w) x with | some v=>(t.getD v []).drop 1 | none=>[]:=⟨_,rfl⟩
 have ag:(al l w).map (GT l (eQ l w) a)=t:=by
  have E:(al l w).length=t.length:=by rw[K,u,b,Qh]
  apply TN
  ·rw[Qh];exact E
  ·intro v h1 h2;have P:v<(al l w).length:=(by rw[Qh]at h1;exact h1);rw[List.getElem_map];unfold GT;have d:=PT P;rw[PV (by rw[s _ d];decide)];have O:aZ (eQ l w) (ak (l.getD (al l w)[v] dJ))=XK v:=by
    have e:(eQ l w).getD v ⟨#[]⟩=ak (l.getD (al l w)[v] dJ):=(by rw[b,PK,Qt,PJ P];rfl);rw[<-e];exact vB A.hy.uq (by show v<(eQ l w).length;rw[b,Qh];exact P)
   have F:a (ak (l.getD (al l w)[v] dJ))=(t.getD v []).drop 1:=by
    rw[y];simp only[O]
   rw[F];obtain⟨r,U⟩:=ac v (by rw[u,b,Qh];exact P);have e2:t.getD v []=t[v]:=by rw[PK,PJ h2];rfl
   have e3:(md l w).types.getD v ⟨#[]⟩=ax (l.getD (al l w)[v] dJ):=(by rw[W,PK,Qt,PJ P];rfl);rw[<-e2,U,e3];rfl
 have o:(l.getD w dJ).Um.flatMap (mT (eQ l w) a)=(md l w).code :: (md l w).body.flatMap (Al (qr z (eQ l k)) (md l w) t):=by
  rw[n,QH,C,B];have Z:mT (eQ l w) a c=[c]:=by
   refine pG ?_;have:=A.tc;unfold ax at this;rw[n]at this;exact dU.1 this
  rw[Z,List.singleton_append];congr 1;refine wG (fun x hx=>?_);unfold Al;rw[u];cases H:aZ (eQ l w) x with
  | none =>
   rw[pG (dU.1 H)];show [x]=[qr z (eQ l k) x]
   rw[xq];intro d;have aq:OX (aJ T).2.UD w x:=P0 (by rw[<-S,n];exact Qv _ hx);rw[S]at I H d;rcases MQ N V I aq with q | q
   ·exact V.cv x q (wZ N V d)
   ·exact dU.1 H q
  | some v =>
   have d:x∈eQ l w:=by
    refine Ro (fun q=>?_);rw[dU.2 q]at H;cases H
   rw[xC d,y];simp only[H]
 have D:j9 l w (eQ l w,(eQ l w).map a) R Q=XL:=by
  unfold j9;rw[Q8];intro i _ j hj ah;unfold lm;cases ha:cR (eQ l w).length (cT l w (eQ l w)) i j
  ·rfl
  ·have:=(FJ A (p:=(gD (eQ l w) i,gD (eQ l w) j))).2 ⟨i,j,ah,hj,ha,rfl⟩;rw[ao]at this;cases this
 rw[eL,vJ l M R Q sh (th++t) ⟨2,w,p⟩ (fun _=>f)];unfold eW;rw[PV (by decide:¬((2:Int)==3)=XL)];simp only[I,if_true];have J:=ye A a (vs:=R) (ms:=Q) th (fun h m k3=>by rw[s h m]at k3;cases k3) D (by rw[o];exact ad);rw[ag]at J;rw[J,o];congr 1;have E:(al l w).length=t.length:=by rw[K,u,b,Qh]
 rw[E,Qa,Nat.add_sub_cancel];exact List.take_left
end
theorem Ce{fin:Pl}{g:ByteArray->Nat}(c:List (ByteArray×Pl)):∀a:List gY,(∀x∈c,ez b x.1 w=XK (g x.1)/\(x.1.toList == [63])=XM)->0<a.length+c.length->cO b w fin c a=(a++c.map (fun x=>⟨2,g x.1,x.2⟩),cy):=by
 induction c with
 | nil =>
  intro a _ h;rw[cO,PV (by simp at h;omega),Tq,QK]
 | cons x r j =>
  obtain⟨t,p⟩:=x;intro a f _;obtain⟨d,e⟩:=f (t,p) (by simp);simp only at d e;rw[cO,PV (by rw[e];simp),d];simp only;rw[j _ (fun y i=>f y (Qv _ i)) (by simp;omega)];simp
theorem In{α:Type}(p:α->Bool)(L:List α)(q:Nat)(x:α)(h:L[q]?=XK x)(b:p x=XL):(L.filter p)[((L.take q).filter p).length]?=XK x:=by
 have c:=(Qc.1 h).1;have e:L=L.take q++x :: L.drop (q+1):=by
  have:=(Qc.1 h).2;rw[<-this,<-Qr c,RC]
 have a:L.filter p=(L.take q).filter p++x :: (L.drop (q+1)).filter p:=by
  conv=>lhs;rw[e]
  rw[QD,SO b]
 rw[a,Qb (PQ _),Rl];rfl
theorem zI{α:Type}{L:List α}(h:L.Nodup){x:α}(d:L[w]?=XK x)(f:L[n]?=XK x):w=n:=by
 have a:=(Qc.1 d);have b:=(Qc.1 f);have c:=TA.1 h;have e:=a.2.trans b.2.symm;rcases Sc w n with q | q | q
 ·exact absurd e (c w n a.1 b.1 q)
 ·exact q
 ·exact absurd e.symm (c n w b.1 a.1 q)
def Pg(l:List St)(k q:Nat):Nat:=(((al l k).take q).filter (fun h=>!((l.getD h dJ).kind==3))).length
def O7(l:List St)(k q:Nat):Nat:=(((al l k).take q).filter (fun h=>(l.getD h dJ).kind==3)).length
def LJ(z:ByteArray)(l:List St)(k q:Nat):ByteArray:=if((l.getD ((al l k).getD q 0) dJ).kind==3)=XL then nm z (101 :: 120 :: (dy (O7 l k q)).toList) else nm z (tQ 120 (Pg l k q))
def iK(z:ByteArray)(l:List St)(k:Nat)(x:ByteArray):ByteArray:=match aZ ((al l k).map (mR l)) x with
 | none=>x
 | some q=>LJ z l k q
theorem Lu(h:w<b.length):mR b w=(b.getD w dJ).label:=by unfold mR;rw[PJ h,lN h]
section
variable {T z:ByteArray} {k:Nat}
theorem DJ(f:Nm N H)(k:n∈al H.UD w)(i:H.UD[a]?=XK y)(g:y.kind≠1)(e:(mR H.UD n).toList=y.label.toList):n=a:=by
 obtain⟨u,d,-,c⟩:=gz.1 k;have b:u.kind≠1:=by rcases c with q | q <;> omega
 have j:mR H.UD n=u.label:=by unfold mR;rw[d]
 rw[j]at e;rcases Sc n a with q | q | q
 ·have:=f.diff n a u y q d i b g;rw[e,Rm]at this;cases this
 ·exact q
 ·have:=f.diff a n y u q i d g b;rw[e,Rm]at this;cases this
theorem sO:(al I o).Nodup:=(nG I o).imp (fun h=>Nat.ne_of_lt h)
theorem zY(p:Nm N H)(o:w<(ly H.UD k).length):iK z H.UD k (H.UD.getD (ly H.UD k)[w] dJ).label=nm z (tQ 120 w):=by
 have a:=lL (PT o);obtain⟨q,g,d⟩:=QN a.1;have r:H.UD[(ly H.UD k)[w]]?=XK (H.UD.getD (ly H.UD k)[w] dJ):=by rw[lN a.2.1,PJ a.2.1]
 have f:aZ ((al H.UD k).map (mR H.UD)) (H.UD.getD (ly H.UD k)[w] dJ).label=XK q:=by
  unfold aZ;have c:∀j (m:j<(al H.UD k).length),((al H.UD k).map (mR H.UD)).getD j ⟨#[]⟩=mR H.UD (al H.UD k)[j]:=fun j m=>by
   rw[PK,Qt,PJ m];rfl
  refine dN (by rw[Qh];exact g) ?_ (fun j m=>?_)
  ·rw[c q g,d,Lu a.2.1];exact Rm _
  ·have b:j<(al H.UD k).length:=(by omega);rw[c j b,Qi];intro e;have:=DJ p (PT b) r (by rw[a.2.2];decide) e;have s:=zI (sO H.UD k) (PJ b) (show(al H.UD k)[q]?=XK (al H.UD k)[j] by rw[PJ g,d,this]);omega
 have l:(al H.UD k).getD q 0=(ly H.UD k)[w]:=by rw[PK,PJ g,d];rfl
 have i:Pg H.UD k q=w:=by
  have n:=In (fun h=>!((H.UD.getD h dJ).kind==3)) (al H.UD k) q _ (PJ g) (by rw[d,a.2.2];rfl);rw[d]at n;exact zI ((sO H.UD k).filter _) n (PJ o)
 unfold iK;rw[f];simp only;unfold LJ;rw[l,PV (by rw[a.2.2];decide),i]
theorem zZ(g:Nm N H)(d:H.UD[w]?=XK y)(l:y.kind=4):iK z H.UD k y.label=y.label:=by
 have a:aZ ((al H.UD k).map (mR H.UD)) y.label=XJ:=by
  unfold aZ;refine eJ (fun j b=>?_);rw[Qh]at b;rw[PK,Qt,PJ b]
  show((mR H.UD (al H.UD k)[j]).toList==y.label.toList)=XM
  rw[Qi];intro e;have i:=DJ g (PT b) d (by omega) e;obtain⟨u,f,-,c⟩:=gz.1 (PT b);rw[i,d]at f;have:=Qz f;subst this;rcases c with q | q <;> omega
 unfold iK;rw[a]
theorem pu(f:v∈dp b k):(∃i,∃d:i<(ly b k).length,v=BN (bL b (ly b k)[i]))∨∃m,m<k/\(bL b m).kind=4/\j8 b m=XL/\v=md b m:=by
 rcases Qo.1 f with q | q
 ·obtain⟨h,j,rfl⟩:=Qu.1 q;obtain⟨c,a⟩:=QL.1 j;have g:h∈ly b k:=by
   refine QL.2 ⟨c,?_⟩;rw[<-dI (j7 c).1,Rr a];rfl
  obtain⟨i,d,e⟩:=QN g;exact P0 ⟨i,d,by rw[e]⟩
 ·obtain⟨m,l,rfl⟩:=Qu.1 q;obtain⟨c,a⟩:=QL.1 l;rw[Qw]at a;exact P7 ⟨m,Qe.1 c,Rr a.1,a.2,rfl⟩
theorem vT{tx:List ByteArray}{Ps:List cY}{C:kn}(r:Nat):∀c i j,∀x∈pP tx Ps C r c i j,∃P∈Ps,x=P.label:=by
 induction r with
 | zero=>intro c i j x a;cases a
 | succ r f =>
  intro c i j x a;cases b:MX tx Ps C c i j with
  | none =>
   rw[pP,b]at a;cases a
  | some P =>
   rw[xH b]at a;rcases Qo.1 a with q | q
   ·obtain⟨y,e,d⟩:=List.mem_flatten.1 q;obtain⟨v,-,rfl⟩:=Qu.1 e;exact f _ _ _ x d
   ·exact⟨P,Qm b,Qn.1 q⟩
variable {L:List St} {g ws:List ByteArray}
def nR(L:List St)(a:Nat)(w:ByteArray):Nat:=(ez L w a).getD 0
theorem mO.names(X:mO T z k L g ws)(t:(mU (aJ T).2.UD k).length<4200)(q:List ByteArray)(o:List Bool){P:cY}(r:P∈dp (aJ T).2.UD k) :
  ∃n,ez L (iK z (aJ T).2.UD k P.label) (aS T k)=XK n/\KD L q o (qr z (eQ (aJ T).2.UD k)) n P/\n<aS T k/\((gT L n).Us=0∨(gT L n).Us=1)/\dF (iK z (aJ T).2.UD k P.label)=XL/\Wd (iK z (aJ T).2.UD k P.label):=by
 have s:=X.kl;rcases pu r with ⟨i,f,rfl⟩ | ⟨m,u,d,w,rfl⟩
 ·have l:=lL (PT f);have b:i<(mU (aJ T).2.UD k).length:=by unfold mU;rw[Qh];exact f
  have e:iK z (aJ T).2.UD k (BN (bL (aJ T).2.UD (ly (aJ T).2.UD k)[i])).label=Go.Proofs.YtnbalopedcgpcaaGreat.nm z (tQ 120 i):=by
   rw[dI l.2.1];exact zY X.nm f
  obtain⟨p,v⟩:=X.new.flt i b;obtain⟨x,y⟩:=pM X.zed _ (Ea (by omega:i<4200));rw[e];refine⟨_,X.findN b t,X.leaf q o f,by unfold aS;omega,P0 ?_,y,x⟩;unfold gT gL;rw[v];rfl
 ·have a:m<(aJ T).2.UD.length:=by omega
  have j:(aJ T).2.UD[m]?=XK (bL (aJ T).2.UD m):=by rw[dO a,PJ a]
  have e:iK z (aJ T).2.UD k (md (aJ T).2.UD m).label=(bL (aJ T).2.UD m).label:=zZ X.nm j d;have c:=(X.nm.UD _ (Qp j)).lab (by omega);rw[e];refine⟨m,X.findO j (by rw[d];rfl),X.rule q o u d w,by unfold aS;omega,P7 ?_,c.2.1,c.1.1.1⟩;unfold gT gL;rw[X.old a,j];simp only;rw[d];rfl
theorem vh(h:dF x=XL):(x.toList == [40])=XM/\(x.toList == [63])=XM:=by
 refine⟨?_,?_⟩
 ·cases q:(x.toList == [40])
  ·rfl
  ·have e:x=⟨#[40]⟩:=eD (by rw[Rr q,QF]);rw[e]at h;exact absurd h (by decide +kernel)
 ·cases q:(x.toList == [63])
  ·rfl
  ·have e:x=⟨#[63]⟩:=eD (by rw[Rr q,QF]);rw[e]at h;exact absurd h (by decide +kernel)
theorem mO.verified(X:mO T z k L (x :: f.map (qr z (eQ (aJ T).2.UD k))) ((pP f (dp (aJ T).2.UD k) i w x 0 f.length).map (iK z (aJ T).2.UD k)))(W:(mU (aJ T).2.UD k).length<4200)(ok:∀P∈dp (aJ T).2.UD k,kZ P)(is:uL f (dp (aJ T).2.UD k) i)(J:f.length<=10)(O:i x 0 f.length=1)(S:0<pS f (dp (aJ T).2.UD k) w x 0 f.length) :
  gT L (aS T k)=⟨Go.Proofs.YtnbalopedcgpcaaGreat.nm z [110],5,0,db⟩:=by
 obtain⟨p,j,c,F⟩:=X.new.thm;have F:L[aS T k]?=XK _:=F;obtain⟨C,M⟩:∃C,C=rC L (aS T k):=⟨_,rfl⟩
 obtain⟨D,K⟩:∃D,D=cT L (aS T k) C:=⟨_,rfl⟩
 have m:=fun P d=>X.names (P:=P) W C D d;have b:=fun a G=>vT (tx:=f) (Ps:=dp (aJ T).2.UD k) (C:=i) w x 0 f.length a G;obtain⟨o,B⟩:∃o,o=pP f (dp (aJ T).2.UD k) i w x 0 f.length:=⟨_,rfl⟩
 rw[<-B]at b c
 -- the words
 have hw:∀a∈j,ez L a.1 (aS T k)=XK (nR L (aS T k) a.1)/\(a.1.toList == [63])=XM:=fun a G=>by
  have:a.1∈o.map (iK z (aJ T).2.UD k):=by rw[<-c];exact RZ G
  obtain⟨y,H,e⟩:=Qu.1 this;obtain⟨P,d,rfl⟩:=b y H;obtain⟨n,I,-,-,-,N,-⟩:=m P d;rw[<-e];refine⟨?_,(vh N).2⟩;unfold nR;rw[I];rfl
 have R:0<o.length:=by
  rw[B];obtain⟨U,rfl⟩:∃U,w=U+1:=by
   cases w with
   | zero=>exact absurd S (R8 _)
   | succ w=>exact⟨w,rfl⟩
  exact CW is (by omega) (by omega) O
 have Z:j.length=o.length:=by
  have:=congrArg List.length c;simpa using this
 have g:=Ce (fin:=p) j [] hw (by simp;omega);rw[RV]at g;have u:qd ⟨5,Go.Proofs.YtnbalopedcgpcaaGreat.nm z [110],x :: f.map (qr z (eQ (aJ T).2.UD k)),j,p,0⟩=XM:=by
  unfold qd;cases Y:j with
  | nil=>rfl
  | cons a q =>
   obtain⟨t,pl⟩:=a;have:t∈o.map (iK z (aJ T).2.UD k):=(by rw[<-c,Y];simp);obtain⟨y,H,e⟩:=Qu.1 this;obtain⟨P,d,rfl⟩:=b y H;obtain⟨n,-,-,-,-,N,-⟩:=m P d;rw[<-e];exact(vh N).1
 have E:eB L (aS T k) ⟨5,Go.Proofs.YtnbalopedcgpcaaGreat.nm z [110],x :: f.map (qr z (eQ (aJ T).2.UD k)),j,p,0⟩=(j.map (fun a=>⟨2,nR L (aS T k) a.1,a.2⟩),cy):=by
  unfold eB;rw[u,PV (by simp)];exact g
 have r:ub (j.map (fun a=>(⟨2,nR L (aS T k) a.1,a.2⟩:gY)))=XJ:=by
  unfold ub;refine eJ (fun ag Q=>?_);rw[Qh]at Q;rw[Qt,PJ Q];rfl
 have v:dM L C D p (x :: f.map (qr z (eQ (aJ T).2.UD k))) (j.map (fun a=>⟨2,nR L (aS T k) a.1,a.2⟩)) ([],[])=cy:=by
  have ht:=CX is ok J (l:=L) (vs:=C) (ms:=D) (rh0:=qr z (eQ (aJ T).2.UD k)) (num:=fun a=>nR L (aS T k) (iK z (aJ T).2.UD k a)) (fun P d=>by
   obtain⟨n,I,q2,-⟩:=m P d;have:nR L (aS T k) (iK z (aJ T).2.UD k P.label)=n:=(by unfold nR;rw[I];rfl);rw[this];exact q2) w x 0 f.length (by omega) (by omega) O S (j.map (fun a=>⟨2,nR L (aS T k) a.1,a.2⟩)) (by
    rw[<-B,R2];have:o.map (fun a=>((2:Int),nR L (aS T k) (iK z (aJ T).2.UD k a)))=(o.map (iK z (aJ T).2.UD k)).map (fun ad=>((2:Int),nR L (aS T k) ad)):=by rw[R2];rfl
    rw[this,<-c,R2]
    rfl) ([],[])
  obtain⟨ac,d⟩:=ht;have:=d p (x :: f.map (qr z (eQ (aJ T).2.UD k))) [];rw[QK]at this;rw[this,dM];rw[Md]
  show(if wD _ _=XL then cy else _)=cy
  rw[PZ (yM _)]
 have A:jE (ck L (aS T k)) (j.map (fun a=>⟨2,nR L (aS T k) a.1,a.2⟩))=XL:=by
  unfold jE;rw[QR];intro s F;obtain⟨a,G,rfl⟩:=Qu.1 F;have:a.1∈o.map (iK z (aJ T).2.UD k):=by rw[<-c];exact RZ G
  obtain⟨y,H,e⟩:=Qu.1 this;obtain⟨P,d,rfl⟩:=b y H;obtain⟨n,I,-,q3,q4,-⟩:=m P d;have V:nR L (aS T k) a.1=n:=by unfold nR;rw[<-e,I];rfl
  show(!((2:Int)==2) || !(yl (jy (ck L (aS T k)) (nR L (aS T k) a.1))))=XL
  rw[V,NT L q3];rcases q4 with q | q <;> rw[q] <;> rfl
 unfold gT gL;rw[F];simp only;rw[PV (by decide),PZ (by decide)];unfold dP;rw[E];simp only[r];rw[PZ (by decide)];unfold dH;simp only;rw[<-M,<-K,v];unfold iu;rw[PZ (by decide),r];simp only;rw[PZ A]
theorem mO.rows(X:mO T z k L g ws)(h:gT L (aS T k)=⟨Go.Proofs.YtnbalopedcgpcaaGreat.nm z [110],5,0,db⟩):f9 L=f9 (aJ T).2.UD++[⟨Go.Proofs.YtnbalopedcgpcaaGreat.nm z [110],5,0,db⟩]:=by
 have G:=iB T X.fine.size X.fine.inc;obtain⟨M,e⟩:=X.new.pre;have a:L.length=aS T k+1:=by rw[X.new.len]
 unfold f9;rw[a,ck,QD];have b:gL L (aS T k) (ck L (aS T k))=⟨Go.Proofs.YtnbalopedcgpcaaGreat.nm z [110],5,0,db⟩:=h;rw[b];congr 1;unfold aS;have c:ck L (aJ T).2.UD.length=ck (aJ T).2.UD (aJ T).2.UD.length:=by rw[e];exact Ej _ M G.ok G.prf _ (PQ _)
 rw[rP,Ui,QA,QD,<-rP,c,R2];have d:((List.range (mU (aJ T).2.UD k).length).map (gT L ∘ fun x=>(aJ T).2.UD.length+x)).filter (fun r=>!(r.Us==0))=[]:=by
  rw[Rx];intro r l;obtain⟨i,f,rfl⟩:=Qu.1 l;obtain⟨p,j⟩:=X.new.flt i (Qe.1 f);show ¬(!((gT L ((aJ T).2.UD.length+i)).Us==0))=XL;unfold gT gL;rw[j];show ¬(!(lz.Us==0))=XL;decide
 rw[d,QK]
theorem mO.find(X:mO T z k L g ws):da L (Go.Proofs.YtnbalopedcgpcaaGreat.nm z [110])=XK (aS T k):=by
 obtain⟨p,i,-,b⟩:=X.new.thm;unfold da;refine dN (by rw[X.new.len];unfold aS;omega) ?_ (fun j e=>?_)
 ·have b:L[aS T k]?=XK _:=b;unfold du;rw[b];simp only;rw[Rm];rfl
 ·unfold du;cases c:L[j]? with
  | none=>rfl
  | some u =>
   simp only;by_cases q:j<(aJ T).2.UD.length
   ·rw[X.old q]at c;by_cases d:u.kind=1
    ·rw[d];rw[Bool.and_eq_false_iff];exact P7 rfl
    ·rw[X.other c d];rfl
   ·unfold aS at e;obtain⟨f,a⟩:=X.new.flt (j-(aJ T).2.UD.length) (by omega);rw[show(aJ T).2.UD.length+(j-(aJ T).2.UD.length)=j by omega,c]at a;rw[Qz a,Bool.and_eq_false_iff];exact P7 rfl
theorem Fc{M:List St}(h:w<b.length):j8 (b++M) w=j8 b w/\md (b++M) w=md b w/\bL (b++M) w=bL b w:=by
 have d:∀n,n<b.length->bL (b++M) n=bL b n:=fun n j=>by unfold bL;rw[PR j]
 have e:=mB b M w h;have c:∀x∈al b w,x<b.length:=fun x a=>(j7 a).1;refine⟨?_,?_,d w h⟩
 ·unfold j8;have g:bN (b++M) w=bN b w:=by
   unfold bN;rw[e];have i:bt (b++M) (al b w)=bt b (al b w):=by
    unfold bt;refine oX _ _ _ (fun x a=>?_);unfold eK;rw[PR (c x a)]
   rw[i,nN b M w h]
  rw[g,e,d w h];congr 1;rw[SG,QR,QR];constructor <;> intro f x a
  ·have:=f x a;rw[d x (c x a)]at this;exact this
  ·rw[d x (c x a)];exact f x a
 ·unfold md;rw[e,d w h];congr 1
  ·exact QX (fun x a=>by rw[d x (c x a)])
  ·exact QX (fun x a=>by rw[d x (c x a)])
theorem mO.tree(X:mO T z k L (x :: f.map (qr z (eQ (aJ T).2.UD k))) ws)(is:uL f (dp (aJ T).2.UD k) i)(S:f.length<=10)(h1:i x 0 f.length=1){A:Int×List ByteArray}(a:iC L (Go.Proofs.YtnbalopedcgpcaaGreat.nm z [110]) x A):A.1≠10:=by
 have N:=X.nm;have V:=ql T;have ad:=X.kl;obtain⟨p,ps,-,D⟩:=X.new.thm;have D:L[aS T k]?=XK _:=D;have G:(bL L (aS T k)).Um=x :: f.map (qr z (eQ (aJ T).2.UD k)):=by unfold bL;rw[D];rfl
 unfold iC at a;rw[X.find]at a;simp only at a;unfold MJ at a;rw[G,List.drop_one,List.tail_cons,Qh,PV (by omega)]at a;obtain⟨C',r',H,-,rfl⟩:=a;obtain⟨n,F⟩:=is.low;have u:0<pS f (dp (aJ T).2.UD k) n x 0 f.length:=by have:=F x 0 f.length (by omega) (by omega);omega
 obtain⟨M,R⟩:=X.new.pre
 have o:=Nx (tx:=f) (Ps:=dp (aJ T).2.UD k) (Qs:=dp L (aS T k)) (rh0:=qr z (eQ (aJ T).2.UD k)) (fun P W b=>by
  rcases pu W with ⟨e,C,rfl⟩ | ⟨m,hm,E,O,rfl⟩
  ·have g:=lL (PT C);have t:e<(mU (aJ T).2.UD k).length:=(by unfold mU;rw[Qh];exact C);obtain⟨p2,o⟩:=X.new.flt e t;have Q:=X.var C;have v:ak ((aJ T).2.UD.getD (ly (aJ T).2.UD k)[e] dJ)∈f:=by
    refine b _ ?_ rfl;rw[dI g.2.1];exact Qn.2 rfl
   have l:bL L ((aJ T).2.UD.length+e)=⟨2,Go.Proofs.YtnbalopedcgpcaaGreat.nm z (tQ 120 e),[gD (mU (aJ T).2.UD k) e,Go.Proofs.YtnbalopedcgpcaaGreat.nm z (na 120 e)],[],p2,L.length⟩:=(by unfold bL;rw[o];rfl);have s:(aJ T).2.UD.length+e∈al L (aS T k):=by
    refine gz.2 ⟨_,o,X.heldN t,P0 ⟨rfl,?_⟩⟩;refine mo.2 (P0 ?_);unfold symsAt;rw[D];show ak _∈x :: f.map _;refine Qv _ (Qu.2 ⟨_,v,?_⟩);rw[Aa Q];rfl
   refine⟨BN (bL L ((aJ T).2.UD.length+e)),RQ _ (Qu.2 ⟨_,QL.2 ⟨s,by rw[l];rfl⟩,rfl⟩),?_⟩;rw[l,dI g.2.1];refine⟨?_,rfl,rfl,fun q B y b d=>?_⟩
   ·show gD (mU (aJ T).2.UD k) e=ax _;exact M3 C
   ·match q,b,d with
    | 0,b,d =>
     have b:ak _=B:=Qz b;have d:Go.Proofs.YtnbalopedcgpcaaGreat.nm z (na 120 e)=y:=Qz d;refine⟨rfl,fun _=>?_⟩;rw[<-b,<-d,Aa Q]
    | q+1,b,d=>cases b
  ·have j:m<(aJ T).2.UD.length:=(by omega);obtain⟨I,J,K⟩:=Fc (M:=M) j;rw[<-R]at I J K;refine⟨md L m,List.mem_append_right _ (Qu.2 ⟨m,QL.2 ⟨Qe.2 (by unfold aS;omega),by rw[I,K,E,O];rfl⟩,rfl⟩),?_⟩;rw[J];refine⟨rfl,rfl,rfl,fun q B y b d=>?_⟩;rw[b]at d;have d:=Qz d;subst d;refine⟨rfl,fun F=>?_⟩;rw[xq];intro g;have U:fE (aJ T).2.UD m=XL:=by
    unfold fE;rw[PJ j];rw[dO j]at E;simp only;rw[E];rfl
   obtain⟨-,ac⟩:=sQ O;have w:B∈(bL (aJ T).2.UD m).Um:=Sr (Qp b);rw[dI j]at w;rcases MQ N V U (P0 w) with c | c
   ·exact V.cv B c (wZ N V g)
   ·have:B∈(md (aJ T).2.UD m).vars:=by
     rw[qg]at c;obtain⟨h,Z,rfl⟩:=Qu.1 c;have r:=lL Z;exact Qu.2 ⟨h,r.1,by rw[dI r.2.1]⟩
    exact dU.1 F this) n x 0 f.length (by omega) u
 have Y:=H.above n x 0 f.length (by rw[Qh];omega) (by rw[Qh];omega);unfold uu;rw[Qh];rw[PV (by omega)];split
 ·split
  ·show(3:Int)≠10;decide
  ·show(0:Int)≠10;decide
 ·show(11:Int)≠10;decide
end
end Go.Proofs.YtnbalopedcgpcaaGreat
