import Derived.Test.YtnbhnocdhbcbcaaGreatG21
import Derived.Test.YtnbhnocdhbcbcaaGreatG26
namespace Go.Proofs.YtnbhnocdhbcbcaaGreat
open Go.RowKit Tryz
open Value IntKind Ending
set_option maxHeartbeats 0
variable{b t:Nat}{f o q:List ByteArray}{c:ByteArray}{y:List Tk}{w:List Sm}{x z0:List (List ByteArray)}{r:List Bool}{k:List cW}{H:kK}(p:List Tk)(N:List Sm)(g:List Nat)(u:List ByteArray)(m:List (List ByteArray))(I:Nat)(D v:List ByteArray)(s:List (List ByteArray))(L:ByteArray)
section
variable {T:List Tk} {d:Db}
theorem gM.vars(R:gM T d)(F:QH T (ab T))(q:b<d.Wv.length):ud d.Wv (aN d.Wv b)=fH T (ab T) (aZ T (ab T) (av (ab T) b)) (aZ T (ab T) (av (ab T) b)).length:=by
 unfold fH;rw[Tr,<-R.hyps F q];unfold ud;have a:∀n∈aN d.Wv b,n<d.Wv.length:=fun n i=>by
  unfold aN eu at i;exact Sd.1 (SD.1 i).1
 generalize aN d.Wv b=L at a
 induction L with
 | nil=>rfl
 | cons n L j =>
  obtain⟨s,r,f,-,g⟩:=R.get (a n (by simp));have p:=R.hel.at_ (a n (by simp));rw[List.filterMap_cons,Uf,V4];unfold Bh;rw[r];simp only;rw[(cn f).2.1];cases e:((aq (ab T) (av (ab T) n)).k.toList == [36,102])
  ·rw[RU (by simp),RU (by simp)];exact j (fun m c=>a m (by simp[c]))
  ·obtain⟨l,o⟩:=F _ p e;have t:aL s=tS T ((aq (ab T) (av (ab T) n)).h+1):=by
    unfold aL;rw[RY ⟨by rw[(cn f).2.1];exact e,by rw[g];exact l⟩,g,o]
   rw[RY rfl,RY rfl,Uf,<-t];show aL s :: _=_;congr 1;exact j (fun m c=>a m (by simp[c]))
def In(vs:List ByteArray):Prop:=∀i j,i<j->j<vs.length->((vs.getD i ⟨#[]⟩).toList==(vs.getD j ⟨#[]⟩).toList)=false
theorem In.ne(h:In f){i j:Nat}(b:i<f.length)(c:j<f.length)(d:i≠j):((f.getD i ⟨#[]⟩).toList==(f.getD j ⟨#[]⟩).toList)=false:=by
 rcases Nat.lt_or_gt_of_ne d with a | a
 ·exact h i j a c
 ·have:=h j i a b;rw[Sp]at this ⊢;exact fun e=>this e.symm
theorem Fg(h:In f)(a:b<f.length)(x:ByteArray):mq f x=some b ↔ ((f.getD b ⟨#[]⟩).toList==x.toList)=true:=by
 unfold mq;constructor
 ·intro e;have:=Uo e;simpa using this
 ·intro e;rw[List.find?_eq_some_iff_getElem];refine⟨e,b,by rw[Ul];exact a,by rw[List.getElem_range],fun j g=>?_⟩;rw[List.getElem_range];have:=h.ne (i:=j) (j:=b) (by omega) a (by omega);simp only[Bool.not_eq_true',beq_eq_false_iff_ne];rw[Sp]at this;intro c;have d:(f.getD b ⟨#[]⟩).toList=x.toList:=by simpa using e
  exact this (c.trans d.symm)
theorem vX(h:In f)(d:b<f.length)(g:List ByteArray):(bH f g).contains b=aJ g (f.getD b ⟨#[]⟩):=by
 unfold bH aJ;rw[Tu,UA,VH,SQ];constructor
 ·rintro ⟨x,c,e⟩;have:=(Fg h d x).1 e;refine⟨x,c,?_⟩;have a:(f.getD b ⟨#[]⟩).toList=x.toList:=by simpa using this
  rw[a];exact Vp _
 ·rintro ⟨x,c,e⟩;refine⟨x,c,(Fg h d x).2 ?_⟩;have a:x.toList=(f.getD b ⟨#[]⟩).toList:=by simpa using e
  rw[a];exact Vp _
theorem gM.tog(R:gM T d)(r:b<d.Wv.length)(h:In f){j:Nat}(A:t<f.length)(w:j<f.length)(v:t<j):xW d.Wv b f d.Wv.length t j=dR T (ab T) (f.getD t ⟨#[]⟩) (f.getD j ⟨#[]⟩) (av (ab T) b):=by
 have D:=R.hel.len;have E:=R.hel.at_ r;have x:=h t j v w;unfold xW dR;rw[Tu,SQ,SQ];constructor
 ·rintro ⟨n,a,e⟩;have a:=Sd.1 a;obtain⟨s,m,l,-,C⟩:=R.get a;simp only[Bool.and_eq_true]at e;obtain⟨⟨c,o⟩,p⟩:=e;rw[vX h A,R.symsAt a]at o;rw[vX h w,R.symsAt a]at p;unfold ti at c;rw[m]at c;simp only[Bool.and_eq_true]at c;have z:((aq (ab T) (av (ab T) n)).k.toList == [36,100])=true:=by rw[<-(cn l).2.2.1];exact c.1
  have i:pK s.kind=false:=by rw[(cn l).2.2.2,cm z,cm z];decide
  have u:=c.2;rw[R.held m i r,Sk]at u;refine⟨av (ab T) n,Sd.2 (VQ u.1),?_⟩;unfold Po;rw[z,x,o,p,u.2];rfl
 ·rintro ⟨q,y,e⟩;have y:=Sd.1 y;unfold Po at e;simp only[Bool.and_eq_true]at e;obtain⟨c,-,o,p,B⟩:=e;have g:q∈lp (ab T):=SD.2 ⟨Sd.2 (by omega),by unfold lm;rw[c];simp⟩;rw[tP]at g;obtain⟨n,a,rfl⟩:=Tw.1 g;have a:n<d.Wv.length:=by rw[D];exact Sd.1 a
  obtain⟨s,m,l,-,C⟩:=R.get a;have i:pK s.kind=false:=by rw[(cn l).2.2.2,cm c,cm c];decide
  refine⟨n,Sd.2 a,?_⟩;rw[vX h A,vX h w,R.symsAt a,o,p];unfold ti;rw[m];simp only;rw[(cn l).2.2.1,c,R.held m i r,B,TH y];rfl
theorem sF.vsd(F:sF d):In (ud d.Wv (aN d.Wv b)):=by
 have E:(aN d.Wv b).Pairwise (fun n m=>n<m/\n∈aN d.Wv b/\m∈aN d.Wv b):=by
  have h:(aN d.Wv b).Pairwise (· < ·):=Vu _ UO;exact h.imp_of_mem (fun z A B=>⟨B,z,A⟩)
 have G:(ud d.Wv (aN d.Wv b)).Pairwise (fun x y=>(x.toList==y.toList)=false):=by
  unfold ud;refine List.Pairwise.filterMap _ (fun n m h x a y H=>?_) E;obtain⟨r,o,D⟩:=h;have l:∀n x,n∈aN d.Wv b->Bh d.Wv n=some x->∃s,d.Wv[n]?=some s/\s.kind=2/\x=vr s/\fg d.Wv n b=true:=fun n x o a=>by
   unfold Bh at a;cases g:d.Wv[n]? with
   | none=>rw[g]at a;cases a
   | some s =>
    rw[g]at a;simp only at a;split at a
    ·next k =>
     have w:s.kind=2:=(by simpa using k);have C:=F.fl n s g w;have e:aL s=vr s:=(by unfold aL vr;rw[RY ⟨k,C⟩]);refine⟨s,rfl,w,by rw[<-e];cases a;rfl,?_⟩;unfold aN eu at o;have:=(SD.1 o).2;unfold np at this;rw[g]at this;simp only[Bool.and_eq_true]at this;exact this.1
    ·cases a
  obtain⟨s,g,I,rfl,c⟩:=l n x o a;obtain⟨u,v,J,rfl,f⟩:=l m y D H;refine F.ds n m s u g v I J r ?_;unfold fg at c f;rw[g]at c;rw[v]at f;simp only[Bool.and_eq_true,Bool.or_eq_true,decide_eq_true_eq]at c f;rcases c.2 with q | q
  ·left;simpa using q
  ·right;have:=f.1;omega
 intro i j p t;have:=UB.1 G i j (by omega) t p;rw[RT,RT,RQ t,RQ (by omega)];exact this
end
theorem uk{y:ByteArray}(h:c.toList=y.toList):c=y:=by
 apply VW;apply U4.1;rw[<-SM,<-SM,h]
theorem wl(y:ByteArray):(L.toList==y.toList)=true ↔ L=y:=⟨fun h=>uk (by simpa using h),fun h=>by rw[h];simp⟩
theorem GL:aJ v L=true ↔ L∈v:=by
 unfold aJ;rw[SQ];exact⟨fun⟨y,hy,e⟩=>(wl y L).1 e ▸ hy,fun h=>⟨L,h,by simp⟩⟩
theorem I6{F G:ByteArray->List ByteArray}(h:∀x∈f,F x=G x):f.flatMap F=f.flatMap G:=by
 rw[UG,UG,Ux h]
theorem CK(A:List ByteArray):∀B:List ByteArray,A.map (·.toList)=B.map (·.toList)->A=B:=by
 induction A with
 | nil =>
  intro B h;cases B with
  | nil=>rfl
  | cons y B=>cases h
 | cons x A c =>
  intro B h;cases B with
  | nil=>cases h
  | cons y B =>
   obtain⟨a,b⟩:=Wd h;rw[uk a,c B b]
theorem tj:yq D v=true ↔ D=v:=by
 unfold yq;rw[T0];exact⟨CK D v,fun h=>by rw[h]⟩
theorem xL:kY D v=true ↔ D=v:=by
 unfold kY;rw[Sk,Tb];constructor
 ·rintro ⟨a,c⟩;have a:D.length=v.length:=by simpa using a
  apply Vm a;intro i b d;have:=c i (Sd.2 b);unfold Fx at this;rw[wl,RT,RT,RQ b,RQ d]at this;exact this
 ·rintro rfl;exact⟨by simp,fun i _=>by unfold Fx;simp⟩
theorem Nc:kY D v=yq D v:=by
 rw[Tu,xL,tj]
theorem vY:mq v L=if mP v L<v.length then some (mP v L) else none:=by
 unfold mq;split
 ·next h =>
  rw[Tx];refine⟨?_,Sd.2 h,fun j a=>?_⟩
  ·rw[RT,RQ h];exact List.findIdx_getElem (p:=fun y:ByteArray=>y.toList==L.toList) (w:=h)
  ·have:=List.not_of_lt_findIdx (p:=fun y:ByteArray=>y.toList==L.toList) (xs:=v) (i:=j) a;rw[RT,RQ (by unfold mP at h a;omega)];simpa using this
 ·next h =>
  rw[Tn];intro j a e;apply h;unfold mP;rw[List.findIdx_lt_length];have a:=Sd.1 a;refine⟨v[j],Sj a,?_⟩;rw[RT,RQ a]at e;exact e
theorem oV:mP v L<v.length ↔ L∈v:=by
 unfold mP;rw[List.findIdx_lt_length];exact⟨fun⟨y,hy,e⟩=>(wl y L).1 e ▸ hy,fun h=>⟨L,h,by simp⟩⟩
theorem NW:Ac v s L=uG v s L:=by
 unfold Ac uG;rw[vY];by_cases h:mP v L<v.length
 ·rw[RY h,RY h]
 ·rw[RU h,RU h]
theorem Fp(e:List ByteArray):∀a,((a++dO v s e).length<=32->jq v s e a=a++dO v s e)/\(32<(a++dO v s e).length->32<(jq v s e a).length):=by
 induction e with
 | nil=>intro a;rw[jq];unfold dO;rw[Vl,Su];exact⟨fun _=>rfl,id⟩
 | cons x r c =>
  intro a;have e:a++dO v s (x :: r)=a++Ac v s x++dO v s r:=by
   unfold dO;rw[SZ,NW,TM]
  rw[jq,e];split
  ·exact c _
  ·next h=>exact⟨fun b=>by rw[R9,R9]at b;omega,fun _=>by omega⟩
theorem Da:((dO u m v).length<=32->mt u m v=dO u m v)/\(32<(dO u m v).length->32<(mt u m v).length):=by
 have:=Fp u m v [];rw[UP]at this;exact this
theorem PP(c:v.length<=32):yq (mt u m D) v=kY (dO u m D) v:=by
 rw[Nc];obtain⟨b,a⟩:=Da u m D;by_cases h:(dO u m D).length<=32
 ·rw[b h]
 ·have a:=a (by omega);rw[Tu,tj,tj];exact⟨fun D=>by rw[D]at a;omega,fun D=>by rw[D]at h;omega⟩
theorem Ma(h:L∈D):mP (D++v) L=mP D L:=by
 have:=(oV D L).2 h;unfold mP at this ⊢;rw[List.findIdx_append,RY this]
theorem JO(C:List (List ByteArray))(c:s.length=D.length)(x:ByteArray)(h:x∈D++v->x∈D):uG (D++v) (s++C) x=uG D s x:=by
 unfold uG;by_cases a:x∈D
 ·have b:=(oV D x).2 a;rw[Ma D v x a,RY (by rw[R9];omega),RY b,RT,RT,Si (by omega)]
 ·rw[RU (fun e=>a (h ((oV _ x).1 e))),RU (fun e=>a ((oV D x).1 e))]
theorem G3:so N g (I+1)=so N g I++(if rA N g I=true then [I] else []):=by
 unfold so;rw[Ty,Tf];congr 1;cases h:rA N g I <;> simp[h]
theorem qj:bE p N g (I+1)=bE p N g I++(if rA N g I=true then [(a8 p N (g.getD I 0)).getD 1 ⟨#[]⟩] else []):=by
 unfold bE;rw[G3,SF];split <;> rfl
theorem vt:bn N g m (I+1)=bn N g m I++(if rA N g I=true then [(m.getD I []).drop 1] else []):=by
 unfold bn;rw[G3,SF];split <;> rfl
theorem MT:(bn N g m I).length=(bE p N g I).length:=by unfold bn bE;rw[Sn,Sn]
theorem Qw(n:Nat)(h:I<=n):∃W C,bE p N g n=bE p N g I++W/\bn N g m n=bn N g m I++C:=by
 obtain⟨a,rfl⟩:∃a,n=I+a:=⟨n-I,by omega⟩
 clear h
 induction a with
 | zero=>exact⟨[],[],(Su _).symm,(Su _).symm⟩
 | succ a d =>
  obtain⟨W,C,b,c⟩:=d;rw[<-UR,qj,vt,b,c,TM,TM];exact⟨_,_,rfl,rfl⟩
structure Rf(T:List Tk)(S:List Sm)(l:List St)(hs:List Nat):Prop where
 kd:∀i,i<hs.length->((l.getD (hs.getD i 0) zI).kind==3)=!(rA S (hs.map (av S)) i)
 sy:∀i,i<hs.length->(l.getD (hs.getD i 0) zI).We=a8 T S ((hs.map (av S)).getD i 0)
 vr:∀i,i<hs.length->rA S (hs.map (av S)) i=true->aL (l.getD (hs.getD i 0) zI)=(a8 T S ((hs.map (av S)).getD i 0)).getD 1 ⟨#[]⟩
 pre:∀i,i<hs.length->rA S (hs.map (av S)) i=false->∀x∈a8 T S ((hs.map (av S)).getD i 0),x∈bE T S (hs.map (av S)) hs.length->x∈bE T S (hs.map (av S)) i
theorem PT{l:List St}{a:List Nat}(H:Rf y w l a)(R:x.length=a.length)(s:∀e∈x,e.length<=32/\e≠[])(m:Nat) :
  ∀k,k+m=a.length->cQ (zq y w (a.map (av w)) x (bE y w (a.map (av w)) a.length) (bn w (a.map (av w)) x a.length)) k=0 ->
  (jQ l (a.drop k) (x.drop k) (bE y w (a.map (av w)) k,bn w (a.map (av w)) x k)).1=cQ (zq y w (a.map (av w)) x (bE y w (a.map (av w)) a.length) (bn w (a.map (av w)) x a.length)) a.length /\
  (cQ (zq y w (a.map (av w)) x (bE y w (a.map (av w)) a.length) (bn w (a.map (av w)) x a.length)) a.length=0->(jQ l (a.drop k) (x.drop k) (bE y w (a.map (av w)) k,bn w (a.map (av w)) x k)).2=(bE y w (a.map (av w)) a.length,bn w (a.map (av w)) x a.length)):=by
 induction m with
 | zero =>
  intro k t o;rw[Ui]at t;subst t;rw[Vn,jQ]
  ·exact⟨o.symm,fun _=>rfl⟩
  ·intro h a e Q p;cases p
 | succ m P =>
  intro k t o;have b:k<a.length:=by omega
  have c:k<x.length:=by omega
  have F:=s x[k] (Sj c);have J:a.getD k 0=a[k]:=by rw[RT,RQ b];rfl
  have E:x.getD k []=x[k]:=by rw[RT,RQ c];rfl
  have d:=H.kd k b;have g:=H.sy k b;have n:=H.vr k b;have j:=H.pre k b;rw[J]at d g n;have B:∀(f:Int) (q:NP),lK (l.getD a[k] zI) x[k] (bE y w (a.map (av w)) k,bn w (a.map (av w)) x k)=(f,q)->zq y w (a.map (av w)) x (bE y w (a.map (av w)) a.length) (bn w (a.map (av w)) x a.length) k=f->(f=0->q=(bE y w (a.map (av w)) (k+1),bn w (a.map (av w)) x (k+1))) ->
   (jQ l (a.drop k) (x.drop k) (bE y w (a.map (av w)) k,bn w (a.map (av w)) x k)).1=cQ (zq y w (a.map (av w)) x (bE y w (a.map (av w)) a.length) (bn w (a.map (av w)) x a.length)) a.length /\
   (cQ (zq y w (a.map (av w)) x (bE y w (a.map (av w)) a.length) (bn w (a.map (av w)) x a.length)) a.length=0->(jQ l (a.drop k) (x.drop k) (bE y w (a.map (av w)) k,bn w (a.map (av w)) x k)).2=(bE y w (a.map (av w)) a.length,bn w (a.map (av w)) x a.length)):=fun f q M u L=>by
   rw[Sq b,Sq c,jQ,M];by_cases h:f=0
   ·rw[RY (by rw[h];rfl),L h];apply P (k+1) (by omega);rw[cQ,o,RY (by rfl),u,h]
   ·have G:(f==0)=false:=Sp.2 h;have O:=mM o (by rw[u];exact G) b;rw[O,u,RU (by rw[G];simp)];exact⟨rfl,fun e=>absurd e h⟩
  have i:lK (l.getD a[k] zI) x[k] (bE y w (a.map (av w)) k,bn w (a.map (av w)) x k)=(if((l.getD a[k] zI).kind==3)=true then(if yq (mt (bE y w (a.map (av w)) k) (bn w (a.map (av w)) x k) (l.getD a[k] zI).We) x[k]=true then(0,(bE y w (a.map (av w)) k,bn w (a.map (av w)) x k)) else(8,(bE y w (a.map (av w)) k,bn w (a.map (av w)) x k)))
   else if((x[k].getD 0 ⟨#[]⟩).toList==(gF (l.getD a[k] zI)).toList)=true then(0,(bE y w (a.map (av w)) k++[aL (l.getD a[k] zI)],bn w (a.map (av w)) x k++[x[k].drop 1])) else(7,(bE y w (a.map (av w)) k,bn w (a.map (av w)) x k))):=by
   unfold lK;split
   ·rfl
   ·have:=F.2;generalize x[k]=e at this;cases e with
    | nil=>exact absurd rfl this
    | cons D r=>rfl
  have v:zq y w (a.map (av w)) x (bE y w (a.map (av w)) a.length) (bn w (a.map (av w)) x a.length) k=(if rA w (a.map (av w)) k=true then(if((x[k].getD 0 ⟨#[]⟩).toList==((a8 y w ((a.map (av w)).getD k 0)).getD 0 ⟨#[]⟩).toList)=true then 0 else 7) else if kY (dO (bE y w (a.map (av w)) a.length) (bn w (a.map (av w)) x a.length) (a8 y w ((a.map (av w)).getD k 0))) x[k]=true then 0 else 8):=by
   unfold zq;rw[E]
  refine B (lK (l.getD a[k] zI) x[k] (bE y w (a.map (av w)) k,bn w (a.map (av w)) x k)).1 (lK (l.getD a[k] zI) x[k] (bE y w (a.map (av w)) k,bn w (a.map (av w)) x k)).2 rfl ?_ ?_
  ·rw[i,v,d];cases z:rA w (a.map (av w)) k
   ·have N:dO (bE y w (a.map (av w)) a.length) (bn w (a.map (av w)) x a.length) (a8 y w ((a.map (av w)).getD k 0))=dO (bE y w (a.map (av w)) k) (bn w (a.map (av w)) x k) (a8 y w ((a.map (av w)).getD k 0)):=by
     obtain⟨W,C,p,K⟩:=Qw y w (a.map (av w)) x k a.length (by omega);have I:=j z;rw[p]at I;rw[p,K];unfold dO;apply I6;intro D A;exact JO _ _ _ _ (MT y w _ _ _) D (I D A)
    rw[RU (show ¬(false=true) by simp),RY (show(!false)=true from rfl),N,g,PP _ _ _ _ F.1];split <;> rfl
   ·rw[RY rfl,RU (show ¬((!true)=true) by simp)];unfold gF;rw[g];split <;> rfl
  ·rw[i,d,qj,vt,E];cases z:rA w (a.map (av w)) k
   ·rw[RY (show(!false)=true from rfl)];split
    ·intro _;simp
    ·intro h;cases h
   ·rw[RU (show ¬((!true)=true) by simp)];split
    ·intro _;rw[RY rfl,RY rfl,n z]
    ·intro h;cases h
theorem tL(X:List ByteArray):∀a p,p∈nV v X a ↔ p∈a∨∃x∈X,mq v x=some p:=by
 induction X with
 | nil=>intro a p;rw[nV];simp
 | cons x r g =>
  intro a p;rw[nV];cases e:mq v x with
  | none =>
   simp only;rw[g];constructor
   ·rintro (h | ⟨y,b,h⟩)
    ·exact R4 h
    ·exact RZ ⟨y,Sx _ b,h⟩
   ·rintro (h | ⟨y,b,h⟩)
    ·exact R4 h
    ·rcases Sv.1 b with rfl | b
     ·rw[e]at h;cases h
     ·exact RZ ⟨y,b,h⟩
  | some q =>
   simp only;have d:∀c,(p∈c ↔ p∈a∨p=q)->(p∈nV v r c ↔ p∈a∨∃y∈x :: r,mq v y=some p):=fun c j=>by
    rw[g,j];constructor
    ·rintro ((h | h) | ⟨y,b,h⟩)
     ·exact R4 h
     ·exact RZ ⟨x,Sz,by rw[e,h]⟩
     ·exact RZ ⟨y,Sx _ b,h⟩
    ·rintro (h | ⟨y,b,h⟩)
     ·exact R4 (R4 h)
     ·rcases Sv.1 b with rfl | b
      ·rw[e]at h;exact R4 (RZ (TU h).symm)
      ·exact RZ ⟨y,b,h⟩
   split
   ·next f =>
    refine d a ⟨R4,fun h=>?_⟩;rcases h with h | h
    ·exact h
    ·unfold ja at f;obtain⟨y,b,i⟩:=SQ.1 f;have:y=q:=(by simpa using i);rw[h,<-this];exact b
   ·exact d (a++[q]) (by simp)
theorem vW(h:mq f c=some b):b<f.length/\f.getD b ⟨#[]⟩=c:=by
 rw[vY]at h;split at h
 ·next a =>
  have e:mP f c=b:=TU h;refine⟨by omega,?_⟩;have:=List.findIdx_getElem (p:=fun y:ByteArray=>y.toList==c.toList) (xs:=f) (w:=a);rw[<-e,RT,RQ a];exact(wl _ _).1 this
 ·cases h
theorem ML(h:c∈f):∃p,mq f c=some p:=⟨mP f c,by rw[vY,RY ((oV f c).2 h)]⟩
theorem LS(h:b<f.length):f.getD b ⟨#[]⟩∈f:=by
 rw[RT,RQ h];exact Sj h
def NQ(T:List Tk)(S:List Sm)(A:Nat)(Va:List ByteArray)(x:List ByteArray):Prop:=∀y∈x,ik T S y A=true->y∈Va
theorem Lk(k:∀i j,i<f.length->j<f.length->fk f.length r i j=dR y w (f.getD i ⟨#[]⟩) (f.getD j ⟨#[]⟩) b)(l:∀x∈f,ik y w x b=true)(C:NQ y w b f o)(D:NQ y w b f q) :
  vG f.length r (jI f o) (jI f q)=pR y w b o q:=by
 unfold vG pR kH;rw[Tu,Tb,Tb];constructor
 ·intro h x E;obtain⟨v,A⟩:=SD.1 E;unfold Al;rw[Tb];intro g F;obtain⟨z,B⟩:=SD.1 F;obtain⟨p,a⟩:=ML (C x v A);obtain⟨e,c⟩:=ML (D g z B);have d:=h p ((tL f o [] p).2 (RZ ⟨x,v,a⟩));rw[Tb]at d;have m:=d e ((tL f q [] e).2 (RZ ⟨g,z,c⟩));obtain⟨n,s⟩:=vW a;obtain⟨t,u⟩:=vW c;rw[k p e n t,s,u]at m;exact m
 ·intro h p a;rw[Tb];intro e c;rcases(tL f o [] p).1 a with a | ⟨x,v,a⟩
  ·cases a
  rcases(tL f q [] e).1 c with c | ⟨g,z,c⟩
  ·cases c
  obtain⟨n,s⟩:=vW a;obtain⟨t,u⟩:=vW c;have A:ik y w x b=true:=l x (by rw[<-s];exact LS n);have B:ik y w g b=true:=l g (by rw[<-u];exact LS t);have d:=h x (SD.2 ⟨v,A⟩);unfold Al at d;rw[Tb]at d;have m:=d g (SD.2 ⟨z,B⟩);rw[k p e n t,s,u];exact m
theorem vZ(c:In f)(B:List (List ByteArray))(d:b<f.length):dO f B [f.getD b ⟨#[]⟩]=B.getD b []:=by
 have a:mq f (f.getD b ⟨#[]⟩)=some b:=(Fg c d _).2 (by simp);rw[vY]at a;unfold dO uG;rw[SZ,Vl,Su];split at a
 ·next h=>rw[RY h,TU a]
 ·cases a
theorem Om{l:List St}{n:Nat}(m:∀i j,i<f.length->j<f.length->fk f.length r i j=dR y w (f.getD i ⟨#[]⟩) (f.getD j ⟨#[]⟩) t)(q:∀E∈f,ik y w E t=true)(s:In o)(F:x.length=o.length)(v:∀A∈x,NQ y w t f A)(g:∀i j,i<o.length->j<o.length->fk o.length (gq l n o) i j=dR y w (o.getD i ⟨#[]⟩) (o.getD j ⟨#[]⟩) b)(B:fH y w (aZ y w b) (aZ y w b).length=o) :
  xe l n (o,x) f r=(lN y w b).all (KR y w t o x):=by
 have d:∀i,NQ y w t f (x.getD i []):=fun i=>by
  by_cases h:i<x.length
  ·rw[RT,RQ h];exact v _ (Sj h)
  ·rw[RT,SG (by omega)];intro G C;cases C
 unfold xe lN;rw[B];rw[Tu,decide_eq_true_iff,Tb];constructor
 ·intro h p u;unfold lC kn at u;obtain⟨i,a,u⟩:=Ua.1 u;obtain⟨j,c,rfl⟩:=Tw.1 u;obtain⟨D,z⟩:=SD.1 c;have a:=Sd.1 a;have c:=Sd.1 D;rw[Sk]at z;have k:=VQ z.1;have:=h i a j c k;unfold pD at this;simp only at this;rw[g i j a c,z.2,VY,Ts,Lk m q (d i) (d j)]at this;unfold KR;simp only;rw[vZ s x a,vZ s x c];exact this
 ·intro h i a j c k;have a:i<o.length:=a;have c:j<o.length:=c;unfold pD;simp only;rw[g i j a c,Lk m q (d i) (d j)];cases e:dR y w (o.getD i ⟨#[]⟩) (o.getD j ⟨#[]⟩) b
  ·rfl
  ·have:=h (o.getD i ⟨#[]⟩,o.getD j ⟨#[]⟩) (by
    unfold lC kn;refine Ua.2 ⟨i,Sd.2 a,Tw.2 ⟨j,SD.2 ⟨Sd.2 c,?_⟩,rfl⟩⟩;rw[TH k,e];rfl)
   unfold KR at this;simp only at this;rw[vZ s x a,vZ s x c]at this;rw[this];rfl
theorem Pe(e:∀j∈x,NQ y w b f j)(k:∀c∈q,c∈o∨ik y w c b=false):NQ y w b f (dO o x q):=by
 intro c a g;unfold dO at a;obtain⟨i,l,a⟩:=Ua.1 a;unfold uG at a;split at a
 ·by_cases h:mP o i<x.length
  ·rw[RT,RQ h]at a;exact e _ (Sj h) c a g
  ·rw[RT,SG (by omega)]at a;cases a
 ·next h =>
  have:c=i:=Se.1 a;subst this;rcases k c l with d | d
  ·exact absurd ((oV o c).2 d) h
  ·rw[d]at g;cases g
theorem Qu(a:o≠[])(h:o.getD 0 ⟨#[]⟩∉f):dO f x o≠[]:=by
 cases o with
 | nil=>exact absurd rfl a
 | cons b r =>
  unfold dO uG;rw[SZ,RU (fun o=>h ((oV f b).1 o))];simp
def uY(P:List cW):Nat->List Nat->Prop
 | b,[]=>b=0
 | b,k :: K=>b=k+1/\∃c:Nat,dC P k=(c:Int)/\uY P c K
theorem yW(n:Nat):∀b K,uY k b K->n<=K.length->∃c:Nat,nQ (dC k) n b=(c:Int)/\uY k c (K.drop n)/\∀a,uM (dC k) n b a=(K.take n).reverse++a:=by
 induction n with
 | zero=>intro b K h _;exact⟨b,rfl,h,fun a=>rfl⟩
 | succ n m =>
  intro b K h e;cases K with
  | nil=>simp at e
  | cons o K =>
   obtain⟨rfl,c,d,l⟩:=h;obtain⟨f,g,i,j⟩:=m c K l (by simpa using e);refine⟨f,?_,i,fun a=>?_⟩
   ·rw[nQ,RU (by omega),Tq,d,RU (by omega),SO];exact g
   ·rw[uM,Tq,d,SO,j,VB,VR,TM];rfl
theorem LD(n:Nat):∀b K,uY k b K->K.length<n->nQ (dC k) n b=-1:=by
 induction n with
 | zero=>intro b K _ h;omega
 | succ n f =>
  intro b K h e;cases K with
  | nil=>rw[nQ,RY (show b=0 from h)]
  | cons g K =>
   obtain⟨rfl,c,d,a⟩:=h;rw[nQ,RU (by omega),Tq,d,RU (by omega),SO];exact f c K a (by simpa using e)
def DT(l:List St)(a n:Nat):Prop:=∃s,l[n]?=some s/\(s.kind==1)=false/\fg l n a=true
def QI(l:List St)(a i:Nat)(s:kK):Prop:=(s.kind=3/\s.Wf<i)∨(s.kind=2/\DT l a s.Wf)
abbrev yw (T:List Tk) (S:List Sm) (N:Nat):List ByteArray:=bE T S (aZ T S N) (aZ T S N).length
structure Ra(T:List Tk)(S:List Sm)(l:List St)(a A:Nat)(Va:List ByteArray)(ms:List Bool):Prop where
 ap:∀i j,i<Va.length->j<Va.length->fk Va.length ms i j=dR T S (Va.getD i ⟨#[]⟩) (Va.getD j ⟨#[]⟩) A
 inn:∀x∈Va,ik T S x A=true
 ats:∀n,n<l.length->ni l n=ay (aq S (av S n)).k
 sy:∀n,n<l.length->(l.getD n zI).We=a8 T S (av S n)
 hy:∀n,n<l.length->ni l n=true->Rf T S l (aN l n)/\(aN l n).map (av S)=aZ T S (av S n)
 vs:∀n,n<l.length->ni l n=true->In (yw T S (av S n))/\fH T S (aZ T S (av S n)) (aZ T S (av S n)).length=yw T S (av S n)
 apN:∀n,n<l.length->ni l n=true->∀i j,i<(yw T S (av S n)).length->j<(yw T S (av S n)).length->fk (yw T S (av S n)).length (gq l n (yw T S (av S n))) i j=dR T S ((yw T S (av S n)).getD i ⟨#[]⟩) ((yw T S (av S n)).getD j ⟨#[]⟩) (av S n)
 ne:∀n,DT l a n->a8 T S (av S n)≠[]
 vi:∀n,DT l a n->ni l n=false->NQ T S A Va (a8 T S (av S n))
 va:∀n,DT l a n->ni l n=true->(∀y∈a8 T S (av S n),y∈yw T S (av S n)∨ik T S y A=false)/\(a8 T S (av S n)).getD 0 ⟨#[]⟩∉yw T S (av S n)
def Q8(T:List Tk)(S:List Sm)(A:Nat)(Va:List ByteArray)(x:List ByteArray):Prop:=x.length<=32/\x≠[]/\NQ T S A Va x
section
variable {T:List Tk} {S:List Sm} {l:List St} {a A:Nat} {Va:List ByteArray} {ms:List Bool} {M:List (List ByteArray)} {K:List Nat}
theorem DT.lt(h:DT l a b):b<l.length:=by
 obtain⟨s,h,-⟩:=h;exact(R8.1 h).1
theorem AU{w:Int}(h:gi l Va ms M x H=((w,f),z0))(a:(w==0)=false):(j6 l Va ms (M,x) H).1=w:=by
 unfold j6;simp only;rw[h,RU (by simp only;rw[a];simp)]
theorem xr(h:gi l Va ms M x H=((0,f),z0)):j6 l Va ms (M,x) H=if f.length<=32 then(0,M++[f],z0++[f]) else(10,(M,x)):=by
 unfold j6;simp only;rw[h,RY (by rfl)]
theorem GJ(a:M.length=b)(c:t<b):M.getD t []∈M:=by
 rw[RT,RQ (by omega)];exact Sj _
theorem O4(Y:Ra T S l a A Va ms)(hP:bK k b=rO T S H)(hg:QI l a b H)(hM:M.length=b)(hI:∀x∈M,Q8 T S A Va x)(hC:uY k b K)(hK:∀ai∈K,ai<b) :
  (((ig T S A k b M).2==0)=false->(j6 l Va ms (M,K.reverse.map (fun q=>M.getD q [])) H).1=(ig T S A k b M).2) /\
  (((ig T S A k b M).2==0)=true->j6 l Va ms (M,K.reverse.map (fun q=>M.getD q [])) H=(0,M++[(ig T S A k b M).1],(K.drop (bK k b).need).reverse.map (fun q=>M.getD q [])++[(ig T S A k b M).1])/\Q8 T S A Va (ig T S A k b M).1/\(bK k b).need<=K.length):=by
 rcases hg with ⟨k3,z⟩ | ⟨k2,z⟩
 ·have e:bK k b=⟨-2,H.Wf,0,H.at_.file,H.at_.line,H.at_.col⟩:=by rw[hP];unfold rO;rw[k3,RU (by omega),RU (by omega)]
  have u:ig T S A k b M=(M.getD H.Wf [],0):=by unfold ig;rw[e,RY rfl]
  have d:gi l Va ms M (K.reverse.map (fun q=>M.getD q [])) H=((0,M.getD H.Wf []),K.reverse.map (fun q=>M.getD q [])):=by
   unfold gi;rw[k3,RY (by rfl),RY (by omega)]
  have w:=hI _ (GJ hM z);rw[u,xr d,RY w.1,e];exact⟨fun h=>(by cases h),fun _=>⟨rfl,w,SE _⟩⟩
 ·have G:=z.lt;have e:bK k b=⟨(av S H.Wf:Nat),0,gu T S (av S H.Wf:Nat),H.at_.file,H.at_.line,H.at_.col⟩:=by rw[hP];unfold rO;rw[k2,RU (by omega),RY rfl]
  have hk:(H.kind==3)=false:=by rw[k2];rfl
  have g:=Y.ats H.Wf G;have N:=Y.sy H.Wf G;have I:=Y.ne H.Wf z;have L:¬((av S H.Wf:Nat):Int)=-2:=by omega
  have J:¬((av S H.Wf:Nat):Int)<0:=by omega
  cases j:ni l H.Wf
  ·have hv:=Y.vi H.Wf z j;rw[j]at g;have d:gi l Va ms M (K.reverse.map (fun q=>M.getD q [])) H=((0,a8 T S (av S H.Wf)),K.reverse.map (fun q=>M.getD q [])):=by
    unfold gi;rw[hk,RU (by simp),j,RU (by simp),N]
   have u:ig T S A k b M=if 32<(a8 T S (av S H.Wf)).length then([],10) else(a8 T S (av S H.Wf),0):=by
    unfold ig;rw[e];simp only;rw[RU L,SO,RY g.symm]
   have i:(bK k b).need=0:=by
    rw[e];simp only;unfold gu;rw[RU J,SO,<-g,RU (by simp)]
   rw[u,xr d,i];by_cases h:32<(a8 T S (av S H.Wf)).length
   ·rw[RY h,RU (by omega)];exact⟨fun _=>rfl,fun h=>by cases h⟩
   ·rw[RU h,RY (by omega)];exact⟨fun h=>(by cases h),fun _=>⟨rfl,⟨by show(a8 T S (av S H.Wf)).length<=32;omega,I,hv⟩,SE _⟩⟩
  ·obtain⟨hy,hH⟩:=Y.hy H.Wf G j;obtain⟨ad,X⟩:=Y.vs H.Wf G j;have F:=Y.apN H.Wf G j;obtain⟨ac,Z⟩:=Y.va H.Wf z j;rw[j]at g;have o:(aZ T S (av S H.Wf)).length=(aN l H.Wf).length:=(by rw[<-hH,Sn]);have i:(bK k b).need=(aN l H.Wf).length:=by
    rw[e];simp only;unfold gu;rw[RU J,SO,RY g.symm,o]
   have s:=pO k b;rw[i]at s;have v:(K.reverse.map (fun q=>M.getD q [])).length=K.length:=by rw[Sn,List.length_reverse]
   have u:ig T S A k b M=(if dC k b<0 then([],6)
     else if(nr T S A (av S H.Wf) (aZ T S (av S H.Wf)) ((fJ k b).map (fun q=>M.getD q [])) (yw T S (av S H.Wf)) (bn S (aZ T S (av S H.Wf)) ((fJ k b).map (fun q=>M.getD q [])) (aZ T S (av S H.Wf)).length)==0)=false then([],nr T S A (av S H.Wf) (aZ T S (av S H.Wf)) ((fJ k b).map (fun q=>M.getD q [])) (yw T S (av S H.Wf)) (bn S (aZ T S (av S H.Wf)) ((fJ k b).map (fun q=>M.getD q [])) (aZ T S (av S H.Wf)).length))
     else if 32<(dO (yw T S (av S H.Wf)) (bn S (aZ T S (av S H.Wf)) ((fJ k b).map (fun q=>M.getD q [])) (aZ T S (av S H.Wf)).length) (a8 T S (av S H.Wf))).length then([],10)
     else(dO (yw T S (av S H.Wf)) (bn S (aZ T S (av S H.Wf)) ((fJ k b).map (fun q=>M.getD q [])) (aZ T S (av S H.Wf)).length) (a8 T S (av S H.Wf)),0)):=by
    unfold ig;rw[e];simp only;rw[RU L,SO,RU (by rw[<-g];simp)]
   have d:gi l Va ms M (K.reverse.map (fun q=>M.getD q [])) H=(gj l H.Wf Va ms (K.reverse.map (fun q=>M.getD q [])),(K.reverse.map (fun q=>M.getD q [])).take (K.length-(aN l H.Wf).length)):=by
    unfold gi;rw[hk,RU (by simp),j,RY rfl,v]
   by_cases t:K.length<(aN l H.Wf).length
   ·rw[LD _ b K hC t]at s;rw[u,RY (by omega)];have P:gj l H.Wf Va ms (K.reverse.map (fun q=>M.getD q []))=(6,[]):=by unfold gj;rw[v,RY t]
    rw[P]at d;exact⟨fun _=>AU d rfl,fun h=>by cases h⟩
   ·obtain⟨c,hc,ag,p⟩:=yW (aN l H.Wf).length b K hC (by omega);rw[hc]at s;have m:fJ k b=(K.take (aN l H.Wf).length).reverse:=by unfold fJ;rw[i,p,Su]
    have hE:(K.reverse.map (fun q=>M.getD q [])).drop (K.length-(aN l H.Wf).length)=(fJ k b).map (fun q=>M.getD q []):=by
     rw[m,List.reverse_take,List.map_drop]
    have V:((fJ k b).map (fun q=>M.getD q [])).length=(aN l H.Wf).length:=by
     rw[m,Sn,List.length_reverse,To];omega
    have r:∀x∈(fJ k b).map (fun q=>M.getD q []),Q8 T S A Va x:=fun x w=>by
     obtain⟨q,B,rfl⟩:=Tw.1 w;rw[m]at B;exact hI _ (GJ hM (hK q (Ud (List.mem_reverse.1 B))))
    have O:(K.reverse.map (fun q=>M.getD q [])).take (K.length-(aN l H.Wf).length)=(K.drop (aN l H.Wf).length).reverse.map (fun q=>M.getD q []):=by
     rw[List.reverse_drop,Vq]
    have P:gj l H.Wf Va ms (K.reverse.map (fun q=>M.getD q []))=pN l H.Wf Va ms (a8 T S (av S H.Wf)) (jQ l (aN l H.Wf) ((fJ k b).map (fun q=>M.getD q [])) ([],[])):=by
     unfold gj;rw[v,RU t,hE,N]
    rw[P,O]at d;rw[u,RU (by omega),i];clear u P O hE m p;generalize (fJ k b).map (fun q=>M.getD q [])=E at *;obtain⟨Q,R⟩:=PT hy V (fun x w=>⟨(r x w).1,(r x w).2.1⟩) (aN l H.Wf).length 0 (by omega) rfl;rw[U0,U0]at Q R;have z1:bE T S ((aN l H.Wf).map (av S)) 0=[]:=rfl;have z2:bn S ((aN l H.Wf).map (av S)) E 0=[]:=rfl;rw[z1,z2,hH,<-o]at Q R;have U:=MT T S (aZ T S (av S H.Wf)) E (aZ T S (av S H.Wf)).length;have D:∀af∈bn S (aZ T S (av S H.Wf)) E (aZ T S (av S H.Wf)).length,NQ T S A Va af:=fun af hb=>by
     unfold bn at hb;obtain⟨q,B,rfl⟩:=Tw.1 hb;unfold so at B;have B:=Sd.1 (SD.1 B).1;have hm:E.getD q []∈E:=by rw[RT,RQ (by omega)];exact Sj _
     exact fun y hy=>(r _ hm).2.2 y (U3 hy)
    have W:=Om (l:=l) (n:=H.Wf) Y.ap Y.inn ad U D F X;unfold nr;unfold pN at d;rw[Q]at d;cases C:(cQ (zq T S (aZ T S (av S H.Wf)) E (yw T S (av S H.Wf)) (bn S (aZ T S (av S H.Wf)) E (aZ T S (av S H.Wf)).length)) (aZ T S (av S H.Wf)).length==0)
    ·rw[C,RU (by simp)]at d;rw[RY rfl,RY C];exact⟨fun _=>AU d C,fun h=>by rw[C]at h;cases h⟩
    ·rw[R (by simpa using C),C,RY rfl,W]at d;simp only at d;rw[RU (show ¬(true=false) by simp)];cases hp:(lN T S (av S H.Wf)).all (KR T S A (yw T S (av S H.Wf)) (bn S (aZ T S (av S H.Wf)) E (aZ T S (av S H.Wf)).length))
     ·rw[hp,RU (by simp)]at d;rw[RU (show ¬(false=true) by simp),RY (by rfl)];exact⟨fun _=>AU d rfl,fun h=>by cases h⟩
     ·rw[hp,RY rfl]at d;rw[RY (show true=true from rfl),RU (show ¬(((0:Int)==0)=false) by simp),xr d];obtain⟨r1,r2⟩:=Da (yw T S (av S H.Wf)) (bn S (aZ T S (av S H.Wf)) E (aZ T S (av S H.Wf)).length) (a8 T S (av S H.Wf));by_cases f:32<(dO (yw T S (av S H.Wf)) (bn S (aZ T S (av S H.Wf)) E (aZ T S (av S H.Wf)).length) (a8 T S (av S H.Wf))).length
      ·rw[RY f,RU (Nat.not_le.2 (r2 f))];exact⟨fun _=>rfl,fun h=>by cases h⟩
      ·rw[RU f,r1 (Nat.not_lt.1 f),RY (Nat.not_lt.1 f)];exact⟨fun h=>(by cases h),fun _=>⟨rfl,⟨Nat.not_lt.1 f,Qu I Z,Pe D ac⟩,by omega⟩⟩
end
end Go.Proofs.YtnbhnocdhbcbcaaGreat
