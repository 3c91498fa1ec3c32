import Derived.Test.YtnbhnocdhbcbcaaGreatK20
import Derived.Test.YtnbhnocdhbcbcaaGreatK25
namespace Go.Proofs.YtnbhnocdhbcbcaaGreat
open Go.RowKit Tryz
open Value IntKind Ending
set_option maxHeartbeats 0
variable{b t:Nat}{f o q:Xt}{c:Xs}{y:List Tk}{w:List Sm}{x z0:List Xt}{r:List Bool}{k:List dj}{H:kD}(p:List Tk)(N:List Sm)(g:Xv)(u:Xt)(m:List Xt)(I:Nat)(D v:Xt)(s:List Xt)(L:Xs)
section
variable {T:List Tk} {d:Db}
theorem gB.vars(R:gB T d)(F:RV T (aa T))(q:b<d.XQ.length):uJ d.XQ (aP d.XQ b)=fU T (aa T) (a9 T (aa T) (aw (aa T) b)) (a9 T (aa T) (aw (aa T) b)).length:=by
 unfold fU;rw[UO,<-R.hyps F q];unfold uJ;have a:∀n∈aP d.XQ b,n<d.XQ.length:=fun n i=>by
  unfold aP eN at i;exact TG.1 (Uk.1 i).1
 generalize aP d.XQ b=L at a
 induction L with
 | nil=>rfl
 | cons n L j =>
  obtain⟨s,r,f,-,g⟩:=R.get (a n (by simp));have p:=R.hel.at_ (a n (by simp));rw[WR,Vn,Xl];unfold Ch;rw[r];simp only;rw[(cn f).2.1];cases e:((aq (aa T) (aw (aa T) n)).k.toList == [36,102])
  ·rw[Tp (by simp),Tp (by simp)];exact j (fun m c=>a m (by simp[c]))
  ·obtain⟨l,o⟩:=F _ p e;have t:aN s=tS T ((aq (aa T) (aw (aa T) n)).h+1):=by
    unfold aN;rw[Tr ⟨by rw[(cn f).2.1];exact e,by rw[g];exact l⟩,g,o]
   rw[Tr rfl,Tr rfl,Vn,<-t];show aN s :: _=_;congr 1;exact j (fun m c=>a m (by simp[c]))
def Jf(vs:Xt):Prop:=∀i j,i<j->j<vs.length->((vs.getD i ⟨#[]⟩).toList==(vs.getD j ⟨#[]⟩).toList)=false
theorem Jf.ne(h:Jf f){i j:Nat}(b:i<f.length)(c:j<f.length)(d:i≠j):((f.getD i ⟨#[]⟩).toList==(f.getD j ⟨#[]⟩).toList)=false:=by
 rcases Nat.lt_or_gt_of_ne d with a | a
 ·exact h i j a c
 ·have:=h j i a b;rw[TU]at this ⊢;exact fun e=>this e.symm
theorem FZ(h:Jf f)(a:b<f.length)(x:Xs):mF f x=some b ↔ ((f.getD b ⟨#[]⟩).toList==x.toList)=true:=by
 unfold mF;constructor
 ·intro e;have:=Vh e;simpa using this
 ·intro e;rw[WE];refine⟨e,b,by rw[U8];exact a,by rw[Wp],fun j g=>?_⟩;rw[Wp];have:=h.ne (i:=j) (j:=b) (by omega) a (by omega);simp only[Bool.not_eq_true',beq_eq_false_iff_ne];rw[TU]at this;intro c;have d:(f.getD b ⟨#[]⟩).toList=x.toList:=by simpa using e
  exact this (c.trans d.symm)
theorem wO(h:Jf f)(d:b<f.length)(g:Xt):(bM f g).contains b=aK g (f.getD b ⟨#[]⟩):=by
 unfold bM aK;rw[UL,VN,VM,Ut];constructor
 ·rintro ⟨x,c,e⟩;have:=(FZ h d x).1 e;refine⟨x,c,?_⟩;have a:(f.getD b ⟨#[]⟩).toList=x.toList:=by simpa using this
  rw[a];exact WF _
 ·rintro ⟨x,c,e⟩;refine⟨x,c,(FZ h d x).2 ?_⟩;have a:x.toList=(f.getD b ⟨#[]⟩).toList:=by simpa using e
  rw[a];exact WF _
theorem gB.tog(R:gB T d)(r:b<d.XQ.length)(h:Jf f){j:Nat}(A:t<f.length)(w:j<f.length)(v:t<j):yS d.XQ b f d.XQ.length t j=eB T (aa T) (f.getD t ⟨#[]⟩) (f.getD j ⟨#[]⟩) (aw (aa T) b):=by
 have D:=R.hel.len;have E:=R.hel.at_ r;have x:=h t j v w;unfold yS eB;rw[UL,Ut,Ut];constructor
 ·rintro ⟨n,a,e⟩;have a:=TG.1 a;obtain⟨s,m,l,-,C⟩:=R.get a;simp only[Bool.and_eq_true]at e;obtain⟨⟨c,o⟩,p⟩:=e;rw[wO h A,R.symsAt a]at o;rw[wO h w,R.symsAt a]at p;unfold tQ at c;rw[m]at c;simp only[Bool.and_eq_true]at c;have z:((aq (aa T) (aw (aa T) n)).k.toList == [36,100])=true:=by rw[<-(cn l).2.2.1];exact c.1
  have i:oB s.XU=false:=by rw[(cn l).2.2.2,cI z,cI z];decide
  have u:=c.2;rw[R.held m i r,TN]at u;refine⟨aw (aa T) n,TG.2 (Xe u.1),?_⟩;unfold QC;rw[z,x,o,p,u.2];rfl
 ·rintro ⟨q,y,e⟩;have y:=TG.1 y;unfold QC at e;simp only[Bool.and_eq_true]at e;obtain⟨c,-,o,p,B⟩:=e;have g:q∈lF (aa T):=Uk.2 ⟨TG.2 (by omega),by unfold kF;rw[c];simp⟩;rw[uo]at g;obtain⟨n,a,rfl⟩:=UG.1 g;have a:n<d.XQ.length:=by rw[D];exact TG.1 a
  obtain⟨s,m,l,-,C⟩:=R.get a;have i:oB s.XU=false:=by rw[(cn l).2.2.2,cI c,cI c];decide
  refine⟨n,TG.2 a,?_⟩;rw[wO h A,wO h w,R.symsAt a,o,p];unfold tQ;rw[m];simp only;rw[(cn l).2.2.1,c,R.held m i r,B,UR y];rfl
theorem rW.vsd(F:rW d):Jf (uJ d.XQ (aP d.XQ b)):=by
 have E:(aP d.XQ b).Pairwise (fun n m=>n<m/\n∈aP d.XQ b/\m∈aP d.XQ b):=by
  have h:(aP d.XQ b).Pairwise (· < ·):=WK _ V3;exact h.imp_of_mem (fun z A B=>⟨B,z,A⟩)
 have G:(uJ d.XQ (aP d.XQ b)).Pairwise (fun x y=>(x.toList==y.toList)=false):=by
  unfold uJ;refine List.Pairwise.filterMap _ (fun n m h x a y H=>?_) E;obtain⟨r,o,D⟩:=h;have l:∀n x,n∈aP d.XQ b->Ch d.XQ n=some x->∃s,d.XQ[n]?=some s/\s.XU=2/\x=vr s/\fE d.XQ n b=true:=fun n x o a=>by
   unfold Ch at a;cases g:d.XQ[n]? with
   | none=>rw[g]at a;cases a
   | some s =>
    rw[g]at a;simp only at a;split at a
    ·next k =>
     have w:s.XU=2:=(by simpa using k);have C:=F.fl n s g w;have e:aN s=vr s:=(by unfold aN vr;rw[Tr ⟨k,C⟩]);refine⟨s,rfl,w,by rw[<-e];cases a;rfl,?_⟩;unfold aP eN at o;have:=(Uk.1 o).2;unfold nL at this;rw[g]at this;simp only[Bool.and_eq_true]at this;exact this.1
    ·cases a
  obtain⟨s,g,I,rfl,c⟩:=l n x o a;obtain⟨u,v,J,rfl,f⟩:=l m y D H;refine F.ds n m s u g v I J r ?_;unfold fE at c f;rw[g]at c;rw[v]at f;simp only[Bool.and_eq_true,Bool.or_eq_true,decide_eq_true_eq]at c f;rcases c.2 with q | q
  ·left;simpa using q
  ·right;have:=f.1;omega
 intro i j p t;have:=VO.1 G i j (by omega) t p;rw[To,To,Tn t,Tn (by omega)];exact this
end
theorem uR{y:Xs}(h:c.toList=y.toList):c=y:=by
 apply Xh;apply Wg.1;rw[<-Uo,<-Uo,h]
theorem xf(y:Xs):(L.toList==y.toList)=true ↔ L=y:=⟨fun h=>uR (by simpa using h),fun h=>by rw[h];simp⟩
theorem Ir:aK v L=true ↔ L∈v:=by
 unfold aK;rw[Ut];exact⟨fun⟨y,hy,e⟩=>(xf y L).1 e ▸ hy,fun h=>⟨L,h,by simp⟩⟩
theorem JR{F G:Xs->Xt}(h:∀x∈f,F x=G x):f.flatMap F=f.flatMap G:=by
 rw[VQ,VQ,VH h]
theorem Dv(A:Xt):∀B:Xt,A.map (·.toList)=B.map (·.toList)->A=B:=by
 induction A with
 | nil =>
  intro B h;cases B with
  | nil=>rfl
  | cons y B=>cases h
 | cons x A c =>
  intro B h;cases B with
  | nil=>cases h
  | cons y B =>
   obtain⟨a,b⟩:=Xy h;rw[uR a,c B b]
theorem tR:zm D v=true ↔ D=v:=by
 unfold zm;rw[Vb];exact⟨Dv D v,fun h=>by rw[h]⟩
theorem yH:lu D v=true ↔ D=v:=by
 unfold lu;rw[TN,Uw];constructor
 ·rintro ⟨a,c⟩;have a:D.length=v.length:=by simpa using a
  apply WC a;intro i b d;have:=c i (TG.2 b);unfold Gm at this;rw[xf,To,To,Tn b,Tn d]at this;exact this
 ·rintro rfl;exact⟨by simp,fun i _=>by unfold Gm;simp⟩
theorem N5:lu D v=zm D v:=by
 rw[UL,yH,tR]
theorem wP:mF v L=if nj v L<v.length then some (nj v L) else none:=by
 unfold mF;split
 ·next h =>
  rw[UT];refine⟨?_,TG.2 h,fun j a=>?_⟩
  ·rw[To,Tn h];exact List.findIdx_getElem (p:=fun y:Xs=>y.toList==L.toList) (w:=h)
  ·have:=List.not_of_lt_findIdx (p:=fun y:Xs=>y.toList==L.toList) (xs:=v) (i:=j) a;rw[To,Tn (by unfold nj at h a;omega)];simpa using this
 ·next h =>
  rw[UE];intro j a e;apply h;unfold nj;rw[List.findIdx_lt_length];have a:=TG.1 a;refine⟨v[j],TP a,?_⟩;rw[To,Tn a]at e;exact e
theorem pF:nj v L<v.length ↔ L∈v:=by
 unfold nj;rw[List.findIdx_lt_length];exact⟨fun⟨y,hy,e⟩=>(xf y L).1 e ▸ hy,fun h=>⟨L,h,by simp⟩⟩
theorem OX:AY v s L=vq v s L:=by
 unfold AY vq;rw[wP];by_cases h:nj v L<v.length
 ·rw[Tr h,Tr h]
 ·rw[Tp h,Tp h]
theorem Gi(e:Xt):∀a,((a++ed v s e).length<=32->jI v s e a=a++ed v s e)/\(32<(a++ed v s e).length->32<(jI v s e a).length):=by
 induction e with
 | nil=>intro a;rw[jI];unfold ed;rw[WB,TY];exact⟨fun _=>rfl,id⟩
 | cons x r c =>
  intro a;have e:a++ed v s (x :: r)=a++AY v s x++ed v s r:=by
   unfold ed;rw[Uv,OX,U5]
  rw[jI,e];split
  ·exact c _
  ·next h=>exact⟨fun b=>by rw[Tv,Tv]at b;omega,fun _=>by omega⟩
theorem DV:((ed u m v).length<=32->mH u m v=ed u m v)/\(32<(ed u m v).length->32<(mH u m v).length):=by
 have:=Gi u m v [];rw[V4]at this;exact this
theorem Q0(c:v.length<=32):zm (mH u m D) v=lu (ed u m D) v:=by
 rw[N5];obtain⟨b,a⟩:=DV u m D;by_cases h:(ed u m D).length<=32
 ·rw[b h]
 ·have a:=a (by omega);rw[UL,tR,tR];exact⟨fun D=>by rw[D]at a;omega,fun D=>by rw[D]at h;omega⟩
theorem M4(h:L∈D):nj (D++v) L=nj D L:=by
 have:=(pF D L).2 h;unfold nj at this ⊢;rw[List.findIdx_append,Tr this]
theorem KC(C:List Xt)(c:s.length=D.length)(x:Xs)(h:x∈D++v->x∈D):vq (D++v) (s++C) x=vq D s x:=by
 unfold vq;by_cases a:x∈D
 ·have b:=(pF D x).2 a;rw[M4 D v x a,Tr (by rw[Tv];omega),Tr b,To,To,TQ (by omega)]
 ·rw[Tp (fun e=>a (h ((pF _ x).1 e))),Tp (fun e=>a ((pF D x).1 e))]
theorem IM:s9 N g (I+1)=s9 N g I++(if so N g I=true then [I] else []):=by
 unfold s9;rw[UU,UI];congr 1;cases h:so N g I <;> simp[h]
theorem qP:bL p N g (I+1)=bL p N g I++(if so N g I=true then [(bb p N (g.getD I 0)).getD 1 ⟨#[]⟩] else []):=by
 unfold bL;rw[IM,Uh];split <;> rfl
theorem v6:bu N g m (I+1)=bu N g m I++(if so N g I=true then [(m.getD I []).drop 1] else []):=by
 unfold bu;rw[IM,Uh];split <;> rfl
theorem NN:(bu N g m I).length=(bL p N g I).length:=by unfold bu bL;rw[TT,TT]
theorem Rx(n:Nat)(h:I<=n):∃W C,bL p N g n=bL p N g I++W/\bu N g m n=bu N g m I++C:=by
 obtain⟨a,rfl⟩:∃a,n=I+a:=⟨n-I,by omega⟩
 clear h
 induction a with
 | zero=>exact⟨[],[],(TY _).symm,(TY _).symm⟩
 | succ a d =>
  obtain⟨W,C,b,c⟩:=d;rw[<-V6,qP,v6,b,c,U5,U5];exact⟨_,_,rfl,rfl⟩
structure SD(T:List Tk)(S:List Sm)(l:List St)(hs:Xv):Prop where
 kd:∀i,i<hs.length->((l.getD (hs.getD i 0) zu).XU==3)=!(so S (hs.map (aw S)) i)
 sy:∀i,i<hs.length->(l.getD (hs.getD i 0) zu).Xz=bb T S ((hs.map (aw S)).getD i 0)
 vr:∀i,i<hs.length->so S (hs.map (aw S)) i=true->aN (l.getD (hs.getD i 0) zu)=(bb T S ((hs.map (aw S)).getD i 0)).getD 1 ⟨#[]⟩
 pre:∀i,i<hs.length->so S (hs.map (aw S)) i=false->∀x∈bb T S ((hs.map (aw S)).getD i 0),x∈bL T S (hs.map (aw S)) hs.length->x∈bL T S (hs.map (aw S)) i
theorem Q3{l:List St}{a:Xv}(H:SD y w l a)(R:x.length=a.length)(s:∀e∈x,e.length<=32/\e≠[])(m:Nat) :
  ∀k,k+m=a.length->de (Ab y w (a.map (aw w)) x (bL y w (a.map (aw w)) a.length) (bu w (a.map (aw w)) x a.length)) k=0 ->
  (j4 l (a.drop k) (x.drop k) (bL y w (a.map (aw w)) k,bu w (a.map (aw w)) x k)).1=de (Ab y w (a.map (aw w)) x (bL y w (a.map (aw w)) a.length) (bu w (a.map (aw w)) x a.length)) a.length /\
  (de (Ab y w (a.map (aw w)) x (bL y w (a.map (aw w)) a.length) (bu w (a.map (aw w)) x a.length)) a.length=0->(j4 l (a.drop k) (x.drop k) (bL y w (a.map (aw w)) k,bu w (a.map (aw w)) x k)).2=(bL y w (a.map (aw w)) a.length,bu w (a.map (aw w)) x a.length)):=by
 induction m with
 | zero =>
  intro k t o;rw[Ve]at t;subst t;rw[WD,j4]
  ·exact⟨o.symm,fun _=>rfl⟩
  ·intro h a e Q p;cases p
 | succ m P =>
  intro k t o;have b:k<a.length:=by omega
  have c:k<x.length:=by omega
  have F:=s x[k] (TP c);have J:a.getD k 0=a[k]:=by rw[To,Tn b];rfl
  have E:x.getD k []=x[k]:=by rw[To,Tn c];rfl
  have d:=H.kd k b;have g:=H.sy k b;have n:=H.vr k b;have j:=H.pre k b;rw[J]at d g n;have B:∀(f:Int) (q:OP),lV (l.getD a[k] zu) x[k] (bL y w (a.map (aw w)) k,bu w (a.map (aw w)) x k)=(f,q)->Ab y w (a.map (aw w)) x (bL y w (a.map (aw w)) a.length) (bu w (a.map (aw w)) x a.length) k=f->(f=0->q=(bL y w (a.map (aw w)) (k+1),bu w (a.map (aw w)) x (k+1))) ->
   (j4 l (a.drop k) (x.drop k) (bL y w (a.map (aw w)) k,bu w (a.map (aw w)) x k)).1=de (Ab y w (a.map (aw w)) x (bL y w (a.map (aw w)) a.length) (bu w (a.map (aw w)) x a.length)) a.length /\
   (de (Ab y w (a.map (aw w)) x (bL y w (a.map (aw w)) a.length) (bu w (a.map (aw w)) x a.length)) a.length=0->(j4 l (a.drop k) (x.drop k) (bL y w (a.map (aw w)) k,bu w (a.map (aw w)) x k)).2=(bL y w (a.map (aw w)) a.length,bu w (a.map (aw w)) x a.length)):=fun f q M u L=>by
   rw[TV b,TV c,j4,M];by_cases h:f=0
   ·rw[Tr (by rw[h];rfl),L h];apply P (k+1) (by omega);rw[de,o,Tr (by rfl),u,h]
   ·have G:(f==0)=false:=TU.2 h;have O:=ng o (by rw[u];exact G) b;rw[O,u,Tp (by rw[G];simp)];exact⟨rfl,fun e=>absurd e h⟩
  have i:lV (l.getD a[k] zu) x[k] (bL y w (a.map (aw w)) k,bu w (a.map (aw w)) x k)=(if((l.getD a[k] zu).XU==3)=true then(if zm (mH (bL y w (a.map (aw w)) k) (bu w (a.map (aw w)) x k) (l.getD a[k] zu).Xz) x[k]=true then(0,(bL y w (a.map (aw w)) k,bu w (a.map (aw w)) x k)) else(8,(bL y w (a.map (aw w)) k,bu w (a.map (aw w)) x k)))
   else if((x[k].getD 0 ⟨#[]⟩).toList==(jf (l.getD a[k] zu)).toList)=true then(0,(bL y w (a.map (aw w)) k++[aN (l.getD a[k] zu)],bu w (a.map (aw w)) x k++[x[k].drop 1])) else(7,(bL y w (a.map (aw w)) k,bu w (a.map (aw w)) x k))):=by
   unfold lV;split
   ·rfl
   ·have:=F.2;generalize x[k]=e at this;cases e with
    | nil=>exact absurd rfl this
    | cons D r=>rfl
  have v:Ab y w (a.map (aw w)) x (bL y w (a.map (aw w)) a.length) (bu w (a.map (aw w)) x a.length) k=(if so w (a.map (aw w)) k=true then(if((x[k].getD 0 ⟨#[]⟩).toList==((bb y w ((a.map (aw w)).getD k 0)).getD 0 ⟨#[]⟩).toList)=true then 0 else 7) else if lu (ed (bL y w (a.map (aw w)) a.length) (bu w (a.map (aw w)) x a.length) (bb y w ((a.map (aw w)).getD k 0))) x[k]=true then 0 else 8):=by
   unfold Ab;rw[E]
  refine B (lV (l.getD a[k] zu) x[k] (bL y w (a.map (aw w)) k,bu w (a.map (aw w)) x k)).1 (lV (l.getD a[k] zu) x[k] (bL y w (a.map (aw w)) k,bu w (a.map (aw w)) x k)).2 rfl ?_ ?_
  ·rw[i,v,d];cases z:so w (a.map (aw w)) k
   ·have N:ed (bL y w (a.map (aw w)) a.length) (bu w (a.map (aw w)) x a.length) (bb y w ((a.map (aw w)).getD k 0))=ed (bL y w (a.map (aw w)) k) (bu w (a.map (aw w)) x k) (bb y w ((a.map (aw w)).getD k 0)):=by
     obtain⟨W,C,p,K⟩:=Rx y w (a.map (aw w)) x k a.length (by omega);have I:=j z;rw[p]at I;rw[p,K];unfold ed;apply JR;intro D A;exact KC _ _ _ _ (NN y w _ _ _) D (I D A)
    rw[Tp (show ¬(false=true) by simp),Tr (show(!false)=true from rfl),N,g,Q0 _ _ _ _ F.1];split <;> rfl
   ·rw[Tr rfl,Tp (show ¬((!true)=true) by simp)];unfold jf;rw[g];split <;> rfl
  ·rw[i,d,qP,v6,E];cases z:so w (a.map (aw w)) k
   ·rw[Tr (show(!false)=true from rfl)];split
    ·intro _;simp
    ·intro h;cases h
   ·rw[Tp (show ¬((!true)=true) by simp)];split
    ·intro _;rw[Tr rfl,Tr rfl,n z]
    ·intro h;cases h
theorem ui(X:Xt):∀a p,p∈oE v X a ↔ p∈a∨∃x∈X,mF v x=some p:=by
 induction X with
 | nil=>intro a p;rw[oE];simp
 | cons x r g =>
  intro a p;rw[oE];cases e:mF v x with
  | none =>
   simp only;rw[g];constructor
   ·rintro (h | ⟨y,b,h⟩)
    ·exact TH h
    ·exact TE ⟨y,Ud _ b,h⟩
   ·rintro (h | ⟨y,b,h⟩)
    ·exact TH h
    ·rcases Ub.1 b with rfl | b
     ·rw[e]at h;cases h
     ·exact TE ⟨y,b,h⟩
  | some q =>
   simp only;have d:∀c,(p∈c ↔ p∈a∨p=q)->(p∈oE v r c ↔ p∈a∨∃y∈x :: r,mF v y=some p):=fun c j=>by
    rw[g,j];constructor
    ·rintro ((h | h) | ⟨y,b,h⟩)
     ·exact TH h
     ·exact TE ⟨x,Ue,by rw[e,h]⟩
     ·exact TE ⟨y,Ud _ b,h⟩
    ·rintro (h | ⟨y,b,h⟩)
     ·exact TH (TH h)
     ·rcases Ub.1 b with rfl | b
      ·rw[e]at h;exact TH (TE (UQ h).symm)
      ·exact TE ⟨y,b,h⟩
   split
   ·next f =>
    refine d a ⟨TH,fun h=>?_⟩;rcases h with h | h
    ·exact h
    ·unfold jy at f;obtain⟨y,b,i⟩:=Ut.1 f;have:y=q:=(by simpa using i);rw[h,<-this];exact b
   ·exact d (a++[q]) (by simp)
theorem wN(h:mF f c=some b):b<f.length/\f.getD b ⟨#[]⟩=c:=by
 rw[wP]at h;split at h
 ·next a =>
  have e:nj f c=b:=UQ h;refine⟨by omega,?_⟩;have:=List.findIdx_getElem (p:=fun y:Xs=>y.toList==c.toList) (xs:=f) (w:=a);rw[<-e,To,Tn a];exact(xf _ _).1 this
 ·cases h
theorem NF(h:c∈f):∃p,mF f c=some p:=⟨nj f c,by rw[wP,Tr ((pF f c).2 h)]⟩
theorem MT(h:b<f.length):f.getD b ⟨#[]⟩∈f:=by
 rw[To,Tn h];exact TP h
def OQ(T:List Tk)(S:List Sm)(A:Nat)(Va:Xt)(x:Xt):Prop:=∀y∈x,iG T S y A=true->y∈Va
theorem Mf(k:∀i j,i<f.length->j<f.length->fH f.length r i j=eB y w (f.getD i ⟨#[]⟩) (f.getD j ⟨#[]⟩) b)(l:∀x∈f,iG y w x b=true)(C:OQ y w b f o)(D:OQ y w b f q) :
  wm f.length r (jU f o) (jU f q)=qA y w b o q:=by
 unfold wm qA kY;rw[UL,Uw,Uw];constructor
 ·intro h x E;obtain⟨v,A⟩:=Uk.1 E;unfold Bd;rw[Uw];intro g F;obtain⟨z,B⟩:=Uk.1 F;obtain⟨p,a⟩:=NF (C x v A);obtain⟨e,c⟩:=NF (D g z B);have d:=h p ((ui f o [] p).2 (TE ⟨x,v,a⟩));rw[Uw]at d;have m:=d e ((ui f q [] e).2 (TE ⟨g,z,c⟩));obtain⟨n,s⟩:=wN a;obtain⟨t,u⟩:=wN c;rw[k p e n t,s,u]at m;exact m
 ·intro h p a;rw[Uw];intro e c;rcases(ui f o [] p).1 a with a | ⟨x,v,a⟩
  ·cases a
  rcases(ui f q [] e).1 c with c | ⟨g,z,c⟩
  ·cases c
  obtain⟨n,s⟩:=wN a;obtain⟨t,u⟩:=wN c;have A:iG y w x b=true:=l x (by rw[<-s];exact MT n);have B:iG y w g b=true:=l g (by rw[<-u];exact MT t);have d:=h x (Uk.2 ⟨v,A⟩);unfold Bd at d;rw[Uw]at d;have m:=d g (Uk.2 ⟨z,B⟩);rw[k p e n t,s,u];exact m
theorem wQ(c:Jf f)(B:List Xt)(d:b<f.length):ed f B [f.getD b ⟨#[]⟩]=B.getD b []:=by
 have a:mF f (f.getD b ⟨#[]⟩)=some b:=(FZ c d _).2 (by simp);rw[wP]at a;unfold ed vq;rw[Uv,WB,TY];split at a
 ·next h=>rw[Tr h,UQ a]
 ·cases a
theorem Ps{l:List St}{n:Nat}(m:∀i j,i<f.length->j<f.length->fH f.length r i j=eB y w (f.getD i ⟨#[]⟩) (f.getD j ⟨#[]⟩) t)(q:∀E∈f,iG y w E t=true)(s:Jf o)(F:x.length=o.length)(v:∀A∈x,OQ y w t f A)(g:∀i j,i<o.length->j<o.length->fH o.length (gM l n o) i j=eB y w (o.getD i ⟨#[]⟩) (o.getD j ⟨#[]⟩) b)(B:fU y w (a9 y w b) (a9 y w b).length=o) :
  xR l n (o,x) f r=(lY y w b).all (LQ y w t o x):=by
 have d:∀i,OQ y w t f (x.getD i []):=fun i=>by
  by_cases h:i<x.length
  ·rw[To,Tn h];exact v _ (TP h)
  ·rw[To,Un (by omega)];intro G C;cases C
 unfold xR lY;rw[B];rw[UL,decide_eq_true_iff,Uw];constructor
 ·intro h p u;unfold lN kI at u;obtain⟨i,a,u⟩:=VK.1 u;obtain⟨j,c,rfl⟩:=UG.1 u;obtain⟨D,z⟩:=Uk.1 c;have a:=TG.1 a;have c:=TG.1 D;rw[TN]at z;have k:=Xe z.1;have:=h i a j c k;unfold qh at this;simp only at this;rw[g i j a c,z.2,Wm,UN,Mf m q (d i) (d j)]at this;unfold LQ;simp only;rw[wQ s x a,wQ s x c];exact this
 ·intro h i a j c k;have a:i<o.length:=a;have c:j<o.length:=c;unfold qh;simp only;rw[g i j a c,Mf m q (d i) (d j)];cases e:eB y w (o.getD i ⟨#[]⟩) (o.getD j ⟨#[]⟩) b
  ·rfl
  ·have:=h (o.getD i ⟨#[]⟩,o.getD j ⟨#[]⟩) (by
    unfold lN kI;refine VK.2 ⟨i,TG.2 a,UG.2 ⟨j,Uk.2 ⟨TG.2 c,?_⟩,rfl⟩⟩;rw[UR k,e];rfl)
   unfold LQ at this;simp only at this;rw[wQ s x a,wQ s x c]at this;rw[this];rfl
theorem Qw(e:∀j∈x,OQ y w b f j)(k:∀c∈q,c∈o∨iG y w c b=false):OQ y w b f (ed o x q):=by
 intro c a g;unfold ed at a;obtain⟨i,l,a⟩:=VK.1 a;unfold vq at a;split at a
 ·by_cases h:nj o i<x.length
  ·rw[To,Tn h]at a;exact e _ (TP h) c a g
  ·rw[To,Un (by omega)]at a;cases a
 ·next h =>
  have:c=i:=TI.1 a;subst this;rcases k c l with d | d
  ·exact absurd ((pF o c).2 d) h
  ·rw[d]at g;cases g
theorem Ru(a:o≠[])(h:o.getD 0 ⟨#[]⟩∉f):ed f x o≠[]:=by
 cases o with
 | nil=>exact absurd rfl a
 | cons b r =>
  unfold ed vq;rw[Uv,Tp (fun o=>h ((pF f b).1 o))];simp
def vJ(P:List dj):Nat->Xv->Prop
 | b,[]=>b=0
 | b,k :: K=>b=k+1/\∃c:Nat,dQ P k=(c:Int)/\vJ P c K
theorem zK(n:Nat):∀b K,vJ k b K->n<=K.length->∃c:Nat,oy (dQ k) n b=(c:Int)/\vJ k c (K.drop n)/\∀a,vx (dQ k) n b a=(K.take n).reverse++a:=by
 induction n with
 | zero=>intro b K h _;exact⟨b,rfl,h,fun a=>rfl⟩
 | succ n m =>
  intro b K h e;cases K with
  | nil=>simp at e
  | cons o K =>
   obtain⟨rfl,c,d,l⟩:=h;obtain⟨f,g,i,j⟩:=m c K l (by simpa using e);refine⟨f,?_,i,fun a=>?_⟩
   ·rw[oy,Tp (by omega),UM,d,Tp (by omega),Ur];exact g
   ·rw[vx,UM,d,Ur,j,WQ,Xf,U5];rfl
theorem Mz(n:Nat):∀b K,vJ k b K->K.length<n->oy (dQ k) n b=-1:=by
 induction n with
 | zero=>intro b K _ h;omega
 | succ n f =>
  intro b K h e;cases K with
  | nil=>rw[oy,Tr (show b=0 from h)]
  | cons g K =>
   obtain⟨rfl,c,d,a⟩:=h;rw[oy,Tp (by omega),UM,d,Tp (by omega),Ur];exact f c K a (by simpa using e)
def EP(l:List St)(a n:Nat):Prop:=∃s,l[n]?=some s/\(s.XU==1)=false/\fE l n a=true
def RY(l:List St)(a i:Nat)(s:kD):Prop:=(s.XU=3/\s.XA<i)∨(s.XU=2/\EP l a s.XA)
abbrev zn (T:List Tk) (S:List Sm) (N:Nat):List ByteArray:=bL T S (a9 T S N) (a9 T S N).length
structure Sx(T:List Tk)(S:List Sm)(l:List St)(a A:Nat)(Va:Xt)(ms:List Bool):Prop where
 ap:∀i j,i<Va.length->j<Va.length->fH Va.length ms i j=eB T S (Va.getD i ⟨#[]⟩) (Va.getD j ⟨#[]⟩) A
 inn:∀x∈Va,iG T S x A=true
 ats:∀n,n<l.length->nJ l n=aA (aq S (aw S n)).k
 sy:∀n,n<l.length->(l.getD n zu).Xz=bb T S (aw S n)
 hy:∀n,n<l.length->nJ l n=true->SD T S l (aP l n)/\(aP l n).map (aw S)=a9 T S (aw S n)
 vs:∀n,n<l.length->nJ l n=true->Jf (zn T S (aw S n))/\fU T S (a9 T S (aw S n)) (a9 T S (aw S n)).length=zn T S (aw S n)
 apN:∀n,n<l.length->nJ l n=true->∀i j,i<(zn T S (aw S n)).length->j<(zn T S (aw S n)).length->fH (zn T S (aw S n)).length (gM l n (zn T S (aw S n))) i j=eB T S ((zn T S (aw S n)).getD i ⟨#[]⟩) ((zn T S (aw S n)).getD j ⟨#[]⟩) (aw S n)
 ne:∀n,EP l a n->bb T S (aw S n)≠[]
 vi:∀n,EP l a n->nJ l n=false->OQ T S A Va (bb T S (aw S n))
 va:∀n,EP l a n->nJ l n=true->(∀y∈bb T S (aw S n),y∈zn T S (aw S n)∨iG T S y A=false)/\(bb T S (aw S n)).getD 0 ⟨#[]⟩∉zn T S (aw S n)
def Sv(T:List Tk)(S:List Sm)(A:Nat)(Va:Xt)(x:Xt):Prop:=x.length<=32/\x≠[]/\OQ T S A Va x
section
variable {T:List Tk} {S:List Sm} {l:List St} {a A:Nat} {Va:Xt} {ms:List Bool} {M:List Xt} {K:Xv}
theorem EP.lt(h:EP l a b):b<l.length:=by
 obtain⟨s,h,-⟩:=h;exact(TA.1 h).1
theorem BJ{w:Int}(h:gI l Va ms M x H=((w,f),z0))(a:(w==0)=false):(km l Va ms (M,x) H).1=w:=by
 unfold km;simp only;rw[h,Tp (by simp only;rw[a];simp)]
theorem yh(h:gI l Va ms M x H=((0,f),z0)):km l Va ms (M,x) H=if f.length<=32 then(0,M++[f],z0++[f]) else(10,(M,x)):=by
 unfold km;simp only;rw[h,Tr (by rfl)]
theorem In(a:M.length=b)(c:t<b):M.getD t []∈M:=by
 rw[To,Tn (by omega)];exact TP _
theorem Qm(Y:Sx T S l a A Va ms)(hP:bN k b=rr T S H)(hg:RY l a b H)(hM:M.length=b)(hI:∀x∈M,Sv T S A Va x)(hC:vJ k b K)(hK:∀ai∈K,ai<b) :
  (((iD T S A k b M).2==0)=false->(km l Va ms (M,K.reverse.map (fun q=>M.getD q [])) H).1=(iD T S A k b M).2) /\
  (((iD T S A k b M).2==0)=true->km l Va ms (M,K.reverse.map (fun q=>M.getD q [])) H=(0,M++[(iD T S A k b M).1],(K.drop (bN k b).need).reverse.map (fun q=>M.getD q [])++[(iD T S A k b M).1])/\Sv T S A Va (iD T S A k b M).1/\(bN k b).need<=K.length):=by
 rcases hg with ⟨k3,z⟩ | ⟨k2,z⟩
 ·have e:bN k b=⟨-2,H.XA,0,H.at_.XZ,H.at_.X0,H.at_.X3⟩:=by rw[hP];unfold rr;rw[k3,Tp (by omega),Tp (by omega)]
  have u:iD T S A k b M=(M.getD H.XA [],0):=by unfold iD;rw[e,Tr rfl]
  have d:gI l Va ms M (K.reverse.map (fun q=>M.getD q [])) H=((0,M.getD H.XA []),K.reverse.map (fun q=>M.getD q [])):=by
   unfold gI;rw[k3,Tr (by rfl),Tr (by omega)]
  have w:=hI _ (In hM z);rw[u,yh d,Tr w.1,e];exact⟨fun h=>(by cases h),fun _=>⟨rfl,w,Uc _⟩⟩
 ·have G:=z.lt;have e:bN k b=⟨(aw S H.XA:Nat),0,gN T S (aw S H.XA:Nat),H.at_.XZ,H.at_.X0,H.at_.X3⟩:=by rw[hP];unfold rr;rw[k2,Tp (by omega),Tr rfl]
  have hk:(H.XU==3)=false:=by rw[k2];rfl
  have g:=Y.ats H.XA G;have N:=Y.sy H.XA G;have I:=Y.ne H.XA z;have L:¬((aw S H.XA:Nat):Int)=-2:=by omega
  have J:¬((aw S H.XA:Nat):Int)<0:=by omega
  cases j:nJ l H.XA
  ·have hv:=Y.vi H.XA z j;rw[j]at g;have d:gI l Va ms M (K.reverse.map (fun q=>M.getD q [])) H=((0,bb T S (aw S H.XA)),K.reverse.map (fun q=>M.getD q [])):=by
    unfold gI;rw[hk,Tp (by simp),j,Tp (by simp),N]
   have u:iD T S A k b M=if 32<(bb T S (aw S H.XA)).length then([],10) else(bb T S (aw S H.XA),0):=by
    unfold iD;rw[e];simp only;rw[Tp L,Ur,Tr g.symm]
   have i:(bN k b).need=0:=by
    rw[e];simp only;unfold gN;rw[Tp J,Ur,<-g,Tp (by simp)]
   rw[u,yh d,i];by_cases h:32<(bb T S (aw S H.XA)).length
   ·rw[Tr h,Tp (by omega)];exact⟨fun _=>rfl,fun h=>by cases h⟩
   ·rw[Tp h,Tr (by omega)];exact⟨fun h=>(by cases h),fun _=>⟨rfl,⟨by show(bb T S (aw S H.XA)).length<=32;omega,I,hv⟩,Uc _⟩⟩
  ·obtain⟨hy,hH⟩:=Y.hy H.XA G j;obtain⟨ad,X⟩:=Y.vs H.XA G j;have F:=Y.apN H.XA G j;obtain⟨ac,Z⟩:=Y.va H.XA z j;rw[j]at g;have o:(a9 T S (aw S H.XA)).length=(aP l H.XA).length:=(by rw[<-hH,TT]);have i:(bN k b).need=(aP l H.XA).length:=by
    rw[e];simp only;unfold gN;rw[Tp J,Ur,Tr g.symm,o]
   have s:=qx k b;rw[i]at s;have v:(K.reverse.map (fun q=>M.getD q [])).length=K.length:=by rw[TT,List.length_reverse]
   have u:iD T S A k b M=(if dQ k b<0 then([],6)
     else if(nM T S A (aw S H.XA) (a9 T S (aw S H.XA)) ((fX k b).map (fun q=>M.getD q [])) (zn T S (aw S H.XA)) (bu S (a9 T S (aw S H.XA)) ((fX k b).map (fun q=>M.getD q [])) (a9 T S (aw S H.XA)).length)==0)=false then([],nM T S A (aw S H.XA) (a9 T S (aw S H.XA)) ((fX k b).map (fun q=>M.getD q [])) (zn T S (aw S H.XA)) (bu S (a9 T S (aw S H.XA)) ((fX k b).map (fun q=>M.getD q [])) (a9 T S (aw S H.XA)).length))
     else if 32<(ed (zn T S (aw S H.XA)) (bu S (a9 T S (aw S H.XA)) ((fX k b).map (fun q=>M.getD q [])) (a9 T S (aw S H.XA)).length) (bb T S (aw S H.XA))).length then([],10)
     else(ed (zn T S (aw S H.XA)) (bu S (a9 T S (aw S H.XA)) ((fX k b).map (fun q=>M.getD q [])) (a9 T S (aw S H.XA)).length) (bb T S (aw S H.XA)),0)):=by
    unfold iD;rw[e];simp only;rw[Tp L,Ur,Tp (by rw[<-g];simp)]
   have d:gI l Va ms M (K.reverse.map (fun q=>M.getD q [])) H=(gJ l H.XA Va ms (K.reverse.map (fun q=>M.getD q [])),(K.reverse.map (fun q=>M.getD q [])).take (K.length-(aP l H.XA).length)):=by
    unfold gI;rw[hk,Tp (by simp),j,Tr rfl,v]
   by_cases t:K.length<(aP l H.XA).length
   ·rw[Mz _ b K hC t]at s;rw[u,Tr (by omega)];have P:gJ l H.XA Va ms (K.reverse.map (fun q=>M.getD q []))=(6,[]):=by unfold gJ;rw[v,Tr t]
    rw[P]at d;exact⟨fun _=>BJ d rfl,fun h=>by cases h⟩
   ·obtain⟨c,hc,ag,p⟩:=zK (aP l H.XA).length b K hC (by omega);rw[hc]at s;have m:fX k b=(K.take (aP l H.XA).length).reverse:=by unfold fX;rw[i,p,TY]
    have hE:(K.reverse.map (fun q=>M.getD q [])).drop (K.length-(aP l H.XA).length)=(fX k b).map (fun q=>M.getD q []):=by
     rw[m,List.reverse_take,List.map_drop]
    have V:((fX k b).map (fun q=>M.getD q [])).length=(aP l H.XA).length:=by
     rw[m,TT,List.length_reverse,UJ];omega
    have r:∀x∈(fX k b).map (fun q=>M.getD q []),Sv T S A Va x:=fun x w=>by
     obtain⟨q,B,rfl⟩:=UG.1 w;rw[m]at B;exact hI _ (In hM (hK q (Vl (List.mem_reverse.1 B))))
    have O:(K.reverse.map (fun q=>M.getD q [])).take (K.length-(aP l H.XA).length)=(K.drop (aP l H.XA).length).reverse.map (fun q=>M.getD q []):=by
     rw[List.reverse_drop,WG]
    have P:gJ l H.XA Va ms (K.reverse.map (fun q=>M.getD q []))=qu l H.XA Va ms (bb T S (aw S H.XA)) (j4 l (aP l H.XA) ((fX k b).map (fun q=>M.getD q [])) ([],[])):=by
     unfold gJ;rw[v,Tp t,hE,N]
    rw[P,O]at d;rw[u,Tp (by omega),i];clear u P O hE m p;generalize (fX k b).map (fun q=>M.getD q [])=E at *;obtain⟨Q,R⟩:=Q3 hy V (fun x w=>⟨(r x w).1,(r x w).2.1⟩) (aP l H.XA).length 0 (by omega) rfl;rw[We,We]at Q R;have z1:bL T S ((aP l H.XA).map (aw S)) 0=[]:=rfl;have z2:bu S ((aP l H.XA).map (aw S)) E 0=[]:=rfl;rw[z1,z2,hH,<-o]at Q R;have U:=NN T S (a9 T S (aw S H.XA)) E (a9 T S (aw S H.XA)).length;have D:∀af∈bu S (a9 T S (aw S H.XA)) E (a9 T S (aw S H.XA)).length,OQ T S A Va af:=fun af hb=>by
     unfold bu at hb;obtain⟨q,B,rfl⟩:=UG.1 hb;unfold s9 at B;have B:=TG.1 (Uk.1 B).1;have hm:E.getD q []∈E:=by rw[To,Tn (by omega)];exact TP _
     exact fun y hy=>(r _ hm).2.2 y (Wf hy)
    have W:=Ps (l:=l) (n:=H.XA) Y.ap Y.inn ad U D F X;unfold nM;unfold qu at d;rw[Q]at d;cases C:(de (Ab T S (a9 T S (aw S H.XA)) E (zn T S (aw S H.XA)) (bu S (a9 T S (aw S H.XA)) E (a9 T S (aw S H.XA)).length)) (a9 T S (aw S H.XA)).length==0)
    ·rw[C,Tp (by simp)]at d;rw[Tr rfl,Tr C];exact⟨fun _=>BJ d C,fun h=>by rw[C]at h;cases h⟩
    ·rw[R (by simpa using C),C,Tr rfl,W]at d;simp only at d;rw[Tp (show ¬(true=false) by simp)];cases hp:(lY T S (aw S H.XA)).all (LQ T S A (zn T S (aw S H.XA)) (bu S (a9 T S (aw S H.XA)) E (a9 T S (aw S H.XA)).length))
     ·rw[hp,Tp (by simp)]at d;rw[Tp (show ¬(false=true) by simp),Tr (by rfl)];exact⟨fun _=>BJ d rfl,fun h=>by cases h⟩
     ·rw[hp,Tr rfl]at d;rw[Tr (show true=true from rfl),Tp (show ¬(((0:Int)==0)=false) by simp),yh d];obtain⟨r1,r2⟩:=DV (zn T S (aw S H.XA)) (bu S (a9 T S (aw S H.XA)) E (a9 T S (aw S H.XA)).length) (bb T S (aw S H.XA));by_cases f:32<(ed (zn T S (aw S H.XA)) (bu S (a9 T S (aw S H.XA)) E (a9 T S (aw S H.XA)).length) (bb T S (aw S H.XA))).length
      ·rw[Tr f,Tp (Nat.not_le.2 (r2 f))];exact⟨fun _=>rfl,fun h=>by cases h⟩
      ·rw[Tp f,r1 (Nat.not_lt.1 f),Tr (Nat.not_lt.1 f)];exact⟨fun h=>(by cases h),fun _=>⟨rfl,⟨Nat.not_lt.1 f,Ru I Z,Qw D ac⟩,by omega⟩⟩
end
end Go.Proofs.YtnbhnocdhbcbcaaGreat
