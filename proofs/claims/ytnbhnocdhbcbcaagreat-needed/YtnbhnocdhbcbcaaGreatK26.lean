import Derived.Test.YtnbhnocdhbcbcaaGreatK20
import Derived.Test.YtnbhnocdhbcbcaaGreatK25
namespace Go.Proofs.YtnbhnocdhbcbcaaGreat
open Go.RowKit Tryz
open Value IntKind Ending
set_option maxHeartbeats 0
variable{b t:Nat}{f o q:Xt}{c:Xs}{y:List Tk}{w:List Sm}{x z0:List Xt}{r:List Bool}{k:List di}{H:kD}(p:List Tk)(N:List Sm)(g:Xv)(u:Xt)(m:List Xt)(I:Nat)(D v:Xt)(s:List Xt)(L:Xs)
section
variable {T:List Tk} {d:Db}
theorem gB.vars(R:gB T d)(F:Sa T (aa T))(q:b<d.Ya.length):pV d.Ya (aO d.Ya b)=fU T (aa T) (a8 T (aa T) (aw (aa T) b)) (a8 T (aa T) (aw (aa T) b)).length:=by
 unfold fU;rw[U3,<-R.hyps F q];unfold pV;have a:∀n∈aO d.Ya b,n<d.Ya.length:=fun n i=>by
  unfold aO eM at i;exact TY.1 (Ux.1 i).1
 generalize aO d.Ya b=L at a
 induction L with
 | nil=>rfl
 | cons n L j =>
  obtain⟨s,r,f,-,g⟩:=R.get (a n (by simp));have p:=R.hel.at_ (a n (by simp));rw[Xe,VB,XD];unfold Ci;rw[r];simp only;rw[(cm f).2.1];cases e:((aq (aa T) (aw (aa T) n)).k.toList == [36,102])
  ·rw[TH (by simp),TH (by simp)];exact j (fun m c=>a m (by simp[c]))
  ·obtain⟨l,o⟩:=F _ p e;have t:aN s=tS T ((aq (aa T) (aw (aa T) n)).h+1):=by
    unfold aN;rw[TJ ⟨by rw[(cm f).2.1];exact e,by rw[g];exact l⟩,g,o]
   rw[TJ rfl,TJ rfl,VB,<-t];show aN s :: _=_;congr 1;exact j (fun m c=>a m (by simp[c]))
def Jj(vs:Xt):Prop:=∀i j,i<j->j<vs.length->((vs.getD i ⟨#[]⟩).toList==(vs.getD j ⟨#[]⟩).toList)=false
theorem Jj.ne(h:Jj f){i j:Nat}(b:i<f.length)(c:j<f.length)(d:i≠j):((f.getD i ⟨#[]⟩).toList==(f.getD j ⟨#[]⟩).toList)=false:=by
 rcases Nat.lt_or_gt_of_ne d with a | a
 ·exact h i j a c
 ·have:=h j i a b;rw[Ui]at this ⊢;exact fun e=>this e.symm
theorem Gc(h:Jj f)(a:b<f.length)(x:Xs):mE f x=some b ↔ ((f.getD b ⟨#[]⟩).toList==x.toList)=true:=by
 unfold mE;constructor
 ·intro e;have:=Vq e;simpa using this
 ·intro e;rw[WS];refine⟨e,b,by rw[Vm];exact a,by rw[WC],fun j g=>?_⟩;rw[WC];have:=h.ne (i:=j) (j:=b) (by omega) a (by omega);simp only[Bool.not_eq_true',beq_eq_false_iff_ne];rw[Ui]at this;intro c;have d:(f.getD b ⟨#[]⟩).toList=x.toList:=by simpa using e
  exact this (c.trans d.symm)
theorem wO(h:Jj f)(d:b<f.length)(g:Xt):(bM f g).contains b=aK g (f.getD b ⟨#[]⟩):=by
 unfold bM aK;rw[UY,V4,V3,UG];constructor
 ·rintro ⟨x,c,e⟩;have:=(Gc h d x).1 e;refine⟨x,c,?_⟩;have a:(f.getD b ⟨#[]⟩).toList=x.toList:=by simpa using this
  rw[a];exact WT _
 ·rintro ⟨x,c,e⟩;refine⟨x,c,(Gc h d x).2 ?_⟩;have a:x.toList=(f.getD b ⟨#[]⟩).toList:=by simpa using e
  rw[a];exact WT _
theorem gB.tog(R:gB T d)(r:b<d.Ya.length)(h:Jj f){j:Nat}(A:t<f.length)(w:j<f.length)(v:t<j):yS d.Ya b f d.Ya.length t j=ew T (aa T) (f.getD t ⟨#[]⟩) (f.getD j ⟨#[]⟩) (aw (aa T) b):=by
 have D:=R.hel.len;have E:=R.hel.at_ r;have x:=h t j v w;unfold yS ew;rw[UY,UG,UG];constructor
 ·rintro ⟨n,a,e⟩;have a:=TY.1 a;obtain⟨s,m,l,-,C⟩:=R.get a;simp only[Bool.and_eq_true]at e;obtain⟨⟨c,o⟩,p⟩:=e;rw[wO h A,R.symsAt a]at o;rw[wO h w,R.symsAt a]at p;unfold tQ at c;rw[m]at c;simp only[Bool.and_eq_true]at c;have z:((aq (aa T) (aw (aa T) n)).k.toList == [36,100])=true:=by rw[<-(cm l).2.2.1];exact c.1
  have i:oC s.Yd=false:=by rw[(cm l).2.2.2,cI z,cI z];decide
  have u:=c.2;rw[R.held m i r,Uc]at u;refine⟨aw (aa T) n,TY.2 (Xw u.1),?_⟩;unfold QE;rw[z,x,o,p,u.2];rfl
 ·rintro ⟨q,y,e⟩;have y:=TY.1 y;unfold QE at e;simp only[Bool.and_eq_true]at e;obtain⟨c,-,o,p,B⟩:=e;have g:q∈lF (aa T):=Ux.2 ⟨TY.2 (by omega),by unfold kF;rw[c];simp⟩;rw[uo]at g;obtain⟨n,a,rfl⟩:=UT.1 g;have a:n<d.Ya.length:=by rw[D];exact TY.1 a
  obtain⟨s,m,l,-,C⟩:=R.get a;have i:oC s.Yd=false:=by rw[(cm l).2.2.2,cI c,cI c];decide
  refine⟨n,TY.2 a,?_⟩;rw[wO h A,wO h w,R.symsAt a,o,p];unfold tQ;rw[m];simp only;rw[(cm l).2.2.1,c,R.held m i r,B,U6 y];rfl
def QO(T:List Tk)(S:List Sm)(j:Nat):Xs:=(bu T (aq S j).h).foldl (fun s x=>s++⟨#[32]⟩++x) (bP T (aq S j)++⟨#[32]⟩++(aq S j).k)
def Rl(T:List Tk)(S:List Sm)(a:Nat):Xt:=(a8 T S a).map (QO T S)++(lp T S a).map DM++[QO T S a]
theorem rW.vsd(F:rW d):Jj (pV d.Ya (aO d.Ya b)):=by
 have E:(aO d.Ya b).Pairwise (fun n m=>n<m/\n∈aO d.Ya b/\m∈aO d.Ya b):=by
  have h:(aO d.Ya b).Pairwise (· < ·):=WX _ Wg;exact h.imp_of_mem (fun z A B=>⟨B,z,A⟩)
 have G:(pV d.Ya (aO d.Ya b)).Pairwise (fun x y=>(x.toList==y.toList)=false):=by
  unfold pV;refine List.Pairwise.filterMap _ (fun n m h x a y H=>?_) E;obtain⟨r,o,D⟩:=h;have l:∀n x,n∈aO d.Ya b->Ci d.Ya n=some x->∃s,d.Ya[n]?=some s/\s.Yd=2/\x=vr s/\fD d.Ya n b=true:=fun n x o a=>by
   unfold Ci at a;cases g:d.Ya[n]? with
   | none=>rw[g]at a;cases a
   | some s =>
    rw[g]at a;simp only at a;split at a
    ·next k =>
     have w:s.Yd=2:=(by simpa using k);have C:=F.fl n s g w;have e:aN s=vr s:=(by unfold aN vr;rw[TJ ⟨k,C⟩]);refine⟨s,rfl,w,by rw[<-e];cases a;rfl,?_⟩;unfold aO eM at o;have:=(Ux.1 o).2;unfold nK at this;rw[g]at this;simp only[Bool.and_eq_true]at this;exact this.1
    ·cases a
  obtain⟨s,g,I,rfl,c⟩:=l n x o a;obtain⟨u,v,J,rfl,f⟩:=l m y D H;refine F.ds n m s u g v I J r ?_;unfold fD at c f;rw[g]at c;rw[v]at f;simp only[Bool.and_eq_true,Bool.or_eq_true,decide_eq_true_eq]at c f;rcases c.2 with q | q
  ·left;simpa using q
  ·right;have:=f.1;omega
 intro i j p t;have:=V5.1 G i j (by omega) t p;rw[TG,TG,TF t,TF (by omega)];exact this
end
theorem uQ{y:Xs}(h:c.toList=y.toList):c=y:=by
 apply Xz;apply Wt.1;rw[<-UB,<-UB,h]
theorem xf(y:Xs):(L.toList==y.toList)=true ↔ L=y:=⟨fun h=>uQ (by simpa using h),fun h=>by rw[h];simp⟩
theorem Iy:aK v L=true ↔ L∈v:=by
 unfold aK;rw[UG];exact⟨fun⟨y,hy,e⟩=>(xf y L).1 e ▸ hy,fun h=>⟨L,h,by simp⟩⟩
theorem JU{F G:Xs->Xt}(h:∀x∈f,F x=G x):f.flatMap F=f.flatMap G:=by
 rw[V7,V7,VU h]
theorem Dz(A:Xt):∀B:Xt,A.map (·.toList)=B.map (·.toList)->A=B:=by
 induction A with
 | nil =>
  intro B h;cases B with
  | nil=>rfl
  | cons y B=>cases h
 | cons x A c =>
  intro B h;cases B with
  | nil=>cases h
  | cons y B =>
   obtain⟨a,b⟩:=XL h;rw[uQ a,c B b]
theorem tR:zm D v=true ↔ D=v:=by
 unfold zm;rw[Vo];exact⟨Dz D v,fun h=>by rw[h]⟩
theorem yH:lu D v=true ↔ D=v:=by
 unfold lu;rw[Uc,UJ];constructor
 ·rintro ⟨a,c⟩;have a:D.length=v.length:=by simpa using a
  apply WQ a;intro i b d;have:=c i (TY.2 b);unfold Gt at this;rw[xf,TG,TG,TF b,TF d]at this;exact this
 ·rintro rfl;exact⟨by simp,fun i _=>by unfold Gt;simp⟩
theorem N7:lu D v=zm D v:=by
 rw[UY,yH,tR]
theorem wP:mE v L=if ni v L<v.length then some (ni v L) else none:=by
 unfold mE;split
 ·next h =>
  rw[U8];refine⟨?_,TY.2 h,fun j a=>?_⟩
  ·rw[TG,TF h];exact List.findIdx_getElem (p:=fun y:Xs=>y.toList==L.toList) (w:=h)
  ·have:=List.not_of_lt_findIdx (p:=fun y:Xs=>y.toList==L.toList) (xs:=v) (i:=j) a;rw[TG,TF (by unfold ni at h a;omega)];simpa using this
 ·next h =>
  rw[US];intro j a e;apply h;unfold ni;rw[List.findIdx_lt_length];have a:=TY.1 a;refine⟨v[j],Ue a,?_⟩;rw[TG,TF a]at e;exact e
theorem pF:ni v L<v.length ↔ L∈v:=by
 unfold ni;rw[List.findIdx_lt_length];exact⟨fun⟨y,hy,e⟩=>(xf y L).1 e ▸ hy,fun h=>⟨L,h,by simp⟩⟩
theorem O0:AY v s L=vp v s L:=by
 unfold AY vp;rw[wP];by_cases h:ni v L<v.length
 ·rw[TJ h,TJ h]
 ·rw[TH h,TH h]
theorem Gp(e:Xt):∀a,((a++dZ v s e).length<=32->jI v s e a=a++dZ v s e)/\(32<(a++dZ v s e).length->32<(jI v s e a).length):=by
 induction e with
 | nil=>intro a;rw[jI];unfold dZ;rw[WP,Uk];exact⟨fun _=>rfl,id⟩
 | cons x r c =>
  intro a;have e:a++dZ v s (x :: r)=a++AY v s x++dZ v s r:=by
   unfold dZ;rw[UI,O0,Vj]
  rw[jI,e];split
  ·exact c _
  ·next h=>exact⟨fun b=>by rw[TO,TO]at b;omega,fun _=>by omega⟩
theorem Ea:((dZ u m v).length<=32->mG u m v=dZ u m v)/\(32<(dZ u m v).length->32<(mG u m v).length):=by
 have:=Gp u m v [];rw[Wh]at this;exact this
theorem Q6(c:v.length<=32):zm (mG u m D) v=lu (dZ u m D) v:=by
 rw[N7];obtain⟨b,a⟩:=Ea u m D;by_cases h:(dZ u m D).length<=32
 ·rw[b h]
 ·have a:=a (by omega);rw[UY,tR,tR];exact⟨fun D=>by rw[D]at a;omega,fun D=>by rw[D]at h;omega⟩
theorem M5(h:L∈D):ni (D++v) L=ni D L:=by
 have:=(pF D L).2 h;unfold ni at this ⊢;rw[List.findIdx_append,TJ this]
theorem KG(C:List Xt)(c:s.length=D.length)(x:Xs)(h:x∈D++v->x∈D):vp (D++v) (s++C) x=vp D s x:=by
 unfold vp;by_cases a:x∈D
 ·have b:=(pF D x).2 a;rw[M5 D v x a,TJ (by rw[TO];omega),TJ b,TG,TG,Uf (by omega)]
 ·rw[TH (fun e=>a (h ((pF _ x).1 e))),TH (fun e=>a ((pF D x).1 e))]
theorem IQ:s9 N g (I+1)=s9 N g I++(if so N g I=true then [I] else []):=by
 unfold s9;rw[U9,UV];congr 1;cases h:so N g I <;> simp[h]
theorem qQ:bL p N g (I+1)=bL p N g I++(if so N g I=true then [(bb p N (g.getD I 0)).getD 1 ⟨#[]⟩] else []):=by
 unfold bL;rw[IQ,Uu];split <;> rfl
theorem vZ:bB N g m (I+1)=bB N g m I++(if so N g I=true then [(m.getD I []).drop 1] else []):=by
 unfold bB;rw[IQ,Uu];split <;> rfl
theorem NP:(bB N g m I).length=(bL p N g I).length:=by unfold bB bL;rw[Uh,Uh]
theorem RK(n:Nat)(h:I<=n):∃W C,bL p N g n=bL p N g I++W/\bB N g m n=bB N g m I++C:=by
 obtain⟨a,rfl⟩:∃a,n=I+a:=⟨n-I,by omega⟩
 clear h
 induction a with
 | zero=>exact⟨[],[],(Uk _).symm,(Uk _).symm⟩
 | succ a d =>
  obtain⟨W,C,b,c⟩:=d;rw[<-Wj,qQ,vZ,b,c,Vj,Vj];exact⟨_,_,rfl,rfl⟩
structure SU(T:List Tk)(S:List Sm)(l:List St)(hs:Xv):Prop where
 kd:∀i,i<hs.length->((l.getD (hs.getD i 0) zu).Yd==3)=!(so S (hs.map (aw S)) i)
 sy:∀i,i<hs.length->(l.getD (hs.getD i 0) zu).XM=bb T S ((hs.map (aw S)).getD i 0)
 vr:∀i,i<hs.length->so S (hs.map (aw S)) i=true->aN (l.getD (hs.getD i 0) zu)=(bb T S ((hs.map (aw S)).getD i 0)).getD 1 ⟨#[]⟩
 pre:∀i,i<hs.length->so S (hs.map (aw S)) i=false->∀x∈bb T S ((hs.map (aw S)).getD i 0),x∈bL T S (hs.map (aw S)) hs.length->x∈bL T S (hs.map (aw S)) i
theorem Q8{l:List St}{a:Xv}(H:SU y w l a)(R:x.length=a.length)(s:∀e∈x,e.length<=32/\e≠[])(m:Nat) :
  ∀k,k+m=a.length->dd (Ab y w (a.map (aw w)) x (bL y w (a.map (aw w)) a.length) (bB w (a.map (aw w)) x a.length)) k=0 ->
  (j4 l (a.drop k) (x.drop k) (bL y w (a.map (aw w)) k,bB w (a.map (aw w)) x k)).1=dd (Ab y w (a.map (aw w)) x (bL y w (a.map (aw w)) a.length) (bB w (a.map (aw w)) x a.length)) a.length /\
  (dd (Ab y w (a.map (aw w)) x (bL y w (a.map (aw w)) a.length) (bB w (a.map (aw w)) x a.length)) a.length=0->(j4 l (a.drop k) (x.drop k) (bL y w (a.map (aw w)) k,bB w (a.map (aw w)) x k)).2=(bL y w (a.map (aw w)) a.length,bB w (a.map (aw w)) x a.length)):=by
 induction m with
 | zero =>
  intro k t o;rw[Vs]at t;subst t;rw[WR,j4]
  ·exact⟨o.symm,fun _=>rfl⟩
  ·intro h a e Q p;cases p
 | succ m P =>
  intro k t o;have b:k<a.length:=by omega
  have c:k<x.length:=by omega
  have F:=s x[k] (Ue c);have J:a.getD k 0=a[k]:=by rw[TG,TF b];rfl
  have E:x.getD k []=x[k]:=by rw[TG,TF c];rfl
  have d:=H.kd k b;have g:=H.sy k b;have n:=H.vr k b;have j:=H.pre k b;rw[J]at d g n;have B:∀(f:Int) (q:OS),lV (l.getD a[k] zu) x[k] (bL y w (a.map (aw w)) k,bB w (a.map (aw w)) x k)=(f,q)->Ab y w (a.map (aw w)) x (bL y w (a.map (aw w)) a.length) (bB w (a.map (aw w)) x a.length) k=f->(f=0->q=(bL y w (a.map (aw w)) (k+1),bB w (a.map (aw w)) x (k+1))) ->
   (j4 l (a.drop k) (x.drop k) (bL y w (a.map (aw w)) k,bB w (a.map (aw w)) x k)).1=dd (Ab y w (a.map (aw w)) x (bL y w (a.map (aw w)) a.length) (bB w (a.map (aw w)) x a.length)) a.length /\
   (dd (Ab y w (a.map (aw w)) x (bL y w (a.map (aw w)) a.length) (bB w (a.map (aw w)) x a.length)) a.length=0->(j4 l (a.drop k) (x.drop k) (bL y w (a.map (aw w)) k,bB w (a.map (aw w)) x k)).2=(bL y w (a.map (aw w)) a.length,bB w (a.map (aw w)) x a.length)):=fun f q M u L=>by
   rw[Uj b,Uj c,j4,M];by_cases h:f=0
   ·rw[TJ (by rw[h];rfl),L h];apply P (k+1) (by omega);rw[dd,o,TJ (by rfl),u,h]
   ·have G:(f==0)=false:=Ui.2 h;have O:=nf o (by rw[u];exact G) b;rw[O,u,TH (by rw[G];simp)];exact⟨rfl,fun e=>absurd e h⟩
  have i:lV (l.getD a[k] zu) x[k] (bL y w (a.map (aw w)) k,bB w (a.map (aw w)) x k)=(if((l.getD a[k] zu).Yd==3)=true then(if zm (mG (bL y w (a.map (aw w)) k) (bB w (a.map (aw w)) x k) (l.getD a[k] zu).XM) x[k]=true then(0,(bL y w (a.map (aw w)) k,bB w (a.map (aw w)) x k)) else(8,(bL y w (a.map (aw w)) k,bB w (a.map (aw w)) x k)))
   else if((x[k].getD 0 ⟨#[]⟩).toList==(jf (l.getD a[k] zu)).toList)=true then(0,(bL y w (a.map (aw w)) k++[aN (l.getD a[k] zu)],bB w (a.map (aw w)) x k++[x[k].drop 1])) else(7,(bL y w (a.map (aw w)) k,bB w (a.map (aw w)) x k))):=by
   unfold lV;split
   ·rfl
   ·have:=F.2;generalize x[k]=e at this;cases e with
    | nil=>exact absurd rfl this
    | cons D r=>rfl
  have v:Ab y w (a.map (aw w)) x (bL y w (a.map (aw w)) a.length) (bB w (a.map (aw w)) x a.length) k=(if so w (a.map (aw w)) k=true then(if((x[k].getD 0 ⟨#[]⟩).toList==((bb y w ((a.map (aw w)).getD k 0)).getD 0 ⟨#[]⟩).toList)=true then 0 else 7) else if lu (dZ (bL y w (a.map (aw w)) a.length) (bB w (a.map (aw w)) x a.length) (bb y w ((a.map (aw w)).getD k 0))) x[k]=true then 0 else 8):=by
   unfold Ab;rw[E]
  refine B (lV (l.getD a[k] zu) x[k] (bL y w (a.map (aw w)) k,bB w (a.map (aw w)) x k)).1 (lV (l.getD a[k] zu) x[k] (bL y w (a.map (aw w)) k,bB w (a.map (aw w)) x k)).2 rfl ?_ ?_
  ·rw[i,v,d];cases z:so w (a.map (aw w)) k
   ·have N:dZ (bL y w (a.map (aw w)) a.length) (bB w (a.map (aw w)) x a.length) (bb y w ((a.map (aw w)).getD k 0))=dZ (bL y w (a.map (aw w)) k) (bB w (a.map (aw w)) x k) (bb y w ((a.map (aw w)).getD k 0)):=by
     obtain⟨W,C,p,K⟩:=RK y w (a.map (aw w)) x k a.length (by omega);have I:=j z;rw[p]at I;rw[p,K];unfold dZ;apply JU;intro D A;exact KG _ _ _ _ (NP y w _ _ _) D (I D A)
    rw[TH (show ¬(false=true) by simp),TJ (show(!false)=true from rfl),N,g,Q6 _ _ _ _ F.1];split <;> rfl
   ·rw[TJ rfl,TH (show ¬((!true)=true) by simp)];unfold jf;rw[g];split <;> rfl
  ·rw[i,d,qQ,vZ,E];cases z:so w (a.map (aw w)) k
   ·rw[TJ (show(!false)=true from rfl)];split
    ·intro _;simp
    ·intro h;cases h
   ·rw[TH (show ¬((!true)=true) by simp)];split
    ·intro _;rw[TJ rfl,TJ rfl,n z]
    ·intro h;cases h
theorem ui(X:Xt):∀a p,p∈oE v X a ↔ p∈a∨∃x∈X,mE v x=some p:=by
 induction X with
 | nil=>intro a p;rw[oE];simp
 | cons x r g =>
  intro a p;rw[oE];cases e:mE v x with
  | none =>
   simp only;rw[g];constructor
   ·rintro (h | ⟨y,b,h⟩)
    ·exact TZ h
    ·exact TU ⟨y,Uq _ b,h⟩
   ·rintro (h | ⟨y,b,h⟩)
    ·exact TZ h
    ·rcases Un.1 b with rfl | b
     ·rw[e]at h;cases h
     ·exact TU ⟨y,b,h⟩
  | some q =>
   simp only;have d:∀c,(p∈c ↔ p∈a∨p=q)->(p∈oE v r c ↔ p∈a∨∃y∈x :: r,mE v y=some p):=fun c j=>by
    rw[g,j];constructor
    ·rintro ((h | h) | ⟨y,b,h⟩)
     ·exact TZ h
     ·exact TU ⟨x,Ur,by rw[e,h]⟩
     ·exact TU ⟨y,Uq _ b,h⟩
    ·rintro (h | ⟨y,b,h⟩)
     ·exact TZ (TZ h)
     ·rcases Un.1 b with rfl | b
      ·rw[e]at h;exact TZ (TU (U5 h).symm)
      ·exact TU ⟨y,b,h⟩
   split
   ·next f =>
    refine d a ⟨TZ,fun h=>?_⟩;rcases h with h | h
    ·exact h
    ·unfold jy at f;obtain⟨y,b,i⟩:=UG.1 f;have:y=q:=(by simpa using i);rw[h,<-this];exact b
   ·exact d (a++[q]) (by simp)
theorem wN(h:mE f c=some b):b<f.length/\f.getD b ⟨#[]⟩=c:=by
 rw[wP]at h;split at h
 ·next a =>
  have e:ni f c=b:=U5 h;refine⟨by omega,?_⟩;have:=List.findIdx_getElem (p:=fun y:Xs=>y.toList==c.toList) (xs:=f) (w:=a);rw[<-e,TG,TF a];exact(xf _ _).1 this
 ·cases h
theorem NH(h:c∈f):∃p,mE f c=some p:=⟨ni f c,by rw[wP,TJ ((pF f c).2 h)]⟩
theorem MU(h:b<f.length):f.getD b ⟨#[]⟩∈f:=by
 rw[TG,TF h];exact Ue h
def OT(T:List Tk)(S:List Sm)(A:Nat)(Va:Xt)(x:Xt):Prop:=∀y∈x,iG T S y A=true->y∈Va
theorem Mi(k:∀i j,i<f.length->j<f.length->fG f.length r i j=ew y w (f.getD i ⟨#[]⟩) (f.getD j ⟨#[]⟩) b)(l:∀x∈f,iG y w x b=true)(C:OT y w b f o)(D:OT y w b f q) :
  wl f.length r (jU f o) (jU f q)=qB y w b o q:=by
 unfold wl qB kZ;rw[UY,UJ,UJ];constructor
 ·intro h x E;obtain⟨v,A⟩:=Ux.1 E;unfold Bd;rw[UJ];intro g F;obtain⟨z,B⟩:=Ux.1 F;obtain⟨p,a⟩:=NH (C x v A);obtain⟨e,c⟩:=NH (D g z B);have d:=h p ((ui f o [] p).2 (TU ⟨x,v,a⟩));rw[UJ]at d;have m:=d e ((ui f q [] e).2 (TU ⟨g,z,c⟩));obtain⟨n,s⟩:=wN a;obtain⟨t,u⟩:=wN c;rw[k p e n t,s,u]at m;exact m
 ·intro h p a;rw[UJ];intro e c;rcases(ui f o [] p).1 a with a | ⟨x,v,a⟩
  ·cases a
  rcases(ui f q [] e).1 c with c | ⟨g,z,c⟩
  ·cases c
  obtain⟨n,s⟩:=wN a;obtain⟨t,u⟩:=wN c;have A:iG y w x b=true:=l x (by rw[<-s];exact MU n);have B:iG y w g b=true:=l g (by rw[<-u];exact MU t);have d:=h x (Ux.2 ⟨v,A⟩);unfold Bd at d;rw[UJ]at d;have m:=d g (Ux.2 ⟨z,B⟩);rw[k p e n t,s,u];exact m
theorem wQ(c:Jj f)(B:List Xt)(d:b<f.length):dZ f B [f.getD b ⟨#[]⟩]=B.getD b []:=by
 have a:mE f (f.getD b ⟨#[]⟩)=some b:=(Gc c d _).2 (by simp);rw[wP]at a;unfold dZ vp;rw[UI,WP,Uk];split at a
 ·next h=>rw[TJ h,U5 a]
 ·cases a
theorem Pv{l:List St}{n:Nat}(m:∀i j,i<f.length->j<f.length->fG f.length r i j=ew y w (f.getD i ⟨#[]⟩) (f.getD j ⟨#[]⟩) t)(q:∀E∈f,iG y w E t=true)(s:Jj o)(F:x.length=o.length)(v:∀A∈x,OT y w t f A)(g:∀i j,i<o.length->j<o.length->fG o.length (go l n o) i j=ew y w (o.getD i ⟨#[]⟩) (o.getD j ⟨#[]⟩) b)(B:fU y w (a8 y w b) (a8 y w b).length=o) :
  xR l n (o,x) f r=(lp y w b).all (LT y w t o x):=by
 have d:∀i,OT y w t f (x.getD i []):=fun i=>by
  by_cases h:i<x.length
  ·rw[TG,TF h];exact v _ (Ue h)
  ·rw[TG,UA (by omega)];intro G C;cases C
 unfold xR lp;rw[B];rw[UY,decide_eq_true_iff,UJ];constructor
 ·intro h p u;unfold lN kI at u;obtain⟨i,a,u⟩:=VY.1 u;obtain⟨j,c,rfl⟩:=UT.1 u;obtain⟨D,z⟩:=Ux.1 c;have a:=TY.1 a;have c:=TY.1 D;rw[Uc]at z;have k:=Xw z.1;have:=h i a j c k;unfold qh at this;simp only at this;rw[g i j a c,z.2,Wz,U0,Mi m q (d i) (d j)]at this;unfold LT;simp only;rw[wQ s x a,wQ s x c];exact this
 ·intro h i a j c k;have a:i<o.length:=a;have c:j<o.length:=c;unfold qh;simp only;rw[g i j a c,Mi m q (d i) (d j)];cases e:ew y w (o.getD i ⟨#[]⟩) (o.getD j ⟨#[]⟩) b
  ·rfl
  ·have:=h (o.getD i ⟨#[]⟩,o.getD j ⟨#[]⟩) (by
    unfold lN kI;refine VY.2 ⟨i,TY.2 a,UT.2 ⟨j,Ux.2 ⟨TY.2 c,?_⟩,rfl⟩⟩;rw[U6 k,e];rfl)
   unfold LT at this;simp only at this;rw[wQ s x a,wQ s x c]at this;rw[this];rfl
theorem Qy(e:∀j∈x,OT y w b f j)(k:∀c∈q,c∈o∨iG y w c b=false):OT y w b f (dZ o x q):=by
 intro c a g;unfold dZ at a;obtain⟨i,l,a⟩:=VY.1 a;unfold vp at a;split at a
 ·by_cases h:ni o i<x.length
  ·rw[TG,TF h]at a;exact e _ (Ue h) c a g
  ·rw[TG,UA (by omega)]at a;cases a
 ·next h =>
  have:c=i:=T0.1 a;subst this;rcases k c l with d | d
  ·exact absurd ((pF o c).2 d) h
  ·rw[d]at g;cases g
theorem RH(a:o≠[])(h:o.getD 0 ⟨#[]⟩∉f):dZ f x o≠[]:=by
 cases o with
 | nil=>exact absurd rfl a
 | cons b r =>
  unfold dZ vp;rw[UI,TH (fun o=>h ((pF f b).1 o))];simp
def vI(P:List di):Nat->Xv->Prop
 | b,[]=>b=0
 | b,k :: K=>b=k+1/\∃c:Nat,dP P k=(c:Int)/\vI P c K
theorem zK(n:Nat):∀b K,vI k b K->n<=K.length->∃c:Nat,oA (dP k) n b=(c:Int)/\vI k c (K.drop n)/\∀a,vw (dP k) n b a=(K.take n).reverse++a:=by
 induction n with
 | zero=>intro b K h _;exact⟨b,rfl,h,fun a=>rfl⟩
 | succ n m =>
  intro b K h e;cases K with
  | nil=>simp at e
  | cons o K =>
   obtain⟨rfl,c,d,l⟩:=h;obtain⟨f,g,i,j⟩:=m c K l (by simpa using e);refine⟨f,?_,i,fun a=>?_⟩
   ·rw[oA,TH (by omega),UZ,d,TH (by omega),UF];exact g
   ·rw[vw,UZ,d,UF,j,Xd,Xx,Vj];rfl
theorem MA(n:Nat):∀b K,vI k b K->K.length<n->oA (dP k) n b=-1:=by
 induction n with
 | zero=>intro b K _ h;omega
 | succ n f =>
  intro b K h e;cases K with
  | nil=>rw[oA,TJ (show b=0 from h)]
  | cons g K =>
   obtain⟨rfl,c,d,a⟩:=h;rw[oA,TH (by omega),UZ,d,TH (by omega),UF];exact f c K a (by simpa using e)
def EY(l:List St)(a n:Nat):Prop:=∃s,l[n]?=some s/\(s.Yd==1)=false/\fD l n a=true
def Sb(l:List St)(a i:Nat)(s:kD):Prop:=(s.Yd=3/\s.XN<i)∨(s.Yd=2/\EY l a s.XN)
abbrev zn (T:List Tk) (S:List Sm) (N:Nat):List ByteArray:=bL T S (a8 T S N) (a8 T S N).length
structure SL(T:List Tk)(S:List Sm)(l:List St)(a A:Nat)(Va:Xt)(ms:List Bool):Prop where
 ap:∀i j,i<Va.length->j<Va.length->fG Va.length ms i j=ew T S (Va.getD i ⟨#[]⟩) (Va.getD j ⟨#[]⟩) A
 inn:∀x∈Va,iG T S x A=true
 ats:∀n,n<l.length->nI l n=aA (aq S (aw S n)).k
 sy:∀n,n<l.length->(l.getD n zu).XM=bb T S (aw S n)
 hy:∀n,n<l.length->nI l n=true->SU T S l (aO l n)/\(aO l n).map (aw S)=a8 T S (aw S n)
 vs:∀n,n<l.length->nI l n=true->Jj (zn T S (aw S n))/\fU T S (a8 T S (aw S n)) (a8 T S (aw S n)).length=zn T S (aw S n)
 apN:∀n,n<l.length->nI l n=true->∀i j,i<(zn T S (aw S n)).length->j<(zn T S (aw S n)).length->fG (zn T S (aw S n)).length (go l n (zn T S (aw S n))) i j=ew T S ((zn T S (aw S n)).getD i ⟨#[]⟩) ((zn T S (aw S n)).getD j ⟨#[]⟩) (aw S n)
 ne:∀n,EY l a n->bb T S (aw S n)≠[]
 vi:∀n,EY l a n->nI l n=false->OT T S A Va (bb T S (aw S n))
 va:∀n,EY l a n->nI l n=true->(∀y∈bb T S (aw S n),y∈zn T S (aw S n)∨iG T S y A=false)/\(bb T S (aw S n)).getD 0 ⟨#[]⟩∉zn T S (aw S n)
def SG(T:List Tk)(S:List Sm)(A:Nat)(Va:Xt)(x:Xt):Prop:=x.length<=32/\x≠[]/\OT T S A Va x
section
variable {T:List Tk} {S:List Sm} {l:List St} {a A:Nat} {Va:Xt} {ms:List Bool} {M:List Xt} {K:Xv}
theorem EY.lt(h:EY l a b):b<l.length:=by
 obtain⟨s,h,-⟩:=h;exact(TT.1 h).1
theorem BK{w:Int}(h:gI l Va ms M x H=((w,f),z0))(a:(w==0)=false):(km l Va ms (M,x) H).1=w:=by
 unfold km;simp only;rw[h,TH (by simp only;rw[a];simp)]
theorem yh(h:gI l Va ms M x H=((0,f),z0)):km l Va ms (M,x) H=if f.length<=32 then(0,M++[f],z0++[f]) else(10,(M,x)):=by
 unfold km;simp only;rw[h,TJ (by rfl)]
theorem Iw(a:M.length=b)(c:t<b):M.getD t []∈M:=by
 rw[TG,TF (by omega)];exact Ue _
theorem Qp(Y:SL T S l a A Va ms)(hP:bN k b=rs T S H)(hg:Sb l a b H)(hM:M.length=b)(hI:∀x∈M,SG T S A Va x)(hC:vI k b K)(hK:∀ai∈K,ai<b) :
  (((iD T S A k b M).2==0)=false->(km l Va ms (M,K.reverse.map (fun q=>M.getD q [])) H).1=(iD T S A k b M).2) /\
  (((iD T S A k b M).2==0)=true->km l Va ms (M,K.reverse.map (fun q=>M.getD q [])) H=(0,M++[(iD T S A k b M).1],(K.drop (bN k b).need).reverse.map (fun q=>M.getD q [])++[(iD T S A k b M).1])/\SG T S A Va (iD T S A k b M).1/\(bN k b).need<=K.length):=by
 rcases hg with ⟨k3,z⟩ | ⟨k2,z⟩
 ·have e:bN k b=⟨-2,H.XN,0,H.at_.Yi,H.at_.Yj,H.at_.Yk⟩:=by rw[hP];unfold rs;rw[k3,TH (by omega),TH (by omega)]
  have u:iD T S A k b M=(M.getD H.XN [],0):=by unfold iD;rw[e,TJ rfl]
  have d:gI l Va ms M (K.reverse.map (fun q=>M.getD q [])) H=((0,M.getD H.XN []),K.reverse.map (fun q=>M.getD q [])):=by
   unfold gI;rw[k3,TJ (by rfl),TJ (by omega)]
  have w:=hI _ (Iw hM z);rw[u,yh d,TJ w.1,e];exact⟨fun h=>(by cases h),fun _=>⟨rfl,w,Up _⟩⟩
 ·have G:=z.lt;have e:bN k b=⟨(aw S H.XN:Nat),0,gM T S (aw S H.XN:Nat),H.at_.Yi,H.at_.Yj,H.at_.Yk⟩:=by rw[hP];unfold rs;rw[k2,TH (by omega),TJ rfl]
  have hk:(H.Yd==3)=false:=by rw[k2];rfl
  have g:=Y.ats H.XN G;have N:=Y.sy H.XN G;have I:=Y.ne H.XN z;have L:¬((aw S H.XN:Nat):Int)=-2:=by omega
  have J:¬((aw S H.XN:Nat):Int)<0:=by omega
  cases j:nI l H.XN
  ·have hv:=Y.vi H.XN z j;rw[j]at g;have d:gI l Va ms M (K.reverse.map (fun q=>M.getD q [])) H=((0,bb T S (aw S H.XN)),K.reverse.map (fun q=>M.getD q [])):=by
    unfold gI;rw[hk,TH (by simp),j,TH (by simp),N]
   have u:iD T S A k b M=if 32<(bb T S (aw S H.XN)).length then([],10) else(bb T S (aw S H.XN),0):=by
    unfold iD;rw[e];simp only;rw[TH L,UF,TJ g.symm]
   have i:(bN k b).need=0:=by
    rw[e];simp only;unfold gM;rw[TH J,UF,<-g,TH (by simp)]
   rw[u,yh d,i];by_cases h:32<(bb T S (aw S H.XN)).length
   ·rw[TJ h,TH (by omega)];exact⟨fun _=>rfl,fun h=>by cases h⟩
   ·rw[TH h,TJ (by omega)];exact⟨fun h=>(by cases h),fun _=>⟨rfl,⟨by show(bb T S (aw S H.XN)).length<=32;omega,I,hv⟩,Up _⟩⟩
  ·obtain⟨hy,hH⟩:=Y.hy H.XN G j;obtain⟨ad,X⟩:=Y.vs H.XN G j;have F:=Y.apN H.XN G j;obtain⟨ac,Z⟩:=Y.va H.XN z j;rw[j]at g;have o:(a8 T S (aw S H.XN)).length=(aO l H.XN).length:=(by rw[<-hH,Uh]);have i:(bN k b).need=(aO l H.XN).length:=by
    rw[e];simp only;unfold gM;rw[TH J,UF,TJ g.symm,o]
   have s:=qy k b;rw[i]at s;have v:(K.reverse.map (fun q=>M.getD q [])).length=K.length:=by rw[Uh,List.length_reverse]
   have u:iD T S A k b M=(if dP k b<0 then([],6)
     else if(nL T S A (aw S H.XN) (a8 T S (aw S H.XN)) ((fX k b).map (fun q=>M.getD q [])) (zn T S (aw S H.XN)) (bB S (a8 T S (aw S H.XN)) ((fX k b).map (fun q=>M.getD q [])) (a8 T S (aw S H.XN)).length)==0)=false then([],nL T S A (aw S H.XN) (a8 T S (aw S H.XN)) ((fX k b).map (fun q=>M.getD q [])) (zn T S (aw S H.XN)) (bB S (a8 T S (aw S H.XN)) ((fX k b).map (fun q=>M.getD q [])) (a8 T S (aw S H.XN)).length))
     else if 32<(dZ (zn T S (aw S H.XN)) (bB S (a8 T S (aw S H.XN)) ((fX k b).map (fun q=>M.getD q [])) (a8 T S (aw S H.XN)).length) (bb T S (aw S H.XN))).length then([],10)
     else(dZ (zn T S (aw S H.XN)) (bB S (a8 T S (aw S H.XN)) ((fX k b).map (fun q=>M.getD q [])) (a8 T S (aw S H.XN)).length) (bb T S (aw S H.XN)),0)):=by
    unfold iD;rw[e];simp only;rw[TH L,UF,TH (by rw[<-g];simp)]
   have d:gI l Va ms M (K.reverse.map (fun q=>M.getD q [])) H=(gJ l H.XN Va ms (K.reverse.map (fun q=>M.getD q [])),(K.reverse.map (fun q=>M.getD q [])).take (K.length-(aO l H.XN).length)):=by
    unfold gI;rw[hk,TH (by simp),j,TJ rfl,v]
   by_cases t:K.length<(aO l H.XN).length
   ·rw[MA _ b K hC t]at s;rw[u,TJ (by omega)];have P:gJ l H.XN Va ms (K.reverse.map (fun q=>M.getD q []))=(6,[]):=by unfold gJ;rw[v,TJ t]
    rw[P]at d;exact⟨fun _=>BK d rfl,fun h=>by cases h⟩
   ·obtain⟨c,hc,ag,p⟩:=zK (aO l H.XN).length b K hC (by omega);rw[hc]at s;have m:fX k b=(K.take (aO l H.XN).length).reverse:=by unfold fX;rw[i,p,Uk]
    have hE:(K.reverse.map (fun q=>M.getD q [])).drop (K.length-(aO l H.XN).length)=(fX k b).map (fun q=>M.getD q []):=by
     rw[m,List.reverse_take,List.map_drop]
    have V:((fX k b).map (fun q=>M.getD q [])).length=(aO l H.XN).length:=by
     rw[m,Uh,List.length_reverse,UW];omega
    have r:∀x∈(fX k b).map (fun q=>M.getD q []),SG T S A Va x:=fun x w=>by
     obtain⟨q,B,rfl⟩:=UT.1 w;rw[m]at B;exact hI _ (Iw hM (hK q (Vy (List.mem_reverse.1 B))))
    have O:(K.reverse.map (fun q=>M.getD q [])).take (K.length-(aO l H.XN).length)=(K.drop (aO l H.XN).length).reverse.map (fun q=>M.getD q []):=by
     rw[List.reverse_drop,WU]
    have P:gJ l H.XN Va ms (K.reverse.map (fun q=>M.getD q []))=qw l H.XN Va ms (bb T S (aw S H.XN)) (j4 l (aO l H.XN) ((fX k b).map (fun q=>M.getD q [])) ([],[])):=by
     unfold gJ;rw[v,TH t,hE,N]
    rw[P,O]at d;rw[u,TH (by omega),i];clear u P O hE m p;generalize (fX k b).map (fun q=>M.getD q [])=E at *;obtain⟨Q,R⟩:=Q8 hy V (fun x w=>⟨(r x w).1,(r x w).2.1⟩) (aO l H.XN).length 0 (by omega) rfl;rw[Wr,Wr]at Q R;have z1:bL T S ((aO l H.XN).map (aw S)) 0=[]:=rfl;have z2:bB S ((aO l H.XN).map (aw S)) E 0=[]:=rfl;rw[z1,z2,hH,<-o]at Q R;have U:=NP T S (a8 T S (aw S H.XN)) E (a8 T S (aw S H.XN)).length;have D:∀af∈bB S (a8 T S (aw S H.XN)) E (a8 T S (aw S H.XN)).length,OT T S A Va af:=fun af hb=>by
     unfold bB at hb;obtain⟨q,B,rfl⟩:=UT.1 hb;unfold s9 at B;have B:=TY.1 (Ux.1 B).1;have hm:E.getD q []∈E:=by rw[TG,TF (by omega)];exact Ue _
     exact fun y hy=>(r _ hm).2.2 y (Ws hy)
    have W:=Pv (l:=l) (n:=H.XN) Y.ap Y.inn ad U D F X;unfold nL;unfold qw at d;rw[Q]at d;cases C:(dd (Ab T S (a8 T S (aw S H.XN)) E (zn T S (aw S H.XN)) (bB S (a8 T S (aw S H.XN)) E (a8 T S (aw S H.XN)).length)) (a8 T S (aw S H.XN)).length==0)
    ·rw[C,TH (by simp)]at d;rw[TJ rfl,TJ C];exact⟨fun _=>BK d C,fun h=>by rw[C]at h;cases h⟩
    ·rw[R (by simpa using C),C,TJ rfl,W]at d;simp only at d;rw[TH (show ¬(true=false) by simp)];cases hp:(lp T S (aw S H.XN)).all (LT T S A (zn T S (aw S H.XN)) (bB S (a8 T S (aw S H.XN)) E (a8 T S (aw S H.XN)).length))
     ·rw[hp,TH (by simp)]at d;rw[TH (show ¬(false=true) by simp),TJ (by rfl)];exact⟨fun _=>BK d rfl,fun h=>by cases h⟩
     ·rw[hp,TJ rfl]at d;rw[TJ (show true=true from rfl),TH (show ¬(((0:Int)==0)=false) by simp),yh d];obtain⟨r1,r2⟩:=Ea (zn T S (aw S H.XN)) (bB S (a8 T S (aw S H.XN)) E (a8 T S (aw S H.XN)).length) (bb T S (aw S H.XN));by_cases f:32<(dZ (zn T S (aw S H.XN)) (bB S (a8 T S (aw S H.XN)) E (a8 T S (aw S H.XN)).length) (bb T S (aw S H.XN))).length
      ·rw[TJ f,TH (Nat.not_le.2 (r2 f))];exact⟨fun _=>rfl,fun h=>by cases h⟩
      ·rw[TH f,r1 (Nat.not_lt.1 f),TJ (Nat.not_lt.1 f)];exact⟨fun h=>(by cases h),fun _=>⟨rfl,⟨Nat.not_lt.1 f,RH I Z,Qy D ac⟩,by omega⟩⟩
end
end Go.Proofs.YtnbhnocdhbcbcaaGreat
