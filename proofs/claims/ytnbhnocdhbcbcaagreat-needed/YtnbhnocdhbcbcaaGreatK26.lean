import Derived.Test.YtnbhnocdhbcbcaaGreatK20
import Derived.Test.YtnbhnocdhbcbcaaGreatK25
namespace Go.Proofs.YtnbhnocdhbcbcaaGreat
open Go.RowKit Tryz
open Value IntKind Ending
set_option maxHeartbeats 0
variable{b t:Nat}{f o q:Xt}{c:Xs}{y:List Tk}{w:List Sm}{x z0:List Xt}{r:List Bool}{k:List di}{H:kC}(p:List Tk)(N:List Sm)(g:Xv)(u:Xt)(m:List Xt)(I:Nat)(D v:Xt)(s:List Xt)(L:Xs)
section
variable {T:List Tk} {d:Db}
theorem gy.vars(R:gy T d)(F:RU T (aa T))(q:b<d.XP.length):uI d.XP (aP d.XP b)=fT T (aa T) (a9 T (aa T) (aw (aa T) b)) (a9 T (aa T) (aw (aa T) b)).length:=by
 unfold fT;rw[UN,<-R.hyps F q];unfold uI;have a:∀n∈aP d.XP b,n<d.XP.length:=fun n i=>by
  unfold aP eM at i;exact TF.1 (Uj.1 i).1
 generalize aP d.XP b=L at a
 induction L with
 | nil=>rfl
 | cons n L j =>
  obtain⟨s,r,f,-,g⟩:=R.get (a n (by simp));have p:=R.hel.at_ (a n (by simp));rw[WQ,Vm,Xk];unfold Cg;rw[r];simp only;rw[(cm f).2.1];cases e:((aq (aa T) (aw (aa T) n)).k.toList == [36,102])
  ·rw[To (by simp),To (by simp)];exact j (fun m c=>a m (by simp[c]))
  ·obtain⟨l,o⟩:=F _ p e;have t:aN s=tS T ((aq (aa T) (aw (aa T) n)).h+1):=by
    unfold aN;rw[Tq ⟨by rw[(cm f).2.1];exact e,by rw[g];exact l⟩,g,o]
   rw[Tq rfl,Tq rfl,Vm,<-t];show aN s :: _=_;congr 1;exact j (fun m c=>a m (by simp[c]))
def Je(vs:Xt):Prop:=∀i j,i<j->j<vs.length->((vs.getD i ⟨#[]⟩).toList==(vs.getD j ⟨#[]⟩).toList)=false
theorem Je.ne(h:Je f){i j:Nat}(b:i<f.length)(c:j<f.length)(d:i≠j):((f.getD i ⟨#[]⟩).toList==(f.getD j ⟨#[]⟩).toList)=false:=by
 rcases Nat.lt_or_gt_of_ne d with a | a
 ·exact h i j a c
 ·have:=h j i a b;rw[TT]at this ⊢;exact fun e=>this e.symm
theorem FY(h:Je f)(a:b<f.length)(x:Xs):mE f x=some b ↔ ((f.getD b ⟨#[]⟩).toList==x.toList)=true:=by
 unfold mE;constructor
 ·intro e;have:=Vg e;simpa using this
 ·intro e;rw[WD];refine⟨e,b,by rw[U7];exact a,by rw[Wo],fun j g=>?_⟩;rw[Wo];have:=h.ne (i:=j) (j:=b) (by omega) a (by omega);simp only[Bool.not_eq_true',beq_eq_false_iff_ne];rw[TT]at this;intro c;have d:(f.getD b ⟨#[]⟩).toList=x.toList:=by simpa using e
  exact this (c.trans d.symm)
theorem wN(h:Je f)(d:b<f.length)(g:Xt):(bM f g).contains b=aK g (f.getD b ⟨#[]⟩):=by
 unfold bM aK;rw[UK,VM,VL,Us];constructor
 ·rintro ⟨x,c,e⟩;have:=(FY h d x).1 e;refine⟨x,c,?_⟩;have a:(f.getD b ⟨#[]⟩).toList=x.toList:=by simpa using this
  rw[a];exact WE _
 ·rintro ⟨x,c,e⟩;refine⟨x,c,(FY h d x).2 ?_⟩;have a:x.toList=(f.getD b ⟨#[]⟩).toList:=by simpa using e
  rw[a];exact WE _
theorem gy.tog(R:gy T d)(r:b<d.XP.length)(h:Je f){j:Nat}(A:t<f.length)(w:j<f.length)(v:t<j):yR d.XP b f d.XP.length t j=ew T (aa T) (f.getD t ⟨#[]⟩) (f.getD j ⟨#[]⟩) (aw (aa T) b):=by
 have D:=R.hel.len;have E:=R.hel.at_ r;have x:=h t j v w;unfold yR ew;rw[UK,Us,Us];constructor
 ·rintro ⟨n,a,e⟩;have a:=TF.1 a;obtain⟨s,m,l,-,C⟩:=R.get a;simp only[Bool.and_eq_true]at e;obtain⟨⟨c,o⟩,p⟩:=e;rw[wN h A,R.symsAt a]at o;rw[wN h w,R.symsAt a]at p;unfold tP at c;rw[m]at c;simp only[Bool.and_eq_true]at c;have z:((aq (aa T) (aw (aa T) n)).k.toList == [36,100])=true:=by rw[<-(cm l).2.2.1];exact c.1
  have i:oA s.XS=false:=by rw[(cm l).2.2.2,cG z,cG z];decide
  have u:=c.2;rw[R.held m i r,TM]at u;refine⟨aw (aa T) n,TF.2 (Xd u.1),?_⟩;unfold QB;rw[z,x,o,p,u.2];rfl
 ·rintro ⟨q,y,e⟩;have y:=TF.1 y;unfold QB at e;simp only[Bool.and_eq_true]at e;obtain⟨c,-,o,p,B⟩:=e;have g:q∈lE (aa T):=Uj.2 ⟨TF.2 (by omega),by unfold kE;rw[c];simp⟩;rw[un]at g;obtain⟨n,a,rfl⟩:=UF.1 g;have a:n<d.XP.length:=by rw[D];exact TF.1 a
  obtain⟨s,m,l,-,C⟩:=R.get a;have i:oA s.XS=false:=by rw[(cm l).2.2.2,cG c,cG c];decide
  refine⟨n,TF.2 a,?_⟩;rw[wN h A,wN h w,R.symsAt a,o,p];unfold tP;rw[m];simp only;rw[(cm l).2.2.1,c,R.held m i r,B,UQ y];rfl
theorem rV.vsd(F:rV d):Je (uI d.XP (aP d.XP b)):=by
 have E:(aP d.XP b).Pairwise (fun n m=>n<m/\n∈aP d.XP b/\m∈aP d.XP b):=by
  have h:(aP d.XP b).Pairwise (· < ·):=WJ _ VZ;exact h.imp_of_mem (fun z A B=>⟨B,z,A⟩)
 have G:(uI d.XP (aP d.XP b)).Pairwise (fun x y=>(x.toList==y.toList)=false):=by
  unfold uI;refine List.Pairwise.filterMap _ (fun n m h x a y H=>?_) E;obtain⟨r,o,D⟩:=h;have l:∀n x,n∈aP d.XP b->Cg d.XP n=some x->∃s,d.XP[n]?=some s/\s.XS=2/\x=vr s/\fD d.XP n b=true:=fun n x o a=>by
   unfold Cg at a;cases g:d.XP[n]? with
   | none=>rw[g]at a;cases a
   | some s =>
    rw[g]at a;simp only at a;split at a
    ·next k =>
     have w:s.XS=2:=(by simpa using k);have C:=F.fl n s g w;have e:aN s=vr s:=(by unfold aN vr;rw[Tq ⟨k,C⟩]);refine⟨s,rfl,w,by rw[<-e];cases a;rfl,?_⟩;unfold aP eM at o;have:=(Uj.1 o).2;unfold nK at this;rw[g]at this;simp only[Bool.and_eq_true]at this;exact this.1
    ·cases a
  obtain⟨s,g,I,rfl,c⟩:=l n x o a;obtain⟨u,v,J,rfl,f⟩:=l m y D H;refine F.ds n m s u g v I J r ?_;unfold fD at c f;rw[g]at c;rw[v]at f;simp only[Bool.and_eq_true,Bool.or_eq_true,decide_eq_true_eq]at c f;rcases c.2 with q | q
  ·left;simpa using q
  ·right;have:=f.1;omega
 intro i j p t;have:=VN.1 G i j (by omega) t p;rw[Tn,Tn,Tm t,Tm (by omega)];exact this
end
theorem uQ{y:Xs}(h:c.toList=y.toList):c=y:=by
 apply Xg;apply Wf.1;rw[<-Un,<-Un,h]
theorem xe(y:Xs):(L.toList==y.toList)=true ↔ L=y:=⟨fun h=>uQ (by simpa using h),fun h=>by rw[h];simp⟩
theorem Iq:aK v L=true ↔ L∈v:=by
 unfold aK;rw[Us];exact⟨fun⟨y,hy,e⟩=>(xe y L).1 e ▸ hy,fun h=>⟨L,h,by simp⟩⟩
theorem JQ{F G:Xs->Xt}(h:∀x∈f,F x=G x):f.flatMap F=f.flatMap G:=by
 rw[VP,VP,VG h]
theorem Du(A:Xt):∀B:Xt,A.map (·.toList)=B.map (·.toList)->A=B:=by
 induction A with
 | nil =>
  intro B h;cases B with
  | nil=>rfl
  | cons y B=>cases h
 | cons x A c =>
  intro B h;cases B with
  | nil=>cases h
  | cons y B =>
   obtain⟨a,b⟩:=Xx h;rw[uQ a,c B b]
theorem tQ:zl D v=true ↔ D=v:=by
 unfold zl;rw[U9];exact⟨Du D v,fun h=>by rw[h]⟩
theorem yG:lr D v=true ↔ D=v:=by
 unfold lr;rw[TM,Uv];constructor
 ·rintro ⟨a,c⟩;have a:D.length=v.length:=by simpa using a
  apply WB a;intro i b d;have:=c i (TF.2 b);unfold Gl at this;rw[xe,Tn,Tn,Tm b,Tm d]at this;exact this
 ·rintro rfl;exact⟨by simp,fun i _=>by unfold Gl;simp⟩
theorem N4:lr D v=zl D v:=by
 rw[UK,yG,tQ]
theorem wO:mE v L=if ni v L<v.length then some (ni v L) else none:=by
 unfold mE;split
 ·next h =>
  rw[US];refine⟨?_,TF.2 h,fun j a=>?_⟩
  ·rw[Tn,Tm h];exact List.findIdx_getElem (p:=fun y:Xs=>y.toList==L.toList) (w:=h)
  ·have:=List.not_of_lt_findIdx (p:=fun y:Xs=>y.toList==L.toList) (xs:=v) (i:=j) a;rw[Tn,Tm (by unfold ni at h a;omega)];simpa using this
 ·next h =>
  rw[UD];intro j a e;apply h;unfold ni;rw[List.findIdx_lt_length];have a:=TF.1 a;refine⟨v[j],TO a,?_⟩;rw[Tn,Tm a]at e;exact e
theorem pE:ni v L<v.length ↔ L∈v:=by
 unfold ni;rw[List.findIdx_lt_length];exact⟨fun⟨y,hy,e⟩=>(xe y L).1 e ▸ hy,fun h=>⟨L,h,by simp⟩⟩
theorem OW:AW v s L=vp v s L:=by
 unfold AW vp;rw[wO];by_cases h:ni v L<v.length
 ·rw[Tq h,Tq h]
 ·rw[To h,To h]
theorem Gh(e:Xt):∀a,((a++dZ v s e).length<=32->jH v s e a=a++dZ v s e)/\(32<(a++dZ v s e).length->32<(jH v s e a).length):=by
 induction e with
 | nil=>intro a;rw[jH];unfold dZ;rw[WA,TV];exact⟨fun _=>rfl,id⟩
 | cons x r c =>
  intro a;have e:a++dZ v s (x :: r)=a++AW v s x++dZ v s r:=by
   unfold dZ;rw[Uu,OW,U4]
  rw[jH,e];split
  ·exact c _
  ·next h=>exact⟨fun b=>by rw[Tu,Tu]at b;omega,fun _=>by omega⟩
theorem DU:((dZ u m v).length<=32->mG u m v=dZ u m v)/\(32<(dZ u m v).length->32<(mG u m v).length):=by
 have:=Gh u m v [];rw[V3]at this;exact this
theorem QZ(c:v.length<=32):zl (mG u m D) v=lr (dZ u m D) v:=by
 rw[N4];obtain⟨b,a⟩:=DU u m D;by_cases h:(dZ u m D).length<=32
 ·rw[b h]
 ·have a:=a (by omega);rw[UK,tQ,tQ];exact⟨fun D=>by rw[D]at a;omega,fun D=>by rw[D]at h;omega⟩
theorem M3(h:L∈D):ni (D++v) L=ni D L:=by
 have:=(pE D L).2 h;unfold ni at this ⊢;rw[List.findIdx_append,Tq this]
theorem Kz(C:List Xt)(c:s.length=D.length)(x:Xs)(h:x∈D++v->x∈D):vp (D++v) (s++C) x=vp D s x:=by
 unfold vp;by_cases a:x∈D
 ·have b:=(pE D x).2 a;rw[M3 D v x a,Tq (by rw[Tu];omega),Tq b,Tn,Tn,TP (by omega)]
 ·rw[To (fun e=>a (h ((pE _ x).1 e))),To (fun e=>a ((pE D x).1 e))]
theorem IL:sZ N g (I+1)=sZ N g I++(if si N g I=true then [I] else []):=by
 unfold sZ;rw[UT,UH];congr 1;cases h:si N g I <;> simp[h]
theorem qO:bL p N g (I+1)=bL p N g I++(if si N g I=true then [(bb p N (g.getD I 0)).getD 1 ⟨#[]⟩] else []):=by
 unfold bL;rw[IL,Ug];split <;> rfl
theorem vZ:bu N g m (I+1)=bu N g m I++(if si N g I=true then [(m.getD I []).drop 1] else []):=by
 unfold bu;rw[IL,Ug];split <;> rfl
theorem NM:(bu N g m I).length=(bL p N g I).length:=by unfold bu bL;rw[TR,TR]
theorem Rv(n:Nat)(h:I<=n):∃W C,bL p N g n=bL p N g I++W/\bu N g m n=bu N g m I++C:=by
 obtain⟨a,rfl⟩:∃a,n=I+a:=⟨n-I,by omega⟩
 clear h
 induction a with
 | zero=>exact⟨[],[],(TV _).symm,(TV _).symm⟩
 | succ a d =>
  obtain⟨W,C,b,c⟩:=d;rw[<-V5,qO,vZ,b,c,U4,U4];exact⟨_,_,rfl,rfl⟩
structure SB(T:List Tk)(S:List Sm)(l:List St)(hs:Xv):Prop where
 kd:∀i,i<hs.length->((l.getD (hs.getD i 0) zs).XS==3)=!(si S (hs.map (aw S)) i)
 sy:∀i,i<hs.length->(l.getD (hs.getD i 0) zs).Xy=bb T S ((hs.map (aw S)).getD i 0)
 vr:∀i,i<hs.length->si S (hs.map (aw S)) i=true->aN (l.getD (hs.getD i 0) zs)=(bb T S ((hs.map (aw S)).getD i 0)).getD 1 ⟨#[]⟩
 pre:∀i,i<hs.length->si S (hs.map (aw S)) i=false->∀x∈bb T S ((hs.map (aw S)).getD i 0),x∈bL T S (hs.map (aw S)) hs.length->x∈bL T S (hs.map (aw S)) i
theorem Q1{l:List St}{a:Xv}(H:SB y w l a)(R:x.length=a.length)(s:∀e∈x,e.length<=32/\e≠[])(m:Nat) :
  ∀k,k+m=a.length->dd (Aa y w (a.map (aw w)) x (bL y w (a.map (aw w)) a.length) (bu w (a.map (aw w)) x a.length)) k=0 ->
  (jZ l (a.drop k) (x.drop k) (bL y w (a.map (aw w)) k,bu w (a.map (aw w)) x k)).1=dd (Aa y w (a.map (aw w)) x (bL y w (a.map (aw w)) a.length) (bu w (a.map (aw w)) x a.length)) a.length /\
  (dd (Aa y w (a.map (aw w)) x (bL y w (a.map (aw w)) a.length) (bu w (a.map (aw w)) x a.length)) a.length=0->(jZ l (a.drop k) (x.drop k) (bL y w (a.map (aw w)) k,bu w (a.map (aw w)) x k)).2=(bL y w (a.map (aw w)) a.length,bu w (a.map (aw w)) x a.length)):=by
 induction m with
 | zero =>
  intro k t o;rw[Vd]at t;subst t;rw[WC,jZ]
  ·exact⟨o.symm,fun _=>rfl⟩
  ·intro h a e Q p;cases p
 | succ m P =>
  intro k t o;have b:k<a.length:=by omega
  have c:k<x.length:=by omega
  have F:=s x[k] (TO c);have J:a.getD k 0=a[k]:=by rw[Tn,Tm b];rfl
  have E:x.getD k []=x[k]:=by rw[Tn,Tm c];rfl
  have d:=H.kd k b;have g:=H.sy k b;have n:=H.vr k b;have j:=H.pre k b;rw[J]at d g n;have B:∀(f:Int) (q:OO),lU (l.getD a[k] zs) x[k] (bL y w (a.map (aw w)) k,bu w (a.map (aw w)) x k)=(f,q)->Aa y w (a.map (aw w)) x (bL y w (a.map (aw w)) a.length) (bu w (a.map (aw w)) x a.length) k=f->(f=0->q=(bL y w (a.map (aw w)) (k+1),bu w (a.map (aw w)) x (k+1))) ->
   (jZ l (a.drop k) (x.drop k) (bL y w (a.map (aw w)) k,bu w (a.map (aw w)) x k)).1=dd (Aa y w (a.map (aw w)) x (bL y w (a.map (aw w)) a.length) (bu w (a.map (aw w)) x a.length)) a.length /\
   (dd (Aa y w (a.map (aw w)) x (bL y w (a.map (aw w)) a.length) (bu w (a.map (aw w)) x a.length)) a.length=0->(jZ l (a.drop k) (x.drop k) (bL y w (a.map (aw w)) k,bu w (a.map (aw w)) x k)).2=(bL y w (a.map (aw w)) a.length,bu w (a.map (aw w)) x a.length)):=fun f q M u L=>by
   rw[TU b,TU c,jZ,M];by_cases h:f=0
   ·rw[Tq (by rw[h];rfl),L h];apply P (k+1) (by omega);rw[dd,o,Tq (by rfl),u,h]
   ·have G:(f==0)=false:=TT.2 h;have O:=nf o (by rw[u];exact G) b;rw[O,u,To (by rw[G];simp)];exact⟨rfl,fun e=>absurd e h⟩
  have i:lU (l.getD a[k] zs) x[k] (bL y w (a.map (aw w)) k,bu w (a.map (aw w)) x k)=(if((l.getD a[k] zs).XS==3)=true then(if zl (mG (bL y w (a.map (aw w)) k) (bu w (a.map (aw w)) x k) (l.getD a[k] zs).Xy) x[k]=true then(0,(bL y w (a.map (aw w)) k,bu w (a.map (aw w)) x k)) else(8,(bL y w (a.map (aw w)) k,bu w (a.map (aw w)) x k)))
   else if((x[k].getD 0 ⟨#[]⟩).toList==(je (l.getD a[k] zs)).toList)=true then(0,(bL y w (a.map (aw w)) k++[aN (l.getD a[k] zs)],bu w (a.map (aw w)) x k++[x[k].drop 1])) else(7,(bL y w (a.map (aw w)) k,bu w (a.map (aw w)) x k))):=by
   unfold lU;split
   ·rfl
   ·have:=F.2;generalize x[k]=e at this;cases e with
    | nil=>exact absurd rfl this
    | cons D r=>rfl
  have v:Aa y w (a.map (aw w)) x (bL y w (a.map (aw w)) a.length) (bu w (a.map (aw w)) x a.length) k=(if si w (a.map (aw w)) k=true then(if((x[k].getD 0 ⟨#[]⟩).toList==((bb y w ((a.map (aw w)).getD k 0)).getD 0 ⟨#[]⟩).toList)=true then 0 else 7) else if lr (dZ (bL y w (a.map (aw w)) a.length) (bu w (a.map (aw w)) x a.length) (bb y w ((a.map (aw w)).getD k 0))) x[k]=true then 0 else 8):=by
   unfold Aa;rw[E]
  refine B (lU (l.getD a[k] zs) x[k] (bL y w (a.map (aw w)) k,bu w (a.map (aw w)) x k)).1 (lU (l.getD a[k] zs) x[k] (bL y w (a.map (aw w)) k,bu w (a.map (aw w)) x k)).2 rfl ?_ ?_
  ·rw[i,v,d];cases z:si w (a.map (aw w)) k
   ·have N:dZ (bL y w (a.map (aw w)) a.length) (bu w (a.map (aw w)) x a.length) (bb y w ((a.map (aw w)).getD k 0))=dZ (bL y w (a.map (aw w)) k) (bu w (a.map (aw w)) x k) (bb y w ((a.map (aw w)).getD k 0)):=by
     obtain⟨W,C,p,K⟩:=Rv y w (a.map (aw w)) x k a.length (by omega);have I:=j z;rw[p]at I;rw[p,K];unfold dZ;apply JQ;intro D A;exact Kz _ _ _ _ (NM y w _ _ _) D (I D A)
    rw[To (show ¬(false=true) by simp),Tq (show(!false)=true from rfl),N,g,QZ _ _ _ _ F.1];split <;> rfl
   ·rw[Tq rfl,To (show ¬((!true)=true) by simp)];unfold je;rw[g];split <;> rfl
  ·rw[i,d,qO,vZ,E];cases z:si w (a.map (aw w)) k
   ·rw[Tq (show(!false)=true from rfl)];split
    ·intro _;simp
    ·intro h;cases h
   ·rw[To (show ¬((!true)=true) by simp)];split
    ·intro _;rw[Tq rfl,Tq rfl,n z]
    ·intro h;cases h
theorem uh(X:Xt):∀a p,p∈oD v X a ↔ p∈a∨∃x∈X,mE v x=some p:=by
 induction X with
 | nil=>intro a p;rw[oD];simp
 | cons x r g =>
  intro a p;rw[oD];cases e:mE v x with
  | none =>
   simp only;rw[g];constructor
   ·rintro (h | ⟨y,b,h⟩)
    ·exact TG h
    ·exact TA ⟨y,Uc _ b,h⟩
   ·rintro (h | ⟨y,b,h⟩)
    ·exact TG h
    ·rcases Ua.1 b with rfl | b
     ·rw[e]at h;cases h
     ·exact TA ⟨y,b,h⟩
  | some q =>
   simp only;have d:∀c,(p∈c ↔ p∈a∨p=q)->(p∈oD v r c ↔ p∈a∨∃y∈x :: r,mE v y=some p):=fun c j=>by
    rw[g,j];constructor
    ·rintro ((h | h) | ⟨y,b,h⟩)
     ·exact TG h
     ·exact TA ⟨x,Ud,by rw[e,h]⟩
     ·exact TA ⟨y,Uc _ b,h⟩
    ·rintro (h | ⟨y,b,h⟩)
     ·exact TG (TG h)
     ·rcases Ua.1 b with rfl | b
      ·rw[e]at h;exact TG (TA (UP h).symm)
      ·exact TA ⟨y,b,h⟩
   split
   ·next f =>
    refine d a ⟨TG,fun h=>?_⟩;rcases h with h | h
    ·exact h
    ·unfold jx at f;obtain⟨y,b,i⟩:=Us.1 f;have:y=q:=(by simpa using i);rw[h,<-this];exact b
   ·exact d (a++[q]) (by simp)
theorem wM(h:mE f c=some b):b<f.length/\f.getD b ⟨#[]⟩=c:=by
 rw[wO]at h;split at h
 ·next a =>
  have e:ni f c=b:=UP h;refine⟨by omega,?_⟩;have:=List.findIdx_getElem (p:=fun y:Xs=>y.toList==c.toList) (xs:=f) (w:=a);rw[<-e,Tn,Tm a];exact(xe _ _).1 this
 ·cases h
theorem NE(h:c∈f):∃p,mE f c=some p:=⟨ni f c,by rw[wO,Tq ((pE f c).2 h)]⟩
theorem MS(h:b<f.length):f.getD b ⟨#[]⟩∈f:=by
 rw[Tn,Tm h];exact TO h
def OP(T:List Tk)(S:List Sm)(A:Nat)(Va:Xt)(x:Xt):Prop:=∀y∈x,iE T S y A=true->y∈Va
theorem Me(k:∀i j,i<f.length->j<f.length->fG f.length r i j=ew y w (f.getD i ⟨#[]⟩) (f.getD j ⟨#[]⟩) b)(l:∀x∈f,iE y w x b=true)(C:OP y w b f o)(D:OP y w b f q) :
  wl f.length r (jT f o) (jT f q)=qz y w b o q:=by
 unfold wl qz kV;rw[UK,Uv,Uv];constructor
 ·intro h x E;obtain⟨v,A⟩:=Uj.1 E;unfold Bc;rw[Uv];intro g F;obtain⟨z,B⟩:=Uj.1 F;obtain⟨p,a⟩:=NE (C x v A);obtain⟨e,c⟩:=NE (D g z B);have d:=h p ((uh f o [] p).2 (TA ⟨x,v,a⟩));rw[Uv]at d;have m:=d e ((uh f q [] e).2 (TA ⟨g,z,c⟩));obtain⟨n,s⟩:=wM a;obtain⟨t,u⟩:=wM c;rw[k p e n t,s,u]at m;exact m
 ·intro h p a;rw[Uv];intro e c;rcases(uh f o [] p).1 a with a | ⟨x,v,a⟩
  ·cases a
  rcases(uh f q [] e).1 c with c | ⟨g,z,c⟩
  ·cases c
  obtain⟨n,s⟩:=wM a;obtain⟨t,u⟩:=wM c;have A:iE y w x b=true:=l x (by rw[<-s];exact MS n);have B:iE y w g b=true:=l g (by rw[<-u];exact MS t);have d:=h x (Uj.2 ⟨v,A⟩);unfold Bc at d;rw[Uv]at d;have m:=d g (Uj.2 ⟨z,B⟩);rw[k p e n t,s,u];exact m
theorem wP(c:Je f)(B:List Xt)(d:b<f.length):dZ f B [f.getD b ⟨#[]⟩]=B.getD b []:=by
 have a:mE f (f.getD b ⟨#[]⟩)=some b:=(FY c d _).2 (by simp);rw[wO]at a;unfold dZ vp;rw[Uu,WA,TV];split at a
 ·next h=>rw[Tq h,UP a]
 ·cases a
theorem Pq{l:List St}{n:Nat}(m:∀i j,i<f.length->j<f.length->fG f.length r i j=ew y w (f.getD i ⟨#[]⟩) (f.getD j ⟨#[]⟩) t)(q:∀E∈f,iE y w E t=true)(s:Je o)(F:x.length=o.length)(v:∀A∈x,OP y w t f A)(g:∀i j,i<o.length->j<o.length->fG o.length (gK l n o) i j=ew y w (o.getD i ⟨#[]⟩) (o.getD j ⟨#[]⟩) b)(B:fT y w (a9 y w b) (a9 y w b).length=o) :
  xQ l n (o,x) f r=(lX y w b).all (LP y w t o x):=by
 have d:∀i,OP y w t f (x.getD i []):=fun i=>by
  by_cases h:i<x.length
  ·rw[Tn,Tm h];exact v _ (TO h)
  ·rw[Tn,Um (by omega)];intro G C;cases C
 unfold xQ lX;rw[B];rw[UK,decide_eq_true_iff,Uv];constructor
 ·intro h p u;unfold lM kH at u;obtain⟨i,a,u⟩:=VJ.1 u;obtain⟨j,c,rfl⟩:=UF.1 u;obtain⟨D,z⟩:=Uj.1 c;have a:=TF.1 a;have c:=TF.1 D;rw[TM]at z;have k:=Xd z.1;have:=h i a j c k;unfold qe at this;simp only at this;rw[g i j a c,z.2,Wl,UM,Me m q (d i) (d j)]at this;unfold LP;simp only;rw[wP s x a,wP s x c];exact this
 ·intro h i a j c k;have a:i<o.length:=a;have c:j<o.length:=c;unfold qe;simp only;rw[g i j a c,Me m q (d i) (d j)];cases e:ew y w (o.getD i ⟨#[]⟩) (o.getD j ⟨#[]⟩) b
  ·rfl
  ·have:=h (o.getD i ⟨#[]⟩,o.getD j ⟨#[]⟩) (by
    unfold lM kH;refine VJ.2 ⟨i,TF.2 a,UF.2 ⟨j,Uj.2 ⟨TF.2 c,?_⟩,rfl⟩⟩;rw[UQ k,e];rfl)
   unfold LP at this;simp only at this;rw[wP s x a,wP s x c]at this;rw[this];rfl
theorem Qv(e:∀j∈x,OP y w b f j)(k:∀c∈q,c∈o∨iE y w c b=false):OP y w b f (dZ o x q):=by
 intro c a g;unfold dZ at a;obtain⟨i,l,a⟩:=VJ.1 a;unfold vp at a;split at a
 ·by_cases h:ni o i<x.length
  ·rw[Tn,Tm h]at a;exact e _ (TO h) c a g
  ·rw[Tn,Um (by omega)]at a;cases a
 ·next h =>
  have:c=i:=TH.1 a;subst this;rcases k c l with d | d
  ·exact absurd ((pE o c).2 d) h
  ·rw[d]at g;cases g
theorem Rt(a:o≠[])(h:o.getD 0 ⟨#[]⟩∉f):dZ f x o≠[]:=by
 cases o with
 | nil=>exact absurd rfl a
 | cons b r =>
  unfold dZ vp;rw[Uu,To (fun o=>h ((pE f b).1 o))];simp
def vI(P:List di):Nat->Xv->Prop
 | b,[]=>b=0
 | b,k :: K=>b=k+1/\∃c:Nat,dP P k=(c:Int)/\vI P c K
theorem zJ(n:Nat):∀b K,vI k b K->n<=K.length->∃c:Nat,ox (dP k) n b=(c:Int)/\vI k c (K.drop n)/\∀a,vw (dP k) n b a=(K.take n).reverse++a:=by
 induction n with
 | zero=>intro b K h _;exact⟨b,rfl,h,fun a=>rfl⟩
 | succ n m =>
  intro b K h e;cases K with
  | nil=>simp at e
  | cons o K =>
   obtain⟨rfl,c,d,l⟩:=h;obtain⟨f,g,i,j⟩:=m c K l (by simpa using e);refine⟨f,?_,i,fun a=>?_⟩
   ·rw[ox,To (by omega),UL,d,To (by omega),Uq];exact g
   ·rw[vw,UL,d,Uq,j,WP,Xe,U4];rfl
theorem My(n:Nat):∀b K,vI k b K->K.length<n->ox (dP k) n b=-1:=by
 induction n with
 | zero=>intro b K _ h;omega
 | succ n f =>
  intro b K h e;cases K with
  | nil=>rw[ox,Tq (show b=0 from h)]
  | cons g K =>
   obtain⟨rfl,c,d,a⟩:=h;rw[ox,To (by omega),UL,d,To (by omega),Uq];exact f c K a (by simpa using e)
def EO(l:List St)(a n:Nat):Prop:=∃s,l[n]?=some s/\(s.XS==1)=false/\fD l n a=true
def RV(l:List St)(a i:Nat)(s:kC):Prop:=(s.XS=3/\s.Xz<i)∨(s.XS=2/\EO l a s.Xz)
abbrev zm (T:List Tk) (S:List Sm) (N:Nat):List ByteArray:=bL T S (a9 T S N) (a9 T S N).length
structure Sw(T:List Tk)(S:List Sm)(l:List St)(a A:Nat)(Va:Xt)(ms:List Bool):Prop where
 ap:∀i j,i<Va.length->j<Va.length->fG Va.length ms i j=ew T S (Va.getD i ⟨#[]⟩) (Va.getD j ⟨#[]⟩) A
 inn:∀x∈Va,iE T S x A=true
 ats:∀n,n<l.length->nI l n=aA (aq S (aw S n)).k
 sy:∀n,n<l.length->(l.getD n zs).Xy=bb T S (aw S n)
 hy:∀n,n<l.length->nI l n=true->SB T S l (aP l n)/\(aP l n).map (aw S)=a9 T S (aw S n)
 vs:∀n,n<l.length->nI l n=true->Je (zm T S (aw S n))/\fT T S (a9 T S (aw S n)) (a9 T S (aw S n)).length=zm T S (aw S n)
 apN:∀n,n<l.length->nI l n=true->∀i j,i<(zm T S (aw S n)).length->j<(zm T S (aw S n)).length->fG (zm T S (aw S n)).length (gK l n (zm T S (aw S n))) i j=ew T S ((zm T S (aw S n)).getD i ⟨#[]⟩) ((zm T S (aw S n)).getD j ⟨#[]⟩) (aw S n)
 ne:∀n,EO l a n->bb T S (aw S n)≠[]
 vi:∀n,EO l a n->nI l n=false->OP T S A Va (bb T S (aw S n))
 va:∀n,EO l a n->nI l n=true->(∀y∈bb T S (aw S n),y∈zm T S (aw S n)∨iE T S y A=false)/\(bb T S (aw S n)).getD 0 ⟨#[]⟩∉zm T S (aw S n)
def Su(T:List Tk)(S:List Sm)(A:Nat)(Va:Xt)(x:Xt):Prop:=x.length<=32/\x≠[]/\OP T S A Va x
section
variable {T:List Tk} {S:List Sm} {l:List St} {a A:Nat} {Va:Xt} {ms:List Bool} {M:List Xt} {K:Xv}
theorem EO.lt(h:EO l a b):b<l.length:=by
 obtain⟨s,h,-⟩:=h;exact(Tz.1 h).1
theorem BI{w:Int}(h:gG l Va ms M x H=((w,f),z0))(a:(w==0)=false):(kl l Va ms (M,x) H).1=w:=by
 unfold kl;simp only;rw[h,To (by simp only;rw[a];simp)]
theorem ye(h:gG l Va ms M x H=((0,f),z0)):kl l Va ms (M,x) H=if f.length<=32 then(0,M++[f],z0++[f]) else(10,(M,x)):=by
 unfold kl;simp only;rw[h,Tq (by rfl)]
theorem Im(a:M.length=b)(c:t<b):M.getD t []∈M:=by
 rw[Tn,Tm (by omega)];exact TO _
theorem Ql(Y:Sw T S l a A Va ms)(hP:bN k b=rm T S H)(hg:RV l a b H)(hM:M.length=b)(hI:∀x∈M,Su T S A Va x)(hC:vI k b K)(hK:∀ai∈K,ai<b) :
  (((iC T S A k b M).2==0)=false->(kl l Va ms (M,K.reverse.map (fun q=>M.getD q [])) H).1=(iC T S A k b M).2) /\
  (((iC T S A k b M).2==0)=true->kl l Va ms (M,K.reverse.map (fun q=>M.getD q [])) H=(0,M++[(iC T S A k b M).1],(K.drop (bN k b).need).reverse.map (fun q=>M.getD q [])++[(iC T S A k b M).1])/\Su T S A Va (iC T S A k b M).1/\(bN k b).need<=K.length):=by
 rcases hg with ⟨k3,z⟩ | ⟨k2,z⟩
 ·have e:bN k b=⟨-2,H.Xz,0,H.at_.XY,H.at_.XZ,H.at_.X0⟩:=by rw[hP];unfold rm;rw[k3,To (by omega),To (by omega)]
  have u:iC T S A k b M=(M.getD H.Xz [],0):=by unfold iC;rw[e,Tq rfl]
  have d:gG l Va ms M (K.reverse.map (fun q=>M.getD q [])) H=((0,M.getD H.Xz []),K.reverse.map (fun q=>M.getD q [])):=by
   unfold gG;rw[k3,Tq (by rfl),Tq (by omega)]
  have w:=hI _ (Im hM z);rw[u,ye d,Tq w.1,e];exact⟨fun h=>(by cases h),fun _=>⟨rfl,w,Ub _⟩⟩
 ·have G:=z.lt;have e:bN k b=⟨(aw S H.Xz:Nat),0,gM T S (aw S H.Xz:Nat),H.at_.XY,H.at_.XZ,H.at_.X0⟩:=by rw[hP];unfold rm;rw[k2,To (by omega),Tq rfl]
  have hk:(H.XS==3)=false:=by rw[k2];rfl
  have g:=Y.ats H.Xz G;have N:=Y.sy H.Xz G;have I:=Y.ne H.Xz z;have L:¬((aw S H.Xz:Nat):Int)=-2:=by omega
  have J:¬((aw S H.Xz:Nat):Int)<0:=by omega
  cases j:nI l H.Xz
  ·have hv:=Y.vi H.Xz z j;rw[j]at g;have d:gG l Va ms M (K.reverse.map (fun q=>M.getD q [])) H=((0,bb T S (aw S H.Xz)),K.reverse.map (fun q=>M.getD q [])):=by
    unfold gG;rw[hk,To (by simp),j,To (by simp),N]
   have u:iC T S A k b M=if 32<(bb T S (aw S H.Xz)).length then([],10) else(bb T S (aw S H.Xz),0):=by
    unfold iC;rw[e];simp only;rw[To L,Uq,Tq g.symm]
   have i:(bN k b).need=0:=by
    rw[e];simp only;unfold gM;rw[To J,Uq,<-g,To (by simp)]
   rw[u,ye d,i];by_cases h:32<(bb T S (aw S H.Xz)).length
   ·rw[Tq h,To (by omega)];exact⟨fun _=>rfl,fun h=>by cases h⟩
   ·rw[To h,Tq (by omega)];exact⟨fun h=>(by cases h),fun _=>⟨rfl,⟨by show(bb T S (aw S H.Xz)).length<=32;omega,I,hv⟩,Ub _⟩⟩
  ·obtain⟨hy,hH⟩:=Y.hy H.Xz G j;obtain⟨ad,X⟩:=Y.vs H.Xz G j;have F:=Y.apN H.Xz G j;obtain⟨ac,Z⟩:=Y.va H.Xz z j;rw[j]at g;have o:(a9 T S (aw S H.Xz)).length=(aP l H.Xz).length:=(by rw[<-hH,TR]);have i:(bN k b).need=(aP l H.Xz).length:=by
    rw[e];simp only;unfold gM;rw[To J,Uq,Tq g.symm,o]
   have s:=qw k b;rw[i]at s;have v:(K.reverse.map (fun q=>M.getD q [])).length=K.length:=by rw[TR,List.length_reverse]
   have u:iC T S A k b M=(if dP k b<0 then([],6)
     else if(nL T S A (aw S H.Xz) (a9 T S (aw S H.Xz)) ((fV k b).map (fun q=>M.getD q [])) (zm T S (aw S H.Xz)) (bu S (a9 T S (aw S H.Xz)) ((fV k b).map (fun q=>M.getD q [])) (a9 T S (aw S H.Xz)).length)==0)=false then([],nL T S A (aw S H.Xz) (a9 T S (aw S H.Xz)) ((fV k b).map (fun q=>M.getD q [])) (zm T S (aw S H.Xz)) (bu S (a9 T S (aw S H.Xz)) ((fV k b).map (fun q=>M.getD q [])) (a9 T S (aw S H.Xz)).length))
     else if 32<(dZ (zm T S (aw S H.Xz)) (bu S (a9 T S (aw S H.Xz)) ((fV k b).map (fun q=>M.getD q [])) (a9 T S (aw S H.Xz)).length) (bb T S (aw S H.Xz))).length then([],10)
     else(dZ (zm T S (aw S H.Xz)) (bu S (a9 T S (aw S H.Xz)) ((fV k b).map (fun q=>M.getD q [])) (a9 T S (aw S H.Xz)).length) (bb T S (aw S H.Xz)),0)):=by
    unfold iC;rw[e];simp only;rw[To L,Uq,To (by rw[<-g];simp)]
   have d:gG l Va ms M (K.reverse.map (fun q=>M.getD q [])) H=(gI l H.Xz Va ms (K.reverse.map (fun q=>M.getD q [])),(K.reverse.map (fun q=>M.getD q [])).take (K.length-(aP l H.Xz).length)):=by
    unfold gG;rw[hk,To (by simp),j,Tq rfl,v]
   by_cases t:K.length<(aP l H.Xz).length
   ·rw[My _ b K hC t]at s;rw[u,Tq (by omega)];have P:gI l H.Xz Va ms (K.reverse.map (fun q=>M.getD q []))=(6,[]):=by unfold gI;rw[v,Tq t]
    rw[P]at d;exact⟨fun _=>BI d rfl,fun h=>by cases h⟩
   ·obtain⟨c,hc,ag,p⟩:=zJ (aP l H.Xz).length b K hC (by omega);rw[hc]at s;have m:fV k b=(K.take (aP l H.Xz).length).reverse:=by unfold fV;rw[i,p,TV]
    have hE:(K.reverse.map (fun q=>M.getD q [])).drop (K.length-(aP l H.Xz).length)=(fV k b).map (fun q=>M.getD q []):=by
     rw[m,List.reverse_take,List.map_drop]
    have V:((fV k b).map (fun q=>M.getD q [])).length=(aP l H.Xz).length:=by
     rw[m,TR,List.length_reverse,UI];omega
    have r:∀x∈(fV k b).map (fun q=>M.getD q []),Su T S A Va x:=fun x w=>by
     obtain⟨q,B,rfl⟩:=UF.1 w;rw[m]at B;exact hI _ (Im hM (hK q (Vk (List.mem_reverse.1 B))))
    have O:(K.reverse.map (fun q=>M.getD q [])).take (K.length-(aP l H.Xz).length)=(K.drop (aP l H.Xz).length).reverse.map (fun q=>M.getD q []):=by
     rw[List.reverse_drop,WF]
    have P:gI l H.Xz Va ms (K.reverse.map (fun q=>M.getD q []))=qt l H.Xz Va ms (bb T S (aw S H.Xz)) (jZ l (aP l H.Xz) ((fV k b).map (fun q=>M.getD q [])) ([],[])):=by
     unfold gI;rw[v,To t,hE,N]
    rw[P,O]at d;rw[u,To (by omega),i];clear u P O hE m p;generalize (fV k b).map (fun q=>M.getD q [])=E at *;obtain⟨Q,R⟩:=Q1 hy V (fun x w=>⟨(r x w).1,(r x w).2.1⟩) (aP l H.Xz).length 0 (by omega) rfl;rw[Wd,Wd]at Q R;have z1:bL T S ((aP l H.Xz).map (aw S)) 0=[]:=rfl;have z2:bu S ((aP l H.Xz).map (aw S)) E 0=[]:=rfl;rw[z1,z2,hH,<-o]at Q R;have U:=NM T S (a9 T S (aw S H.Xz)) E (a9 T S (aw S H.Xz)).length;have D:∀af∈bu S (a9 T S (aw S H.Xz)) E (a9 T S (aw S H.Xz)).length,OP T S A Va af:=fun af hb=>by
     unfold bu at hb;obtain⟨q,B,rfl⟩:=UF.1 hb;unfold sZ at B;have B:=TF.1 (Uj.1 B).1;have hm:E.getD q []∈E:=by rw[Tn,Tm (by omega)];exact TO _
     exact fun y hy=>(r _ hm).2.2 y (We hy)
    have W:=Pq (l:=l) (n:=H.Xz) Y.ap Y.inn ad U D F X;unfold nL;unfold qt at d;rw[Q]at d;cases C:(dd (Aa T S (a9 T S (aw S H.Xz)) E (zm T S (aw S H.Xz)) (bu S (a9 T S (aw S H.Xz)) E (a9 T S (aw S H.Xz)).length)) (a9 T S (aw S H.Xz)).length==0)
    ·rw[C,To (by simp)]at d;rw[Tq rfl,Tq C];exact⟨fun _=>BI d C,fun h=>by rw[C]at h;cases h⟩
    ·rw[R (by simpa using C),C,Tq rfl,W]at d;simp only at d;rw[To (show ¬(true=false) by simp)];cases hp:(lX T S (aw S H.Xz)).all (LP T S A (zm T S (aw S H.Xz)) (bu S (a9 T S (aw S H.Xz)) E (a9 T S (aw S H.Xz)).length))
     ·rw[hp,To (by simp)]at d;rw[To (show ¬(false=true) by simp),Tq (by rfl)];exact⟨fun _=>BI d rfl,fun h=>by cases h⟩
     ·rw[hp,Tq rfl]at d;rw[Tq (show true=true from rfl),To (show ¬(((0:Int)==0)=false) by simp),ye d];obtain⟨r1,r2⟩:=DU (zm T S (aw S H.Xz)) (bu S (a9 T S (aw S H.Xz)) E (a9 T S (aw S H.Xz)).length) (bb T S (aw S H.Xz));by_cases f:32<(dZ (zm T S (aw S H.Xz)) (bu S (a9 T S (aw S H.Xz)) E (a9 T S (aw S H.Xz)).length) (bb T S (aw S H.Xz))).length
      ·rw[Tq f,To (Nat.not_le.2 (r2 f))];exact⟨fun _=>rfl,fun h=>by cases h⟩
      ·rw[To f,r1 (Nat.not_lt.1 f),Tq (Nat.not_lt.1 f)];exact⟨fun h=>(by cases h),fun _=>⟨rfl,⟨Nat.not_lt.1 f,Rt I Z,Qv D ac⟩,by omega⟩⟩
end
end Go.Proofs.YtnbhnocdhbcbcaaGreat
