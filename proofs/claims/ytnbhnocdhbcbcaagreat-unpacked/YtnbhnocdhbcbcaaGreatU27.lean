import Derived.Test.YtnbhnocdhbcbcaaGreatU20
import Derived.Test.YtnbhnocdhbcbcaaGreatU26
namespace Go.Proofs.YtnbhnocdhbcbcaaGreat
open Go.RowKit Tryz
open Value IntKind Ending
set_option maxHeartbeats 0
variable{b t:Nat}{f o q:Xt}{c:Xs}{y:List Tk}{w:List Sm}{x z0:List Xt}{r:List Bool}{k:List ci}{H:jg}(p:List Tk)(N:List Sm)(g:Xv)(u:Xt)(m:List Xt)(I:Nat)(D v:Xt)(s:List Xt)(L:Xs)
section
variable {T:List Tk} {d:Db}
theorem gw.vars(R:gw T d)(F:SD T (aa T))(q:b<d.Yt.length):uL d.Yt (aM d.Yt b)=fV T (aa T) (a9 T (aa T) (av (aa T) b)) (a9 T (aa T) (av (aa T) b)).length:=by
 unfold fV;rw[Vk,<-R.hyps F q];unfold uL;have a:∀n∈aM d.Yt b,n<d.Yt.length:=fun n i=>by
  unfold aM eQ at i;exact Up.1 (UP.1 i).1
 generalize aM d.Yt b=L at a
 induction L with
 | nil=>rfl
 | cons n L j =>
  obtain⟨s,r,f,-,g⟩:=R.get (a n (by simp));have p:=R.hel.at_ (a n (by simp));rw[List.filterMap_cons,VW,XX];unfold CC;rw[r];simp only;rw[(cn f).2.1];cases e:((aq (aa T) (av (aa T) n)).k.toList == [36,102])
  ·rw[Ud (by simp),Ud (by simp)];exact j (fun m c=>a m (by simp[c]))
  ·obtain⟨l,o⟩:=F _ p e;have t:aL s=tS T ((aq (aa T) (av (aa T) n)).h+1):=by
    unfold aL;rw[Uf ⟨by rw[(cn f).2.1];exact e,by rw[g];exact l⟩,g,o]
   rw[Uf rfl,Uf rfl,VW,<-t];show aL s :: _=_;congr 1;exact j (fun m c=>a m (by simp[c]))
def JB(vs:Xt):Prop:=∀i j,i<j->j<vs.length->((vs.getD i ⟨#[]⟩).toList==(vs.getD j ⟨#[]⟩).toList)=false
theorem JB.ne(h:JB f){i j:Nat}(b:i<f.length)(c:j<f.length)(d:i≠j):((f.getD i ⟨#[]⟩).toList==(f.getD j ⟨#[]⟩).toList)=false:=by
 rcases Nat.lt_or_gt_of_ne d with a | a
 ·exact h i j a c
 ·have:=h j i a b;rw[Uz]at this ⊢;exact fun e=>this e.symm
theorem Gs(h:JB f)(a:b<f.length)(x:Xs):mN f x=some b ↔ ((f.getD b ⟨#[]⟩).toList==x.toList)=true:=by
 unfold mN;constructor
 ·intro e;have:=VP e;simpa using this
 ·intro e;rw[Xl];refine⟨e,b,by rw[VN];exact a,by rw[WX],fun j g=>?_⟩;rw[WX];have:=h.ne (i:=j) (j:=b) (by omega) a (by omega);simp only[Bool.not_eq_true',beq_eq_false_iff_ne];rw[Uz]at this;intro c;have d:(f.getD b ⟨#[]⟩).toList=x.toList:=by simpa using e
  exact this (c.trans d.symm)
theorem wW(h:JB f)(d:b<f.length)(g:Xt):(bN f g).contains b=aJ g (f.getD b ⟨#[]⟩):=by
 unfold bN aJ;rw[Vo,Wm,Wk,UW];constructor
 ·rintro ⟨x,c,e⟩;have:=(Gs h d x).1 e;refine⟨x,c,?_⟩;have a:(f.getD b ⟨#[]⟩).toList=x.toList:=by simpa using this
  rw[a];exact Xm _
 ·rintro ⟨x,c,e⟩;refine⟨x,c,(Gs h d x).2 ?_⟩;have a:x.toList=(f.getD b ⟨#[]⟩).toList:=by simpa using e
  rw[a];exact Xm _
theorem gw.tog(R:gw T d)(r:b<d.Yt.length)(h:JB f){j:Nat}(A:t<f.length)(w:j<f.length)(v:t<j):zi d.Yt b f d.Yt.length t j=eB T (aa T) (f.getD t ⟨#[]⟩) (f.getD j ⟨#[]⟩) (av (aa T) b):=by
 have D:=R.hel.len;have E:=R.hel.at_ r;have x:=h t j v w;unfold zi eB;rw[Vo,UW,UW];constructor
 ·rintro ⟨n,a,e⟩;have a:=Up.1 a;obtain⟨s,m,l,-,C⟩:=R.get a;simp only[Bool.and_eq_true]at e;obtain⟨⟨c,o⟩,p⟩:=e;rw[wW h A,R.symsAt a]at o;rw[wW h w,R.symsAt a]at p;unfold tU at c;rw[m]at c;simp only[Bool.and_eq_true]at c;have z:((aq (aa T) (av (aa T) n)).k.toList == [36,100])=true:=by rw[<-(cn l).2.2.1];exact c.1
  have i:ph s.Yw=false:=by rw[(cn l).2.2.2,cK z,cK z];decide
  have u:=c.2;rw[R.held m i r,Ux]at u;refine⟨av (aa T) n,Up.2 (XO u.1),?_⟩;unfold Q8;rw[z,x,o,p,u.2];rfl
 ·rintro ⟨q,y,e⟩;have y:=Up.1 y;unfold Q8 at e;simp only[Bool.and_eq_true]at e;obtain⟨c,-,o,p,B⟩:=e;have g:q∈lO (aa T):=UP.2 ⟨Up.2 (by omega),by unfold lM;rw[c];simp⟩;rw[uv]at g;obtain⟨n,a,rfl⟩:=Vf.1 g;have a:n<d.Yt.length:=by rw[D];exact Up.1 a
  obtain⟨s,m,l,-,C⟩:=R.get a;have i:ph s.Yw=false:=by rw[(cn l).2.2.2,cK c,cK c];decide
  refine⟨n,Up.2 a,?_⟩;rw[wW h A,wW h w,R.symsAt a,o,p];unfold tU;rw[m];simp only;rw[(cn l).2.2.1,c,R.held m i r,B,Vy y];rfl
theorem sg.vsd(F:sg d):JB (uL d.Yt (aM d.Yt b)):=by
 have E:(aM d.Yt b).Pairwise (fun n m=>n<m/\n∈aM d.Yt b/\m∈aM d.Yt b):=by
  have h:(aM d.Yt b).Pairwise (· < ·):=Xw _ Wy;exact h.imp_of_mem (fun z A B=>⟨B,z,A⟩)
 have G:(uL d.Yt (aM d.Yt b)).Pairwise (fun x y=>(x.toList==y.toList)=false):=by
  unfold uL;refine List.Pairwise.filterMap _ (fun n m h x a y H=>?_) E;obtain⟨r,o,D⟩:=h;have l:∀n x,n∈aM d.Yt b->CC d.Yt n=some x->∃s,d.Yt[n]?=some s/\s.Yw=2/\x=vr s/\fH d.Yt n b=true:=fun n x o a=>by
   unfold CC at a;cases g:d.Yt[n]? with
   | none=>rw[g]at a;cases a
   | some s =>
    rw[g]at a;simp only at a;split at a
    ·next k =>
     have w:s.Yw=2:=(by simpa using k);have C:=F.fl n s g w;have e:aL s=vr s:=(by unfold aL vr;rw[Uf ⟨k,C⟩]);refine⟨s,rfl,w,by rw[<-e];cases a;rfl,?_⟩;unfold aM eQ at o;have:=(UP.1 o).2;unfold nW at this;rw[g]at this;simp only[Bool.and_eq_true]at this;exact this.1
    ·cases a
  obtain⟨s,g,I,rfl,c⟩:=l n x o a;obtain⟨u,v,J,rfl,f⟩:=l m y D H;refine F.ds n m s u g v I J r ?_;unfold fH at c f;rw[g]at c;rw[v]at f;simp only[Bool.and_eq_true,Bool.or_eq_true,decide_eq_true_eq]at c f;rcases c.2 with q | q
  ·left;simpa using q
  ·right;have:=f.1;omega
 intro i j p t;have:=Wn.1 G i j (by omega) t p;rw[Uc,Uc,Ub t,Ub (by omega)];exact this
end
theorem uU{y:Xs}(h:c.toList=y.toList):c=y:=by
 apply XR;apply WO.1;rw[<-US,<-US,h]
theorem xp(y:Xs):(L.toList==y.toList)=true ↔ L=y:=⟨fun h=>uU (by simpa using h),fun h=>by rw[h];simp⟩
theorem IS:aJ v L=true ↔ L∈v:=by
 unfold aJ;rw[UW];exact⟨fun⟨y,hy,e⟩=>(xp y L).1 e ▸ hy,fun h=>⟨L,h,by simp⟩⟩
theorem Ke{F G:Xs->Xt}(h:∀x∈f,F x=G x):f.flatMap F=f.flatMap G:=by
 rw[Wq,Wq,V6 h]
theorem DT(A:Xt):∀B:Xt,A.map (·.toList)=B.map (·.toList)->A=B:=by
 induction A with
 | nil =>
  intro B h;cases B with
  | nil=>rfl
  | cons y B=>cases h
 | cons x A c =>
  intro B h;cases B with
  | nil=>cases h
  | cons y B =>
   obtain⟨a,b⟩:=Yb h;rw[uU a,c B b]
theorem tV:zG D v=true ↔ D=v:=by
 unfold zG;rw[Vt];exact⟨DT D v,fun h=>by rw[h]⟩
theorem yY:lE D v=true ↔ D=v:=by
 unfold lE;rw[Ux,U5];constructor
 ·rintro ⟨a,c⟩;have a:D.length=v.length:=by simpa using a
  apply Xj a;intro i b d;have:=c i (Up.2 b);unfold GI at this;rw[xp,Uc,Uc,Ub b,Ub d]at this;exact this
 ·rintro rfl;exact⟨by simp,fun i _=>by unfold GI;simp⟩
theorem Ol:lE D v=zG D v:=by
 rw[Vo,yY,tV]
theorem wX:mN v L=if nr v L<v.length then some (nr v L) else none:=by
 unfold mN;split
 ·next h =>
  rw[Vp];refine⟨?_,Up.2 h,fun j a=>?_⟩
  ·rw[Uc,Ub h];exact List.findIdx_getElem (p:=fun y:Xs=>y.toList==L.toList) (w:=h)
  ·have:=List.not_of_lt_findIdx (p:=fun y:Xs=>y.toList==L.toList) (xs:=v) (i:=j) a;rw[Uc,Ub (by unfold nr at h a;omega)];simpa using this
 ·next h =>
  rw[U8];intro j a e;apply h;unfold nr;rw[List.findIdx_lt_length];have a:=Up.1 a;refine⟨v[j],Uu a,?_⟩;rw[Uc,Ub a]at e;exact e
theorem pP:nr v L<v.length ↔ L∈v:=by
 unfold nr;rw[List.findIdx_lt_length];exact⟨fun⟨y,hy,e⟩=>(xp y L).1 e ▸ hy,fun h=>⟨L,h,by simp⟩⟩
theorem Ps:Bn v s L=vu v s L:=by
 unfold Bn vu;rw[wX];by_cases h:nr v L<v.length
 ·rw[Uf h,Uf h]
 ·rw[Ud h,Ud h]
theorem GE(e:Xt):∀a,((a++ed v s e).length<=32->jP v s e a=a++ed v s e)/\(32<(a++ed v s e).length->32<(jP v s e a).length):=by
 induction e with
 | nil=>intro a;rw[jP];unfold ed;rw[Xi,UE];exact⟨fun _=>rfl,id⟩
 | cons x r c =>
  intro a;have e:a++ed v s (x :: r)=a++Bn v s x++ed v s r:=by
   unfold ed;rw[U4,Ps,Vs]
  rw[jP,e];split
  ·exact c _
  ·next h=>exact⟨fun b=>by rw[Uh,Uh]at b;omega,fun _=>by omega⟩
theorem Ep:((ed u m v).length<=32->nZ u m v=ed u m v)/\(32<(ed u m v).length->32<(nZ u m v).length):=by
 have:=GE u m v [];rw[Wz]at this;exact this
theorem Rx(c:v.length<=32):zG (nZ u m D) v=lE (ed u m D) v:=by
 rw[Ol];obtain⟨b,a⟩:=Ep u m D;by_cases h:(ed u m D).length<=32
 ·rw[b h]
 ·have a:=a (by omega);rw[Vo,tV,tV];exact⟨fun D=>by rw[D]at a;omega,fun D=>by rw[D]at h;omega⟩
theorem Np(h:L∈D):nr (D++v) L=nr D L:=by
 have:=(pP D L).2 h;unfold nr at this ⊢;rw[List.findIdx_append,Uf this]
theorem Ld(C:List Xt)(c:s.length=D.length)(x:Xs)(h:x∈D++v->x∈D):vu (D++v) (s++C) x=vu D s x:=by
 unfold vu;by_cases a:x∈D
 ·have b:=(pP D x).2 a;rw[Np D v x a,Uf (by rw[Uh];omega),Uf b,Uc,Uc,Uv (by omega)]
 ·rw[Ud (fun e=>a (h ((pP _ x).1 e))),Ud (fun e=>a ((pP D x).1 e))]
theorem Jf:ta N g (I+1)=ta N g I++(if sx N g I=true then [I] else []):=by
 unfold ta;rw[Vr,Vi];congr 1;cases h:sx N g I <;> simp[h]
theorem qT:bI p N g (I+1)=bI p N g I++(if sx N g I=true then [(bb p N (g.getD I 0)).getD 1 ⟨#[]⟩] else []):=by
 unfold bI;rw[Jf,UJ];split <;> rfl
theorem wf:bt N g m (I+1)=bt N g m I++(if sx N g I=true then [(m.getD I []).drop 1] else []):=by
 unfold bt;rw[Jf,UJ];split <;> rfl
theorem N6:(bt N g m I).length=(bI p N g I).length:=by unfold bt bI;rw[Uy,Uy]
theorem Sj(n:Nat)(h:I<=n):∃W C,bI p N g n=bI p N g I++W/\bt N g m n=bt N g m I++C:=by
 obtain⟨a,rfl⟩:∃a,n=I+a:=⟨n-I,by omega⟩
 clear h
 induction a with
 | zero=>exact⟨[],[],(UE _).symm,(UE _).symm⟩
 | succ a d =>
  obtain⟨W,C,b,c⟩:=d;rw[<-WC,qT,wf,b,c,Vs,Vs];exact⟨_,_,rfl,rfl⟩
structure Ts(T:List Tk)(S:List Sm)(l:List St)(hs:Xv):Prop where
 kd:∀i,i<hs.length->((l.getD (hs.getD i 0) zN).Yw==3)=!(sx S (hs.map (av S)) i)
 sy:∀i,i<hs.length->(l.getD (hs.getD i 0) zN).Yc=bb T S ((hs.map (av S)).getD i 0)
 vr:∀i,i<hs.length->sx S (hs.map (av S)) i=true->aL (l.getD (hs.getD i 0) zN)=(bb T S ((hs.map (av S)).getD i 0)).getD 1 ⟨#[]⟩
 pre:∀i,i<hs.length->sx S (hs.map (av S)) i=false->∀x∈bb T S ((hs.map (av S)).getD i 0),x∈bI T S (hs.map (av S)) hs.length->x∈bI T S (hs.map (av S)) i
theorem Rz{l:List St}{a:Xv}(H:Ts y w l a)(R:x.length=a.length)(s:∀e∈x,e.length<=32/\e≠[])(m:Nat) :
  ∀k,k+m=a.length->dn (At y w (a.map (av w)) x (bI y w (a.map (av w)) a.length) (bt w (a.map (av w)) x a.length)) k=0 ->
  (ke l (a.drop k) (x.drop k) (bI y w (a.map (av w)) k,bt w (a.map (av w)) x k)).1=dn (At y w (a.map (av w)) x (bI y w (a.map (av w)) a.length) (bt w (a.map (av w)) x a.length)) a.length /\
  (dn (At y w (a.map (av w)) x (bI y w (a.map (av w)) a.length) (bt w (a.map (av w)) x a.length)) a.length=0->(ke l (a.drop k) (x.drop k) (bI y w (a.map (av w)) k,bt w (a.map (av w)) x k)).2=(bI y w (a.map (av w)) a.length,bt w (a.map (av w)) x a.length)):=by
 induction m with
 | zero =>
  intro k t o;rw[VD]at t;subst t;rw[Wr,ke]
  ·exact⟨o.symm,fun _=>rfl⟩
  ·intro h a e Q p;cases p
 | succ m P =>
  intro k t o;have b:k<a.length:=by omega
  have c:k<x.length:=by omega
  have F:=s x[k] (Uu c);have J:a.getD k 0=a[k]:=by rw[Uc,Ub b];rfl
  have E:x.getD k []=x[k]:=by rw[Uc,Ub c];rfl
  have d:=H.kd k b;have g:=H.sy k b;have n:=H.vr k b;have j:=H.pre k b;rw[J]at d g n;have B:∀(f:Int) (q:Pg),l8 (l.getD a[k] zN) x[k] (bI y w (a.map (av w)) k,bt w (a.map (av w)) x k)=(f,q)->At y w (a.map (av w)) x (bI y w (a.map (av w)) a.length) (bt w (a.map (av w)) x a.length) k=f->(f=0->q=(bI y w (a.map (av w)) (k+1),bt w (a.map (av w)) x (k+1))) ->
   (ke l (a.drop k) (x.drop k) (bI y w (a.map (av w)) k,bt w (a.map (av w)) x k)).1=dn (At y w (a.map (av w)) x (bI y w (a.map (av w)) a.length) (bt w (a.map (av w)) x a.length)) a.length /\
   (dn (At y w (a.map (av w)) x (bI y w (a.map (av w)) a.length) (bt w (a.map (av w)) x a.length)) a.length=0->(ke l (a.drop k) (x.drop k) (bI y w (a.map (av w)) k,bt w (a.map (av w)) x k)).2=(bI y w (a.map (av w)) a.length,bt w (a.map (av w)) x a.length)):=fun f q M u L=>by
   rw[UB b,UB c,ke,M];by_cases h:f=0
   ·rw[Uf (by rw[h];rfl),L h];apply P (k+1) (by omega);rw[dn,o,Uf (by rfl),u,h]
   ·have G:(f==0)=false:=Uz.2 h;have O:=nj o (by rw[u];exact G) b;rw[O,u,Ud (by rw[G];simp)];exact⟨rfl,fun e=>absurd e h⟩
  have i:l8 (l.getD a[k] zN) x[k] (bI y w (a.map (av w)) k,bt w (a.map (av w)) x k)=(if((l.getD a[k] zN).Yw==3)=true then(if zG (nZ (bI y w (a.map (av w)) k) (bt w (a.map (av w)) x k) (l.getD a[k] zN).Yc) x[k]=true then(0,(bI y w (a.map (av w)) k,bt w (a.map (av w)) x k)) else(8,(bI y w (a.map (av w)) k,bt w (a.map (av w)) x k)))
   else if((x[k].getD 0 ⟨#[]⟩).toList==(ji (l.getD a[k] zN)).toList)=true then(0,(bI y w (a.map (av w)) k++[aL (l.getD a[k] zN)],bt w (a.map (av w)) x k++[x[k].drop 1])) else(7,(bI y w (a.map (av w)) k,bt w (a.map (av w)) x k))):=by
   unfold l8;split
   ·rfl
   ·have:=F.2;generalize x[k]=e at this;cases e with
    | nil=>exact absurd rfl this
    | cons D r=>rfl
  have v:At y w (a.map (av w)) x (bI y w (a.map (av w)) a.length) (bt w (a.map (av w)) x a.length) k=(if sx w (a.map (av w)) k=true then(if((x[k].getD 0 ⟨#[]⟩).toList==((bb y w ((a.map (av w)).getD k 0)).getD 0 ⟨#[]⟩).toList)=true then 0 else 7) else if lE (ed (bI y w (a.map (av w)) a.length) (bt w (a.map (av w)) x a.length) (bb y w ((a.map (av w)).getD k 0))) x[k]=true then 0 else 8):=by
   unfold At;rw[E]
  refine B (l8 (l.getD a[k] zN) x[k] (bI y w (a.map (av w)) k,bt w (a.map (av w)) x k)).1 (l8 (l.getD a[k] zN) x[k] (bI y w (a.map (av w)) k,bt w (a.map (av w)) x k)).2 rfl ?_ ?_
  ·rw[i,v,d];cases z:sx w (a.map (av w)) k
   ·have N:ed (bI y w (a.map (av w)) a.length) (bt w (a.map (av w)) x a.length) (bb y w ((a.map (av w)).getD k 0))=ed (bI y w (a.map (av w)) k) (bt w (a.map (av w)) x k) (bb y w ((a.map (av w)).getD k 0)):=by
     obtain⟨W,C,p,K⟩:=Sj y w (a.map (av w)) x k a.length (by omega);have I:=j z;rw[p]at I;rw[p,K];unfold ed;apply Ke;intro D A;exact Ld _ _ _ _ (N6 y w _ _ _) D (I D A)
    rw[Ud (show ¬(false=true) by simp),Uf (show(!false)=true from rfl),N,g,Rx _ _ _ _ F.1];split <;> rfl
   ·rw[Uf rfl,Ud (show ¬((!true)=true) by simp)];unfold ji;rw[g];split <;> rfl
  ·rw[i,d,qT,wf,E];cases z:sx w (a.map (av w)) k
   ·rw[Uf (show(!false)=true from rfl)];split
    ·intro _;simp
    ·intro h;cases h
   ·rw[Ud (show ¬((!true)=true) by simp)];split
    ·intro _;rw[Uf rfl,Uf rfl,n z]
    ·intro h;cases h
theorem uo(X:Xt):∀a p,p∈oN v X a ↔ p∈a∨∃x∈X,mN v x=some p:=by
 induction X with
 | nil=>intro a p;rw[oN];simp
 | cons x r g =>
  intro a p;rw[oN];cases e:mN v x with
  | none =>
   simp only;rw[g];constructor
   ·rintro (h | ⟨y,b,h⟩)
    ·exact Us h
    ·exact Uo ⟨y,UM _ b,h⟩
   ·rintro (h | ⟨y,b,h⟩)
    ·exact Us h
    ·rcases UH.1 b with rfl | b
     ·rw[e]at h;cases h
     ·exact Uo ⟨y,b,h⟩
  | some q =>
   simp only;have d:∀c,(p∈c ↔ p∈a∨p=q)->(p∈oN v r c ↔ p∈a∨∃y∈x :: r,mN v y=some p):=fun c j=>by
    rw[g,j];constructor
    ·rintro ((h | h) | ⟨y,b,h⟩)
     ·exact Us h
     ·exact Uo ⟨x,UN,by rw[e,h]⟩
     ·exact Uo ⟨y,UM _ b,h⟩
    ·rintro (h | ⟨y,b,h⟩)
     ·exact Us (Us h)
     ·rcases UH.1 b with rfl | b
      ·rw[e]at h;exact Us (Uo (Vw h).symm)
      ·exact Uo ⟨y,b,h⟩
   split
   ·next f =>
    refine d a ⟨Us,fun h=>?_⟩;rcases h with h | h
    ·exact h
    ·unfold jD at f;obtain⟨y,b,i⟩:=UW.1 f;have:y=q:=(by simpa using i);rw[h,<-this];exact b
   ·exact d (a++[q]) (by simp)
theorem wV(h:mN f c=some b):b<f.length/\f.getD b ⟨#[]⟩=c:=by
 rw[wX]at h;split at h
 ·next a =>
  have e:nr f c=b:=Vw h;refine⟨by omega,?_⟩;have:=List.findIdx_getElem (p:=fun y:Xs=>y.toList==c.toList) (xs:=f) (w:=a);rw[<-e,Uc,Ub a];exact(xp _ _).1 this
 ·cases h
theorem NY(h:c∈f):∃p,mN f c=some p:=⟨nr f c,by rw[wX,Uf ((pP f c).2 h)]⟩
theorem Nf(h:b<f.length):f.getD b ⟨#[]⟩∈f:=by
 rw[Uc,Ub h];exact Uu h
def Ph(T:List Tk)(S:List Sm)(A:Nat)(Va:Xt)(x:Xt):Prop:=∀y∈x,iI T S y A=true->y∈Va
theorem Mx(k:∀i j,i<f.length->j<f.length->fK f.length r i j=eB y w (f.getD i ⟨#[]⟩) (f.getD j ⟨#[]⟩) b)(l:∀x∈f,iI y w x b=true)(C:Ph y w b f o)(D:Ph y w b f q) :
  wF f.length r (j5 f o) (j5 f q)=qG y w b o q:=by
 unfold wF qG li;rw[Vo,U5,U5];constructor
 ·intro h x E;obtain⟨v,A⟩:=UP.1 E;unfold Bv;rw[U5];intro g F;obtain⟨z,B⟩:=UP.1 F;obtain⟨p,a⟩:=NY (C x v A);obtain⟨e,c⟩:=NY (D g z B);have d:=h p ((uo f o [] p).2 (Uo ⟨x,v,a⟩));rw[U5]at d;have m:=d e ((uo f q [] e).2 (Uo ⟨g,z,c⟩));obtain⟨n,s⟩:=wV a;obtain⟨t,u⟩:=wV c;rw[k p e n t,s,u]at m;exact m
 ·intro h p a;rw[U5];intro e c;rcases(uo f o [] p).1 a with a | ⟨x,v,a⟩
  ·cases a
  rcases(uo f q [] e).1 c with c | ⟨g,z,c⟩
  ·cases c
  obtain⟨n,s⟩:=wV a;obtain⟨t,u⟩:=wV c;have A:iI y w x b=true:=l x (by rw[<-s];exact Nf n);have B:iI y w g b=true:=l g (by rw[<-u];exact Nf t);have d:=h x (UP.2 ⟨v,A⟩);unfold Bv at d;rw[U5]at d;have m:=d g (UP.2 ⟨z,B⟩);rw[k p e n t,s,u];exact m
theorem wY(c:JB f)(B:List Xt)(d:b<f.length):ed f B [f.getD b ⟨#[]⟩]=B.getD b []:=by
 have a:mN f (f.getD b ⟨#[]⟩)=some b:=(Gs c d _).2 (by simp);rw[wX]at a;unfold ed vu;rw[U4,Xi,UE];split at a
 ·next h=>rw[Uf h,Vw a]
 ·cases a
theorem P7{l:List St}{n:Nat}(m:∀i j,i<f.length->j<f.length->fK f.length r i j=eB y w (f.getD i ⟨#[]⟩) (f.getD j ⟨#[]⟩) t)(q:∀E∈f,iI y w E t=true)(s:JB o)(F:x.length=o.length)(v:∀A∈x,Ph y w t f A)(g:∀i j,i<o.length->j<o.length->fK o.length (gI l n o) i j=eB y w (o.getD i ⟨#[]⟩) (o.getD j ⟨#[]⟩) b)(B:fV y w (a9 y w b) (a9 y w b).length=o) :
  yh l n (o,x) f r=(mb y w b).all (Mg y w t o x):=by
 have d:∀i,Ph y w t f (x.getD i []):=fun i=>by
  by_cases h:i<x.length
  ·rw[Uc,Ub h];exact v _ (Uu h)
  ·rw[Uc,UT (by omega)];intro G C;cases C
 unfold yh mb;rw[B];rw[Vo,decide_eq_true_iff,U5];constructor
 ·intro h p u;unfold lU kN at u;obtain⟨i,a,u⟩:=Wi.1 u;obtain⟨j,c,rfl⟩:=Vf.1 u;obtain⟨D,z⟩:=UP.1 c;have a:=Up.1 a;have c:=Up.1 D;rw[Ux]at z;have k:=XO z.1;have:=h i a j c k;unfold qt at this;simp only at this;rw[g i j a c,z.2,XU,Vn,Mx m q (d i) (d j)]at this;unfold Mg;simp only;rw[wY s x a,wY s x c];exact this
 ·intro h i a j c k;have a:i<o.length:=a;have c:j<o.length:=c;unfold qt;simp only;rw[g i j a c,Mx m q (d i) (d j)];cases e:eB y w (o.getD i ⟨#[]⟩) (o.getD j ⟨#[]⟩) b
  ·rfl
  ·have:=h (o.getD i ⟨#[]⟩,o.getD j ⟨#[]⟩) (by
    unfold lU kN;refine Wi.2 ⟨i,Up.2 a,Vf.2 ⟨j,UP.2 ⟨Up.2 c,?_⟩,rfl⟩⟩;rw[Vy k,e];rfl)
   unfold Mg at this;simp only at this;rw[wY s x a,wY s x c]at this;rw[this];rfl
theorem QV(e:∀j∈x,Ph y w b f j)(k:∀c∈q,c∈o∨iI y w c b=false):Ph y w b f (ed o x q):=by
 intro c a g;unfold ed at a;obtain⟨i,l,a⟩:=Wi.1 a;unfold vu at a;split at a
 ·by_cases h:nr o i<x.length
  ·rw[Uc,Ub h]at a;exact e _ (Uu h) c a g
  ·rw[Uc,UT (by omega)]at a;cases a
 ·next h =>
  have:c=i:=Uq.1 a;subst this;rcases k c l with d | d
  ·exact absurd ((pP o c).2 d) h
  ·rw[d]at g;cases g
theorem Sh(a:o≠[])(h:o.getD 0 ⟨#[]⟩∉f):ed f x o≠[]:=by
 cases o with
 | nil=>exact absurd rfl a
 | cons b r =>
  unfold ed vu;rw[U4,Ud (fun o=>h ((pP f b).1 o))];simp
def qz(P:List ci):Nat->Xv->Prop
 | b,[]=>b=0
 | b,k :: K=>b=k+1/\∃c:Nat,dJ P k=(c:Int)/\qz P c K
theorem rB(n:Nat):∀b K,qz k b K->n<=K.length->∃c:Nat,oJ (dJ k) n b=(c:Int)/\qz k c (K.drop n)/\∀a,vD (dJ k) n b a=(K.take n).reverse++a:=by
 induction n with
 | zero=>intro b K h _;exact⟨b,rfl,h,fun a=>rfl⟩
 | succ n m =>
  intro b K h e;cases K with
  | nil=>simp at e
  | cons o K =>
   obtain⟨rfl,c,d,l⟩:=h;obtain⟨f,g,i,j⟩:=m c K l (by simpa using e);refine⟨f,?_,i,fun a=>?_⟩
   ·rw[oJ,Ud (by omega),Vj,d,Ud (by omega),UR];exact g
   ·rw[vD,Vj,d,UR,j,XC,Xe,Vs];rfl
theorem MT(n:Nat):∀b K,qz k b K->K.length<n->oJ (dJ k) n b=-1:=by
 induction n with
 | zero=>intro b K _ h;omega
 | succ n f =>
  intro b K h e;cases K with
  | nil=>rw[oJ,Uf (show b=0 from h)]
  | cons g K =>
   obtain⟨rfl,c,d,a⟩:=h;rw[oJ,Ud (by omega),Vj,d,Ud (by omega),UR];exact f c K a (by simpa using e)
def Fh(l:List St)(a n:Nat):Prop:=∃s,l[n]?=some s/\(s.Yw==1)=false/\fH l n a=true
def Q5(l:List St)(a i:Nat)(s:jg):Prop:=(s.Yw=3/\s.Yd<i)∨(s.Yw=2/\Fh l a s.Yd)
abbrev zH (T:List Tk) (S:List Sm) (N:Nat):List ByteArray:=bI T S (a9 T S N) (a9 T S N).length
structure Sx(T:List Tk)(S:List Sm)(l:List St)(a A:Nat)(Va:Xt)(ms:List Bool):Prop where
 ap:∀i j,i<Va.length->j<Va.length->fK Va.length ms i j=eB T S (Va.getD i ⟨#[]⟩) (Va.getD j ⟨#[]⟩) A
 inn:∀x∈Va,iI T S x A=true
 ats:∀n,n<l.length->nt l n=aA (aq S (av S n)).k
 sy:∀n,n<l.length->(l.getD n zN).Yc=bb T S (av S n)
 hy:∀n,n<l.length->nt l n=true->Ts T S l (aM l n)/\(aM l n).map (av S)=a9 T S (av S n)
 vs:∀n,n<l.length->nt l n=true->JB (zH T S (av S n))/\fV T S (a9 T S (av S n)) (a9 T S (av S n)).length=zH T S (av S n)
 apN:∀n,n<l.length->nt l n=true->∀i j,i<(zH T S (av S n)).length->j<(zH T S (av S n)).length->fK (zH T S (av S n)).length (gI l n (zH T S (av S n))) i j=eB T S ((zH T S (av S n)).getD i ⟨#[]⟩) ((zH T S (av S n)).getD j ⟨#[]⟩) (av S n)
 ne:∀n,Fh l a n->bb T S (av S n)≠[]
 vi:∀n,Fh l a n->nt l n=false->Ph T S A Va (bb T S (av S n))
 va:∀n,Fh l a n->nt l n=true->(∀y∈bb T S (av S n),y∈zH T S (av S n)∨iI T S y A=false)/\(bb T S (av S n)).getD 0 ⟨#[]⟩∉zH T S (av S n)
def Tn(T:List Tk)(S:List Sm)(A:Nat)(Va:Xt)(x:Xt):Prop:=x.length<=32/\x≠[]/\Ph T S A Va x
section
variable {T:List Tk} {S:List Sm} {l:List St} {a A:Nat} {Va:Xt} {ms:List Bool} {M:List Xt} {K:Xv}
theorem Fh.lt(h:Fh l a b):b<l.length:=by
 obtain⟨s,h,-⟩:=h;exact(Uk.1 h).1
theorem Cj{w:Int}(h:fS l Va ms M x H=((w,f),z0))(a:(w==0)=false):(jd l Va ms (M,x) H).1=w:=by
 unfold jd;simp only;rw[h,Ud (by simp only;rw[a];simp)]
theorem yE(h:fS l Va ms M x H=((0,f),z0)):jd l Va ms (M,x) H=if f.length<=32 then(0,M++[f],z0++[f]) else(10,(M,x)):=by
 unfold jd;simp only;rw[h,Uf (by rfl)]
theorem IP(a:M.length=b)(c:t<b):M.getD t []∈M:=by
 rw[Uc,Ub (by omega)];exact Uu _
theorem QK(Y:Sx T S l a A Va ms)(hP:aQ k b=kI T S H)(hg:Q5 l a b H)(hM:M.length=b)(hI:∀x∈M,Tn T S A Va x)(hC:qz k b K)(hK:∀ai∈K,ai<b) :
  (((iE T S A k b M).2==0)=false->(jd l Va ms (M,K.reverse.map (fun q=>M.getD q [])) H).1=(iE T S A k b M).2) /\
  (((iE T S A k b M).2==0)=true->jd l Va ms (M,K.reverse.map (fun q=>M.getD q [])) H=(0,M++[(iE T S A k b M).1],(K.drop (aQ k b).need).reverse.map (fun q=>M.getD q [])++[(iE T S A k b M).1])/\Tn T S A Va (iE T S A k b M).1/\(aQ k b).need<=K.length):=by
 rcases hg with ⟨k3,z⟩ | ⟨k2,z⟩
 ·have e:aQ k b=⟨-2,H.Yd,0,H.at_.YB,H.at_.YC,H.at_.YD⟩:=by rw[hP];unfold kI;rw[k3,Ud (by omega),Ud (by omega)]
  have u:iE T S A k b M=(M.getD H.Yd [],0):=by unfold iE;rw[e,Uf rfl]
  have d:fS l Va ms M (K.reverse.map (fun q=>M.getD q [])) H=((0,M.getD H.Yd []),K.reverse.map (fun q=>M.getD q [])):=by
   unfold fS;rw[k3,Uf (by rfl),Uf (by omega)]
  have w:=hI _ (IP hM z);rw[u,yE d,Uf w.1,e];exact⟨fun h=>(by cases h),fun _=>⟨rfl,w,UF _⟩⟩
 ·have G:=z.lt;have e:aQ k b=⟨(av S H.Yd:Nat),0,fL T S (av S H.Yd:Nat),H.at_.YB,H.at_.YC,H.at_.YD⟩:=by rw[hP];unfold kI;rw[k2,Ud (by omega),Uf rfl]
  have hk:(H.Yw==3)=false:=by rw[k2];rfl
  have g:=Y.ats H.Yd G;have N:=Y.sy H.Yd G;have I:=Y.ne H.Yd z;have L:¬((av S H.Yd:Nat):Int)=-2:=by omega
  have J:¬((av S H.Yd:Nat):Int)<0:=by omega
  cases j:nt l H.Yd
  ·have hv:=Y.vi H.Yd z j;rw[j]at g;have d:fS l Va ms M (K.reverse.map (fun q=>M.getD q [])) H=((0,bb T S (av S H.Yd)),K.reverse.map (fun q=>M.getD q [])):=by
    unfold fS;rw[hk,Ud (by simp),j,Ud (by simp),N]
   have u:iE T S A k b M=if 32<(bb T S (av S H.Yd)).length then([],10) else(bb T S (av S H.Yd),0):=by
    unfold iE;rw[e];simp only;rw[Ud L,UR,Uf g.symm]
   have i:(aQ k b).need=0:=by
    rw[e];simp only;unfold fL;rw[Ud J,UR,<-g,Ud (by simp)]
   rw[u,yE d,i];by_cases h:32<(bb T S (av S H.Yd)).length
   ·rw[Uf h,Ud (by omega)];exact⟨fun _=>rfl,fun h=>by cases h⟩
   ·rw[Ud h,Uf (by omega)];exact⟨fun h=>(by cases h),fun _=>⟨rfl,⟨by show(bb T S (av S H.Yd)).length<=32;omega,I,hv⟩,UF _⟩⟩
  ·obtain⟨hy,hH⟩:=Y.hy H.Yd G j;obtain⟨ad,X⟩:=Y.vs H.Yd G j;have F:=Y.apN H.Yd G j;obtain⟨ac,Z⟩:=Y.va H.Yd z j;rw[j]at g;have o:(a9 T S (av S H.Yd)).length=(aM l H.Yd).length:=(by rw[<-hH,Uy]);have i:(aQ k b).need=(aM l H.Yd).length:=by
    rw[e];simp only;unfold fL;rw[Ud J,UR,Uf g.symm,o]
   have s:=nO k b;rw[i]at s;have v:(K.reverse.map (fun q=>M.getD q [])).length=K.length:=by rw[Uy,List.length_reverse]
   have u:iE T S A k b M=(if dJ k b<0 then([],6)
     else if(nX T S A (av S H.Yd) (a9 T S (av S H.Yd)) ((dy k b).map (fun q=>M.getD q [])) (zH T S (av S H.Yd)) (bt S (a9 T S (av S H.Yd)) ((dy k b).map (fun q=>M.getD q [])) (a9 T S (av S H.Yd)).length)==0)=false then([],nX T S A (av S H.Yd) (a9 T S (av S H.Yd)) ((dy k b).map (fun q=>M.getD q [])) (zH T S (av S H.Yd)) (bt S (a9 T S (av S H.Yd)) ((dy k b).map (fun q=>M.getD q [])) (a9 T S (av S H.Yd)).length))
     else if 32<(ed (zH T S (av S H.Yd)) (bt S (a9 T S (av S H.Yd)) ((dy k b).map (fun q=>M.getD q [])) (a9 T S (av S H.Yd)).length) (bb T S (av S H.Yd))).length then([],10)
     else(ed (zH T S (av S H.Yd)) (bt S (a9 T S (av S H.Yd)) ((dy k b).map (fun q=>M.getD q [])) (a9 T S (av S H.Yd)).length) (bb T S (av S H.Yd)),0)):=by
    unfold iE;rw[e];simp only;rw[Ud L,UR,Ud (by rw[<-g];simp)]
   have d:fS l Va ms M (K.reverse.map (fun q=>M.getD q [])) H=(ii l H.Yd Va ms (K.reverse.map (fun q=>M.getD q [])),(K.reverse.map (fun q=>M.getD q [])).take (K.length-(aM l H.Yd).length)):=by
    unfold fS;rw[hk,Ud (by simp),j,Uf rfl,v]
   by_cases t:K.length<(aM l H.Yd).length
   ·rw[MT _ b K hC t]at s;rw[u,Uf (by omega)];have P:ii l H.Yd Va ms (K.reverse.map (fun q=>M.getD q []))=(6,[]):=by unfold ii;rw[v,Uf t]
    rw[P]at d;exact⟨fun _=>Cj d rfl,fun h=>by cases h⟩
   ·obtain⟨c,hc,ag,p⟩:=rB (aM l H.Yd).length b K hC (by omega);rw[hc]at s;have m:dy k b=(K.take (aM l H.Yd).length).reverse:=by unfold dy;rw[i,p,UE]
    have hE:(K.reverse.map (fun q=>M.getD q [])).drop (K.length-(aM l H.Yd).length)=(dy k b).map (fun q=>M.getD q []):=by
     rw[m,List.reverse_take,List.map_drop]
    have V:((dy k b).map (fun q=>M.getD q [])).length=(aM l H.Yd).length:=by
     rw[m,Uy,List.length_reverse,U6];omega
    have r:∀x∈(dy k b).map (fun q=>M.getD q []),Tn T S A Va x:=fun x w=>by
     obtain⟨q,B,rfl⟩:=Vf.1 w;rw[m]at B;exact hI _ (IP hM (hK q (Wf (List.mem_reverse.1 B))))
    have O:(K.reverse.map (fun q=>M.getD q [])).take (K.length-(aM l H.Yd).length)=(K.drop (aM l H.Yd).length).reverse.map (fun q=>M.getD q []):=by
     rw[List.reverse_drop,Xn]
    have P:ii l H.Yd Va ms (K.reverse.map (fun q=>M.getD q []))=qC l H.Yd Va ms (bb T S (av S H.Yd)) (ke l (aM l H.Yd) ((dy k b).map (fun q=>M.getD q [])) ([],[])):=by
     unfold ii;rw[v,Ud t,hE,N]
    rw[P,O]at d;rw[u,Ud (by omega),i];clear u P O hE m p;generalize (dy k b).map (fun q=>M.getD q [])=E at *;obtain⟨Q,R⟩:=Rz hy V (fun x w=>⟨(r x w).1,(r x w).2.1⟩) (aM l H.Yd).length 0 (by omega) rfl;rw[VK,VK]at Q R;have z1:bI T S ((aM l H.Yd).map (av S)) 0=[]:=rfl;have z2:bt S ((aM l H.Yd).map (av S)) E 0=[]:=rfl;rw[z1,z2,hH,<-o]at Q R;have U:=N6 T S (a9 T S (av S H.Yd)) E (a9 T S (av S H.Yd)).length;have D:∀af∈bt S (a9 T S (av S H.Yd)) E (a9 T S (av S H.Yd)).length,Ph T S A Va af:=fun af hb=>by
     unfold bt at hb;obtain⟨q,B,rfl⟩:=Vf.1 hb;unfold ta at B;have B:=Up.1 (UP.1 B).1;have hm:E.getD q []∈E:=by rw[Uc,Ub (by omega)];exact Uu _
     exact fun y hy=>(r _ hm).2.2 y (WN hy)
    have W:=P7 (l:=l) (n:=H.Yd) Y.ap Y.inn ad U D F X;unfold nX;unfold qC at d;rw[Q]at d;cases C:(dn (At T S (a9 T S (av S H.Yd)) E (zH T S (av S H.Yd)) (bt S (a9 T S (av S H.Yd)) E (a9 T S (av S H.Yd)).length)) (a9 T S (av S H.Yd)).length==0)
    ·rw[C,Ud (by simp)]at d;rw[Uf rfl,Uf C];exact⟨fun _=>Cj d C,fun h=>by rw[C]at h;cases h⟩
    ·rw[R (by simpa using C),C,Uf rfl,W]at d;simp only at d;rw[Ud (show ¬(true=false) by simp)];cases hp:(mb T S (av S H.Yd)).all (Mg T S A (zH T S (av S H.Yd)) (bt S (a9 T S (av S H.Yd)) E (a9 T S (av S H.Yd)).length))
     ·rw[hp,Ud (by simp)]at d;rw[Ud (show ¬(false=true) by simp),Uf (by rfl)];exact⟨fun _=>Cj d rfl,fun h=>by cases h⟩
     ·rw[hp,Uf rfl]at d;rw[Uf (show true=true from rfl),Ud (show ¬(((0:Int)==0)=false) by simp),yE d];obtain⟨r1,r2⟩:=Ep (zH T S (av S H.Yd)) (bt S (a9 T S (av S H.Yd)) E (a9 T S (av S H.Yd)).length) (bb T S (av S H.Yd));by_cases f:32<(ed (zH T S (av S H.Yd)) (bt S (a9 T S (av S H.Yd)) E (a9 T S (av S H.Yd)).length) (bb T S (av S H.Yd))).length
      ·rw[Uf f,Ud (Nat.not_le.2 (r2 f))];exact⟨fun _=>rfl,fun h=>by cases h⟩
      ·rw[Ud f,r1 (Nat.not_lt.1 f),Uf (Nat.not_lt.1 f)];exact⟨fun h=>(by cases h),fun _=>⟨rfl,⟨Nat.not_lt.1 f,Sh I Z,QV D ac⟩,by omega⟩⟩
end
end Go.Proofs.YtnbhnocdhbcbcaaGreat
