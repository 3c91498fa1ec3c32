import Derived.OwnWalk
import Derived.Test.YtnbalopedcgpcaaGreatG34
namespace Go.Proofs.YtnbalopedcgpcaaGreat
open Go.RowKit Tryz
open Value renaming string->Xy,pointer->XA,bool->XC,tuple->XD
open Ending renaming returned->XH
open World renaming cell?->XI
open Option renaming none->XJ,some->XK
open Bool renaming true->XL,false->XM
open Go renaming Calls->XO,World->XP
set_option maxHeartbeats 0
variable{v:List ByteArray}{I:ByteArray->List ByteArray}{o:ByteArray}{w:List St}{b:Nat}{n:St}(d:Nat->Bool)(i D:Nat)(S:List ByteArray)(H:List St)(L:ByteArray->List ByteArray)(T:ByteArray)(x:Nat)(y:List ByteArray)
def mS(us:List ByteArray)(σ:ByteArray->List ByteArray)(x:ByteArray):List ByteArray:=match aZ us x with
 | none=>[x]
 | some _=>σ x
theorem pF(h:o∉v):mS v σ o=[o]:=by unfold mS;rw[dU.2 h]
theorem xC(h:o∈v):mS v σ o=σ o:=by
 unfold mS;cases a:aZ v o with
 | none=>exact absurd h (dU.1 a)
 | some i=>rfl
theorem wG{α β:Type}{f g:α->List β}{l:List α}(h:∀x∈l,f x=g x):l.flatMap f=l.flatMap g:=by
 induction l with
 | nil=>rfl
 | cons x r b=>rw[QE,QE,h x (by simp),b (fun y a=>h y (by simp[a]))]
theorem Dp:rm S (S.map σ) T=mS S σ T:=by
 unfold rm mS;cases b:aZ S T with
 | none=>rfl
 | some i =>
  have a:=Jh b;have e:S.getD i ⟨#[]⟩=T:=by
   have c:=Rf (p:=fun i=>(S.getD i ⟨#[]⟩).toList==T.toList) b;exact ed c
  rw[Py,Px a]at e;have e:S[i]=T:=e
  show(S.map σ).getD i []=_
  rw[Py,Qi,Px a];show σ S[i]=σ T;rw[e]
theorem vG(c:List (List ByteArray))(b:List ByteArray):∀a,(a++b.flatMap (rm y c)).length<=32->gn y c b a=a++b.flatMap (rm y c):=by
 induction b with
 | nil=>intro a _;simp[gn]
 | cons x r d =>
  intro a h;rw[QE]at h ⊢;rw[gn,PJ (by rw[PQ]at h;omega),d _ (by rw[QU];exact h),QU]
theorem LV(h:(y.flatMap (mS S σ)).length<=32):iW S (S.map σ) y=y.flatMap (mS S σ):=by
 have e:y.flatMap (rm S (S.map σ))=y.flatMap (mS S σ):=wG (fun x _=>Dp S σ x);unfold iW;rw[vG S _ y [] (by rw[e];simpa using h),e];rfl
def GR(l:List St)(us:List ByteArray)(σ:ByteArray->List ByteArray)(h:Nat):List ByteArray:=if((l.getD h dJ).kind==3)=XL then(l.getD h dJ).Ub.flatMap (mS us σ) else ax (l.getD h dJ) :: σ (ak (l.getD h dJ))
theorem yM:wD y y=XL:=by unfold wD;exact Rc _
theorem Ni(b:List Nat)(o:O3 H b):∀(d a:List Nat),b=a++d->(∀h∈d,((H.getD h dJ).kind==3)=XL->(GR H (jR H b) σ h).length<=32) ->
  fI H d (d.map (GR H (jR H b) σ)) (jR H a,(jR H a).map σ)=(0,(jR H b,(jR H b).map σ)):=by
 intro d
 induction d with
 | nil=>intro a e _;rw[e,Qz];rfl
 | cons h d t =>
  intro a e g;have s:h∈b:=by rw[e];simp
  have p:b=(a++[h])++d:=by rw[e];simp
  have j:i6 (H.getD h dJ) (GR H (jR H b) σ h) (jR H a,(jR H a).map σ)=(0,(jR H (a++[h]),(jR H (a++[h])).map σ)):=by
   unfold i6 GR;cases i:((H.getD h dJ).kind==3)
   ·rw[PG (by simp),PG (by simp)];simp only[beq_self_eq_true,if_true];have k:jR H (a++[h])=jR H a++[ak (H.getD h dJ)]:=by
     rw[rG];unfold jR;simp only[List.filterMap_cons,List.filterMap_nil,i];rfl
    rw[k];simp
   ·rw[PJ rfl,PJ rfl];have k:jR H (a++[h])=jR H a:=by
     rw[rG];unfold jR;rw[QD,PJ i,List.filterMap_nil,Qz]
    have n:(H.getD h dJ).Ub.flatMap (rm (jR H a) ((jR H a).map σ))=(H.getD h dJ).Ub.flatMap (mS (jR H b) σ):=by
     refine wG (fun x m=>?_);rw[Dp];by_cases f:x∈jR H a
     ·rw[xC f,xC];rw[e,rG];exact Ry _ f
     ·rw[pF f,pF];have q:=o.pre a h d e i x m (dU.2 f);rw[e,show a++h :: d=(a++[h])++d by simp,rG,k];intro c;rcases Qe.1 c with c | c
      ·exact f c
      ·exact dU.1 q c
    have r:iW (jR H a) ((jR H a).map σ) (H.getD h dJ).Ub=(H.getD h dJ).Ub.flatMap (mS (jR H b) σ):=by
     have l:=g h (by simp) i;unfold GR at l;rw[PJ i]at l;unfold iW;rw[vG _ _ _ [] (by rw[n];simpa using l),n];rfl
    rw[r,k,PJ (yM _)]
  rw[Rk,fI,j];exact t (a++[h]) p (fun x m=>g x (Qk _ m))
theorem G1(A:NZ w b)(σ:ByteArray->List ByteArray){d:List Bool}(a:List (List ByteArray))(c:∀h∈al w b,((w.getD h dJ).kind==3)=XL->(GR w (eP w b) σ h).length<=32)(e:j9 w b (eP w b,(eP w b).map σ) v d=XL) :
  eH w b v d (a++(al w b).map (GR w (eP w b) σ))=(0,iW (eP w b) ((eP w b).map σ) (w.getD b dJ).Ub):=by
 unfold eH;have f:(a++(al w b).map (GR w (eP w b) σ)).length=a.length+(al w b).length:=by simp
 rw[PG (by omega),f,show a.length+(al w b).length-(al w b).length=a.length by omega,List.drop_left];have:=Ni w σ (al w b) A.hy (al w b) [] rfl c;rw[show(jR w [],(jR w []).map σ)=(([],[]):Kr) from rfl]at this;rw[this];unfold lD;rw[PJ (by rfl)]
 show(if j9 w b (eP w b,(eP w b).map σ) v d=XL then _ else _)=_
 rw[PJ e]
theorem ye(A:NZ w b)(σ:ByteArray->List ByteArray){vs:List ByteArray}{ms:List Bool}(c:List (List ByteArray))(a:∀h∈al w b,((w.getD h dJ).kind==3)=XL->(GR w (eP w b) σ h).length<=32)(e:j9 w b (eP w b,(eP w b).map σ) vs ms=XL)(d:((w.getD b dJ).Ub.flatMap (mS (eP w b) σ)).length<=32):eH w b vs ms (c++(al w b).map (GR w (eP w b) σ))=(0,(w.getD b dJ).Ub.flatMap (mS (eP w b) σ)):=by
 rw[G1 A σ c a e,LV _ _ _ d]
def lx(l:List St)(a:Nat):List Nat:=(al l a).filter (fun h=>!((l.getD h dJ).kind==3))
def O6(l:List St)(a:Nat):List Nat:=(al l a).filter (fun h=>(l.getD h dJ).kind==3)
theorem Li(a:List Nat):jR H a=(a.filter (fun h=>!((H.getD h dJ).kind==3))).map (fun h=>ak (H.getD h dJ)):=by
 unfold jR
 induction a with
 | nil=>rfl
 | cons h r b =>
  rw[QD,List.filter_cons];cases c:((H.getD h dJ).kind==3) with
  | true=>rw[PJ rfl];simp only[Bool.not_true,Bool.false_eq_true,if_false];exact b
  | false=>simp only[Bool.false_eq_true,if_false,Bool.not_false,if_true,List.map_cons];rw[b]
structure Pd(l:List St)(a:Nat)(f:Fm):Prop where
 vars:f.vars=eP l a
 types:f.types=(lx l a).map (fun h=>ax (l.getD h dJ))
 ess:f.ess=(O6 l a).map (fun h=>(l.getD h dJ).Ub)
 left:f.left=(bN l a).map (·.1)
 right:f.right=(bN l a).map (·.2)
 goal:f.goal=(l.getD a dJ).Ub
theorem qe:eP H x=(lx H x).map (fun h=>ak (H.getD h dJ)):=Li H _
theorem EV{α β:Type}{f g:α->Option β}{L:List α}(h:∀x∈L,f x=g x):L.filterMap f=L.filterMap g:=by
 induction L with
 | nil=>rfl
 | cons x r b=>rw[QD,QD,h x (by simp),b (fun y a=>h y (by simp[a]))]
theorem FJ(A:NZ w b){p:Pr}:p∈bN w b ↔ ∃i j,i<j/\j<(eP w b).length/\cR (eP w b).length (cT w b (eP w b)) i j=XL/\p=(gD (eP w b) i,gD (eP w b) j):=by
 have e:bt w (al w b)=eP w b:=by
  unfold bt eP jR;refine EV ?_;intro h g;unfold eJ;cases f:w[h]? with
  | none =>
   exfalso
   have:=A.hy.ess h g;rw[Py,f]at this;exact this rfl
  | some s =>
   have m:w.getD h dJ=s:=(by rw[Py,f];rfl);simp only;rw[m];by_cases k:s.kind=3
   ·rw[k];rfl
   ·obtain⟨u,l,-,n⟩:=gz.1 g;rw[f]at l;have:=Qo l;subst this;rcases n with ⟨o,-⟩ | q
    ·rw[o];rfl
    ·exact absurd q k
 unfold bN tD mR iI;rw[e];simp only[List.mem_flatMap,List.mem_range,List.mem_map,List.mem_filter,Bool.and_eq_true,decide_eq_true_eq];constructor
 ·rintro ⟨i,r,j,⟨d,a,c⟩,rfl⟩;exact⟨i,j,a,d,c,rfl⟩
 ·rintro ⟨i,j,a,d,c,rfl⟩;exact⟨i,by omega,j,⟨d,a,c⟩,rfl⟩
section
variable {l:List St} {a:Nat} {f:Fm}
end
theorem Gu(h:A7 n)(a:n.kind=2∨n.kind=3)(f:Fm) :
  (bP f (aV (d8 n))).vars=f.vars++(if(n.kind==3)=XL then [] else [ak n])/\(bP f (aV (d8 n))).types=f.types++(if(n.kind==3)=XL then [] else [ax n])/\(bP f (aV (d8 n))).ess=f.ess++(if(n.kind==3)=XL then [n.Ub] else [])/\(bP f (aV (d8 n))).left=f.left/\(bP f (aV (d8 n))).right=f.right:=by
 rw[h.split];have d:=nG n.label (eA n.kind :: n.Ub) h.lab;rcases a with a | a
 ·have e:=h.two a;have b:fZ (n.label :: eA n.kind :: n.Ub) 102=XL:=by rw[gH,a,wR,uH];rfl
  have c:(n.kind==3)=XM:=by rw[a];rfl
  unfold bP;rw[PG (by rw[d];simp),PJ ⟨b,by simp[e]⟩,c];have v:ak n=n.Ub.getD 1 ⟨#[]⟩:=by unfold ak;rw[PJ ⟨by rw[a];rfl,by omega⟩]
  rw[v];simp only[Bool.false_eq_true,if_false,List.append_nil];exact⟨rfl,rfl,trivial,trivial,trivial⟩
 ·have b:fZ (n.label :: eA n.kind :: n.Ub) 102=XM:=by rw[gH,a,nK,uH];decide
  have g:fZ (n.label :: eA n.kind :: n.Ub) 101=XL:=by rw[gH,a,nK,uH];rfl
  have c:(n.kind==3)=XL:=by rw[a];rfl
  unfold bP;rw[PG (by rw[d];simp),PG (by rw[b];simp),PJ g,c];simp only[if_true,List.append_nil];exact⟨trivial,trivial,rfl,trivial,trivial⟩
theorem CP(p:Pr)(a:iR p.1)(b:iR p.2)(f:Fm):bP f (aV (cB p))={ f with left:=f.left++[p.1],right:=f.right++[p.2] }:=by
 rw[nR p a b];unfold bP;rw[PJ (sP _)];rfl
theorem vQ(h:A7 n)(c:jl n.kind=XL)(f:Fm):bP f (aV (d8 n))={ f with goal:=n.Ub }:=by
 rw[h.split];have d:=nG n.label (eA n.kind :: n.Ub) h.lab;have a:n.kind=4∨n.kind=5:=by unfold jl at c;simpa using c
 have g:fZ (n.label :: eA n.kind :: n.Ub) 102=XM:=by
  rw[gH];rcases a with e | e <;> rw[e]
  ·rw[sS,uH];decide
  ·rw[sU,uH];decide
 have i:fZ (n.label :: eA n.kind :: n.Ub) 101=XM:=by
  rw[gH];rcases a with e | e <;> rw[e]
  ·rw[sS,uH];decide
  ·rw[sU,uH];decide
 unfold bP;rw[PG (by rw[d];simp),PG (by rw[g];simp),PG (by rw[i];simp)];rfl
theorem Bw(a:List Nat)(h:∀n∈a,∃h:n<H.length,A7 H[n]/\(H[n].kind=2∨H[n].kind=3)):∀(f:Fm) (g:Fm),g=((a.map (ce H)).foldl (fun f x=>bP f (aV x)) f) ->
  g.vars=f.vars++(a.filter (fun h=>!((H.getD h dJ).kind==3))).map (fun h=>ak (H.getD h dJ))/\g.types=f.types++(a.filter (fun h=>!((H.getD h dJ).kind==3))).map (fun h=>ax (H.getD h dJ))/\g.ess=f.ess++(a.filter (fun h=>(H.getD h dJ).kind==3)).map (fun h=>(H.getD h dJ).Ub)/\g.left=f.left/\g.right=f.right:=by
 induction a with
 | nil=>rintro f g rfl;simp
 | cons n a q =>
  rintro f g rfl;obtain⟨b,d,j⟩:=h n (by simp);have e:ce H n=d8 H[n]:=by unfold ce;rw[Px b]
  have i:H.getD n dJ=H[n]:=by rw[Py,Px b];rfl
  simp only[List.map_cons,List.foldl_cons];obtain⟨k,l,m,o,p⟩:=q (fun n b=>h n (Qk _ b)) (bP f (aV (ce H n))) _ rfl;obtain⟨r,s,t,u,v⟩:=Gu d j f;rw[k,l,m,o,p,e,r,s,t,u,v];simp only[List.filter_cons,i];cases c:(H[n].kind==3) with
  | true=>simp[b]
  | false=>simp[b]
theorem qM(a:List Pr)(h:∀p∈a,iR p.1/\iR p.2):∀f:Fm,(a.map cB).foldl (fun f x=>bP f (aV x)) f={ f with left:=f.left++a.map (·.1),right:=f.right++a.map (·.2) }:=by
 induction a with
 | nil=>intro f;simp
 | cons p a d =>
  intro f;have b:=h p (by simp);simp only[List.map_cons,List.foldl_cons];rw[CP p b.1 b.2,d (fun q c=>h q (Qk _ c))];simp
theorem Oi(h:nj w b):Pd w b (cM (aX w b)):=by
 have a:ce w b=d8 (w[b]'h.ha):=by unfold ce;rw[Px h.ha]
 have c:w.getD b dJ=w[b]'h.ha:=by rw[Py,Px h.ha];rfl
 obtain⟨g,i,j,k,l⟩:=Bw w (al w b) h.hyp xS _ rfl;have e:cM (aX w b)={ (((al w b).map (ce w)).foldl (fun f x=>bP f (aV x)) xS) with left:=(((al w b).map (ce w)).foldl (fun f x=>bP f (aV x)) xS).left++(bN w b).map (·.1),right:=(((al w b).map (ce w)).foldl (fun f x=>bP f (aV x)) xS).right++(bN w b).map (·.2),goal:=(w[b]'h.ha).Ub }:=by
  unfold cM fJ;rw[Qy];unfold aX;rw[Q0,Q0];simp only[List.foldl_cons,List.foldl_nil,a];rw[qM _ (fun p d=>(h.prs p d).1),vQ h.own h.isa]
 rw[e];refine⟨?_,?_,?_,?_,?_,by rw[c]⟩
 ·show(((al w b).map (ce w)).foldl (fun f x=>bP f (aV x)) xS).vars=_
  rw[g,qe];rfl
 ·show(((al w b).map (ce w)).foldl (fun f x=>bP f (aV x)) xS).types=_
  rw[i];rfl
 ·show(((al w b).map (ce w)).foldl (fun f x=>bP f (aV x)) xS).ess=_
  rw[j];rfl
 ·show(((al w b).map (ce w)).foldl (fun f x=>bP f (aV x)) xS).left++_=_
  rw[k];rfl
 ·show(((al w b).map (ce w)).foldl (fun f x=>bP f (aV x)) xS).right++_=_
  rw[l];rfl
def Pm(l:List St)(k:Nat):Nat:=((List.range k).filter (fun n=>!((gS l n).Uh==0))).length
theorem Jz:f7 H=((List.range H.length).filter (fun n=>!((gS H n).Uh==0))).map (gS H):=by
 unfold f7;rw[rP,Sv];rfl
theorem Le:∀k,k<x->d k=XL->((List.range x).filter d)[((List.range k).filter d).length]?=XK k:=by
 intro k b a;obtain⟨m,rfl⟩:∃m,x=k+1+m:=⟨x-(k+1),by omega⟩
 rw[TU,Qt,QB,Qt,QU,PR (PB _),Rb];simp[a]
theorem Lf(h:((List.range i).filter d)[D]?=XK x):x<i/\d x=XL/\D=((List.range x).filter d).length:=by
 have a:=QA.1 (Qf h);have c:=PV.1 a.1;refine⟨c,a.2,?_⟩;have e:=Le d i x c a.2;have b:((List.range i).filter d).Nodup:=List.nodup_range.filter _;obtain⟨j,f⟩:=PT.1 h;obtain⟨k,g⟩:=PT.1 e;exact(List.getElem_inj b).1 (f.trans g.symm)
theorem LD{l:List St}{k:Nat}(h:((gS l k).Uh==0)=XM):∃s,l[k]?=XK s/\jl s.kind=XL/\(gS l k).label=s.label:=by
 unfold gS gL at h ⊢;cases e:l[k]? with
 | none=>rw[e]at h;cases h
 | some s =>
  rw[e]at h;simp only at h ⊢;by_cases c:s.kind=4
  ·have a:(s.kind==4)=XL:=(by rw[c];rfl);exact⟨s,rfl,by unfold jl;rw[a];rfl,by rw[a];rfl⟩
  ·have a:(s.kind==4)=XM:=P7.2 c;by_cases d:s.kind=5
   ·have b:(s.kind==5)=XL:=(by rw[d];rfl);refine⟨s,rfl,by unfold jl;rw[b];simp,?_⟩;rw[a,b];simp only[Bool.false_eq_true,if_false,if_true];unfold dP it
    repeat' split
    all_goals rfl
   ·have b:(s.kind==5)=XM:=P7.2 d;rw[a,b]at h;cases h
theorem Ls(i:Kn w){k:Nat}{u:St}(f:w[b]?=XK n)(g:w[k]?=XK u)(a:jl n.kind=XL)(d:jl u.kind=XL)(e:n.label=u.label):b=k:=by
 have j:n.kind≠1:=fun c=>by rw[c]at a;cases a
 have l:u.kind≠1:=fun c=>by rw[c]at d;cases d
 rcases R0 b k with c | c | c
 ·have:=i b k n u c f g j l;rw[e]at this;simp at this
 ·exact c
 ·have:=i k b u n c g f l j;rw[e]at this;simp at this
theorem In(f:Kn w)(h:w[b]?=XK n)(e:jl n.kind=XL):da w n.label=XK b:=by
 have g:=(PT.1 h).1;cases c:da w n.label with
 | none =>
  unfold da at c;have:=Q1.1 c b (PV.2 g);exact absurd (by unfold du;rw[h];simp[e]) this
 | some m =>
  unfold da at c;have a:=Rf c;unfold du at a;cases d:w[m]? with
  | none=>rw[d]at a;cases a
  | some t =>
   rw[d]at a;simp only[Bool.and_eq_true]at a;rw[Ls f d h a.2 e (eC (Rh a.1))]
structure Pi(T:ByteArray)(i k:Nat)(r:Rw):Prop where
 find:da (aJ T).2.Us r.label=XK k
 fr:nj (aJ T).2.Us k
 own:((aJ T).2.Us[k]'fr.ha).label.toList=r.label.toList
 at_:fD (aJ T).2.Us k=XL
 ver:(gS (aJ T).2.Us k).Uh=r.Uh
 ix:i=Pm (aJ T).2.Us k
theorem Oj(a:dV T)(h:(aJ T).2.Us[b]?=XK n)(c:jl n.kind=XL):nj (aJ T).2.Us b:=by
 obtain⟨d,rfl⟩:=PT.1 h;exact nj.of (jD T a.size) (iA T a.size a.inc).ok b d c
theorem NJ(f:dV T){r:Rw}(h:(bu T)[b]?=XK r):∃k,Pi T b k r:=by
 have g:=(Cr T).diff;unfold bu at h;rw[Jz,Qi]at h;cases d:((List.range (aJ T).2.Us.length).filter (fun n=>!((gS (aJ T).2.Us n).Uh==0)))[b]? with
 | none=>rw[d]at h;cases h
 | some k =>
  rw[d]at h;have h:=Qo h;obtain⟨p,m,o⟩:=Lf _ _ _ _ d;obtain⟨s,a,c,i⟩:=LD (l:=(aJ T).2.Us) (k:=k) (by simpa using m);have e:r.label=s.label:=by rw[<-h,i]
  refine⟨k,by rw[e];exact In g a c,Oj T f a c,?_,by unfold fD;rw[a];exact c,by rw[<-h],o⟩;obtain⟨q,j⟩:=PT.1 a;rw[e,j]
theorem Gq(s:Fs)(r:Nat->Hd)(g:Nat)(a:ByteArray)(m:Nat)(w:XP)(v:XI w ⟨i,0,XJ⟩=XK (XA (XK ⟨D,0,XJ⟩)))(E:i<w.heap.size)(o:dV T)(C:fB w D s (aJ T).2.Us r g)(b:da (aJ T).2.Us a=XK m)(d:nj (aJ T).2.Us m)(own:((aJ T).2.Us[m]'d.ha).label.toList=a.toList) :
  XO prog 21 #[XA (XK ⟨i,0,XJ⟩),Xy a] w fun e c=>∃F O j G f,e=XH (XD #[XA (XK ⟨F,0,XJ⟩),XC XL])/\fP c F w.heap.size a O (cM (aX (aJ T).2.Us m)) j G f/\aa [] w c:=by
 have u:=(iA T o.size o.inc).ok;have L:=(jD T o.size).szs;have B:=mB (aJ T).2.Us m;have H:=h9 (aJ T).2.Us m;have J:=u.len;have K:(bN (aJ T).2.Us m).length<=100000000:=xi _ _ (by have:=my (aJ T).2.Us (al (aJ T).2.Us m);omega);have l:=oX d
 refine(uU i D a (aX (aJ T).2.Us m) w v E (by omega) (by omega)
   (by
     intro c q;refine(uc D s _ r g a c (C.Ug q) u L).mono ?_;rintro e P ⟨M,t⟩;rw[b]at t;obtain⟨x,y,z,A⟩:=t;exact⟨x,y,z,A,M⟩)
   (fun k I=>zt d a own k I) (by show 0<_;rw[l.2];exact d.own.pos)).mono ?_
 rintro e c ⟨F,Q,j,p,f,rfl,n,-,-,N⟩;exact⟨F,_,j,p,f,rfl,n,N⟩
end Go.Proofs.YtnbalopedcgpcaaGreat
