import Derived.OwnWalk
import Derived.Test.YtnbalopedcgpcaaGreatG34
namespace Go.Proofs.YtnbalopedcgpcaaGreat
open Go.RowKit Tryz
open Value renaming string->Xy,pointer->XA,bool->XC,tuple->XD
open Ending renaming returned->XH
open World renaming cell?->XI
open Option renaming none->XJ,some->XK
open Bool renaming true->XL,false->XM
open Go renaming Calls->XO,World->XP
set_option maxHeartbeats 0
variable{d:List ByteArray}{I:ByteArray->List ByteArray}{D:ByteArray}{w:List St}{b:Nat}{n:St}(i:Nat->Bool)(o L:Nat)(x:List ByteArray)(H:List St)(S:ByteArray->List ByteArray)(T:ByteArray)(y:Nat)(v:List ByteArray)
def mT(us:List ByteArray)(sbs:ByteArray->List ByteArray)(x:ByteArray):List ByteArray:=match aZ us x with
 | none=>[x]
 | some _=>sbs x
theorem pG(h:D∉d):mT d I D=[D]:=by unfold mT;rw[dU.2 h]
theorem xC(h:D∈d):mT d I D=I D:=by
 unfold mT;cases a:aZ d D with
 | none=>exact absurd h (dU.1 a)
 | some i=>rfl
theorem wG{α β:Type}{f g:α->List β}{l:List α}(h:∀x∈l,f x=g x):l.flatMap f=l.flatMap g:=by
 induction l with
 | nil=>rfl
 | cons x r b=>rw[QH,QH,h x (by simp),b (fun y a=>h y (by simp[a]))]
theorem Dp:lr x (x.map S) T=mT x S T:=by
 unfold lr mT;cases b:aZ x T with
 | none=>rfl
 | some i =>
  have a:=Jj b;have e:x.getD i ⟨#[]⟩=T:=by
   have c:=Rp (p:=fun i=>(x.getD i ⟨#[]⟩).toList==T.toList) b;exact ed c
  rw[PK,PJ a]at e;have e:x[i]=T:=e
  show(x.map S).getD i []=_
  rw[PK,Qt,PJ a];show S x[i]=S T;rw[e]
theorem vG(c:List (List ByteArray))(b:List ByteArray):∀a,(a++b.flatMap (lr v c)).length<=32->eC v c b a=a++b.flatMap (lr v c):=by
 induction b with
 | nil=>intro a _;simp[eC]
 | cons x r d =>
  intro a h;rw[QH]at h ⊢;rw[eC,PZ (by rw[Qa]at h;omega),d _ (by rw[QY];exact h),QY]
theorem LY(h:(v.flatMap (mT x S)).length<=32):gS x (x.map S) v=v.flatMap (mT x S):=by
 have e:v.flatMap (lr x (x.map S))=v.flatMap (mT x S):=wG (fun a _=>Dp x S a);unfold gS;rw[vG x _ v [] (by rw[e];simpa using h),e];rfl
def GT(l:List St)(us:List ByteArray)(sbs:ByteArray->List ByteArray)(h:Nat):List ByteArray:=if((l.getD h dJ).kind==3)=XL then(l.getD h dJ).Um.flatMap (mT us sbs) else ax (l.getD h dJ) :: sbs (ak (l.getD h dJ))
theorem yM:wD v v=XL:=by unfold wD;exact Rm _
theorem Nn(b:List Nat)(o:Pb H b):∀(d a:List Nat),b=a++d->(∀h∈d,((H.getD h dJ).kind==3)=XL->(GT H (jR H b) S h).length<=32) ->
  fJ H d (d.map (GT H (jR H b) S)) (jR H a,(jR H a).map S)=(0,(jR H b,(jR H b).map S)):=by
 intro d
 induction d with
 | nil=>intro a e _;rw[e,QK];rfl
 | cons h d t =>
  intro a e g;have s:h∈b:=by rw[e];simp
  have p:b=(a++[h])++d:=by rw[e];simp
  have j:i6 (H.getD h dJ) (GT H (jR H b) S h) (jR H a,(jR H a).map S)=(0,(jR H (a++[h]),(jR H (a++[h])).map S)):=by
   unfold i6 GT;cases i:((H.getD h dJ).kind==3)
   ·rw[PV (by simp),PV (by simp)];simp only[beq_self_eq_true,if_true];have k:jR H (a++[h])=jR H a++[ak (H.getD h dJ)]:=by
     rw[rG];unfold jR;simp only[List.filterMap_cons,List.filterMap_nil,i];rfl
    rw[k];simp
   ·rw[PZ rfl,PZ rfl];have k:jR H (a++[h])=jR H a:=by
     rw[rG];unfold jR;rw[QO,PZ i,List.filterMap_nil,QK]
    have n:(H.getD h dJ).Um.flatMap (lr (jR H a) ((jR H a).map S))=(H.getD h dJ).Um.flatMap (mT (jR H b) S):=by
     refine wG (fun x m=>?_);rw[Dp];by_cases f:x∈jR H a
     ·rw[xC f,xC];rw[e,rG];exact RQ _ f
     ·rw[pG f,pG];have q:=o.pre a h d e i x m (dU.2 f);rw[e,show a++h :: d=(a++[h])++d by simp,rG,k];intro c;rcases Qo.1 c with c | c
      ·exact f c
      ·exact dU.1 q c
    have r:gS (jR H a) ((jR H a).map S) (H.getD h dJ).Um=(H.getD h dJ).Um.flatMap (mT (jR H b) S):=by
     have l:=g h (by simp) i;unfold GT at l;rw[PZ i]at l;unfold gS;rw[vG _ _ _ [] (by rw[n];simpa using l),n];rfl
    rw[r,k,PZ (yM _)]
  rw[Ru,fJ,j];exact t (a++[h]) p (fun x m=>g x (Qv _ m))
theorem G5(A:N5 w b)(a:ByteArray->List ByteArray){f:List Bool}(c:List (List ByteArray))(e:∀h∈al w b,((w.getD h dJ).kind==3)=XL->(GT w (eQ w b) a h).length<=32)(g:j9 w b (eQ w b,(eQ w b).map a) d f=XL) :
  eI w b d f (c++(al w b).map (GT w (eQ w b) a))=(0,gS (eQ w b) ((eQ w b).map a) (w.getD b dJ).Um):=by
 unfold eI;have i:(c++(al w b).map (GT w (eQ w b) a)).length=c.length+(al w b).length:=by simp
 rw[PV (by omega),i,show c.length+(al w b).length-(al w b).length=c.length by omega,List.drop_left];have:=Nn w a (al w b) A.hy (al w b) [] rfl e;rw[show(jR w [],(jR w []).map a)=(([],[]):Kt) from rfl]at this;rw[this];unfold lE;rw[PZ (by rfl)]
 show(if j9 w b (eQ w b,(eQ w b).map a) d f=XL then _ else _)=_
 rw[PZ g]
theorem ye(A:N5 w b)(a:ByteArray->List ByteArray){vs:List ByteArray}{ms:List Bool}(d:List (List ByteArray))(c:∀h∈al w b,((w.getD h dJ).kind==3)=XL->(GT w (eQ w b) a h).length<=32)(f:j9 w b (eQ w b,(eQ w b).map a) vs ms=XL)(e:((w.getD b dJ).Um.flatMap (mT (eQ w b) a)).length<=32):eI w b vs ms (d++(al w b).map (GT w (eQ w b) a))=(0,(w.getD b dJ).Um.flatMap (mT (eQ w b) a)):=by
 rw[G5 A a d c f,LY _ _ _ e]
def ly(l:List St)(a:Nat):List Nat:=(al l a).filter (fun h=>!((l.getD h dJ).kind==3))
def Pf(l:List St)(a:Nat):List Nat:=(al l a).filter (fun h=>(l.getD h dJ).kind==3)
theorem Ll(a:List Nat):jR H a=(a.filter (fun h=>!((H.getD h dJ).kind==3))).map (fun h=>ak (H.getD h dJ)):=by
 unfold jR
 induction a with
 | nil=>rfl
 | cons h r b =>
  rw[QO,List.filter_cons];cases c:((H.getD h dJ).kind==3) with
  | true=>rw[PZ rfl];simp only[Bool.not_true,Bool.false_eq_true,if_false];exact b
  | false=>simp only[Bool.false_eq_true,if_false,Bool.not_false,if_true,List.map_cons];rw[b]
structure Po(l:List St)(a:Nat)(f:Fm):Prop where
 vars:f.vars=eQ l a
 types:f.types=(ly l a).map (fun h=>ax (l.getD h dJ))
 ess:f.ess=(Pf l a).map (fun h=>(l.getD h dJ).Um)
 left:f.left=(bN l a).map (·.1)
 right:f.right=(bN l a).map (·.2)
 goal:f.goal=(l.getD a dJ).Um
theorem qg:eQ H y=(ly H y).map (fun h=>ak (H.getD h dJ)):=Ll H _
theorem EV{α β:Type}{f g:α->Option β}{L:List α}(h:∀x∈L,f x=g x):L.filterMap f=L.filterMap g:=by
 induction L with
 | nil=>rfl
 | cons x r b=>rw[QO,QO,h x (by simp),b (fun y a=>h y (by simp[a]))]
theorem FJ(A:N5 w b){p:Pr}:p∈bN w b ↔ ∃i j,i<j/\j<(eQ w b).length/\cR (eQ w b).length (cT w b (eQ w b)) i j=XL/\p=(gD (eQ w b) i,gD (eQ w b) j):=by
 have e:bt w (al w b)=eQ w b:=by
  unfold bt eQ jR;refine EV ?_;intro h g;unfold eK;cases f:w[h]? with
  | none =>
   exfalso
   have:=A.hy.ess h g;rw[PK,f]at this;exact this rfl
  | some s =>
   have m:w.getD h dJ=s:=(by rw[PK,f];rfl);simp only;rw[m];by_cases k:s.kind=3
   ·rw[k];rfl
   ·obtain⟨u,l,-,n⟩:=gz.1 g;rw[f]at l;have:=Qz l;subst this;rcases n with ⟨o,-⟩ | q
    ·rw[o];rfl
    ·exact absurd q k
 unfold bN tD mS iJ;rw[e];simp only[List.mem_flatMap,List.mem_range,List.mem_map,List.mem_filter,Bool.and_eq_true,decide_eq_true_eq];constructor
 ·rintro ⟨i,r,j,⟨d,a,c⟩,rfl⟩;exact⟨i,j,a,d,c,rfl⟩
 ·rintro ⟨i,j,a,d,c,rfl⟩;exact⟨i,by omega,j,⟨d,a,c⟩,rfl⟩
section
variable {l:List St} {a:Nat} {f:Fm}
end
theorem Gv(h:A7 n)(a:n.kind=2∨n.kind=3)(f:Fm) :
  (bP f (aV (d8 n))).vars=f.vars++(if(n.kind==3)=XL then [] else [ak n])/\(bP f (aV (d8 n))).types=f.types++(if(n.kind==3)=XL then [] else [ax n])/\(bP f (aV (d8 n))).ess=f.ess++(if(n.kind==3)=XL then [n.Um] else [])/\(bP f (aV (d8 n))).left=f.left/\(bP f (aV (d8 n))).right=f.right:=by
 rw[h.split];have d:=nI n.label (eA n.kind :: n.Um) h.lab;rcases a with a | a
 ·have e:=h.two a;have b:f7 (n.label :: eA n.kind :: n.Um) 102=XL:=by rw[gH,a,wR,uH];rfl
  have c:(n.kind==3)=XM:=by rw[a];rfl
  unfold bP;rw[PV (by rw[d];simp),PZ ⟨b,by simp[e]⟩,c];have v:ak n=n.Um.getD 1 ⟨#[]⟩:=by unfold ak;rw[PZ ⟨by rw[a];rfl,by omega⟩]
  rw[v];simp only[Bool.false_eq_true,if_false,List.append_nil];exact⟨rfl,rfl,trivial,trivial,trivial⟩
 ·have b:f7 (n.label :: eA n.kind :: n.Um) 102=XM:=by rw[gH,a,nL,uH];decide
  have g:f7 (n.label :: eA n.kind :: n.Um) 101=XL:=by rw[gH,a,nL,uH];rfl
  have c:(n.kind==3)=XL:=by rw[a];rfl
  unfold bP;rw[PV (by rw[d];simp),PV (by rw[b];simp),PZ g,c];simp only[if_true,List.append_nil];exact⟨trivial,trivial,rfl,trivial,trivial⟩
theorem CP(p:Pr)(a:iT p.1)(b:iT p.2)(f:Fm):bP f (aV (cB p))={ f with left:=f.left++[p.1],right:=f.right++[p.2] }:=by
 rw[nU p a b];unfold bP;rw[PZ (sP _)];rfl
theorem vQ(h:A7 n)(c:jl n.kind=XL)(f:Fm):bP f (aV (d8 n))={ f with goal:=n.Um }:=by
 rw[h.split];have d:=nI n.label (eA n.kind :: n.Um) h.lab;have a:n.kind=4∨n.kind=5:=by unfold jl at c;simpa using c
 have g:f7 (n.label :: eA n.kind :: n.Um) 102=XM:=by
  rw[gH];rcases a with e | e <;> rw[e]
  ·rw[sS,uH];decide
  ·rw[sU,uH];decide
 have i:f7 (n.label :: eA n.kind :: n.Um) 101=XM:=by
  rw[gH];rcases a with e | e <;> rw[e]
  ·rw[sS,uH];decide
  ·rw[sU,uH];decide
 unfold bP;rw[PV (by rw[d];simp),PV (by rw[g];simp),PV (by rw[i];simp)];rfl
theorem Bw(a:List Nat)(h:∀n∈a,∃h:n<H.length,A7 H[n]/\(H[n].kind=2∨H[n].kind=3)):∀(f:Fm) (g:Fm),g=((a.map (ce H)).foldl (fun f x=>bP f (aV x)) f) ->
  g.vars=f.vars++(a.filter (fun h=>!((H.getD h dJ).kind==3))).map (fun h=>ak (H.getD h dJ))/\g.types=f.types++(a.filter (fun h=>!((H.getD h dJ).kind==3))).map (fun h=>ax (H.getD h dJ))/\g.ess=f.ess++(a.filter (fun h=>(H.getD h dJ).kind==3)).map (fun h=>(H.getD h dJ).Um)/\g.left=f.left/\g.right=f.right:=by
 induction a with
 | nil=>rintro f g rfl;simp
 | cons n a q =>
  rintro f g rfl;obtain⟨b,d,j⟩:=h n (by simp);have e:ce H n=d8 H[n]:=by unfold ce;rw[PJ b]
  have i:H.getD n dJ=H[n]:=by rw[PK,PJ b];rfl
  simp only[List.map_cons,List.foldl_cons];obtain⟨k,l,m,o,p⟩:=q (fun n b=>h n (Qv _ b)) (bP f (aV (ce H n))) _ rfl;obtain⟨r,s,t,u,v⟩:=Gv d j f;rw[k,l,m,o,p,e,r,s,t,u,v];simp only[List.filter_cons,i];cases c:(H[n].kind==3) with
  | true=>simp[b]
  | false=>simp[b]
theorem qN(a:List Pr)(h:∀p∈a,iT p.1/\iT p.2):∀f:Fm,(a.map cB).foldl (fun f x=>bP f (aV x)) f={ f with left:=f.left++a.map (·.1),right:=f.right++a.map (·.2) }:=by
 induction a with
 | nil=>intro f;simp
 | cons p a d =>
  intro f;have b:=h p (by simp);simp only[List.map_cons,List.foldl_cons];rw[CP p b.1 b.2,d (fun q c=>h q (Qv _ c))];simp
theorem On(h:nk w b):Po w b (cM (aX w b)):=by
 have a:ce w b=d8 (w[b]'h.ha):=by unfold ce;rw[PJ h.ha]
 have c:w.getD b dJ=w[b]'h.ha:=by rw[PK,PJ h.ha];rfl
 obtain⟨g,i,j,k,l⟩:=Bw w (al w b) h.hyp xS _ rfl;have e:cM (aX w b)={ (((al w b).map (ce w)).foldl (fun f x=>bP f (aV x)) xS) with left:=(((al w b).map (ce w)).foldl (fun f x=>bP f (aV x)) xS).left++(bN w b).map (·.1),right:=(((al w b).map (ce w)).foldl (fun f x=>bP f (aV x)) xS).right++(bN w b).map (·.2),goal:=(w[b]'h.ha).Um }:=by
  unfold cM fK;rw[QJ];unfold aX;rw[Rb,Rb];simp only[List.foldl_cons,List.foldl_nil,a];rw[qN _ (fun p d=>(h.prs p d).1),vQ h.own h.isa]
 rw[e];refine⟨?_,?_,?_,?_,?_,by rw[c]⟩
 ·show(((al w b).map (ce w)).foldl (fun f x=>bP f (aV x)) xS).vars=_
  rw[g,qg];rfl
 ·show(((al w b).map (ce w)).foldl (fun f x=>bP f (aV x)) xS).types=_
  rw[i];rfl
 ·show(((al w b).map (ce w)).foldl (fun f x=>bP f (aV x)) xS).ess=_
  rw[j];rfl
 ·show(((al w b).map (ce w)).foldl (fun f x=>bP f (aV x)) xS).left++_=_
  rw[k];rfl
 ·show(((al w b).map (ce w)).foldl (fun f x=>bP f (aV x)) xS).right++_=_
  rw[l];rfl
def Py(l:List St)(k:Nat):Nat:=((List.range k).filter (fun n=>!((gT l n).Us==0))).length
theorem JC:f9 H=((List.range H.length).filter (fun n=>!((gT H n).Us==0))).map (gT H):=by
 unfold f9;rw[rP,SJ];rfl
theorem Lh:∀k,k<y->i k=XL->((List.range y).filter i)[((List.range k).filter i).length]?=XK k:=by
 intro k b a;obtain⟨m,rfl⟩:∃m,y=k+1+m:=⟨y-(k+1),by omega⟩
 rw[Ui,QD,QM,QD,QY,Qb (PQ _),Rl];simp[a]
theorem Li(h:((List.range o).filter i)[L]?=XK y):y<o/\i y=XL/\L=((List.range y).filter i).length:=by
 have a:=QL.1 (Qp h);have c:=Qe.1 a.1;refine⟨c,a.2,?_⟩;have d:=Lh i o y c a.2;have b:((List.range o).filter i).Nodup:=List.nodup_range.filter _;obtain⟨g,e⟩:=Qc.1 h;obtain⟨j,f⟩:=Qc.1 d;exact(List.getElem_inj b).1 (e.trans f.symm)
theorem LG{l:List St}{k:Nat}(h:((gT l k).Us==0)=XM):∃s,l[k]?=XK s/\jl s.kind=XL/\(gT l k).label=s.label:=by
 unfold gT gL at h ⊢;cases e:l[k]? with
 | none=>rw[e]at h;cases h
 | some s =>
  rw[e]at h;simp only at h ⊢;by_cases c:s.kind=4
  ·have a:(s.kind==4)=XL:=(by rw[c];rfl);exact⟨s,rfl,by unfold jl;rw[a];rfl,by rw[a];rfl⟩
  ·have a:(s.kind==4)=XM:=Qi.2 c;by_cases d:s.kind=5
   ·have b:(s.kind==5)=XL:=(by rw[d];rfl);refine⟨s,rfl,by unfold jl;rw[b];simp,?_⟩;rw[a,b];simp only[Bool.false_eq_true,if_false,if_true];unfold dP iu
    repeat' split
    all_goals rfl
   ·have b:(s.kind==5)=XM:=Qi.2 d;rw[a,b]at h;cases h
theorem Lv(i:Kp w){k:Nat}{u:St}(f:w[b]?=XK n)(g:w[k]?=XK u)(a:jl n.kind=XL)(d:jl u.kind=XL)(e:n.label=u.label):b=k:=by
 have j:n.kind≠1:=fun c=>by rw[c]at a;cases a
 have l:u.kind≠1:=fun c=>by rw[c]at d;cases d
 rcases Sc b k with c | c | c
 ·have:=i b k n u c f g j l;rw[e]at this;simp at this
 ·exact c
 ·have:=i k b u n c g f l j;rw[e]at this;simp at this
theorem Ip(f:Kp w)(h:w[b]?=XK n)(e:jl n.kind=XL):da w n.label=XK b:=by
 have g:=(Qc.1 h).1;cases c:da w n.label with
 | none =>
  unfold da at c;have:=Rc.1 c b (Qe.2 g);exact absurd (by unfold du;rw[h];simp[e]) this
 | some m =>
  unfold da at c;have a:=Rp c;unfold du at a;cases d:w[m]? with
  | none=>rw[d]at a;cases a
  | some t =>
   rw[d]at a;simp only[Bool.and_eq_true]at a;rw[Lv f d h a.2 e (eD (Rr a.1))]
structure Pv(T:ByteArray)(i k:Nat)(r:Rw):Prop where
 find:da (aJ T).2.UD r.label=XK k
 fr:nk (aJ T).2.UD k
 own:((aJ T).2.UD[k]'fr.ha).label.toList=r.label.toList
 at_:fE (aJ T).2.UD k=XL
 ver:(gT (aJ T).2.UD k).Us=r.Us
 ix:i=Py (aJ T).2.UD k
theorem Oo(a:dV T)(h:(aJ T).2.UD[b]?=XK n)(c:jl n.kind=XL):nk (aJ T).2.UD b:=by
 obtain⟨d,rfl⟩:=Qc.1 h;exact nk.of (jD T a.size) (iB T a.size a.inc).ok b d c
theorem NN(f:dV T){r:Rw}(h:(bu T)[b]?=XK r):∃k,Pv T b k r:=by
 have g:=(Cr T).diff;unfold bu at h;rw[JC,Qt]at h;cases d:((List.range (aJ T).2.UD.length).filter (fun n=>!((gT (aJ T).2.UD n).Us==0)))[b]? with
 | none=>rw[d]at h;cases h
 | some k =>
  rw[d]at h;have h:=Qz h;obtain⟨p,m,o⟩:=Li _ _ _ _ d;obtain⟨s,a,c,i⟩:=LG (l:=(aJ T).2.UD) (k:=k) (by simpa using m);have e:r.label=s.label:=by rw[<-h,i]
  refine⟨k,by rw[e];exact Ip g a c,Oo T f a c,?_,by unfold fE;rw[a];exact c,by rw[<-h],o⟩;obtain⟨q,j⟩:=Qc.1 a;rw[e,j]
theorem Gr(s:Fs)(r:Nat->Hd)(g:Nat)(a:ByteArray)(m:Nat)(w:XP)(v:XI w ⟨o,0,XJ⟩=XK (XA (XK ⟨L,0,XJ⟩)))(D:o<w.heap.size)(n:dV T)(C:fC w L s (aJ T).2.UD r g)(b:da (aJ T).2.UD a=XK m)(d:nk (aJ T).2.UD m)(own:((aJ T).2.UD[m]'d.ha).label.toList=a.toList) :
  XO prog 21 #[XA (XK ⟨o,0,XJ⟩),Xy a] w fun e c=>∃F O i E f,e=XH (XD #[XA (XK ⟨F,0,XJ⟩),XC XL])/\fQ c F w.heap.size a O (cM (aX (aJ T).2.UD m)) i E f/\aa [] w c:=by
 have u:=(iB T n.size n.inc).ok;have K:=(jD T n.size).szs;have B:=mC (aJ T).2.UD m;have G:=ia (aJ T).2.UD m;have I:=u.len;have J:(bN (aJ T).2.UD m).length<=100000000:=xi _ _ (by have:=mz (aJ T).2.UD (al (aJ T).2.UD m);omega);have j:=oY d
 refine(uU o L a (aX (aJ T).2.UD m) w v D (by omega) (by omega)
   (by
     intro c q;refine(uc L s _ r g a c (C.Ur q) u K).mono ?_;rintro e P ⟨M,t⟩;rw[b]at t;obtain⟨x,y,z,A⟩:=t;exact⟨x,y,z,A,M⟩)
   (fun k H=>zt d a own k H) (by show 0<_;rw[j.2];exact d.own.pos)).mono ?_
 rintro e c ⟨F,Q,i,p,f,rfl,l,-,-,N⟩;exact⟨F,_,i,p,f,rfl,l,N⟩
end Go.Proofs.YtnbalopedcgpcaaGreat
