import Derived.Test.YtnbalopedcgpcaaGreatG32
import Derived.Test.YtnbalopedcgpcaaGreatG45
namespace Go.Proofs.YtnbalopedcgpcaaGreat
open Go.RowKit Tryz
open Value renaming string->Xy,slice->Xz,pointer->XA
open Obj renaming cells->XE
open Ending renaming returned->XH
open World renaming cell?->XI
open Option renaming none->XJ,some->XK
open Bool renaming true->XL,false->XM
open Go.RowKit renaming Hid->XN
open Go renaming Calls->XO,World->XP,Value->XQ
set_option maxHeartbeats 0
variable{S i t:ByteArray}{I:List ByteArray}{D:List St}{l u:Nat}{r:cY}{M N:XP}(A d:ByteArray)(c q o:List ByteArray)(p:Nat)(y:List St)
theorem oC(h:S.data.toList=i.data.toList):S=i:=by
 apply Sy;exact Su.1 h
theorem Ke:C9 d ⟨#[120]⟩ p=nm d (na 120 p):=oC (by simp[C9,nm,na,ja,ByteArray.data_append,ByteArray.toList_eq])
theorem IQ:Ku d ⟨#[120]⟩ p=nm d (tQ 120 p):=oC (by simp[Ku,nm,tQ,ja,ByteArray.data_append,ByteArray.toList_eq])
theorem OB:d++⟨#[101]⟩++⟨#[120]⟩++dy p=nm d (101 :: 120 :: (dy p).toList):=oC (by simp[nm,ja,ByteArray.data_append,ByteArray.toList_eq])
theorem M4:d++⟨#[110]⟩=nm d [110]:=oC (by simp[nm,ja,ByteArray.data_append])
theorem Fg(L:List (UInt8×ByteArray)):(cq L).data.toList=L.flatMap (fun y=>y.1 :: y.2.data.toList):=by
 induction L with
 | nil=>rfl
 | cons y L a =>
  obtain⟨b,x⟩:=y;rw[QH,<-a];simp[cq,ByteArray.data_append]
def yD(z:ByteArray)(ts:List ByteArray)(i:Nat):List (UInt8×ByteArray):=[(32,kw 118),(32,nm z (na 120 i)),(32,kw 46),(32,nm z (tQ 120 i)),(32,kw 102),(32,gD ts i),(32,nm z (na 120 i)),(32,kw 46)]
theorem La(c:∀t∈o,0<t.size)(k:Nat)(g:k<=o.length):(AQ d ⟨#[120]⟩ ⟨#[]⟩ o ⟨#[]⟩ k).data.toList=((List.range k).flatMap (yD d o)).flatMap (fun y=>y.1 :: y.2.data.toList):=by
 induction k with
 | zero=>rfl
 | succ k f =>
  have a:((gD o k).toList==(⟨#[]⟩:ByteArray).toList)=XM:=by
   have:=c _ (lM (show k<o.length by omega));rw[Qi];intro e;have b:=eD e;rw[b]at this;exact absurd this (R8 0)
  rw[QM,Q1,Q1,<-f (by omega),R4,AQ,PV (by rw[a];simp),Ke,IQ];simp[yD,kw,ByteArray.data_append]
theorem IM(k:Nat)(b:k+1<=o.length):(32:UInt8) :: (Fe o (k+1)).data.toList=(o.take (k+1)).flatMap (fun x=>32 :: x.data.toList):=by
 induction k with
 | zero =>
  rw[QE (by omega)];have e:gD o 0=o[0]:=by unfold gD;rw[PK,PJ (by omega)];rfl
  simp[Fe,e,ByteArray.data_append]
 | succ k a =>
  have e:gD o (k+1)=o[k+1]:=by unfold gD;rw[PK,PJ (by omega)];rfl
  rw[QE (by omega),Q1,<-a (by omega),Fe,PZ (by omega),e];simp[ByteArray.data_append]
theorem DL(h:0<o.length):(32:UInt8) :: (zk o).data.toList=o.flatMap (fun x=>32 :: x.data.toList):=by
 obtain⟨n,a⟩:∃n,o.length=n+1:=⟨o.length-1,by omega⟩
 unfold zk;rw[a,IM o n (by omega),<-a,QJ]
def EA(z:ByteArray)(ts g ws:List ByteArray):List (UInt8×ByteArray):=(List.range ts.length).flatMap (yD z ts)++(((10,nm z [110]) :: (32,kw 112) :: (g.map (fun x=>(32,x))++(32,kw 61) :: (ws.map (fun x=>(32,x))++[(32,kw 46)])))++[(10,kw 125)])
theorem Bc:(EA d c q o).map (·.2)=Nh d c q o:=by
 unfold EA Nh;have e:∀l:List ByteArray,(l.map (fun x=>((32:UInt8),x))).map (·.2)=l:=fun l=>by rw[R2];exact List.map_id' l
 have a:((List.range c.length).flatMap (yD d c)).map (·.2)=(List.range c.length).flatMap (Ic d c):=by rw[List.map_flatMap];rfl
 simp only[List.map_append,List.map_cons,List.map_nil,e,a]
def xI(T z:ByteArray)(ts g ws:List ByteArray):ByteArray:=T++⟨#[10,36,123]⟩++AQ z ⟨#[120]⟩ ⟨#[]⟩ ts ⟨#[]⟩ ts.length++GB ⟨#[]⟩ z ⟨#[110]⟩ (zk g) (zk ws)++⟨#[10,36,125]⟩
theorem Mv(i:∀t∈c,0<t.size)(g:0<q.length)(j:0<o.length):xI A d c q o=A++cq ((10,kw 123) :: EA d c q o):=by
 apply oC;have a:=La d c i c.length (PQ _);have b:=DL q g;have f:=DL o j;have e:∀l:List ByteArray,(l.map (fun x=>((32:UInt8),x))).flatMap (fun y=>y.1 :: y.2.data.toList)=l.flatMap (fun x=>32 :: x.data.toList):=fun l=>by rw[TT]
 rw[QS,Array.toList_append,Fg,QH];unfold EA xI GB;simp only[List.flatMap_append,List.flatMap_cons,List.flatMap_nil,e,<-a,<-b,<-f];simp[ByteArray.data_append,kw,nm,ja]
theorem kG(c:UInt8)(h:c≠91/\c≠40/\33<=c.toNat/\c.toNat<=126):AY (kw c):=P7 ⟨c,rfl,h⟩
theorem IZ(p:dV S)(o:lx S i)(b:List ByteArray)(l:∀t∈b,Wd t/\aM (aJ S).2.Uo t=XL)(u:b.length<4200){c:List ByteArray}(d:Wd t)(m:aM (aJ S).2.Uo t=XL)(s:∀y∈I,Nd (aJ S).2 i ((List.range b.length).map (na 120)) y)(r:∀y∈c,Wd y)(n:0<c.length) :
  ∃g,aJ (xI S i b (t :: I) c)=((0,0),g)/\Kz (aJ S).2.UD g.UD i b (t :: I) c/\cS (xI S i b (t :: I) c)=XM:=by
 rw[Mv S i b (t :: I) c (fun t h=>(l t h).1.1) (by simp) n];refine zX S p (kw 123) (EA i b (t :: I) c) (kG 123 (by decide)) (fun y f=>?_) (fun g=>Kz (aJ S).2.UD g.UD i b (t :: I) c) (by rw[Bc];exact EC o p rfl b l u d m s r);have j:=fun a (h:jG a=XL)=>(P0 (pM o a h).1:AY (nm i a))
 unfold EA at f;rcases Qo.1 f with q | q
 ·obtain⟨v,k,q⟩:=RI.1 q;have k:=Qe.1 k;simp only[yD,List.mem_cons,List.not_mem_nil,or_false]at q;rcases q with rfl | rfl | rfl | rfl | rfl | rfl | rfl | rfl
  ·exact⟨P7 rfl,kG 118 (by decide)⟩
  ·exact⟨P7 rfl,j _ (vS (by omega))⟩
  ·exact⟨P7 rfl,kG 46 (by decide)⟩
  ·exact⟨P7 rfl,j _ (Ea (by omega))⟩
  ·exact⟨P7 rfl,kG 102 (by decide)⟩
  ·exact⟨P7 rfl,P0 (l _ (lM k)).1⟩
  ·exact⟨P7 rfl,j _ (vS (by omega))⟩
  ·exact⟨P7 rfl,kG 46 (by decide)⟩
 ·simp only[List.mem_append,List.mem_cons,List.mem_map,List.not_mem_nil,or_false]at q;rcases q with (rfl | rfl | ⟨x,e,rfl⟩ | rfl | ⟨x,e,rfl⟩ | rfl) | rfl
  ·exact⟨P0 rfl,j _ (by decide)⟩
  ·exact⟨P7 rfl,kG 112 (by decide)⟩
  ·refine⟨P7 rfl,P0 ?_⟩;rcases e with rfl | e
   ·exact d
   ·exact J2 o (s x e)
  ·exact⟨P7 rfl,kG 61 (by decide)⟩
  ·exact⟨P7 rfl,P0 (r x e)⟩
  ·exact⟨P7 rfl,kG 46 (by decide)⟩
  ·exact⟨P0 rfl,kG 125 (by decide)⟩
def Em(l:List St):List Nat->Nat->Nat->List Int
 | [],_,_=>[]
 | h :: r,v,e=>if((l.getD h dJ).kind==3)=XL then(-1-(e:Int)) :: Em l r v (e+1) else(v:Int) :: Em l r (v+1) e
theorem By(c:List Nat)(h:∀n∈c,∃h:n<y.length,A7 y[n]/\(y[n].kind=2∨y[n].kind=3)):∀(f:Fm),((c.map (ce y)).foldl (fun f x=>bP f (aV x)) f).which=f.which++Em y c f.vars.length f.ess.length:=by
 induction c with
 | nil=>intro f;simp[Em]
 | cons n c q =>
  intro f;obtain⟨e,b,a⟩:=h n (by simp);have m:ce y n=d8 y[n]:=by unfold ce;rw[PJ e]
  have o:y.getD n dJ=y[n]:=by rw[PK,PJ e];rfl
  simp only[List.map_cons,List.foldl_cons];rw[q (fun n e=>h n (Qv _ e)),m];have i:=b.split;have l:=nI y[n].label (eA y[n].kind :: y[n].Um) b.lab;rw[i,Em,o];rcases a with a | a
  ·have p:=b.two a;have j:f7 (y[n].label :: eA y[n].kind :: y[n].Um) 102=XL:=(by rw[gH,a,wR,uH];rfl);have k:(y[n].kind==3)=XM:=(by rw[a];rfl);have g:bP f (y[n].label :: eA y[n].kind :: y[n].Um)={ f with hyps:=f.hyps++[y[n].label],which:=f.which++[(f.vars.length:Int)],types:=f.types++[gD (y[n].label :: eA y[n].kind :: y[n].Um) 2],vars:=f.vars++[gD (y[n].label :: eA y[n].kind :: y[n].Um) 3] }:=by
    unfold bP;rw[PV (by rw[l];simp),PZ ⟨j,by simp[p]⟩];rfl
   rw[g,k,PV (by simp)];simp
  ·have j:f7 (y[n].label :: eA y[n].kind :: y[n].Um) 102=XM:=(by rw[gH,a,nL,uH];decide);have r:f7 (y[n].label :: eA y[n].kind :: y[n].Um) 101=XL:=(by rw[gH,a,nL,uH];rfl);have k:(y[n].kind==3)=XL:=(by rw[a];rfl);have g:bP f (y[n].label :: eA y[n].kind :: y[n].Um)={ f with hyps:=f.hyps++[y[n].label],which:=f.which++[-1-(f.ess.length:Int)],ess:=f.ess++[y[n].Um] }:=by
    unfold bP;rw[PV (by rw[l];simp),PV (by rw[j];simp),PZ r];rfl
   rw[g,k,PZ rfl];simp
theorem En(a:List Nat):∀v e,(Em y a v e).length=a.length:=by
 induction a with
 | nil=>intro v e;rfl
 | cons h r b =>
  intro v e;rw[Em];split
  ·rw[QG,QG,b]
  ·rw[QG,QG,b]
theorem NW(b:List Nat):∀v e q,q<b.length->(Em y b v e).getD q 0=if((y.getD (b.getD q 0) dJ).kind==3)=XL then -1-((e+((b.take q).filter (fun h=>(y.getD h dJ).kind==3)).length:Nat):Int) else((v+((b.take q).filter (fun h=>!((y.getD h dJ).kind==3))).length:Nat):Int):=by
 induction b with
 | nil=>intro v e q d;simp at d
 | cons h r f =>
  intro v e q d;rw[Em];cases q with
  | zero =>
   show _=if((y.getD h dJ).kind==3)=XL then _ else _;by_cases a:((y.getD h dJ).kind==3)=XL
   ·rw[PZ a,PZ a];rfl
   ·rw[PV a,PV a];rfl
  | succ q =>
   have c:q<r.length:=(by simpa using d);cases a:((y.getD h dJ).kind==3)
   ·rw[PV (by simp),R0,R0,f _ _ _ c,List.take_succ_cons,TY (by rw[a];simp),SO (by rw[a];rfl),QG];congr 2;omega
   ·rw[PZ rfl,R0,R0,f _ _ _ c,List.take_succ_cons,SO (p:=fun h=>(y.getD h dJ).kind==3) a,TY (by rw[a];simp),QG];congr 3;omega
theorem ue(h:nk D l):(cM (aX D l)).which=Em D (al D l) 0 0:=by
 have a:ce D l=d8 (D[l]'h.ha):=by unfold ce;rw[PJ h.ha]
 unfold cM fK;rw[QJ];unfold aX;rw[Rb,Rb];simp only[List.foldl_cons,List.foldl_nil,a];rw[qN _ (fun p b=>(h.prs p b).1),vQ h.own h.isa]
 show(((al D l).map (ce D)).foldl (fun f x=>bP f (aV x)) xS).which=_
 rw[By D _ h.hyp];rfl
theorem ND(h:nk D l)(z:ByteArray)(a:u<(al D l).length):Ci z (cM (aX D l)).which u ⟨#[120]⟩=LJ z D l u/\(cM (aX D l)).which.length=(al D l).length:=by
 rw[ue h];refine⟨?_,En _ _ _ _⟩;unfold Ci LJ;rw[NW _ _ _ _ _ a];cases b:((D.getD ((al D l).getD u 0) dJ).kind==3)
 ·simp only[Bool.false_eq_true,if_false];rw[Sv,PZ (Int.natCast_nonneg _),Sn];exact IQ z _
 ·simp only[if_true];rw[Sv,PV (by omega)];have e:(-1-(-1-((((al D l).take u).filter (fun h=>(D.getD h dJ).kind==3)).length:Int))).toNat=O7 D l u:=by unfold O7;omega
  rw[e];exact OB z _
theorem LT(c:d.size<=1024)(g:cS d=XM):(aJ d).2.UD.length<=4104:=by
 have b:∀j,j < [((⟨#[109]⟩:ByteArray),d)].length->(PH [(⟨#[109]⟩,d)] j).size<=1024:=fun j i=>by
  have:j=0:=by simpa using i
  subst this;exact c
 obtain⟨_,_,m,f,o⟩:=(DF [(⟨#[109]⟩,d)] b 5000).2 0 AN bB 0 rfl Gd.empty;have l:=rM [(⟨#[109]⟩,d)] b AN;have k:m<=4104:=by omega
 have n:=f.bnd.UD;have e:=jP [(⟨#[109]⟩,d)] 0 (by simp) c (tl d g);unfold cQ at e;have a:((cA [((⟨#[109]⟩:ByteArray),d)] 5000 0 AN bB).2.2.UD).length<=4104:=by omega
 rw[e]at a;exact a
theorem Cq(c:dV S):N6 (aJ S).2:=by
 have N:=Cr S;have V:=ql S;refine⟨fun n s h k=>(N.UD s (Qp h)).two k,fun n m s u a b g i d f=>?_,fun k=>?_⟩
 ·exact Qi.2 (fun e=>V.ds n m s u a b g i d f (eD e))
 ·have:=c.idle.1.kind;rw[this]at k;cases k
def DM(z:ByteArray)(f:Fm)(x:ByteArray):ByteArray:=match aZ f.hyps x with
 | none=>x
 | some q=>Ci z f.which q ⟨#[120]⟩
theorem Oz(a:nk D l)(z x:ByteArray):DM z (cM (aX D l)) x=iK z D l x:=by
 unfold DM iK;rw[(oY a).1];cases b:aZ ((al D l).map (mR D)) x with
 | none=>rfl
 | some q=>exact(ND a z (by have:=mE b;rwa [Qh]at this)).1
theorem NV(h:u<l):gD (rQ A d l) u=C9 A d u:=by
 unfold gD rQ;rw[PK,Qt,Sw h];rfl
theorem NI(m:lx S i)(d j:List ByteArray)(n:d.length<=4200):py d (rQ i ⟨#[120]⟩ d.length) j=j.map (qr i d):=by
 unfold py;rw[List.map_eq_flatMap];congr 1
 funext x
 unfold jO qr;cases l:aZ d x with
 | none=>rfl
 | some g =>
  have k:=mE l;simp only;have f:=(pM m (na 120 g) (vS (by omega))).1;rw[NV _ _ k,Ke,PV,qy _ f.noBl];intro c;have:=f.1;have e:=eD (a:=nm i (na 120 g)) (b:=⟨#[]⟩) ((Rr c).trans (by simp[ByteArray.toList_eq]));rw[e]at this;exact absurd this (R8 0)
section
variable {T z:ByteArray} {k:Nat}
theorem wl(b:dV T){n:Nat}{s:St}(h:(aJ T).2.UD[n]?=XK s)(d:2<=s.kind/\s.kind<=5):ML (ax s)/\aM (aJ T).2.Uo (ax s)=XL:=by
 have N:=jD T b.size;obtain⟨c,r,e,a⟩:=(N.UD s (Qp h)).code d;have t:ax s=c:=by unfold ax;rw[e];rfl
 rw[t];exact⟨N.con c ((gj _ _).1 a),a⟩
theorem Ka(b:dV T)(k:Nat):∀t∈mU (aJ T).2.UD k,ML t/\aM (aJ T).2.Uo t=XL:=by
 intro t d;obtain⟨h,c,rfl⟩:=Qu.1 d;obtain⟨-,a,e⟩:=lL c;refine wl b (n:=h) ?_ (by omega);rw[lN a,PJ a]
theorem Jn(b:dV T)(g:k<(aJ T).2.UD.length)(c:r∈dp (aJ T).2.UD k):ML r.code/\aM (aJ T).2.Uo r.code=XL:=by
 rcases pu c with ⟨i,d,rfl⟩ | ⟨m,j,f,-,rfl⟩
 ·obtain⟨-,a,e⟩:=lL (PT d);refine wl b (n:=(ly (aJ T).2.UD k)[i]) (s:=bL (aJ T).2.UD (ly (aJ T).2.UD k)[i]) ?_ (by rw[dI a];omega);rw[dO a,PJ a]
 ·have a:m<(aJ T).2.UD.length:=by omega
  refine wl b (n:=m) (s:=bL (aJ T).2.UD m) ?_ (by omega);rw[dO a,PJ a]
theorem NJ(g:dV T)(d:lx T z)(n:k<(aJ T).2.UD.length)(o:(mU (aJ T).2.UD k).length<4200)(f:r∈dp (aJ T).2.UD k):Wd (iK z (aJ T).2.UD k r.label)/\(iK z (aJ T).2.UD k r.label).size<=2000:=by
 have N:=jD T g.size;rcases pu f with ⟨i,b,rfl⟩ | ⟨m,p,c,-,rfl⟩
 ·obtain⟨-,a,l⟩:=lL (PT b);have j:i<(mU (aJ T).2.UD k).length:=by unfold mU;rw[Qh];exact b
  have e:(BN (bL (aJ T).2.UD (ly (aJ T).2.UD k)[i])).label=((aJ T).2.UD.getD (ly (aJ T).2.UD k)[i] dJ).label:=by rw[dI a];rfl
  rw[e,zY N b];refine⟨(pM d _ (Ea (by omega))).1,?_⟩;rw[<-IQ];have:=wT (z:=z) (s:=⟨#[120]⟩) (by have:=d.size;omega) (by decide) i;omega
 ·have a:m<(aJ T).2.UD.length:=by omega
  have e:(md (aJ T).2.UD m).label=(aJ T).2.UD[m].label:=by show(bL _ m).label=_;rw[dO a]
  rw[dO a]at c;rw[e,zZ N (PJ a) c];have:=((N.UD _ (PT a)).lab (by omega)).1;exact⟨this.1,by have:=this.2;omega⟩
theorem OQ(p:dV T)(a:fE (aJ T).2.UD k=XL)(b:S∈symsAt (aJ T).2.UD k)(t:(mU (aJ T).2.UD k).length<4200):Nd (aJ T).2 z ((List.range (mU (aJ T).2.UD k).length).map (na 120)) (qr z (eQ (aJ T).2.UD k) S):=by
 have N:=jD T p.size;have V:=ql T;cases f:aZ (eQ (aJ T).2.UD k) S with
 | some i =>
  have n:=mE f;rw[IV]at n;rw[Aa f];exact P7 ⟨_,Qu.2 ⟨i,Qe.2 n,rfl⟩,vS (by omega),rfl⟩
 | none =>
  have o:=dU.1 f;rw[xq o]
  left
  have m:=b;unfold symsAt at b;unfold fE at a;cases e:(aJ T).2.UD[k]? with
  | none=>rw[e]at a;cases a
  | some s =>
   rw[e]at a b;have a:jl s.kind=XL:=a;have b:S∈s.Um:=b;have q:s.kind=4∨s.kind=5:=by unfold jl at a;simpa using a
   have l:=((N.UD s (Qp e)).syms S b).1;rcases V.st k s e (by omega) S b with c | ⟨-,c⟩
   ·exact⟨l,(gj _ _).2 c⟩
   ·obtain⟨j,u,r,g,d,rfl,v⟩:=c (by omega);refine absurd (wY.2 ⟨j,u,g,?_,d,(mp N g d).2.1,mo.2 (P0 m)⟩) o;rw[iE g];omega
end
structure OZ(T U z code:ByteArray):Prop where
 fine:dV U
 rows:bu U=bu T++[⟨nm z [110],5,0,db⟩]
 tree:∀res,iC (aJ U).2.UD (nm z [110]) code res->res.1≠10
structure Pd(T z code:ByteArray)(f:Fm)(ws:List ByteArray):Prop where
 vars:f.vars.length<=4200/\f.types.length=f.vars.length
 types:∀t∈f.types,t.size<=1024
 hyps:f.hyps.length<=10000/\f.which.length=f.hyps.length
 which:∀i,i<f.which.length->-9999<=f.which.getD i 0/\f.which.getD i 0<=9999
 goal:1<=f.goal.length/\f.goal.length<=11
 put:(py f.vars (rQ z ⟨#[120]⟩ f.vars.length) (f.goal.drop 1)).length<=10
 syms:∀x∈code :: py f.vars (rQ z ⟨#[120]⟩ f.vars.length) (f.goal.drop 1),x.size<=2000
 labs:0<ws.length/\ws.length<=64
 new:∀x∈ws.map (DM z f),x.size<=2000
 read:(xI T z f.types (code :: py f.vars (rQ z ⟨#[120]⟩ f.vars.length) (f.goal.drop 1)) (ws.map (DM z f))).size<=1024->OZ T (xI T z f.types (code :: py f.vars (rQ z ⟨#[120]⟩ f.vars.length) (f.goal.drop 1)) (ws.map (DM z f))) z code
theorem OS(a:List Nat):∀(v e q:Nat),(-1-(e:Int)-a.length)<=(Em y a v e).getD q 0/\(Em y a v e).getD q 0<=(v:Int)+a.length:=by
 induction a with
 | nil=>intro v e q;simp[Em];omega
 | cons h r b =>
  intro v e q;rw[Em];split
  ·cases q with
   | zero=>simp only[List.getD_cons_zero,List.length_cons];omega
   | succ q=>rw[R0,QG];have:=b v (e+1) q;omega
  ·cases q with
   | zero=>simp only[List.getD_cons_zero,List.length_cons];omega
   | succ q=>rw[R0,QG];have:=b (v+1) e q;omega
theorem Mu(e:dV S)(K:lx S i)(d:nk (aJ S).2.UD l)(R:fE (aJ S).2.UD l=XL){a:ByteArray}(hf:da (aJ S).2.UD t=XK l)(m:iC (aJ S).2.UD t a (0,I)):Pd S i a (cM (aX (aJ S).2.UD l)) I:=by
 have N:=jD S e.size;have z:=On d;have ah:=LT S e.size e.inc;have ai:=ia (aJ S).2.UD l;have Q:(ly (aJ S).2.UD l).length<=(al (aJ S).2.UD l).length:=Q6 _ _;have am:(mU (aJ S).2.UD l).length=(ly (aJ S).2.UD l).length:=by unfold mU;rw[Qh]
 have c:(mU (aJ S).2.UD l).length<4200:=by omega
 have q:(cM (aX (aJ S).2.UD l)).types=mU (aJ S).2.UD l:=z.types;have eg:(cM (aX (aJ S).2.UD l)).goal=(bL (aJ S).2.UD l).Um:=by rw[z.goal,dI d.ha]
 have ad:(cM (aX (aJ S).2.UD l)).vars.length=(mU (aJ S).2.UD l).length:=by rw[z.vars,IV]
 unfold iC at m;rw[hf]at m;simp only at m;unfold MJ at m;by_cases B:10<((bL (aJ S).2.UD l).Um.drop 1).length
 ·rw[PZ B]at m;cases m
 rw[PV B]at m;obtain⟨C,r,is,L,g⟩:=m;unfold uu at g;by_cases c0:C a 0 ((bL (aJ S).2.UD l).Um.drop 1).length=0
 ·rw[PZ c0]at g;cases g
 rw[PV c0]at g;by_cases w:C a 0 ((bL (aJ S).2.UD l).Um.drop 1).length=1
 case neg=>rw[PV w]at g;cases g
 rw[PZ w]at g;have L:=L w;generalize htx:(bL (aJ S).2.UD l).Um.drop 1=b at *;by_cases A:64<(pP b (dp (aJ S).2.UD l) C r a 0 b.length).length
 ·rw[PZ A]at g;cases g
 rw[PV A]at g;have J:I=pP b (dp (aJ S).2.UD l) C r a 0 b.length:=(Prod.mk.inj g).2;have j:py (cM (aX (aJ S).2.UD l)).vars (rQ i ⟨#[120]⟩ (cM (aX (aJ S).2.UD l)).vars.length) ((cM (aX (aJ S).2.UD l)).goal.drop 1)=b.map (qr i (eQ (aJ S).2.UD l)):=by
  rw[NI K _ _ (by omega),eg,htx,z.vars]
 have o:I.map (DM i (cM (aX (aJ S).2.UD l)))=(pP b (dp (aJ S).2.UD l) C r a 0 b.length).map (iK i (aJ S).2.UD l):=by
  rw[J];exact QX (fun x _=>Oz d i x)
 obtain⟨p,W,Y,Z,-⟩:=is.pick (by omega) (by omega) w;have k:=Jn e d.ha (PT W);have O:(dp (aJ S).2.UD l)[p].code=a:=eD (Rr Z);rw[O]at k;have n:∀x∈(pP b (dp (aJ S).2.UD l) C r a 0 b.length).map (iK i (aJ S).2.UD l),Wd x/\x.size<=2000:=fun x f=>by
  obtain⟨y,v,rfl⟩:=Qu.1 f;obtain⟨P,T,rfl⟩:=vT r _ _ _ y v;exact NJ e K d.ha c T
 have G:∀x∈b,x∈symsAt (aJ S).2.UD l:=fun x f=>by
  rw[<-htx]at f;have:=Sr f;unfold symsAt;rw[PJ d.ha];rw[dO d.ha]at this;exact this
 have ac:∀y∈b.map (qr i (eQ (aJ S).2.UD l)),Nd (aJ S).2 i ((List.range (mU (aJ S).2.UD l).length).map (na 120)) y:=fun y v=>by
  obtain⟨x,f,rfl⟩:=Qu.1 v;exact OQ e R (G x f) c
 have U:1<=(cM (aX (aJ S).2.UD l)).goal.length:=by
  have:=(G7 N (ql S) R).ne;rw[<-z.goal]at this;exact List.length_pos_iff.2 this
 have D:(cM (aX (aJ S).2.UD l)).goal.length<=11:=by
  have:=congrArg List.length htx;rw[Rk]at this;rw[eg];omega
 have u:0<((pP b (dp (aJ S).2.UD l) C r a 0 b.length).map (iK i (aJ S).2.UD l)).length:=by
  rw[Qh];cases r with
  | zero=>exact absurd L (R8 _)
  | succ r=>rw[pP,Y];simp
 refine⟨⟨by omega,by rw[q];exact ad.symm⟩,fun M H=>?_,⟨?_,?_⟩,fun ag _=>?_,⟨U,D⟩,?_,?_,?_,?_,?_⟩
 ·rw[q]at H;exact((Ka e l) M H).1.2
 ·rw[(oY d).1,Qh];omega
 ·rw[ue d,En,(oY d).1,Qh]
 ·rw[ue d];have:=OS (aJ S).2.UD (al (aJ S).2.UD l) 0 0 ag;omega
 ·rw[j,Qh];omega
 ·rw[j];intro x f;rcases Q5.1 f with rfl | f
  ·have:=k.1.2;omega
  ·obtain⟨y,v,rfl⟩:=Qu.1 f;cases E:aZ (eQ (aJ S).2.UD l) y with
   | none =>
    rw[xq (dU.1 E)];have V:=G y v;unfold symsAt at V;rw[PJ d.ha]at V;have:=((N.UD _ (PT d.ha)).syms y V).2;omega
   | some ag =>
    rw[Aa E,<-Ke];have:=rR (z:=i) (s:=⟨#[120]⟩) (by have:=K.size;omega) (by decide) ag;omega
 ·rw[Qh]at u;rw[J];exact⟨u,by omega⟩
 ·rw[o];exact fun x f=>(n x f).2
 ·rw[j,o,q];intro hU;obtain⟨d',Q,h2,h3⟩:=IZ e K (mU (aJ S).2.UD l) (fun M H=>⟨(Ka e l M H).1.1,(Ka e l M H).2⟩) c k.1.1 k.2 ac (fun y v=>(n y v).1) u;have X:mO S i l (aJ (xI S i (mU (aJ S).2.UD l) (a :: b.map (qr i (eQ (aJ S).2.UD l))) ((pP b (dp (aJ S).2.UD l) C r a 0 b.length).map (iK i (aJ S).2.UD l)))).2.UD (a :: b.map (qr i (eQ (aJ S).2.UD l))) ((pP b (dp (aJ S).2.UD l) C r a 0 b.length).map (iK i (aJ S).2.UD l)):=⟨e,K,R,by rw[Q];exact h2⟩;refine⟨⟨hU,by rw[Q],h3⟩,?_,fun ao F=>X.tree is (by omega) w F⟩;exact X.rows (X.verified c (fun P T=>DZ (Cq e) P T) is (by omega) w L)
def CU(w:XP)(n:Nat):XP:={ w with heap:=w.heap.extract 0 n }
section
variable {w v w':XP} {n:Nat}
theorem pK(h:n<=w.heap.size):(CU w n).heap.size=n:=by unfold CU;simp;omega
theorem CV(h:n<=w.heap.size)(a:l<n):(CU w n).heap[l]?=w.heap[l]?:=by
 unfold CU;rw[Array.getElem?_extract,PZ (by omega),Sv]
theorem Eh(h:n<=w.heap.size):aa [] (CU w n) w:=⟨rfl,rfl,rfl,by rw[pK h];exact h,fun k a _=>by rw[pK h]at a;exact(CV h a).symm⟩
theorem aa.tn{S:List Nat}(k:aa S v w)(a:v.heap.size<=n)(h:n<=w.heap.size):aa S v (CU w n):=⟨k.os,k.tape,k.output,by rw[pK h];exact a,fun i b c=>(CV h (PY b a)).trans (k.block i b c)⟩
theorem br.of_get{d:Fs}(h:br w l d)(e:w'.heap[l]?=w.heap[l]?):br w' l d:=by
 obtain⟨r,a,b,c,f,g⟩:=h;exact⟨r,a,b,c,e.trans f,g⟩
end
structure Oi(b x gr g F n:Nat)(T:ByteArray)(lab:ByteArray)(lv:XQ)(f:Fm)(es:List Ex)(hg:Hd)(Hf:Nat->Hd)(L:List ByteArray)(v:XP):Prop where
 wat:aR v b x T (XK gr)
 ver:∃fs,br v x fs/\or 0 fs
 form:∀w,aa [g] v w->fQ w F n lab lv f es hg Hf
 lst:yd v (XK g) L
 ne:g≠b/\g≠gr/\g≠x
structure xR(g B:Nat)(v w:XP)(k:Bk)(H:Nat->Hd)(L:List ByteArray):Prop where
 bag:mN w B k H
 new:v.heap.size<=B/\∀y,cD H y->v.heap.size<=y
 lst:yd w (XK g) L
 kept:aa [g] v w
section
variable {b x gr g F n B:Nat} {T lab:ByteArray} {lv:XQ} {f:Fm} {es:List Ex} {hg:Hd} {Hf H H':Nat->Hd} {L:List ByteArray} {v w w':XP} {k k':Bk}
theorem Oi.lt(h:Oi b x gr g F n T lab lv f es hg Hf L v):b<v.heap.size/\x<v.heap.size/\gr<v.heap.size/\g<v.heap.size:=by
 obtain⟨c,a,-⟩:=h.ver;exact⟨h.wat.lt,a.lt,h.wat.rows.lt gr rfl,ae (h.lst.blk g rfl)⟩
theorem Oi.world(h:Oi b x gr g F n T lab lv f es hg Hf L v)(q:aa [g] v w):aR w b x T (XK gr)/\∃a,br w x a/\or 0 a:=by
 obtain⟨a,c,d⟩:=h.ver;obtain⟨i,j,k⟩:=h.ne;refine⟨h.wat.kept q (by simp;omega) (fun y e=>?_),a,c.kept q (by simp;omega),d⟩;have:gr=y:=Qz e;simp;omega
theorem xR.Ur(h:xR g B v w k H L)(q:aa [] w w'):xR g B v w' k H L:=⟨aB.Ur h.bag q,h.new,⟨h.lst.nil,fun b e=>q.get (h.lst.blk b e) (by simp)⟩,h.kept.trans (q.mono (by simp))⟩
theorem xR.wrote(h:xR g B v w k H L)(d:g<v.heap.size)(i:Nat)(s:ByteArray):xR g B v (w.setCell ⟨g,i,XJ⟩ (Xy s)) k H (L.set i s):=by
 have b:aa [g] w (w.setCell ⟨g,i,XJ⟩ (Xy s)):=(aa.refl [g] w).setCell (P0 (by simp)) _;have j:=h.new.1;refine⟨aB.kept h.bag b (by simp;omega) (fun y f=>by have:=h.new.2 y f;simp;omega),h.new,⟨⟨fun e=>(by cases e),fun e=>?_⟩,fun c e=>?_⟩,h.kept.trans b⟩
 ·have:L=[]:=List.length_eq_zero_iff.1 (by rw[<-Tl (i:=i) (a:=s),e];rfl);exact absurd (h.lst.nil.2 this) (by simp)
 ·obtain rfl:g=c:=Qz e;rw[af (h.lst.blk g rfl),QQ];simp[strs,List.map_set]
theorem xR.turn(h:xR g B v w k H L)(a:g<v.heap.size)(f:mN w' B k' H')(t:aj B w H w' H'):xR g B v w' k' H' L:=by
 have n:=h.new.1;have d:∀i,i<v.heap.size->¬(i=B∨cD H i):=fun i b q=>q.elim (fun e=>by omega) (fun e=>by have:=h.new.2 i e;omega);have l:=h.kept.size;refine⟨f,⟨n,fun y m=>?_⟩,⟨h.lst.nil,fun c e=>?_⟩,⟨t.1.os.trans h.kept.os,t.1.tape.trans h.kept.tape,t.1.output.trans h.kept.output,Qk l t.1.size,fun i b j=>(t.1.block i (by omega) (d i b)).trans (h.kept.block i b j)⟩⟩
 ·rcases t.2 y m with c | c
  ·exact h.new.2 y c
  ·omega
 ·obtain rfl:g=c:=Qz e;exact(t.1.block g (by omega) (d g a)).trans (h.lst.blk g rfl)
theorem xR.cut(h:xR g B v w k H L):pO (CU w v.heap.size) w B k H:=by
 have:=h.kept.size;exact⟨h.bag,by rw[pK this];exact h.new,Eh this⟩
theorem pO.trs(h:pO v w B k H)(a:yd v (XK g) L):xR g B v w k H L:=⟨h.bag,h.new,⟨a.nil,fun b e=>h.kept.get (a.blk b e) (by simp)⟩,h.kept.mono (by simp)⟩
theorem KQ{a:XP}(D:fQ M F n lab lv f es hg Hf)(z:aa [] M N)(o:aR N b x T (XK gr))(u:x≠b)(s:yd N (XK g) L)(G:M.heap.size<=g)(p:b<M.heap.size/\x<n/\gr<M.heap.size/\n<=M.heap.size)(A:aa [x] N a)(I:∃l,br a x l/\or 0 l)(C:mN a B k H)(t:N.heap.size<=B/\∀y,cD H y->N.heap.size<=y) :
  Oi b x gr g F n T lab lv f es hg Hf L (CU a N.heap.size)/\pO (CU a N.heap.size) a B k H:=by
 obtain⟨l,J,K⟩:=I;have m:=A.size;have O:=z.size;have q:aa [x] N (CU a N.heap.size):=A.tn (PQ _) m;have E:=ae (s.blk g rfl);have r:g≠x:=by omega
 refine⟨⟨?_,⟨l,J.of_get (CV m (by omega)),K⟩,fun w j=>?_,⟨s.nil,fun c e=>q.get (s.blk c e) ?_⟩,by omega,by omega,by omega⟩,⟨C,by rw[pK m];exact t,Eh m⟩⟩
 ·exact o.keptX q u
 ·refine D.UA (x:=x) ?_ p.2.1;have d:aa [x] M (CU a N.heap.size):=(z.mono (by simp)).trans q;exact⟨j.os.trans d.os,j.tape.trans d.tape,j.output.trans d.output,Qk d.size j.size,fun i v t=>(j.block i (PY v d.size) (by simp;omega)).trans (d.block i v t)⟩
 ·obtain rfl:g=c:=Qz e;simpa using r
end
theorem uW{b:Hd}(v:cE M b I)(f:1<=I.length):∃d k,b.ao=XK ⟨d,k,XJ⟩/\d<M.heap.size/\I.length<=b.cap/\b.cap<=9223372036854775807/\(b.cap=1->I.drop 1=[])/\cE M ⟨XK ⟨d,k+1,XJ⟩,b.cap-1⟩ (I.drop 1):=by
 rcases v with l | ⟨g,a,c,t,m,e,n,o,p⟩
 ·rw[l]at f;simp at f
 ·refine⟨g,a,m,ae e,o,p,fun h=>Ql (by rw[Rk];omega),P7 ⟨g,a+1,c,t,rfl,e,fun j x i=>?_,?_,?_⟩⟩
  ·rw[Sh]at i;rw[show a+1+j=a+(1+j) by omega];exact n (1+j) x i
  ·rw[Rk];show _<=b.cap-1;omega
  ·show b.cap-1<=_;omega
def E2(k:Bk)(l:List ByteArray):Bk:={ k with goal:=k.goal++l }
theorem Fj(d g b:Hd)(G a c:List ByteArray)(j i:Nat)(w:XP)(p:d.cap=1->G.drop 1=[])(q:cE w ⟨XK ⟨j,i+1,XJ⟩,d.cap-1⟩ (G.drop 1))(n:cE w g a)(o:cE w b c)(t:G.length<=11)(f:a.length<=10000)(l:a.length=c.length)(m:∀x∈c,x.size<=1000) :
  XO prog 24 #[Xz (XK ⟨j,if d.cap=1 then i else i+1,XJ⟩) (G.length-1) (d.cap-1),Xz g.ao a.length g.cap,Xz b.ao a.length b.cap] w fun r s=>∃e:Hd,r=XH (Xz e.ao (py a c (G.drop 1)).length e.cap)/\Dj w s e (au (py a c (G.drop 1))):=by
 have e:(G.drop 1).length=G.length-1:=by simp
 rw[<-e];rw[show Xz b.ao a.length b.cap=Xz b.ao c.length b.cap by rw[l]];by_cases k:d.cap=1
 ·rw[PZ k];exact zo ⟨XK ⟨j,i,XJ⟩,d.cap-1⟩ g b (G.drop 1) a c w (P0 (p k)) n o (by omega) f (by omega) m
 ·rw[PV k];exact zo ⟨XK ⟨j,i+1,XJ⟩,d.cap-1⟩ g b (G.drop 1) a c w q n o (by omega) f (by omega) m
theorem mN.more{k:Bk}{H:Nat->Hd}(h:mN M l k H)(b:List ByteArray)(a:Hd)(d:aE N a (au (k.goal++b)))(g:fZ M N (H 8) a) :
  XI N ⟨l,17,XJ⟩=XK (Xz (H 8).ao k.goal.length (H 8).cap)/\N.frozen? ⟨l,17,XJ⟩=XM/\XN (mN (N.setCell ⟨l,17,XJ⟩ (Xz a.ao (k.goal.length+b.length) a.cap)) l (E2 k b) (cX H 8 a)/\aj l M H (N.setCell ⟨l,17,XJ⟩ (Xz a.ao (k.goal.length+b.length) a.cap)) (cX H 8 a)):=by
 have c:=(g.kept.block l h.lt (fun e=>h.off 8 (pd e))).trans h.blk;refine⟨by rw[ab c];rfl,aw c _,?_⟩;have q:=aB.UB h (rows':=nz (E2 k b)) 17 8 a d g (yo k (k.goal++b)) (Xz a.ao (k.goal.length+b.length) a.cap);have e:(Bb k H).set 17 (Xz a.ao (k.goal.length+b.length) a.cap)=Bb (E2 k b) (cX H 8 a):=by simp[Bb,cX,E2]
 rw[e]at q;exact q
def zD(z:ByteArray)(f:Fm)(ws:List ByteArray)(j:Nat):List ByteArray:=(ws.take j).map (DM z f)++ws.drop j
section
variable {z:ByteArray} {f:Fm} {ws:List ByteArray} {j:Nat}
theorem LB:zD z f ws 0=ws:=by simp[zD]
theorem Nz:zD z f ws ws.length=ws.map (DM z f):=by simp[zD]
theorem DP(h:j<ws.length):(zD z f ws j)[j]?=XK ws[j]:=by
 unfold zD;rw[Qb (by simp;omega),Qh,QW,SD (by omega),Rl,Sh,QT,PJ h]
theorem DQ(h:j<ws.length):zD z f ws (j+1)=(zD z f ws j).set j (DM z f ws[j]):=by
 unfold zD;rw[QE h,Qr h,QA,QY,RB _ _ (by simp;omega)];have e:j-((ws.take j).map (DM z f)).length=0:=by simp;omega
 rw[e];rfl
theorem LA(h:j<ws.length)(e:DM z f ws[j]=ws[j]):zD z f ws (j+1)=zD z f ws j:=by
 rw[DQ h,e];refine Q9 (fun i=>?_);rw[R9];split
 ·next c =>
  subst c;rw[DP h,PZ (Qc.1 (DP h)).1]
 ·rfl
end
theorem JN{g i j k m n:XQ}(h:M.heap[l]?=XK (XE #[g,i,j,k,m,n] 87))(a b c d e f:XQ) :
  ((((((M.setCell ⟨l,0,XJ⟩ a).setCell ⟨l,1,XJ⟩ b).setCell ⟨l,2,XJ⟩ c).setCell ⟨l,3,XJ⟩ d).setCell ⟨l,4,XJ⟩ e).setCell ⟨l,5,XJ⟩ f).heap[l]?=XK (XE #[a,b,c,d,e,f] 87):=by
 rw[af (af (af (af (af (af h 0 a) 1 b) 2 c) 3 d) 4 e) 5 f];rfl
theorem MF(h:yd M (XK l) I)(b:I.length<=10000):cE M ⟨XK ⟨l,0,XJ⟩,I.length⟩ I :=
 P7 ⟨l,0,_,_,rfl,h.blk l rfl,fun j x a=>by rw[Sv];simp[strs,a],PQ _,by show I.length<=_;omega⟩
def pU(x:Nat)(T U z code:ByteArray)(n:Nat)(ao:Option Addr)(m:Nat)(ee:Int)(w:XP):Prop :=
 (ee=3/\ao=XJ/\m=0)∨(ee=0/\∃g,(ao=XK ⟨g,0,XJ⟩/\m=(bu U).length)/\dq w (XK g) (bu U)/\n<=g/\fd w x n 0 U/\OZ T U z code)
section
variable {b x gr n:Nat} {T U z code:ByteArray} {ao:Option Addr} {m:Nat} {ee:Int} {w w':XP}
theorem pU.Ur(h:pU x T U z code n ao m ee w)(q:aa [] w w'):pU x T U z code n ao m ee w':=by
 rcases h with h | ⟨a,g,b,c,d,e,f⟩
 ·exact P0 h
 ·exact P7 ⟨a,g,b,c.Ur q,d,e.Ur q,f⟩
theorem pU.down(h:pU x T U z code n ao m ee w)(f:l<=n):pU x T U z code l ao m ee w:=by
 rcases h with h | ⟨a,g,b,c,i,d,e⟩
 ·exact P0 h
 ·exact P7 ⟨a,g,b,c,by omega,d.down f,e⟩
theorem pU.UA(h:pU x T U z code n ao m ee w)(q:aa [l] w w')(k:x≠l)(j:l<n):pU x T U z code n ao m ee w':=by
 rcases h with h | ⟨a,g,b,c,d,f,i⟩
 ·exact P0 h
 ·refine P7 ⟨a,g,b,c.kept q (fun y e=>?_),d,f.keptB q k j,i⟩;obtain rfl:g=y:=Qz e;simp;omega
theorem Mc(n:x≠b)(k:aR w b x T (XK gr))(u:∃a,br w x a/\or 0 a)(t:U.size<=4294967296)(s:U.size<=1024->OZ T U z code) :
  XO prog 29 #[XA (XK ⟨b,0,XJ⟩),Xy U] w fun e w'=>∃ao m ee,e=XH (eG (Xz ao m m) 0 ⟨#[]⟩ 0 0 ee)/\aR w' b x T (XK gr)/\(∃a,br w' x a/\or 0 a)/\aa [x] w w'/\pU x T U z code w.heap.size ao m ee w':=by
 obtain⟨a,o,p⟩:=u;by_cases l:1024<U.size
 ·refine(tP b x T U (XK gr) a w k o n l t).mono ?_;rintro e y ⟨rfl,d,f,i⟩;exact⟨_,_,_,rfl,d,⟨a,f,p⟩,i,P0 ⟨rfl,rfl,rfl⟩⟩
 ·have E:=s (by omega);refine(kM (N:=0) (by omega) b x T U (XK gr) a w k o n l p E.fine.inc).mono ?_;rintro e y ⟨⟨v,rfl,j,d,f,i,q⟩,r⟩;have c:((aJ U).1.1==0)=XL:=by rw[E.fine.ok];rfl
  unfold Aj;rw[PZ c];cases v with
  | none =>
   have:bu U=[]:=j c;rw[E.rows]at this;simp at this
  | some g=>exact⟨_,_,_,rfl,f,i,q,P7 ⟨rfl,g,⟨rfl,rfl⟩,j c,d g rfl,r c,E⟩⟩
end
end Go.Proofs.YtnbalopedcgpcaaGreat
