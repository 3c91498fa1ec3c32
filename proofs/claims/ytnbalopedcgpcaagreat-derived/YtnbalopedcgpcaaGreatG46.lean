import Derived.Test.YtnbalopedcgpcaaGreatG32
import Derived.Test.YtnbalopedcgpcaaGreatG45
namespace Go.Proofs.YtnbalopedcgpcaaGreat
open Go.RowKit Tryz
open Value renaming string->Xy,slice->Xz,pointer->XA
open Obj renaming cells->XE
open Ending renaming returned->XH
open World renaming cell?->XI
open Option renaming none->XJ,some->XK
open Bool renaming true->XL,false->XM
open Go.RowKit renaming Hid->XN
open Go renaming Calls->XO,World->XP,Value->XQ
set_option maxHeartbeats 0
variable{S i t:ByteArray}{I:List ByteArray}{D:List St}{l u:Nat}{r:cY}{M N:XP}(A d:ByteArray)(c q o:List ByteArray)(p:Nat)(y:List St)
theorem oB(h:S.data.toList=i.data.toList):S=i:=by
 apply Sn;exact Sj.1 h
theorem Kc:C9 d ⟨#[120]⟩ p=nm d (m9 120 p):=oB (by simp[C9,nm,m9,ja,ByteArray.data_append,ByteArray.toList_eq])
theorem Pw:Ks d ⟨#[120]⟩ p=nm d (tQ 120 p):=oB (by simp[Ks,nm,tQ,ja,ByteArray.data_append,ByteArray.toList_eq])
theorem Ou:d++⟨#[101]⟩++⟨#[120]⟩++dy p=nm d (101 :: 120 :: (dy p).toList):=oB (by simp[nm,ja,ByteArray.data_append,ByteArray.toList_eq])
theorem MZ:d++⟨#[110]⟩=nm d [110]:=oB (by simp[nm,ja,ByteArray.data_append])
theorem Fg(L:List (UInt8×ByteArray)):(cq L).data.toList=L.flatMap (fun y=>y.1 :: y.2.data.toList):=by
 induction L with
 | nil=>rfl
 | cons y L a =>
  obtain⟨b,x⟩:=y;rw[QE,<-a];simp[cq,ByteArray.data_append]
def yD(z:ByteArray)(ts:List ByteArray)(i:Nat):List (UInt8×ByteArray):=[(32,kw 118),(32,nm z (m9 120 i)),(32,kw 46),(32,nm z (tQ 120 i)),(32,kw 102),(32,gD ts i),(32,nm z (m9 120 i)),(32,kw 46)]
theorem KU(c:∀t∈o,0<t.size)(k:Nat)(g:k<=o.length):(AQ d ⟨#[120]⟩ ⟨#[]⟩ o ⟨#[]⟩ k).data.toList=((List.range k).flatMap (yD d o)).flatMap (fun y=>y.1 :: y.2.data.toList):=by
 induction k with
 | zero=>rfl
 | succ k f =>
  have a:((gD o k).toList==(⟨#[]⟩:ByteArray).toList)=XM:=by
   have:=c _ (lL (show k<o.length by omega));rw[P7];intro e;have b:=eC e;rw[b]at this;exact absurd this (RT 0)
  rw[QB,QQ,QQ,<-f (by omega),RO,AQ,PG (by rw[a];simp),Kc,Pw];simp[yD,kw,ByteArray.data_append]
theorem IK(k:Nat)(b:k+1<=o.length):(32:UInt8) :: (Fe o (k+1)).data.toList=(o.take (k+1)).flatMap (fun x=>32 :: x.data.toList):=by
 induction k with
 | zero =>
  rw[Qu (by omega)];have e:gD o 0=o[0]:=by unfold gD;rw[Py,Px (by omega)];rfl
  simp[Fe,e,ByteArray.data_append]
 | succ k a =>
  have e:gD o (k+1)=o[k+1]:=by unfold gD;rw[Py,Px (by omega)];rfl
  rw[Qu (by omega),QQ,<-a (by omega),Fe,PJ (by omega),e];simp[ByteArray.data_append]
theorem DL(h:0<o.length):(32:UInt8) :: (zk o).data.toList=o.flatMap (fun x=>32 :: x.data.toList):=by
 obtain⟨n,a⟩:∃n,o.length=n+1:=⟨o.length-1,by omega⟩
 unfold zk;rw[a,IK o n (by omega),<-a,Qy]
def EA(z:ByteArray)(ts g ws:List ByteArray):List (UInt8×ByteArray):=(List.range ts.length).flatMap (yD z ts)++(((10,nm z [110]) :: (32,kw 112) :: (g.map (fun x=>(32,x))++(32,kw 61) :: (ws.map (fun x=>(32,x))++[(32,kw 46)])))++[(10,kw 125)])
theorem Bc:(EA d c q o).map (·.2)=Nd d c q o:=by
 unfold EA Nd;have e:∀l:List ByteArray,(l.map (fun x=>((32:UInt8),x))).map (·.2)=l:=fun l=>by rw[RM];exact List.map_id' l
 have a:((List.range c.length).flatMap (yD d c)).map (·.2)=(List.range c.length).flatMap (Ia d c):=by rw[List.map_flatMap];rfl
 simp only[List.map_append,List.map_cons,List.map_nil,e,a]
def xI(T z:ByteArray)(ts g ws:List ByteArray):ByteArray:=T++⟨#[10,36,123]⟩++AQ z ⟨#[120]⟩ ⟨#[]⟩ ts ⟨#[]⟩ ts.length++GA ⟨#[]⟩ z ⟨#[110]⟩ (zk g) (zk ws)++⟨#[10,36,125]⟩
theorem Ms(i:∀t∈c,0<t.size)(g:0<q.length)(j:0<o.length):xI A d c q o=A++cq ((10,kw 123) :: EA d c q o):=by
 apply oB;have a:=KU d c i c.length (PB _);have b:=DL q g;have f:=DL o j;have e:∀l:List ByteArray,(l.map (fun x=>((32:UInt8),x))).flatMap (fun y=>y.1 :: y.2.data.toList)=l.flatMap (fun x=>32 :: x.data.toList):=fun l=>by rw[TE]
 rw[QI,Array.toList_append,Fg,QE];unfold EA xI GA;simp only[List.flatMap_append,List.flatMap_cons,List.flatMap_nil,e,<-a,<-b,<-f];simp[ByteArray.data_append,kw,nm,ja]
theorem kG(c:UInt8)(h:c≠91/\c≠40/\33<=c.toNat/\c.toNat<=126):AY (kw c):=PK ⟨c,rfl,h⟩
theorem IX(p:dV S)(o:lu S i)(b:List ByteArray)(l:∀t∈b,Wd t/\aM (aJ S).2.Ud t=XL)(u:b.length<4200){c:List ByteArray}(d:Wd t)(m:aM (aJ S).2.Ud t=XL)(s:∀y∈I,M9 (aJ S).2 i ((List.range b.length).map (m9 120)) y)(r:∀y∈c,Wd y)(n:0<c.length) :
  ∃g,aJ (xI S i b (t :: I) c)=((0,0),g)/\Kx (aJ S).2.Us g.Us i b (t :: I) c/\cS (xI S i b (t :: I) c)=XM:=by
 rw[Ms S i b (t :: I) c (fun t h=>(l t h).1.1) (by simp) n];refine zX S p (kw 123) (EA i b (t :: I) c) (kG 123 (by decide)) (fun y f=>?_) (fun g=>Kx (aJ S).2.Us g.Us i b (t :: I) c) (by rw[Bc];exact EC o p rfl b l u d m s r);have j:=fun a (h:jG a=XL)=>(PI (pL o a h).1:AY (nm i a))
 unfold EA at f;rcases Qe.1 f with q | q
 ·obtain⟨v,k,q⟩:=Rt.1 q;have k:=PV.1 k;simp only[yD,List.mem_cons,List.not_mem_nil,or_false]at q;rcases q with rfl | rfl | rfl | rfl | rfl | rfl | rfl | rfl
  ·exact⟨PK rfl,kG 118 (by decide)⟩
  ·exact⟨PK rfl,j _ (vS (by omega))⟩
  ·exact⟨PK rfl,kG 46 (by decide)⟩
  ·exact⟨PK rfl,j _ (Ea (by omega))⟩
  ·exact⟨PK rfl,kG 102 (by decide)⟩
  ·exact⟨PK rfl,PI (l _ (lL k)).1⟩
  ·exact⟨PK rfl,j _ (vS (by omega))⟩
  ·exact⟨PK rfl,kG 46 (by decide)⟩
 ·simp only[List.mem_append,List.mem_cons,List.mem_map,List.not_mem_nil,or_false]at q;rcases q with (rfl | rfl | ⟨x,e,rfl⟩ | rfl | ⟨x,e,rfl⟩ | rfl) | rfl
  ·exact⟨PI rfl,j _ (by decide)⟩
  ·exact⟨PK rfl,kG 112 (by decide)⟩
  ·refine⟨PK rfl,PI ?_⟩;rcases e with rfl | e
   ·exact d
   ·exact J0 o (s x e)
  ·exact⟨PK rfl,kG 61 (by decide)⟩
  ·exact⟨PK rfl,PI (r x e)⟩
  ·exact⟨PK rfl,kG 46 (by decide)⟩
  ·exact⟨PI rfl,kG 125 (by decide)⟩
def Em(l:List St):List Nat->Nat->Nat->List Int
 | [],_,_=>[]
 | h :: r,v,e=>if((l.getD h dJ).kind==3)=XL then(-1-(e:Int)) :: Em l r v (e+1) else(v:Int) :: Em l r (v+1) e
theorem By(c:List Nat)(h:∀n∈c,∃h:n<y.length,A7 y[n]/\(y[n].kind=2∨y[n].kind=3)):∀(f:Fm),((c.map (ce y)).foldl (fun f x=>bP f (aV x)) f).which=f.which++Em y c f.vars.length f.ess.length:=by
 induction c with
 | nil=>intro f;simp[Em]
 | cons n c q =>
  intro f;obtain⟨e,b,a⟩:=h n (by simp);have m:ce y n=d8 y[n]:=by unfold ce;rw[Px e]
  have o:y.getD n dJ=y[n]:=by rw[Py,Px e];rfl
  simp only[List.map_cons,List.foldl_cons];rw[q (fun n e=>h n (Qk _ e)),m];have i:=b.split;have l:=nG y[n].label (eA y[n].kind :: y[n].Ub) b.lab;rw[i,Em,o];rcases a with a | a
  ·have p:=b.two a;have j:fZ (y[n].label :: eA y[n].kind :: y[n].Ub) 102=XL:=(by rw[gH,a,wR,uH];rfl);have k:(y[n].kind==3)=XM:=(by rw[a];rfl);have g:bP f (y[n].label :: eA y[n].kind :: y[n].Ub)={ f with hyps:=f.hyps++[y[n].label],which:=f.which++[(f.vars.length:Int)],types:=f.types++[gD (y[n].label :: eA y[n].kind :: y[n].Ub) 2],vars:=f.vars++[gD (y[n].label :: eA y[n].kind :: y[n].Ub) 3] }:=by
    unfold bP;rw[PG (by rw[l];simp),PJ ⟨j,by simp[p]⟩];rfl
   rw[g,k,PG (by simp)];simp
  ·have j:fZ (y[n].label :: eA y[n].kind :: y[n].Ub) 102=XM:=(by rw[gH,a,nK,uH];decide);have r:fZ (y[n].label :: eA y[n].kind :: y[n].Ub) 101=XL:=(by rw[gH,a,nK,uH];rfl);have k:(y[n].kind==3)=XL:=(by rw[a];rfl);have g:bP f (y[n].label :: eA y[n].kind :: y[n].Ub)={ f with hyps:=f.hyps++[y[n].label],which:=f.which++[-1-(f.ess.length:Int)],ess:=f.ess++[y[n].Ub] }:=by
    unfold bP;rw[PG (by rw[l];simp),PG (by rw[j];simp),PJ r];rfl
   rw[g,k,PJ rfl];simp
theorem En(a:List Nat):∀v e,(Em y a v e).length=a.length:=by
 induction a with
 | nil=>intro v e;rfl
 | cons h r b =>
  intro v e;rw[Em];split
  ·rw[Qw,Qw,b]
  ·rw[Qw,Qw,b]
theorem NR(b:List Nat):∀v e q,q<b.length->(Em y b v e).getD q 0=if((y.getD (b.getD q 0) dJ).kind==3)=XL then -1-((e+((b.take q).filter (fun h=>(y.getD h dJ).kind==3)).length:Nat):Int) else((v+((b.take q).filter (fun h=>!((y.getD h dJ).kind==3))).length:Nat):Int):=by
 induction b with
 | nil=>intro v e q d;simp at d
 | cons h r f =>
  intro v e q d;rw[Em];cases q with
  | zero =>
   show _=if((y.getD h dJ).kind==3)=XL then _ else _;by_cases a:((y.getD h dJ).kind==3)=XL
   ·rw[PJ a,PJ a];rfl
   ·rw[PG a,PG a];rfl
  | succ q =>
   have c:q<r.length:=(by simpa using d);cases a:((y.getD h dJ).kind==3)
   ·rw[PG (by simp),RI,RI,f _ _ _ c,List.take_succ_cons,TG (by rw[a];simp),Sz (by rw[a];rfl),Qw];congr 2;omega
   ·rw[PJ rfl,RI,RI,f _ _ _ c,List.take_succ_cons,Sz (p:=fun h=>(y.getD h dJ).kind==3) a,TG (by rw[a];simp),Qw];congr 3;omega
theorem ue(h:nj D l):(cM (aX D l)).which=Em D (al D l) 0 0:=by
 have a:ce D l=d8 (D[l]'h.ha):=by unfold ce;rw[Px h.ha]
 unfold cM fJ;rw[Qy];unfold aX;rw[Q0,Q0];simp only[List.foldl_cons,List.foldl_nil,a];rw[qM _ (fun p b=>(h.prs p b).1),vQ h.own h.isa]
 show(((al D l).map (ce D)).foldl (fun f x=>bP f (aV x)) xS).which=_
 rw[By D _ h.hyp];rfl
theorem Nz(h:nj D l)(z:ByteArray)(a:u<(al D l).length):Ci z (cM (aX D l)).which u ⟨#[120]⟩=LG z D l u/\(cM (aX D l)).which.length=(al D l).length:=by
 rw[ue h];refine⟨?_,En _ _ _ _⟩;unfold Ci LG;rw[NR _ _ _ _ _ a];cases b:((D.getD ((al D l).getD u 0) dJ).kind==3)
 ·simp only[Bool.false_eq_true,if_false];rw[Sk,PJ (Int.natCast_nonneg _),Sd];exact Pw z _
 ·simp only[if_true];rw[Sk,PG (by omega)];have e:(-1-(-1-((((al D l).take u).filter (fun h=>(D.getD h dJ).kind==3)).length:Int))).toNat=OX D l u:=by unfold OX;omega
  rw[e];exact Ou z _
theorem LQ(c:d.size<=1024)(g:cS d=XM):(aJ d).2.Us.length<=4104:=by
 have b:∀j,j < [((⟨#[109]⟩:ByteArray),d)].length->(Pv [(⟨#[109]⟩,d)] j).size<=1024:=fun j i=>by
  have:j=0:=by simpa using i
  subst this;exact c
 obtain⟨_,_,m,f,o⟩:=(DF [(⟨#[109]⟩,d)] b 5000).2 0 AN bB 0 rfl Gd.empty;have l:=rM [(⟨#[109]⟩,d)] b AN;have k:m<=4104:=by omega
 have n:=f.bnd.Us;have e:=jP [(⟨#[109]⟩,d)] 0 (by simp) c (tl d g);unfold cQ at e;have a:((cA [((⟨#[109]⟩:ByteArray),d)] 5000 0 AN bB).2.2.Us).length<=4104:=by omega
 rw[e]at a;exact a
theorem Cq(c:dV S):N0 (aJ S).2:=by
 have N:=Cr S;have V:=qk S;refine⟨fun n s h k=>(N.Us s (Qf h)).two k,fun n m s u a b g i d f=>?_,fun k=>?_⟩
 ·exact P7.2 (fun e=>V.ds n m s u a b g i d f (eC e))
 ·have:=c.idle.1.kind;rw[this]at k;cases k
def DM(z:ByteArray)(f:Fm)(x:ByteArray):ByteArray:=match aZ f.hyps x with
 | none=>x
 | some q=>Ci z f.which q ⟨#[120]⟩
theorem Ot(a:nj D l)(z x:ByteArray):DM z (cM (aX D l)) x=iJ z D l x:=by
 unfold DM iJ;rw[(oX a).1];cases b:aZ ((al D l).map (mQ D)) x with
 | none=>rfl
 | some q=>exact(Nz a z (by have:=mD b;rwa [P0]at this)).1
theorem NQ(h:u<l):gD (rQ A d l) u=C9 A d u:=by
 unfold gD rQ;rw[Py,Qi,Sl h];rfl
theorem NE(m:lu S i)(d j:List ByteArray)(n:d.length<=4200):px d (rQ i ⟨#[120]⟩ d.length) j=j.map (qq i d):=by
 unfold px;rw[List.map_eq_flatMap];congr 1
 funext x
 unfold jO qq;cases l:aZ d x with
 | none=>rfl
 | some g =>
  have k:=mD l;simp only;have f:=(pL m (m9 120 g) (vS (by omega))).1;rw[NQ _ _ k,Kc,PG,qx _ f.noBl];intro c;have:=f.1;have e:=eC (a:=nm i (m9 120 g)) (b:=⟨#[]⟩) ((Rh c).trans (by simp[ByteArray.toList_eq]));rw[e]at this;exact absurd this (RT 0)
section
variable {T z:ByteArray} {k:Nat}
theorem wl(b:dV T){n:Nat}{s:St}(h:(aJ T).2.Us[n]?=XK s)(d:2<=s.kind/\s.kind<=5):MG (ax s)/\aM (aJ T).2.Ud (ax s)=XL:=by
 have N:=jD T b.size;obtain⟨c,r,e,a⟩:=(N.Us s (Qf h)).code d;have t:ax s=c:=by unfold ax;rw[e];rfl
 rw[t];exact⟨N.con c ((gi _ _).1 a),a⟩
theorem J8(b:dV T)(k:Nat):∀t∈mT (aJ T).2.Us k,MG t/\aM (aJ T).2.Ud t=XL:=by
 intro t d;obtain⟨h,c,rfl⟩:=Qj.1 d;obtain⟨-,a,e⟩:=lK c;refine wl b (n:=h) ?_ (by omega);rw[lM a,Px a]
theorem Jl(b:dV T)(g:k<(aJ T).2.Us.length)(c:r∈dp (aJ T).2.Us k):MG r.code/\aM (aJ T).2.Ud r.code=XL:=by
 rcases pt c with ⟨i,d,rfl⟩ | ⟨m,j,f,-,rfl⟩
 ·obtain⟨-,a,e⟩:=lK (PD d);refine wl b (n:=(lx (aJ T).2.Us k)[i]) (s:=bL (aJ T).2.Us (lx (aJ T).2.Us k)[i]) ?_ (by rw[dI a];omega);rw[dO a,Px a]
 ·have a:m<(aJ T).2.Us.length:=by omega
  refine wl b (n:=m) (s:=bL (aJ T).2.Us m) ?_ (by omega);rw[dO a,Px a]
theorem NF(g:dV T)(d:lu T z)(n:k<(aJ T).2.Us.length)(o:(mT (aJ T).2.Us k).length<4200)(f:r∈dp (aJ T).2.Us k):Wd (iJ z (aJ T).2.Us k r.label)/\(iJ z (aJ T).2.Us k r.label).size<=2000:=by
 have N:=jD T g.size;rcases pt f with ⟨i,b,rfl⟩ | ⟨m,p,c,-,rfl⟩
 ·obtain⟨-,a,l⟩:=lK (PD b);have j:i<(mT (aJ T).2.Us k).length:=by unfold mT;rw[P0];exact b
  have e:(BN (bL (aJ T).2.Us (lx (aJ T).2.Us k)[i])).label=((aJ T).2.Us.getD (lx (aJ T).2.Us k)[i] dJ).label:=by rw[dI a];rfl
  rw[e,zY N b];refine⟨(pL d _ (Ea (by omega))).1,?_⟩;rw[<-Pw];have:=wT (z:=z) (s:=⟨#[120]⟩) (by have:=d.size;omega) (by decide) i;omega
 ·have a:m<(aJ T).2.Us.length:=by omega
  have e:(mb (aJ T).2.Us m).label=(aJ T).2.Us[m].label:=by show(bL _ m).label=_;rw[dO a]
  rw[dO a]at c;rw[e,zZ N (Px a) c];have:=((N.Us _ (PD a)).lab (by omega)).1;exact⟨this.1,by have:=this.2;omega⟩
theorem OJ(p:dV T)(a:fD (aJ T).2.Us k=XL)(b:S∈symsAt (aJ T).2.Us k)(t:(mT (aJ T).2.Us k).length<4200):M9 (aJ T).2 z ((List.range (mT (aJ T).2.Us k).length).map (m9 120)) (qq z (eP (aJ T).2.Us k) S):=by
 have N:=jD T p.size;have V:=qk T;cases f:aZ (eP (aJ T).2.Us k) S with
 | some i =>
  have n:=mD f;rw[IT]at n;rw[Aa f];exact PK ⟨_,Qj.2 ⟨i,PV.2 n,rfl⟩,vS (by omega),rfl⟩
 | none =>
  have o:=dU.1 f;rw[xq o]
  left
  have m:=b;unfold symsAt at b;unfold fD at a;cases e:(aJ T).2.Us[k]? with
  | none=>rw[e]at a;cases a
  | some s =>
   rw[e]at a b;have a:jl s.kind=XL:=a;have b:S∈s.Ub:=b;have q:s.kind=4∨s.kind=5:=by unfold jl at a;simpa using a
   have l:=((N.Us s (Qf e)).syms S b).1;rcases V.st k s e (by omega) S b with c | ⟨-,c⟩
   ·exact⟨l,(gi _ _).2 c⟩
   ·obtain⟨j,u,r,g,d,rfl,v⟩:=c (by omega);refine absurd (wY.2 ⟨j,u,g,?_,d,(mo N g d).2.1,mn.2 (PI m)⟩) o;rw[iD g];omega
end
structure OS(T U z code:ByteArray):Prop where
 fine:dV U
 rows:bu U=bu T++[⟨nm z [110],5,0,db⟩]
 tree:∀res,iB (aJ U).2.Us (nm z [110]) code res->res.1≠10
structure O5(T z code:ByteArray)(f:Fm)(ws:List ByteArray):Prop where
 vars:f.vars.length<=4200/\f.types.length=f.vars.length
 types:∀t∈f.types,t.size<=1024
 hyps:f.hyps.length<=10000/\f.which.length=f.hyps.length
 which:∀i,i<f.which.length->-9999<=f.which.getD i 0/\f.which.getD i 0<=9999
 goal:1<=f.goal.length/\f.goal.length<=11
 put:(px f.vars (rQ z ⟨#[120]⟩ f.vars.length) (f.goal.drop 1)).length<=10
 syms:∀x∈code :: px f.vars (rQ z ⟨#[120]⟩ f.vars.length) (f.goal.drop 1),x.size<=2000
 labs:0<ws.length/\ws.length<=64
 new:∀x∈ws.map (DM z f),x.size<=2000
 read:(xI T z f.types (code :: px f.vars (rQ z ⟨#[120]⟩ f.vars.length) (f.goal.drop 1)) (ws.map (DM z f))).size<=1024->OS T (xI T z f.types (code :: px f.vars (rQ z ⟨#[120]⟩ f.vars.length) (f.goal.drop 1)) (ws.map (DM z f))) z code
theorem OL(a:List Nat):∀(v e q:Nat),(-1-(e:Int)-a.length)<=(Em y a v e).getD q 0/\(Em y a v e).getD q 0<=(v:Int)+a.length:=by
 induction a with
 | nil=>intro v e q;simp[Em];omega
 | cons h r b =>
  intro v e q;rw[Em];split
  ·cases q with
   | zero=>simp only[List.getD_cons_zero,List.length_cons];omega
   | succ q=>rw[RI,Qw];have:=b v (e+1) q;omega
  ·cases q with
   | zero=>simp only[List.getD_cons_zero,List.length_cons];omega
   | succ q=>rw[RI,Qw];have:=b (v+1) e q;omega
theorem Mr(e:dV S)(K:lu S i)(d:nj (aJ S).2.Us l)(R:fD (aJ S).2.Us l=XL){a:ByteArray}(hf:da (aJ S).2.Us t=XK l)(m:iB (aJ S).2.Us t a (0,I)):O5 S i a (cM (aX (aJ S).2.Us l)) I:=by
 have N:=jD S e.size;have z:=Oi d;have ah:=LQ S e.size e.inc;have ai:=h9 (aJ S).2.Us l;have Q:(lx (aJ S).2.Us l).length<=(al (aJ S).2.Us l).length:=QV _ _;have am:(mT (aJ S).2.Us l).length=(lx (aJ S).2.Us l).length:=by unfold mT;rw[P0]
 have c:(mT (aJ S).2.Us l).length<4200:=by omega
 have q:(cM (aX (aJ S).2.Us l)).types=mT (aJ S).2.Us l:=z.types;have eg:(cM (aX (aJ S).2.Us l)).goal=(bL (aJ S).2.Us l).Ub:=by rw[z.goal,dI d.ha]
 have ad:(cM (aX (aJ S).2.Us l)).vars.length=(mT (aJ S).2.Us l).length:=by rw[z.vars,IT]
 unfold iB at m;rw[hf]at m;simp only at m;unfold MF at m;by_cases B:10<((bL (aJ S).2.Us l).Ub.drop 1).length
 ·rw[PJ B]at m;cases m
 rw[PG B]at m;obtain⟨C,r,is,L,g⟩:=m;unfold uu at g;by_cases c0:C a 0 ((bL (aJ S).2.Us l).Ub.drop 1).length=0
 ·rw[PJ c0]at g;cases g
 rw[PG c0]at g;by_cases w:C a 0 ((bL (aJ S).2.Us l).Ub.drop 1).length=1
 case neg=>rw[PG w]at g;cases g
 rw[PJ w]at g;have L:=L w;generalize htx:(bL (aJ S).2.Us l).Ub.drop 1=b at *;by_cases A:64<(pO b (dp (aJ S).2.Us l) C r a 0 b.length).length
 ·rw[PJ A]at g;cases g
 rw[PG A]at g;have J:I=pO b (dp (aJ S).2.Us l) C r a 0 b.length:=(Prod.mk.inj g).2;have j:px (cM (aX (aJ S).2.Us l)).vars (rQ i ⟨#[120]⟩ (cM (aX (aJ S).2.Us l)).vars.length) ((cM (aX (aJ S).2.Us l)).goal.drop 1)=b.map (qq i (eP (aJ S).2.Us l)):=by
  rw[NE K _ _ (by omega),eg,htx,z.vars]
 have o:I.map (DM i (cM (aX (aJ S).2.Us l)))=(pO b (dp (aJ S).2.Us l) C r a 0 b.length).map (iJ i (aJ S).2.Us l):=by
  rw[J];exact QN (fun x _=>Ot d i x)
 obtain⟨p,W,Y,Z,-⟩:=is.pick (by omega) (by omega) w;have k:=Jl e d.ha (PD W);have O:(dp (aJ S).2.Us l)[p].code=a:=eC (Rh Z);rw[O]at k;have n:∀x∈(pO b (dp (aJ S).2.Us l) C r a 0 b.length).map (iJ i (aJ S).2.Us l),Wd x/\x.size<=2000:=fun x f=>by
  obtain⟨y,v,rfl⟩:=Qj.1 f;obtain⟨P,T,rfl⟩:=vT r _ _ _ y v;exact NF e K d.ha c T
 have G:∀x∈b,x∈symsAt (aJ S).2.Us l:=fun x f=>by
  rw[<-htx]at f;have:=Sh f;unfold symsAt;rw[Px d.ha];rw[dO d.ha]at this;exact this
 have ac:∀y∈b.map (qq i (eP (aJ S).2.Us l)),M9 (aJ S).2 i ((List.range (mT (aJ S).2.Us l).length).map (m9 120)) y:=fun y v=>by
  obtain⟨x,f,rfl⟩:=Qj.1 v;exact OJ e R (G x f) c
 have U:1<=(cM (aX (aJ S).2.Us l)).goal.length:=by
  have:=(G5 N (qk S) R).ne;rw[<-z.goal]at this;exact List.length_pos_iff.2 this
 have D:(cM (aX (aJ S).2.Us l)).goal.length<=11:=by
  have:=congrArg List.length htx;rw[Ra]at this;rw[eg];omega
 have u:0<((pO b (dp (aJ S).2.Us l) C r a 0 b.length).map (iJ i (aJ S).2.Us l)).length:=by
  rw[P0];cases r with
  | zero=>exact absurd L (RT _)
  | succ r=>rw[pO,Y];simp
 refine⟨⟨by omega,by rw[q];exact ad.symm⟩,fun M H=>?_,⟨?_,?_⟩,fun ag _=>?_,⟨U,D⟩,?_,?_,?_,?_,?_⟩
 ·rw[q]at H;exact((J8 e l) M H).1.2
 ·rw[(oX d).1,P0];omega
 ·rw[ue d,En,(oX d).1,P0]
 ·rw[ue d];have:=OL (aJ S).2.Us (al (aJ S).2.Us l) 0 0 ag;omega
 ·rw[j,P0];omega
 ·rw[j];intro x f;rcases QT.1 f with rfl | f
  ·have:=k.1.2;omega
  ·obtain⟨y,v,rfl⟩:=Qj.1 f;cases E:aZ (eP (aJ S).2.Us l) y with
   | none =>
    rw[xq (dU.1 E)];have V:=G y v;unfold symsAt at V;rw[Px d.ha]at V;have:=((N.Us _ (PD d.ha)).syms y V).2;omega
   | some ag =>
    rw[Aa E,<-Kc];have:=rR (z:=i) (s:=⟨#[120]⟩) (by have:=K.size;omega) (by decide) ag;omega
 ·rw[P0]at u;rw[J];exact⟨u,by omega⟩
 ·rw[o];exact fun x f=>(n x f).2
 ·rw[j,o,q];intro hU;obtain⟨d',Q,h2,h3⟩:=IX e K (mT (aJ S).2.Us l) (fun M H=>⟨(J8 e l M H).1.1,(J8 e l M H).2⟩) c k.1.1 k.2 ac (fun y v=>(n y v).1) u;have X:mN S i l (aJ (xI S i (mT (aJ S).2.Us l) (a :: b.map (qq i (eP (aJ S).2.Us l))) ((pO b (dp (aJ S).2.Us l) C r a 0 b.length).map (iJ i (aJ S).2.Us l)))).2.Us (a :: b.map (qq i (eP (aJ S).2.Us l))) ((pO b (dp (aJ S).2.Us l) C r a 0 b.length).map (iJ i (aJ S).2.Us l)):=⟨e,K,R,by rw[Q];exact h2⟩;refine⟨⟨hU,by rw[Q],h3⟩,?_,fun ao F=>X.tree is (by omega) w F⟩;exact X.rows (X.verified c (fun P T=>DZ (Cq e) P T) is (by omega) w L)
def CU(w:XP)(n:Nat):XP:={ w with heap:=w.heap.extract 0 n }
section
variable {w v w':XP} {n:Nat}
theorem pJ(h:n<=w.heap.size):(CU w n).heap.size=n:=by unfold CU;simp;omega
theorem CV(h:n<=w.heap.size)(a:l<n):(CU w n).heap[l]?=w.heap[l]?:=by
 unfold CU;rw[Array.getElem?_extract,PJ (by omega),Sk]
theorem Eh(h:n<=w.heap.size):aa [] (CU w n) w:=⟨rfl,rfl,rfl,by rw[pJ h];exact h,fun k a _=>by rw[pJ h]at a;exact(CV h a).symm⟩
theorem aa.tn{S:List Nat}(k:aa S v w)(a:v.heap.size<=n)(h:n<=w.heap.size):aa S v (CU w n):=⟨k.os,k.tape,k.output,by rw[pJ h];exact a,fun i b c=>(CV h (PH b a)).trans (k.block i b c)⟩
theorem br.of_get{d:Fs}(h:br w l d)(e:w'.heap[l]?=w.heap[l]?):br w' l d:=by
 obtain⟨r,a,b,c,f,g⟩:=h;exact⟨r,a,b,c,e.trans f,g⟩
end
structure Od(b x gr g F n:Nat)(T:ByteArray)(lab:ByteArray)(lv:XQ)(f:Fm)(es:List Ex)(hg:Hd)(Hf:Nat->Hd)(L:List ByteArray)(v:XP):Prop where
 wat:aR v b x T (XK gr)
 ver:∃fs,br v x fs/\oq 0 fs
 form:∀w,aa [g] v w->fP w F n lab lv f es hg Hf
 lst:yd v (XK g) L
 ne:g≠b/\g≠gr/\g≠x
structure xR(g B:Nat)(v w:XP)(k:Bk)(H:Nat->Hd)(L:List ByteArray):Prop where
 bag:mM w B k H
 new:v.heap.size<=B/\∀y,cD H y->v.heap.size<=y
 lst:yd w (XK g) L
 kept:aa [g] v w
section
variable {b x gr g F n B:Nat} {T lab:ByteArray} {lv:XQ} {f:Fm} {es:List Ex} {hg:Hd} {Hf H H':Nat->Hd} {L:List ByteArray} {v w w':XP} {k k':Bk}
theorem Od.lt(h:Od b x gr g F n T lab lv f es hg Hf L v):b<v.heap.size/\x<v.heap.size/\gr<v.heap.size/\g<v.heap.size:=by
 obtain⟨c,a,-⟩:=h.ver;exact⟨h.wat.lt,a.lt,h.wat.rows.lt gr rfl,ae (h.lst.blk g rfl)⟩
theorem Od.world(h:Od b x gr g F n T lab lv f es hg Hf L v)(q:aa [g] v w):aR w b x T (XK gr)/\∃a,br w x a/\oq 0 a:=by
 obtain⟨a,c,d⟩:=h.ver;obtain⟨i,j,k⟩:=h.ne;refine⟨h.wat.kept q (by simp;omega) (fun y e=>?_),a,c.kept q (by simp;omega),d⟩;have:gr=y:=Qo e;simp;omega
theorem xR.Ug(h:xR g B v w k H L)(q:aa [] w w'):xR g B v w' k H L:=⟨aB.Ug h.bag q,h.new,⟨h.lst.nil,fun b e=>q.get (h.lst.blk b e) (by simp)⟩,h.kept.trans (q.mono (by simp))⟩
theorem xR.wrote(h:xR g B v w k H L)(d:g<v.heap.size)(i:Nat)(s:ByteArray):xR g B v (w.setCell ⟨g,i,XJ⟩ (Xy s)) k H (L.set i s):=by
 have b:aa [g] w (w.setCell ⟨g,i,XJ⟩ (Xy s)):=(aa.refl [g] w).setCell (PI (by simp)) _;have j:=h.new.1;refine⟨aB.kept h.bag b (by simp;omega) (fun y f=>by have:=h.new.2 y f;simp;omega),h.new,⟨⟨fun e=>(by cases e),fun e=>?_⟩,fun c e=>?_⟩,h.kept.trans b⟩
 ·have:L=[]:=List.length_eq_zero_iff.1 (by rw[<-Tb (i:=i) (a:=s),e];rfl);exact absurd (h.lst.nil.2 this) (by simp)
 ·obtain rfl:g=c:=Qo e;rw[af (h.lst.blk g rfl),QG];simp[strs,List.map_set]
theorem xR.turn(h:xR g B v w k H L)(a:g<v.heap.size)(f:mM w' B k' H')(t:aj B w H w' H'):xR g B v w' k' H' L:=by
 have n:=h.new.1;have d:∀i,i<v.heap.size->¬(i=B∨cD H i):=fun i b q=>q.elim (fun e=>by omega) (fun e=>by have:=h.new.2 i e;omega);have l:=h.kept.size;refine⟨f,⟨n,fun y m=>?_⟩,⟨h.lst.nil,fun c e=>?_⟩,⟨t.1.os.trans h.kept.os,t.1.tape.trans h.kept.tape,t.1.output.trans h.kept.output,Qa l t.1.size,fun i b j=>(t.1.block i (by omega) (d i b)).trans (h.kept.block i b j)⟩⟩
 ·rcases t.2 y m with c | c
  ·exact h.new.2 y c
  ·omega
 ·obtain rfl:g=c:=Qo e;exact(t.1.block g (by omega) (d g a)).trans (h.lst.blk g rfl)
theorem xR.cut(h:xR g B v w k H L):pN (CU w v.heap.size) w B k H:=by
 have:=h.kept.size;exact⟨h.bag,by rw[pJ this];exact h.new,Eh this⟩
theorem pN.trs(h:pN v w B k H)(a:yd v (XK g) L):xR g B v w k H L:=⟨h.bag,h.new,⟨a.nil,fun b e=>h.kept.get (a.blk b e) (by simp)⟩,h.kept.mono (by simp)⟩
theorem KN{a:XP}(D:fP M F n lab lv f es hg Hf)(z:aa [] M N)(o:aR N b x T (XK gr))(u:x≠b)(s:yd N (XK g) L)(G:M.heap.size<=g)(p:b<M.heap.size/\x<n/\gr<M.heap.size/\n<=M.heap.size)(A:aa [x] N a)(I:∃l,br a x l/\oq 0 l)(C:mM a B k H)(t:N.heap.size<=B/\∀y,cD H y->N.heap.size<=y) :
  Od b x gr g F n T lab lv f es hg Hf L (CU a N.heap.size)/\pN (CU a N.heap.size) a B k H:=by
 obtain⟨l,J,K⟩:=I;have m:=A.size;have O:=z.size;have q:aa [x] N (CU a N.heap.size):=A.tn (PB _) m;have E:=ae (s.blk g rfl);have r:g≠x:=by omega
 refine⟨⟨?_,⟨l,J.of_get (CV m (by omega)),K⟩,fun w j=>?_,⟨s.nil,fun c e=>q.get (s.blk c e) ?_⟩,by omega,by omega,by omega⟩,⟨C,by rw[pJ m];exact t,Eh m⟩⟩
 ·exact o.keptX q u
 ·refine D.Up (x:=x) ?_ p.2.1;have d:aa [x] M (CU a N.heap.size):=(z.mono (by simp)).trans q;exact⟨j.os.trans d.os,j.tape.trans d.tape,j.output.trans d.output,Qa d.size j.size,fun i v t=>(j.block i (PH v d.size) (by simp;omega)).trans (d.block i v t)⟩
 ·obtain rfl:g=c:=Qo e;simpa using r
end
theorem uW{b:Hd}(v:cE M b I)(f:1<=I.length):∃d k,b.ao=XK ⟨d,k,XJ⟩/\d<M.heap.size/\I.length<=b.cap/\b.cap<=9223372036854775807/\(b.cap=1->I.drop 1=[])/\cE M ⟨XK ⟨d,k+1,XJ⟩,b.cap-1⟩ (I.drop 1):=by
 rcases v with l | ⟨g,a,c,t,m,e,n,o,p⟩
 ·rw[l]at f;simp at f
 ·refine⟨g,a,m,ae e,o,p,fun h=>Qb (by rw[Ra];omega),PK ⟨g,a+1,c,t,rfl,e,fun j x i=>?_,?_,?_⟩⟩
  ·rw[R7]at i;rw[show a+1+j=a+(1+j) by omega];exact n (1+j) x i
  ·rw[Ra];show _<=b.cap-1;omega
  ·show b.cap-1<=_;omega
def E2(k:Bk)(l:List ByteArray):Bk:={ k with goal:=k.goal++l }
theorem Fj(d g b:Hd)(G a c:List ByteArray)(j i:Nat)(w:XP)(p:d.cap=1->G.drop 1=[])(q:cE w ⟨XK ⟨j,i+1,XJ⟩,d.cap-1⟩ (G.drop 1))(n:cE w g a)(o:cE w b c)(t:G.length<=11)(f:a.length<=10000)(l:a.length=c.length)(m:∀x∈c,x.size<=1000) :
  XO prog 24 #[Xz (XK ⟨j,if d.cap=1 then i else i+1,XJ⟩) (G.length-1) (d.cap-1),Xz g.ao a.length g.cap,Xz b.ao a.length b.cap] w fun r s=>∃e:Hd,r=XH (Xz e.ao (px a c (G.drop 1)).length e.cap)/\Dj w s e (au (px a c (G.drop 1))):=by
 have e:(G.drop 1).length=G.length-1:=by simp
 rw[<-e];rw[show Xz b.ao a.length b.cap=Xz b.ao c.length b.cap by rw[l]];by_cases k:d.cap=1
 ·rw[PJ k];exact zo ⟨XK ⟨j,i,XJ⟩,d.cap-1⟩ g b (G.drop 1) a c w (PI (p k)) n o (by omega) f (by omega) m
 ·rw[PG k];exact zo ⟨XK ⟨j,i+1,XJ⟩,d.cap-1⟩ g b (G.drop 1) a c w q n o (by omega) f (by omega) m
theorem mM.more{k:Bk}{H:Nat->Hd}(h:mM M l k H)(b:List ByteArray)(a:Hd)(d:aE N a (au (k.goal++b)))(g:fY M N (H 8) a) :
  XI N ⟨l,17,XJ⟩=XK (Xz (H 8).ao k.goal.length (H 8).cap)/\N.frozen? ⟨l,17,XJ⟩=XM/\XN (mM (N.setCell ⟨l,17,XJ⟩ (Xz a.ao (k.goal.length+b.length) a.cap)) l (E2 k b) (cX H 8 a)/\aj l M H (N.setCell ⟨l,17,XJ⟩ (Xz a.ao (k.goal.length+b.length) a.cap)) (cX H 8 a)):=by
 have c:=(g.kept.block l h.lt (fun e=>h.off 8 (pa e))).trans h.blk;refine⟨by rw[ab c];rfl,aw c _,?_⟩;have q:=aB.Uq h (rows':=ny (E2 k b)) 17 8 a d g (yo k (k.goal++b)) (Xz a.ao (k.goal.length+b.length) a.cap);have e:(Bb k H).set 17 (Xz a.ao (k.goal.length+b.length) a.cap)=Bb (E2 k b) (cX H 8 a):=by simp[Bb,cX,E2]
 rw[e]at q;exact q
def zD(z:ByteArray)(f:Fm)(ws:List ByteArray)(j:Nat):List ByteArray:=(ws.take j).map (DM z f)++ws.drop j
section
variable {z:ByteArray} {f:Fm} {ws:List ByteArray} {j:Nat}
theorem Ly:zD z f ws 0=ws:=by simp[zD]
theorem Nv:zD z f ws ws.length=ws.map (DM z f):=by simp[zD]
theorem DP(h:j<ws.length):(zD z f ws j)[j]?=XK ws[j]:=by
 unfold zD;rw[PR (by simp;omega),P0,QM,Sr (by omega),Rb,R7,QJ,Px h]
theorem DQ(h:j<ws.length):zD z f ws (j+1)=(zD z f ws j).set j (DM z f ws[j]):=by
 unfold zD;rw[Qu h,Qh h,Qp,QU,Rp _ _ (by simp;omega)];have e:j-((ws.take j).map (DM z f)).length=0:=by simp;omega
 rw[e];rfl
theorem Lx(h:j<ws.length)(e:DM z f ws[j]=ws[j]):zD z f ws (j+1)=zD z f ws j:=by
 rw[DQ h,e];refine QY (fun i=>?_);rw[RV];split
 ·next c =>
  subst c;rw[DP h,PJ (PT.1 (DP h)).1]
 ·rfl
end
theorem JL{g i j k m n:XQ}(h:M.heap[l]?=XK (XE #[g,i,j,k,m,n] 87))(a b c d e f:XQ) :
  ((((((M.setCell ⟨l,0,XJ⟩ a).setCell ⟨l,1,XJ⟩ b).setCell ⟨l,2,XJ⟩ c).setCell ⟨l,3,XJ⟩ d).setCell ⟨l,4,XJ⟩ e).setCell ⟨l,5,XJ⟩ f).heap[l]?=XK (XE #[a,b,c,d,e,f] 87):=by
 rw[af (af (af (af (af (af h 0 a) 1 b) 2 c) 3 d) 4 e) 5 f];rfl
theorem MA(h:yd M (XK l) I)(b:I.length<=10000):cE M ⟨XK ⟨l,0,XJ⟩,I.length⟩ I :=
 PK ⟨l,0,_,_,rfl,h.blk l rfl,fun j x a=>by rw[Sk];simp[strs,a],PB _,by show I.length<=_;omega⟩
def pT(x:Nat)(T U z code:ByteArray)(n:Nat)(ao:Option Addr)(m:Nat)(ee:Int)(w:XP):Prop :=
 (ee=3/\ao=XJ/\m=0)∨(ee=0/\∃g,(ao=XK ⟨g,0,XJ⟩/\m=(bu U).length)/\dq w (XK g) (bu U)/\n<=g/\fa w x n 0 U/\OS T U z code)
section
variable {b x gr n:Nat} {T U z code:ByteArray} {ao:Option Addr} {m:Nat} {ee:Int} {w w':XP}
theorem pT.Ug(h:pT x T U z code n ao m ee w)(q:aa [] w w'):pT x T U z code n ao m ee w':=by
 rcases h with h | ⟨a,g,b,c,d,e,f⟩
 ·exact PI h
 ·exact PK ⟨a,g,b,c.Ug q,d,e.Ug q,f⟩
theorem pT.down(h:pT x T U z code n ao m ee w)(f:l<=n):pT x T U z code l ao m ee w:=by
 rcases h with h | ⟨a,g,b,c,i,d,e⟩
 ·exact PI h
 ·exact PK ⟨a,g,b,c,by omega,d.down f,e⟩
theorem pT.Up(h:pT x T U z code n ao m ee w)(q:aa [l] w w')(k:x≠l)(j:l<n):pT x T U z code n ao m ee w':=by
 rcases h with h | ⟨a,g,b,c,d,f,i⟩
 ·exact PI h
 ·refine PK ⟨a,g,b,c.kept q (fun y e=>?_),d,f.keptB q k j,i⟩;obtain rfl:g=y:=Qo e;simp;omega
theorem L9(n:x≠b)(k:aR w b x T (XK gr))(u:∃a,br w x a/\oq 0 a)(t:U.size<=4294967296)(s:U.size<=1024->OS T U z code) :
  XO prog 29 #[XA (XK ⟨b,0,XJ⟩),Xy U] w fun e w'=>∃ao m ee,e=XH (eF (Xz ao m m) 0 ⟨#[]⟩ 0 0 ee)/\aR w' b x T (XK gr)/\(∃a,br w' x a/\oq 0 a)/\aa [x] w w'/\pT x T U z code w.heap.size ao m ee w':=by
 obtain⟨a,o,p⟩:=u;by_cases l:1024<U.size
 ·refine(tP b x T U (XK gr) a w k o n l t).mono ?_;rintro e y ⟨rfl,d,f,i⟩;exact⟨_,_,_,rfl,d,⟨a,f,p⟩,i,PI ⟨rfl,rfl,rfl⟩⟩
 ·have E:=s (by omega);refine(kM (N:=0) (by omega) b x T U (XK gr) a w k o n l p E.fine.inc).mono ?_;rintro e y ⟨⟨v,rfl,j,d,f,i,q⟩,r⟩;have c:((aJ U).1.1==0)=XL:=by rw[E.fine.ok];rfl
  unfold Aj;rw[PJ c];cases v with
  | none =>
   have:bu U=[]:=j c;rw[E.rows]at this;simp at this
  | some g=>exact⟨_,_,_,rfl,f,i,q,PK ⟨rfl,g,⟨rfl,rfl⟩,j c,d g rfl,r c,E⟩⟩
end
end Go.Proofs.YtnbalopedcgpcaaGreat
