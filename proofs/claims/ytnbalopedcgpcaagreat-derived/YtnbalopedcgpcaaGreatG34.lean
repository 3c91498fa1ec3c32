import Derived.Test.YtnbalopedcgpcaaGreatG31
import Derived.Test.YtnbalopedcgpcaaGreatG33
namespace Go.Proofs.YtnbalopedcgpcaaGreat
open Go.RowKit Tryz
open Value renaming int->Xx,string->Xy,slice->Xz,pointer->XA,bool->XC,tuple->XD
open Obj renaming cells->XE
open IntKind renaming i64->XF
open Ending renaming returned->XH
open World renaming cell?->XI
open Option renaming none->XJ,some->XK
open Bool renaming true->XL,false->XM
open Go.RowKit renaming Hid->XN
open Go renaming Calls->XO,World->XP,Value->XQ
set_option maxHeartbeats 0
variable{w S:List St}{b v:ByteArray}{a m z6:List ByteArray}{n o M:Nat}{t u:XP}{y4:XQ}{y5:Fm}{y0:List Ex}{y1:Hd}{z2:Nat->Hd}{D z7:St}(T:List St)(z0 s:Nat)(k H:ByteArray)(z3:Option Nat)(z4:Fs)(c:XP)(y3:Nat)(L g:List ByteArray)(l:List St)(z1:List Nat)(z8:Nat->Bool)(I f:Nat)
def ld(l:List St):Prop:=∀s∈l,s.til<=l.length
theorem Mq(h:ld w)(y:Nat):ld (cH w y):=by
 intro s d;obtain⟨i,a⟩:=Si d;rw[nD];rw[fH]at a;cases b:w[i]? with
 | none=>rw[b]at a;cases a
 | some e =>
  rw[b]at a;simp only[Option.map_some,Option.some.injEq]at a;have c:=h e (Qf b);subst a;split
  ·unfold dE;split
   ·exact PB _
   ·exact c
  ·exact c
theorem Ay{d:Db}(h:ld d.Us)(x:ByteArray)(p:Pl):ld (aK d x p).2.Us:=by
 rcases pH d x p with e | ⟨y,-,e⟩ | ⟨e,-⟩
 ·rw[e];exact h
 ·rw[e];exact Mq h y
 ·rw[e];intro s a;rw[PQ];rcases Qe.1 a with a | a
  ·have:=h s a;omega
  ·rw[Qd.1 a];simp
theorem J6(f:Nat):∀a d,ld d.Us->ld (cV k H f a d).2.Us:=by
 induction f with
 | zero=>intro a d h;exact h
 | succ f b =>
  intro a d h;rw[cV];split
  ·split
   ·exact b _ _ (Ay h _ _)
   ·exact Ay h _ _
  ·split
   ·split <;> exact h
   ·exact h
theorem LR:ld (aJ H).2.Us:=J6 _ _ _ 0 bB (by intro s a;simp[bB]at a)
theorem p9:bZ (l.map jh) I f=bZ l I f:=by
 unfold bZ;rw[Qi];cases l[I]? <;> rfl
theorem qA:symsAt (l.map jh) f=symsAt l f:=by
 unfold symsAt;rw[Qi];cases l[f]? <;> rfl
theorem Ig:jM (l.map jh) I f=jM l I f:=by
 unfold jM;rw[Qi,p9];cases l[f]? <;> rfl
theorem At:bX (l.map jh) f=bX l f:=by
 unfold bX dg;rw[qA,P0];congr 1;rw[show jM (l.map jh) f=jM l f from funext (Ig l f),show symsAt (l.map jh)=symsAt l from funext (qA l)]
theorem Ft:d9 (T.map jh) g I f=d9 T g I f:=by
 unfold d9;rw[Qi,p9];cases T[f]? <;> rfl
theorem vc:al (l.map jh) f=al l f:=by
 unfold al cI;rw[At,P0];rw[show d9 (l.map jh) (bX l f) f=d9 l (bX l f) f from funext (Ft l _ f)]
theorem GG:bt (l.map jh) z1=bt l z1:=by
 unfold bt;rw[show eJ (l.map jh)=eJ l from funext (fun n=>by unfold eJ;rw[Qi];cases l[n]? <;> rfl)]
theorem EI:g7 (l.map jh) I f=g7 l I f:=by
 unfold g7;rw[Qi,p9];cases l[f]? <;> rfl
theorem wV(k:Nat):bE (T.map jh) y3 g k=bE T y3 g k:=by
 induction k with
 | zero=>rfl
 | succ k a=>rw[bE,bE,a,EI,qA]
theorem vi:ce (l.map jh) f=ce l f:=by
 unfold ce;rw[Qi];cases l[f]? <;> rfl
theorem BU:aX (l.map jh) f=aX l f:=by
 unfold aX bN cT;rw[vc,GG,P0,wV,vi,show ce (l.map jh)=ce l from funext (vi l)]
theorem fL:List.range (I+f)=List.range I++(List.range f).map (I + ·):=TU
def oE(l:List St)(n:Nat):Bool:=match l[n]? with | some s=>(s.kind==3)&&(s.til==0) | none=>XM
def oS(l:List St):List ByteArray:=((List.range l.length).filter (oE l)).flatMap (symsAt l)
def oH(l:List St)(n:Nat):Bool:=match l[n]? with | some s=>(s.til==0)&&jp s (oS l) | none=>XM
def I0(l:List St):List Nat:=(List.range l.length).filter (oH l)
def oV(l:List St):List ByteArray:=bt l (I0 l)
def oD(l:List St)(n:Nat):Bool:=match l[n]? with | some s=>(s.kind==1)&&(s.til==0) | none=>XM
def oT(l:List St)(vs:List ByteArray)(i j:Nat):Bool:=(List.range l.length).any (fun n=>oD l n&&(aG vs (symsAt l n)).contains i&&(aG vs (symsAt l n)).contains j)
structure Ky(T:ByteArray)(l:List St):Prop where
 til:ld l
 syms:∀s∈l,∀x∈s.Ub,qE T x
def lq(z:ByteArray)(L:List ByteArray):Prop:=∀x∈L,∃a,x=nm z a
theorem NA(a:dV H):Ky H (aJ H).2.Us:=⟨LR H,fun s b x c=>(((mE H a.size).Us s b).syms x c).2⟩
theorem DT(f:lu b v)(c:ByteArray)(d:qE b c)(a:List UInt8):((nm v a).toList==c.toList)=XM:=by
 cases e:((nm v a).toList==c.toList)
 ·rfl
 ·exact absurd (qE.pre (y:=ja a) (by have:=so e;unfold nm at this;rw[this];exact d)) f.fresh
theorem DI(g:lu b v)(c:ByteArray)(e:qE b c)(L:List ByteArray)(d:lq v L):aM L c=XM:=by
 unfold aM;rw[Rl];intro x f;obtain⟨a,rfl⟩:=d x f;rw[DT g c e a];simp
theorem sL(e:ld w)(n a:Nat)(b:n<w.length)(f:w.length<=a):bZ (w++S) n a=(w[n].til==0):=by
 unfold bZ;rw[PC b,Px b];have:=e _ (PD b);have c:decide (n<a)=XL:=by simp;omega
 have d:decide (a<w[n].til)=XM:=by simp;omega
 simp only[c,d,Bool.true_and,Bool.or_false]
theorem Ld(d:ld w)(n a:Nat)(b:n<w.length)(c:w.length<=a):jM (w++S) a n=oE w n:=by
 unfold jM oE;rw[sL d n a b c,PC b,Px b]
theorem Id(d:ld w)(n a:Nat)(b:n<w.length)(c:w.length<=a):g7 (w++S) a n=oD w n:=by
 unfold g7 oD;rw[sL d n a b c,PC b,Px b]
theorem tU(a:f<T.length):symsAt (T++l) f=symsAt T f:=by
 unfold symsAt;rw[PC a]
theorem oi:symsAt (T++l) (T.length+f)=symsAt l f:=by
 unfold symsAt;rw[PR (by omega),QO]
theorem xD(c:ld w)(a:Nat):bX (w++S) (w.length+a)=symsAt S a++(oS w++nS w S (w.length+a)):=by
 unfold bX dg;rw[oi,PQ,fL,Qt,QQ];congr 2
 ·unfold oS;have e:(List.range w.length).filter (jM (w++S) (w.length+a))=(List.range w.length).filter (oE w):=RB (fun n b=>Ld c n _ (PV.1 b) (by omega));rw[e];refine jk _ _ _ (fun n b=>?_);exact tU w S n (PV.1 (QA.1 b).1)
 ·unfold nS;rw[Sv,TE];exact jk _ _ _ (fun n _=>oi w S n)
theorem lq.symsAt(h:∀s∈w,lq b s.Ub)(j:Nat):lq b (symsAt w j):=by
 unfold Go.Proofs.YtnbalopedcgpcaaGreat.symsAt;cases e:w[j]? with
 | none=>intro x a;simp at a
 | some s=>exact h s (Qf e)
theorem lq.nS(h:∀s∈S,lq b s.Ub)(a:Nat):lq b (nS w S a):=by
 intro x c;unfold Go.Proofs.YtnbalopedcgpcaaGreat.nS at c;obtain⟨j,-,d⟩:=Rt.1 c;exact lq.symsAt h j x d
theorem Ka(h:Ky b w)(s:St)(d:s∈w)(c:(s.kind==2)=XL)(a:2<=s.Ub.length):qE b (ak s):=by
 unfold ak;rw[PJ ⟨c,a⟩];refine h.syms s d _ ?_;rw[Py,Px (show 1<s.Ub.length by omega)];exact PD _
def ot(l:List St):Prop:=∀s∈l,(s.kind==2)=XL->2<=s.Ub.length
theorem BH(g:lu b v)(h:Ky b w)(i:ot w)(d:∀s∈S,lq v s.Ub)(c:Nat) :
  al (w++S) (w.length+c)=I0 w++((List.range S.length).filter (fun j=>d9 (w++S) (bX (w++S) (w.length+c)) (w.length+c) (w.length+j))).map (w.length + ·):=by
 unfold al cI;rw[PQ,fL,Qt,Sv];congr 1;unfold I0;refine RB (fun n a=>?_);have a:=PV.1 a;unfold d9 oH;rw[sL h.til n _ a (by omega),PC a,Px a];simp only;congr 1;unfold jp;cases e:(w[n].kind==2)
 ·rfl
 ·simp only[if_true];have f:=Ka h _ (PD a) e (i _ (PD a) e);rw[xD h.til,i8,i8,DI g _ f _ (lq.symsAt d c),DI g _ f _ (lq.nS d _),R1,SM]
theorem Jg(h:∀y∈m,(y.toList==b.toList)=XM):aZ (a++m) b=aZ a b:=by
 unfold aZ;rw[PQ,fL,Tu];have g:(List.range a.length).find? (fun i=>((a++m).getD i ⟨#[]⟩).toList==b.toList)=(List.range a.length).find? (fun i=>(a.getD i ⟨#[]⟩).toList==b.toList):=by
  have:∀(q:List Nat),(∀i∈q,i<a.length)->q.find? (fun i=>((a++m).getD i ⟨#[]⟩).toList==b.toList)=q.find? (fun i=>(a.getD i ⟨#[]⟩).toList==b.toList):=by
   intro q f
   induction q with
   | nil=>rfl
   | cons e q n =>
    have l:(a++m).getD e ⟨#[]⟩=a.getD e ⟨#[]⟩:=(by rw[Py,Py,PC (f e (by simp))]);simp only[List.find?_cons,l];rw[n (fun i c=>f i (Qk _ c))]
  exact this _ (fun i c=>PV.1 c)
 have k:((List.range m.length).map (a.length + ·)).find? (fun i=>((a++m).getD i ⟨#[]⟩).toList==b.toList)=XJ:=by
  rw[Q1];intro i c;obtain⟨j,d,rfl⟩:=Qj.1 c;have d:=PV.1 d;rw[Py,PR (by omega),QO,Px d];have:=h _ (PD d);simpa using this
 rw[g,k];cases (List.range a.length).find? (fun i=>(a.getD i ⟨#[]⟩).toList==b.toList) <;> rfl
theorem FM(h:∀y∈a,(y.toList==b.toList)=XM):aZ (a++m) b=(aZ m b).map (a.length + ·):=by
 unfold aZ;rw[PQ,fL,Tu];have d:(List.range a.length).find? (fun i=>((a++m).getD i ⟨#[]⟩).toList==b.toList)=XJ:=by
  rw[Q1];intro i c;have c:=PV.1 c;rw[Py,PC c,Px c];have:=h _ (PD c);simpa using this
 rw[d,Option.none_or,List.find?_map];congr 1;congr 1
 funext j
 simp only[Function.comp];rw[Py,Py,PR (by omega),QO]
theorem sH{α:Type}(l:List ByteArray)(p q:ByteArray->Option α)(h:∀x∈l,p x=q x):l.filterMap p=l.filterMap q:=by
 induction l with
 | nil=>rfl
 | cons a l c=>rw[QD,QD,h a (by simp),c (fun x b=>h x (Qk _ b))]
theorem tA(h:∀x∈z6,∀y∈m,(y.toList==x.toList)=XM):aG (a++m) z6=aG a z6:=by
 unfold aG;exact sH z6 _ _ (fun x b=>Jg (h x b))
theorem rt(h:∀x∈z6,∀y∈a,(y.toList==x.toList)=XM):aG (a++m) z6=(aG m z6).map (a.length + ·):=by
 unfold aG;rw[List.map_filterMap];exact sH z6 _ _ (fun x b=>FM (h x b))
theorem DC(h:f<L.length):gD (L++g) f=gD L f:=by
 unfold gD;rw[Py,Py,PC h]
theorem Iu:gD (L++g) (L.length+f)=gD g f:=by
 unfold gD;rw[Py,Py,PR (by omega),QO]
theorem FN(A B C:Nat->Nat->Bool)(e:∀i j,i<L.length->j<L.length->A i j=B i j)(f:∀i j,i<L.length->j<g.length->A i (L.length+j)=XM)(k:∀i j,i<g.length->j<g.length->A (L.length+i) (L.length+j)=C i j):LN (L++g) A=LN L B++LN g C:=by
 unfold LN;rw[PQ,fL,QQ];congr 1
 ·refine jk _ _ _ (fun i b=>?_);have b:=PV.1 b;rw[Qt,Qp];have c:(List.range L.length).filter (fun j=>decide (i<j)&&A i j)=(List.range L.length).filter (fun j=>decide (i<j)&&B i j):=RB (fun j a=>by rw[e i j b (PV.1 a)]);have d:((List.range g.length).map (L.length + ·)).filter (fun j=>decide (i<j)&&A i j)=[]:=by
   rw[Rm];intro q l;obtain⟨j,a,rfl⟩:=Qj.1 l;rw[f i j b (PV.1 a)];simp
  rw[c,d,Tg,Qz];apply QN;intro j a;have a:=PV.1 (QA.1 a).1;rw[DC L g i b,DC L g j a]
 ·rw[TE];refine jk _ _ _ (fun i b=>?_);have b:=PV.1 b;rw[Qt,Qp];have c:(List.range L.length).filter (fun j=>decide (L.length+i<j)&&A (L.length+i) j)=[]:=by
   rw[Rm];intro j a;have:=PV.1 a;simp;omega
  rw[c,Tg,RU,Sv,RM]
  have d:(List.range g.length).filter ((fun j=>decide (L.length+i<j)&&A (L.length+i) j) ∘ (L.length + ·))=(List.range g.length).filter (fun j=>decide (i<j)&&C i j):=RB (fun j a=>by
   simp only[Function.comp];rw[k i j b (PV.1 a)];congr 1
   exact decide_eq_decide.2 (by omega))
  rw[d];apply QN;intro j _;simp only[Function.comp,Iu]
theorem Cl(h:(aG a m).contains n=XL):n<a.length:=by
 have c:n∈aG a m:=Rs.1 h;obtain⟨k,b,e⟩:=QC c;have:=kJ a m k b;rw[e]at this;exact this
theorem yA{vs:List ByteArray}{i:Nat}(h:vs.length<=i):(aG vs a).contains i=XM:=by
 cases e:(aG vs a).contains i
 ·rfl
 ·have:=Cl e;omega
theorem yB:((z1.map (I + ·)).contains (I+f))=z1.contains f:=by
 rw[Su,Rs,Rs,Qj];constructor
 ·rintro ⟨a,h,e⟩;have:a=f:=by omega
  rw[<-this];exact h
 ·intro h;exact⟨f,h,rfl⟩
theorem oK(h:f<I):((z1.map (I + ·)).contains f)=XM:=by
 cases e:(z1.map (I + ·)).contains f
 ·rfl
 ·obtain⟨a,-,b⟩:=Qj.1 (Rs.1 e);omega
def nT(l N:List St)(a:Nat)(W:List ByteArray)(i j:Nat):Bool:=(List.range N.length).any (fun n=>g7 (l++N) a (l.length+n)&&(aG W (symsAt N n)).contains i&&(aG W (symsAt N n)).contains j)
theorem any_map{α β:Type}(l:List α)(f:α->β)(p:β->Bool):(l.map f).any p=l.any (fun x=>p (f x)):=by rw[List.any_map];rfl
theorem pX(l:List Nat)(p q:Nat->Bool)(h:∀x∈l,p x=q x):l.any p=l.any q:=by
 induction l with
 | nil=>rfl
 | cons a l c=>rw[RS,RS,h a (by simp),c (fun x b=>h x (Qk _ b))]
theorem ox(h:∀x∈z1,z8 x=XM):z1.any z8=XM:=by
 rw[Rl];intro x a;rw[h x a];simp
theorem GB(p:lu b v)(h:Ky b w)(q:∀s∈S,lq v s.Ub)(a:Nat)(z:w.length<=a)(V W:List ByteArray)(t:∀A∈V,qE b A)(u:lq v W) :
  (∀i j,i<V.length->j<V.length->rz (w++S) a (V++W) (w++S).length i j=oT w V i j)/\(∀i j,i<V.length->j<W.length->rz (w++S) a (V++W) (w++S).length i (V.length+j)=XM)/\(∀i j,i<W.length->j<W.length->rz (w++S) a (V++W) (w++S).length (V.length+i) (V.length+j)=nT w S a W i j):=by
 have r:∀n,n<w.length->aG (V++W) (symsAt w n)=aG V (symsAt w n):=fun n d=>tA (fun x g y m=>by
  obtain⟨f,rfl⟩:=u y m;refine DT p x ?_ f;unfold symsAt at g;rw[Px d]at g;exact h.syms _ (PD d) x g)
 have l:∀n,aG (V++W) (symsAt S n)=(aG W (symsAt S n)).map (V.length + ·):=fun n=>rt (fun x g y m=>by
  obtain⟨f,rfl⟩:=lq.symsAt q n x g;have e:=DT p y (t y m) f;rw[show(y.toList==(nm v f).toList)=((nm v f).toList==y.toList) from BEq.comm];exact e)
 have c:∀i j,rz (w++S) a (V++W) (w++S).length i j=((List.range w.length).any (fun n=>oD w n&&(aG V (symsAt w n)).contains i&&(aG V (symsAt w n)).contains j)||(List.range S.length).any (fun n=>g7 (w++S) a (w.length+n)&&((aG W (symsAt S n)).map (V.length + ·)).contains i&&((aG W (symsAt S n)).map (V.length + ·)).contains j)):=by
  intro i j;unfold rz;rw[PQ,fL,Sq,any_map];congr 1
  ·refine pX _ _ _ (fun n d=>?_);have d:=PV.1 d;rw[Id h.til n a d z,tU w S n d,r n d]
  ·refine pX _ _ _ (fun n d=>?_);rw[oi,l]
 refine⟨fun i j k o=>?_,fun i j k o=>?_,fun i j k o=>?_⟩
 ·rw[c,ox (List.range S.length) _ (fun n _=>by rw[oK _ _ i k];simp),SM];rfl
 ·rw[c,ox (List.range w.length) _ (fun n _=>by rw[yA (vs:=V) (i:=V.length+j) (by omega)];simp),ox (List.range S.length) _ (fun n _=>by rw[oK _ _ i k];simp)];rfl
 ·rw[c,ox (List.range w.length) _ (fun n _=>by rw[yA (vs:=V) (i:=V.length+j) (by omega)];simp),R1];unfold nT;exact pX _ _ _ (fun n _=>by rw[yB,yB])
def nH(l N:List St)(j0:Nat):List Nat:=(List.range N.length).filter (fun j=>d9 (l++N) (bX (l++N) (l.length+j0)) (l.length+j0) (l.length+j))
def oP(l:List St):List Pr:=LN (oV l) (fun i j=>!(i==j)&&oT l (oV l) i j)
def nP(l N:List St)(j0:Nat):List Pr:=LN (bt N (nH l N j0)) (fun i j=>!(i==j)&&nT l N (l.length+j0) (bt N (nH l N j0)) i j)
theorem C4(a:List Nat)(h:∀n∈z1,n<T.length):bt (T++l) (z1++a.map (T.length + ·))=bt T z1++bt l a:=by
 unfold bt;rw[QP,List.filterMap_map];congr 1
 ·exact oW _ _ _ (fun n b=>by unfold eJ;rw[PC (h n b)])
 ·refine oW _ _ _ (fun n _=>?_);simp only[Function.comp];unfold eJ;rw[PR (by omega),QO]
theorem Mt(i:∀s∈w,lq b s.Ub)(g:ot w)(k:List Nat):lq b (bt w k):=by
 intro x f;unfold bt at f;obtain⟨n,-,a⟩:=Rg.1 f;unfold eJ at a;cases c:w[n]? with
 | none=>rw[c]at a;cases a
 | some s =>
  rw[c]at a;simp only at a;split at a
  ·next d =>
   cases a
   have e:=Qf c;have j:=g s e d;unfold ak;rw[PJ ⟨d,j⟩];refine i s e _ ?_;rw[Py,Px (show 1<s.Ub.length by omega)];exact PD _
  ·cases a
theorem Ow(h:Ky b w)(f:ot w):∀v∈oV w,qE b v:=by
 intro x e;unfold oV bt at e;obtain⟨n,-,a⟩:=Rg.1 e;unfold eJ at a;cases c:w[n]? with
 | none=>rw[c]at a;cases a
 | some s =>
  rw[c]at a;simp only at a;split at a
  ·next d =>
   cases a
   exact Ka h s (Qf c) d (f s (Qf c) d)
  ·cases a
theorem zv(m:lu b v)(h:Ky b w)(l:ot w)(f:∀s∈S,lq v s.Ub)(p:ot S)(a:Nat) :
  al (w++S) (w.length+a)=I0 w++(nH w S a).map (w.length + ·) /\
  aX (w++S) (w.length+a)=((I0 w).map (ce w)++(nH w S a).map (ce S))++((oP w).map cB++(nP w S a).map cB)++[ce S a]:=by
 have g:=BH m h l f a;refine⟨g,?_⟩;have e:∀n∈I0 w,n<w.length:=fun n k=>PV.1 (QA.1 k).1;have r:bt (w++S) (al (w++S) (w.length+a))=oV w++bt S (nH w S a):=by rw[g];exact C4 w S _ _ e
 have q:bN (w++S) (w.length+a)=oP w++nP w S a:=by
  unfold bN;rw[r,ND];obtain⟨t,u,x⟩:=GB m h f (w.length+a) (by omega) (oV w) (bt S (nH w S a)) (Ow h l) (Mt f p _);refine FN _ _ _ _ _ (fun i j c d=>by rw[t i j c d]) (fun i j c d=>by rw[u i j c d];simp) (fun i j c d=>?_);rw[x i j c d];congr 1;congr 1;rw[Su];simp
 have o:ce (w++S) (w.length+a)=ce S a:=by unfold ce;rw[PR (by omega),QO]
 unfold aX;rw[q,g,Qp,Qp,RM,o];congr 3
 ·exact QN (fun n k=>by unfold ce;rw[PC (e n k)])
 ·refine QN (fun n _=>?_);simp only[Function.comp];unfold ce;rw[PR (by omega),QO]
def MX:St:=⟨0,⟨#[]⟩,[],[],db,0⟩
theorem rH(h:f<l.length):l.getD f MX=l[f]:=by
 rw[Py,Px h];rfl
theorem Cp:(List.range l.length).map (fun j=>l.getD j MX)=l:=by
 apply Ty
 ·simp
 ·intro i b a;rw[List.getElem_map,To,rH l i a]
theorem O8(q:St->Bool)(e:∀j (a:j<T.length),z8 j=q T[j])(f:∀j,T.length<=j->z8 j=XM):((List.range (T++l).length).filter z8).map (fun j=>(T++l).getD j MX)=T.filter q:=by
 rw[PQ,fL,Qt,Qp];have b:((List.range l.length).map (T.length + ·)).filter z8=[]:=by
  rw[Rm];intro x g;obtain⟨j,-,rfl⟩:=Qj.1 g;rw[f _ (by omega)];simp
 have c:(List.range T.length).filter z8=(List.range T.length).filter (q ∘ (fun j=>T.getD j MX)):=RB (fun j a=>by
  have a:=PV.1 a;rw[e j a];simp only[Function.comp];rw[rH T j a])
 rw[b,Tg,Qz,c];have d:((List.range T.length).filter (q ∘ (fun j=>T.getD j MX))).map (fun j=>(T++l).getD j MX)=((List.range T.length).filter (q ∘ (fun j=>T.getD j MX))).map (fun j=>T.getD j MX):=by
  apply QN;intro j a;have a:=PV.1 (QA.1 a).1;rw[rH T j a,rH _ j (by rw[PQ];omega),Tw a]
 rw[d,<-Sv,Cp]
theorem ID:bZ (T++l) (T.length+I) (T.length+f)=match l[I]? with | some s=>decide (I<f)&&(s.til==0||decide (T.length+f<s.til)) | none=>XM:=by
 unfold bZ;rw[PR (by omega),QO];cases l[I]? with
 | none=>rfl
 | some s =>
  simp only;congr 1;exact decide_eq_decide.2 (by omega)
theorem IW:(T++l)[T.length+f]?=l[f]?:=by rw[PR (by omega),QO]
theorem IU(h:∀j s,l[j]?=XK s->bZ (T++l) (T.length+j) (T.length+f)=XL->s.kind=4):nH T l f=[]:=by
 unfold nH;rw[Rm];intro j a;have a:=PV.1 a;unfold d9;rw[IW,Px a];simp only;cases b:bZ (T++l) (T.length+j) (T.length+f)
 ·simp
 ·have:=h j _ (Px a) b;unfold jp;rw[this];simp
theorem zu{N:List St}(m:lu b v)(h:Ky b w)(g:ot w)(k:∀s∈N,lq v s.Ub)(i:ot N)(c:Nat)(l:∀j s,N[j]?=XK s->bZ (w++N) (w.length+j) (w.length+c)=XL->s.kind=4) :
  al (w++N) (w.length+c)=I0 w/\aX (w++N) (w.length+c)=(I0 w).map (ce w)++(oP w).map cB++[ce N c]:=by
 obtain⟨a,d⟩:=zv m h g k i c;have e:=IU w N c l;have f:nP w N c=[]:=by unfold nP LN;rw[e];rfl
 rw[e]at a d;rw[f]at d;rw[a,d];simp
structure OP(l H:List St):Prop where
 held:∀s∈H,(s.til==0||decide (l.length+H.length<s.til))=XL
theorem Lu(g:lu b v)(h:Ky b w)(f:ot w)(q:Pl) :
  al (w++[⟨4,v++ja [97],[v++ja [113]],[],q,0⟩]) w.length=I0 w/\aX (w++[⟨4,v++ja [97],[v++ja [113]],[],q,0⟩]) w.length=(I0 w).map (ce w)++(oP w).map cB++[nm v [97]++⟨#[32]⟩++⟨#[36,97]⟩++(⟨#[32]⟩++nm v [113])]:=by
 have:=zu (N:=[⟨4,v++ja [97],[v++ja [113]],[],q,0⟩]) g h f (fun s a=>by
  rw[Qd.1 a];intro x c;have c:x∈[v++ja [113]]:=c;exact⟨[113],Qd.1 c⟩) (fun s a e=>by rw[Qd.1 a]at e;cases e) 0 (fun j s a d=>by
  rw[ID,a]at d;simp at d)
 exact this
def im(T:ByteArray):List St:=(aJ T).2.Us.map jh
theorem G8(e:dV b):Ky b (im b)/\ot (im b):=by
 have h:=NA b e;refine⟨⟨fun s a=>?_,fun s a x g=>?_⟩,fun s a f=>?_⟩
 ·obtain⟨t,c,rfl⟩:=Qj.1 a;have:=h.til t c;unfold im;rw[P0];exact this
 ·obtain⟨t,c,rfl⟩:=Qj.1 a;exact h.syms t c x g
 ·obtain⟨t,c,rfl⟩:=Qj.1 a;have d:t.kind=2:=Rh f;have:=((mE b e.size).Us t c).two d;show 2<=t.Ub.length;omega
def N4(T:ByteArray):List ByteArray:=(I0 (im T)).map (ce (im T))
def O9(T:ByteArray):List ByteArray:=(oP (im T)).map cB
theorem Cb:du (T.map jh) H f=du T H f:=by
 unfold du;rw[Qi];cases T[f]? <;> rfl
theorem Bs:da (T.map jh) H=da T H:=by
 unfold da;rw[P0,show du (T.map jh) H=du T H from funext (Cb T H)]
theorem Im(e:n<w.length)(a:du w b n=XL)(c:∀m,m<n->du w b m=XM):da w b=XK n:=by
 unfold da;rw[Tv];exact⟨a,PV.2 e,fun j d=>by rw[c j d];rfl⟩
theorem Fw(i:dV b)(l:lu b v)(N:List St)(a:List UInt8)(m:Nat)(g:m<(im b).length):du (im b++N) (nm v a) m=XM:=by
 unfold du;rw[PC g,Px g];simp only;obtain⟨t,k,e⟩:=Qj.1 (PD g);have c:=(mE b i.size).Us t k;cases d:jl (im b)[m].kind
 ·simp
 ·have d:jl t.kind=XL:=by
   have:(im b)[m].kind=t.kind:=(by rw[<-e];rfl);rw[<-this];exact d
  have f:2<=t.kind/\t.kind<=5:=c.kind.resolve_left (by intro e;rw[e]at d;revert d;decide);have j:(im b)[m].label=t.label:=by rw[<-e];rfl
  rw[j,show(t.label.toList==(nm v a).toList)=((nm v a).toList==t.label.toList) from BEq.comm,DT l _ (c.lab f).1.2 a];rfl
theorem vq(a:ByteArray)(j:Nat):du (T++l) a (T.length+j)=du l a j:=by
 unfold du;rw[IW]
theorem Ip(e:dV b)(f:lu b v)(N:List St)(a:List UInt8)(j:Nat)(g:j<N.length)(c:du N (nm v a) j=XL)(d:∀m,m<j->du N (nm v a) m=XM):da (im b++N) (nm v a)=XK ((im b).length+j):=by
 refine Im (by rw[PQ];omega) (by rw[vq];exact c) (fun m i=>?_);by_cases h:m<(im b).length
 ·exact Fw e f N a m h
 ·obtain⟨q,rfl⟩:∃q,m=(im b).length+q:=⟨m-(im b).length,by omega⟩
  rw[vq];exact d q (by omega)
def fV(T z:ByteArray):ByteArray:=T++cq ((10,kw 99) :: xf z)
structure M7(U lab:ByteArray)(L:List ByteArray)(n:Nat):Prop where
 find:da (aJ U).2.Us lab=XK n
 lines:aX (aJ U).2.Us n=L
def MR(z:ByteArray):ByteArray:=nm z [97]++⟨#[32]⟩++⟨#[36,97]⟩++(⟨#[32]⟩++nm z [113])
theorem FF(d:dV b)(f:lu b v):cS (fV b v)=XM/\(aJ (fV b v)).1=(0,0)/\∃n,M7 (fV b v) (nm v [97]) (N4 b++O9 b++[MR v]) n/\(al (aJ (fV b v)).2.Us n).length=(N4 b).length:=by
 obtain⟨j,p,g,k,l⟩:=Cg b v d f;obtain⟨o,c⟩:=G8 d;have e:(aJ (fV b v)).2.Us.map jh=im b++[⟨4,v++ja [97],[v++ja [113]],[],db,0⟩]:=by
  unfold fV;rw[g];show j.Us.map jh=_;rw[k,Qp];rfl
 obtain⟨a,i⟩:=Lu f o c db;refine⟨l,by unfold fV;rw[g],(im b).length,⟨?_,?_⟩,?_⟩
 ·rw[<-Bs,e];exact Ip d f _ [97] 0 (by simp) (by unfold du nm;simp[jl]) (fun m q=>by omega)
 ·rw[<-BU,e,i];rfl
 ·rw[<-vc,e,a];unfold N4;rw[P0]
def cP(T z:ByteArray):List ByteArray:=N4 T++O9 T++[MR z]
structure Pg(w:XP)(n F g:Nat)(ao:Option Addr)(cap:Nat)(T z:ByteArray):Prop where
 c1:XI w ⟨F,1,XJ⟩=XK (Xz (XK ⟨g,0,XJ⟩) (cP T z).length (cP T z).length)
 c2:XI w ⟨F,2,XJ⟩=XK (Xz ao (N4 T).length cap)
 ls:ej w g (cP T z) (cP T z).length
 F:n<=F/\F<w.heap.size
 g:n<=g
 len:(cP T z).length<=200000000
theorem fP.down(h:fP t n o b y4 y5 y0 y1 z2)(c:M<=o):fP t n M b y4 y5 y0 y1 z2 :=
 ⟨h.bag,⟨Qa c h.new.1,fun k f=>Qa c (h.new.2 k f)⟩,fun e d=>⟨(h.exs e d).1,fun x a=>Qa c ((h.exs e d).2 x a)⟩,h.ess,h.gl.1,fun x a=>⟨(h.gl.2 x a).1,(h.gl.2 x a).2.1,(h.gl.2 x a).2.2.1,Qa c (h.gl.2 x a).2.2.2⟩⟩
theorem fP.Up{x:Nat}(h:fP t n o b y4 y5 y0 y1 z2)(k:aa [x] t u)(j:x<o):fP u n o b y4 y5 y0 y1 z2:=by
 have f:∀y,o<=y->y∉[x]:=fun y a c=>by have:=Qd.1 c;omega
 refine⟨h.bag.kept k (f n h.new.1) (fun y a=>f y (h.new.2 y a)),h.new,fun e g=>⟨?_,(h.exs e g).2⟩,h.ess,?_,fun y a=>⟨PH (h.gl.2 y a).1 k.size,(h.gl.2 y a).2⟩⟩
 ·obtain⟨d,i⟩:=h.exs e g;exact⟨d.view.kept k (fun y a=>f y (i y a)),d.adr,fun y a=>⟨PH (d.far y a).1 k.size,(d.far y a).2⟩⟩
 ·exact h.gl.1.kept k (fun y a=>f y (h.gl.2 y a).2.2.2)
def Ob(b x:Nat)(T z:ByteArray)(o:Option Nat)(w:XP)(e:Ending)(w':XP):Prop :=
 (aa [x] w w'/\aR w' b x T o/\∃fs',br w' x fs'/\oq 0 fs')/\(e=XH (XD #[XA XJ,XC XL])∨∃F g es hg Hf,e=XH (XD #[XA (XK ⟨F,0,XJ⟩),XC XL])/\fP w' F w.heap.size (nm z [97]) (Xz (XK ⟨g,0,XJ⟩) (cP T z).length (cP T z).length) (cM (cP T z)) es hg Hf/\ej w' g (cP T z) (cP T z).length/\w.heap.size<=g/\(cM (cP T z)).hyps.length<=200000000)
set_option maxRecDepth 100000
theorem I6(M:aR c z0 s k z3)(hV:br c s z4)(hM:oq 0 z4)(hx:s≠z0)(hT:dV k)(hz:lu k H) :
  XO prog 61 #[XA (XK ⟨z0,0,XJ⟩),Xy H] c fun e f=>Ob z0 s k H z3 c e f:=by
 have az:=hT.size;have a1:=M.lt;obtain⟨L,U,-⟩:=M.cells;have a5:=hz.size;have HU:XN _:=Ch k H;obtain⟨l,b,n,hF,B⟩:=FF hT hz;have P:XN _:=hF;have HH:XN _:=B;have I:(fV k H).size=k.size+3*H.size+18:=by
  unfold fV;rw[<-HU.out];simp only[ByteArray.size_append];rw[show(⟨#[10,36,99,32]⟩:ByteArray).size=4 from rfl,show(⟨#[113,32,36,46,32]⟩:ByteArray).size=5 from rfl,show(⟨#[97,32,36,97,32]⟩:ByteArray).size=5 from rfl,show(⟨#[113,32,36,46]⟩:ByteArray).size=4 from rfl];omega
 have HS:XN _:=I;have S:XN (k++cq ((10,kw 99) :: xf H)=fV k H):=rfl;have HZ:XN (H++⟨#[97]⟩=nm H [97]):=rfl;have R:XN _:=b;clear hF B I b;go_enter func61,ntmps61;go_wp2_with fail;rw[HU.out,S.out];by_cases hl:1024<(fV k H).size
 ·refine(tP z0 s k (fV k H) z3 z4 c M hV hx hl (by have:=HS.out;omega)).mono ?_;rintro e K ⟨rfl,a,o,j⟩;simp only[eF];go_wp2;go_ret2;have d:=(aa.refl [] K).alloc (XE #[Xz XJ 0 0,Xx XF 0,Xy ⟨#[]⟩,Xx XF 0,Xx XF 0,Xx XF 3] 87);exact⟨⟨j.trans (d.mono (by simp)),a.Ug d,z4,o.kept d (by simp),hM⟩,PI rfl⟩
 ·refine(kM (N:=0) (by omega) z0 s k (fV k H) z3 z4 c M hV hx hl hM l).mono ?_;rintro e K ⟨⟨o',rfl,-,-,a,⟨W,o,ac⟩,j⟩,y⟩;have hr:((aJ (fV k H)).1.1==0)=XL:=by rw[R.out];rfl
  obtain⟨X,aq,gg,hR,-,-,av⟩:=y hr;unfold Aj;rw[PJ hr];obtain⟨T,n1,V,E⟩:=ft o' (bu (fV k H)).length;rw[E];simp only[eF];have ok:=(iA (fV k H) (by omega) l).ok;have J:=(jD (fV k H) (by omega)).szs;have D:=jD (fV k H) (by omega);obtain⟨hn,ha,C⟩:=sD P.out.find;have fr:=nj.of D ok n hn ha;obtain⟨u,v⟩:=oX fr;have A:XN (0<(cM (aX (aJ (fV k H)).2.Us n)).goal.length):=by
   have G:=D.Us _ (PD hn);have hk:2<=(aJ (fV k H)).2.Us[n].kind/\(aJ (fV k H)).2.Us[n].kind<=5:=G.kind.resolve_left (by intro e;rw[e]at ha;revert ha;decide);obtain⟨a6,rr,hc,-⟩:=G.code hk;show 0<_;rw[v,hc];simp
  have p:=fun d hk=>zt fr (nm H [97]) C d hk;have ah:XN ((cM (aX (aJ (fV k H)).2.Us n)).hyps.length=(N4 k).length):=by show _=_;rw[u,P0,HH.out]
  have Z:=mB (aJ (fV k H)).2.Us n;have ag:=h9 (aJ (fV k H)).2.Us n;have ai:=ok.len;have ao:(bN (aJ (fV k H)).2.Us n).length<=100000000:=xi _ _ (by have:=my (aJ (fV k H)).2.Us (al (aJ (fV k H)).2.Us n);omega);have w:(aX (aJ (fV k H)).2.Us n).length<=200000000:=by omega
  have x:0<(aX (aJ (fV k H)).2.Us n).length:=by omega
  have m:XN (∀f,aa [] K f->XO prog 58 #[XA (XK ⟨s,0,XJ⟩),Xy (nm H [97])] f fun e t=>∃g,e=XH (XD #[Xz (XK ⟨g,0,XJ⟩) (aX (aJ (fV k H)).2.Us n).length (aX (aJ (fV k H)).2.Us n).length,Xx XF 0])/\ej t g (aX (aJ (fV k H)).2.Us n) (aX (aJ (fV k H)).2.Us n).length/\f.heap.size<=g/\aa [] f t):=fun f q=>by
   refine(uc s X _ aq gg (nm H [97]) f (hR.Ug q) ok J).mono ?_;rintro e t ⟨k1,h2⟩;rw[P.out.find]at h2;obtain⟨g',h3,h4,h5⟩:=h2;exact⟨g',h3,h4,h5,k1⟩
  have i:XN _:=P.out.lines;have i:XN (aX (aJ (fV k H)).2.Us n=cP k H):=i.out;rw[i.out]at m w x ah A;have p:XN (∀d (h:d<(cP k H).length),pS (nm H [97]) (decide (d+1=(cP k H).length)) (cP k H)[d]):=by
   have:=i.out;show ∀d (h:d<(cP k H).length),_;rw[<-this];exact p
  clear ao ag Z ai u v L U;have O:aa [] K (K.alloc (XE #[Xz T n1 V,Xx XF 0,Xy ⟨#[]⟩,Xx XF 0,Xx XF 0,Xx XF 0] 87)):=(aa.refl [] _).alloc _;have z:=a.Ug O;obtain⟨L,U,-⟩:=z.cells;have Q:XN _:=(uU z0 s (nm H [97]) (cP k H) _ L z.lt x w (fun f q=>m.out f (O.trans q)) p A);have a0:=a.lt;clear L U m;go_wp2_with fail;rw[HZ.out];refine PE Q.out ?_;rintro e w4 ⟨F,gl,es,ad,Hf,rfl,Y,am,⟨a2,-,-⟩,k4⟩;go_wp2;go_ret2;have r:=O.trans k4;have a3:=j.size;have a4:=O.size;have ap:(cM (cP k H)).hyps.length<=200000000:=by have:=Dz (cP k H) (cP k H).length (PB _);have:=this.hy;unfold cM;omega
  exact⟨⟨j.trans (r.mono (by simp)),a.Ug r,W,o.kept r (by simp),ac⟩,PK ⟨F,gl,es,ad,Hf,rfl,Y.down (by omega),am,by omega,ap⟩⟩
def Hb(z:ByteArray)(F:Nat)(fl:List ByteArray):Bk:=⟨z,XA (XK ⟨F,0,XJ⟩),⟨#[]⟩,⟨#[]⟩,⟨#[]⟩,fl,[],XM,XM,[],⟨#[]⟩,[],⟨#[]⟩,[],[],[],[],[],XM⟩
theorem KO(h:t.heap[n]?=XK (XE #[Xy b,XA (XK ⟨o,0,XJ⟩),Xy ⟨#[]⟩,Xy ⟨#[]⟩,Xy ⟨#[]⟩,Xz XJ 0 0,Xz XJ 0 0,XC XM,XC XM,Xz XJ 0 0,Xy ⟨#[]⟩,Xz XJ 0 0,Xy ⟨#[]⟩,Xz XJ 0 0,Xz XJ 0 0,Xz XJ 0 0,Xz XJ 0 0,Xz XJ 0 0,XC XM] 78)):mM t n (Hb b o []) fg:=by
 refine⟨h,fun i=>?_,fun i j _=>PI rfl,fun i e=>by simp[fg,Hd.blk]at e⟩;rcases i with _|_|_|_|_|_|_|_|_|i <;> exact P9 _ _ _ _
theorem He:∀j,j≠0->ny (Hb H y3 L) j=ny (Hb H y3 g) j:=fun j a=>by
 have:=yn (Hb H y3 g) L ⟨#[]⟩ j a;exact this
theorem aB.Uq{l:List XQ}{a rows':Nat->fd}(h:aB t n o l a z2)(c i:Nat)(b:Hd)(r:aE u b (rows' i))(g:fY t u (z2 i) b)(d:∀j,j≠i->rows' j=a j)(f:XQ) :
  aB (u.setCell ⟨n,c,XJ⟩ f) n o (l.set c f) rows' (cX z2 i b)/\aj n t z2 (u.setCell ⟨n,c,XJ⟩ f) (cX z2 i b) :=
 h.put c i b r ⟨g.kept.os,g.kept.tape,g.kept.output,g.kept.size,fun k m q=>g.kept.block k m (fun p=>q (pa p).symm)⟩ (by
  rcases g.blk with e | e
  ·exact PK (PI e)
  ·exact PK (PK e)) d f
def M1(b x:Nat)(T:ByteArray)(o:Option Nat)(w:XP)(e:Ending)(w':XP):Prop :=
 (aa [x] w w'/\aR w' b x T o/\∃fs',br w' x fs'/\oq 0 fs')/\(e=XH (XD #[XA XJ,XC XL])∨∃n B H F g es hg Hf,(n<=1024/\¬qE T (zF n))/\e=XH (XD #[XA (XK ⟨B,0,XJ⟩),XC XL])/\mM w' B (Hb (zF n) F (cM (cP T (zF n))).hyps) H/\(w.heap.size<=B/\∀y,cD H y->w.heap.size<=y)/\fP w' F w.heap.size (nm (zF n) [97]) (Xz (XK ⟨g,0,XJ⟩) (cP T (zF n)).length (cP T (zF n)).length) (cM (cP T (zF n))) es hg Hf/\ej w' g (cP T (zF n)) (cP T (zF n)).length/\w.heap.size<=g/\(cM (cP T (zF n))).hyps.length<=200000000)
theorem KM{B F g:Nat}{z:Option Nat}{v m:XP}{f:Option Addr}{d:Nat}(D:M<=1024)(r:¬qE b (zF M))(C:aa [o] t u/\aR u n o b z/\∃j,br u o j/\oq 0 j)(l:fP u F t.heap.size (nm (zF M) [97]) (Xz (XK ⟨g,0,XJ⟩) (cP b (zF M)).length (cP b (zF M)).length) (cM (cP b (zF M))) y0 y1 z2/\ej u g (cP b (zF M)) (cP b (zF M)).length/\t.heap.size<=g)(q:t.heap.size<=B)(I:u.heap.size=B)(k:aa [] u v)(p:aB m B 78 ((Bb (Hb (zF M) F []) fg).set 5 (Xz f a.length d)) (ny (Hb (zF M) F a)) (cX fg 0 ⟨f,d⟩)/\aj B v fg m (cX fg 0 ⟨f,d⟩))(w:(cM (cP b (zF M))).hyps=a)(s:a.length<=200000000):M1 n o b z t (XH (XD #[XA (XK ⟨B,0,XJ⟩),XC XL])) m:=by
 have x:∀y,¬cD fg y:=by rintro y ⟨i,e⟩;simp[fg,Hd.blk]at e
 have K:aa [] u m:=k.turned p.2 (by omega) (fun y a=>absurd a (x y));obtain⟨A,E,j,G,H⟩:=C;refine⟨⟨A.trans (K.mono (by simp)),E.Ug K,j,G.kept K (by simp),H⟩,PK ⟨M,B,cX fg 0 ⟨f,d⟩,F,g,y0,y1,z2,⟨D,r⟩,rfl,?_,⟨q,fun y a=>?_⟩,l.1.Ug K,l.2.1.kept K (by simp),l.2.2,by rw[w];exact s⟩⟩
 ·rw[w];exact p.1
 ·rcases p.2.2 y a with c | c
  ·exact absurd c (x y)
  ·have:=k.size;have:=A.size;omega
theorem Ez(hW:aR c z0 s H z3)(hV:br c s z4)(hM:oq 0 z4)(hx:s≠z0)(hT:dV H) :
  XO prog 22 #[XA (XK ⟨z0,0,XJ⟩)] c fun e w'=>M1 z0 s H z3 c e w':=by
 obtain⟨iS,V,x,y,z⟩:=Qg ey;have I:XN _:=E0 z0 s H z3 c hW hT;go_enter func22,ntmps22;go_upto_region 2 with (go_at_call 60;refine PE I.out ?_;rintro e w1 ⟨n,hn,rfl,v,X⟩)
 have L:XN _:=(I6 z0 s H (zF n) z3 z4 w1 (hW.Ug X) (hV.kept X (by simp)) hM hx hT (Km H n hn v));have P:XN _:=X;go_wp2_with fail;refine PE L.out ?_;rintro e b ⟨⟨k2,W2,S,V2,M2⟩,hc⟩;have D:XN (aa [s] c b/\aR b z0 s H z3/\∃t,br b s t/\oq 0 t):=⟨(P.out.mono (by simp)).trans k2,W2,S,V2,M2⟩
 rcases hc with rfl | ⟨F,g,es,hg,d,rfl,C,hl,U,w⟩
 ·go_wp2;go_ret2;exact⟨D.out,PI rfl⟩
 ·obtain⟨W,N⟩:∃W,XN (b.alloc (XE #[Xy (zF n),XA (XK ⟨F,0,XJ⟩),Xy ⟨#[]⟩,Xy ⟨#[]⟩,Xy ⟨#[]⟩,Xz XJ 0 0,Xz XJ 0 0,XC XM,XC XM,Xz XJ 0 0,Xy ⟨#[]⟩,Xz XJ 0 0,Xy ⟨#[]⟩,Xz XJ 0 0,Xz XJ 0 0,Xz XJ 0 0,Xz XJ 0 0,Xz XJ 0 0,XC XM] 78)=W):=⟨_,rfl⟩
  have kW:aa [] b W:=by rw[<-N.out];exact(aa.refl [] _).alloc _
  have p:mM W b.heap.size (Hb (zF n) F []) fg:=KO (by rw[<-N.out];exact Pz _ _);have f:=C.Ug kW;obtain⟨B,q⟩:∃B,XN (b.heap.size=B):=⟨_,rfl⟩
  rw[q.out]at p;have z5:XI W ⟨B,5,XJ⟩=XK (Xz XJ 0 0):=by rw[p.cell];rfl
  have y2:XI W ⟨F,2,XJ⟩=XK (Xz (d 0).ao (cM (cP H (zF n))).hyps.length (d 0).cap):=by rw[f.bag.cell];rfl
  have ac:=p.lt;have ah:=f.bag.lt;have ai:∀i,W.frozen? ⟨B,i,XJ⟩=XM:=fun i=>p.free i;have ag:F≠B:=by have:=C.bag.lt;have:=q.out;omega
  obtain⟨a,O⟩:∃a,XN ((cM (cP H (zF n))).hyps=a):=⟨_,rfl⟩
  have Y:aE W (d 0) (au a):=by rw[<-O.out];exact f.bag.own 0
  rw[O.out]at y2 w;have HN:XN ((d 0).ao=XJ->a.length=0/\(d 0).cap=0):=fun e=>by
   rcases Y.Ur with ⟨e0,h0,-⟩ | ⟨gg,R,o,-⟩
   ·exact⟨h0,by rw[e0]⟩
   ·rw[o]at e;cases e
  have HC:XN (∀Q,(d 0).ao=XK Q->∀j u,(strs a)[j]?=XK u->W.drew.cell? (Q.add j)=XK u):=fun Q e j u hj=>by
   have o1:=Y.Ug (aa.refl [] W).drew;rcases o1.Ur with ⟨o,-,-⟩ | ⟨gg,R,o,-⟩
   ·rw[o]at e;cases e
   ·rw[o]at e;cases e
    rw[ba];exact o1.cell o j u hj
  have A:XN _:=aB.Ug p (aa.refl [] W).drew;have K:XN (aE W.drew (⟨XJ,0⟩:Hd) (au [])):=P9 _ _ _ _;have M:XN (∀h:Nat,(⟨(au []).e,(au []).size,(au []).n+a.length,(au []).xs++strs a⟩:fd)=au a):=fun _=>by simp[au,strs]
  have HZ:XN ((au []).n+a.length=a.length):=by show _=_;simp[au]
  have G:XN (fP b F c.heap.size (nm (zF n) [97]) (Xz (XK ⟨g,0,XJ⟩) (cP H (zF n)).length (cP H (zF n)).length) (cM (cP H (zF n))) es hg d/\ej b g (cP H (zF n)) (cP H (zF n)).length/\c.heap.size<=g):=⟨C.down P.out.size,hl,Qa P.out.size U⟩;have E:XN (c.heap.size<=B):=by show _<=B;have:=q.out;have:=D.out.1.size;omega
  have J:XN (aa [] b W.drew):=kW.drew;have T:=A.out.lt;clear p f Y C hl W2 V2 M2 k2;go_upto_region 6 with fail
  rw[N.out,q.out];go_region_law (refine tR rfl (.tmp 27) (.tmp 31) 22 rfl iS (Xy ⟨#[]⟩) 16 ⟨XJ,0⟩ (au []) underlying22 V x y z rfl PY (by simp[Act.eval] <;> rfl) K.out (d 0).ao a.length (d 0).cap (strs a) (by simp[Act.eval]) (by simp[au,strs]) HN.out HC.out (ii a) (by simp only[au];show 0+_<=_;omega) (by omega) ?_;intro r k w5 m l;rw[M.out 0]at m;rw[HZ.out];have HP:XN _:=aB.Uq A.out (rows':=ny (Hb (zF n) F a)) 5 0 ⟨r,k⟩ m l (He _ _ _ _) (Xz r a.length k);have Z:=l.kept.block B T (by simp[Hd.blk]);have c5:XI w5 ⟨B,5,XJ⟩=XK (Xz XJ 0 0):=(Qn Z).trans (A.out.cell 5);have f5:∀i,w5.frozen? ⟨B,i,XJ⟩=XM:=fun i=>aw (Z.trans A.out.blk) i;clear m l Z)
  all_goals go_wp2
  all_goals go_ret2
  all_goals exact KM hn v D.out G.out E.out q.out J.out HP.out O.out w
section
variable {d:Db} {P:ByteArray->Prop}
theorem iD(a:w[n]?=XK D):bZ w n o=XL ↔ n<o/\(D.til=0∨o<D.til):=by
 unfold bZ;rw[a];simp
theorem vb(V:Vr d)(a:n<o)(e:d.Us[n]?=XK D)(b:d.Us[o]?=XK z7)(i:jl z7.kind=XM)(f:D.til=0∨o<D.til)(g:bZ d.Us o M=XL):bZ d.Us n M=XL:=by
 rw[iD b]at g;rw[iD e];refine⟨by omega,?_⟩;by_cases c:D.til=0
 ·exact PI c
 ·have:=V.nest n o D z7 a e b i c (f.resolve_left c);omega
theorem gz:o∈al w n ↔ ∃s,w[o]?=XK s/\bZ w o n=XL/\((s.kind=2/\ak s∈bX w n)∨s.kind=3):=by
 unfold al cI;rw[QA,PV];constructor
 ·rintro ⟨d,a⟩;unfold d9 at a;rw[Px d]at a;simp only[Bool.and_eq_true]at a;refine⟨w[o],Px d,a.1,?_⟩;have b:=a.2;unfold jp at b;split at b
  ·next c=>exact PI ⟨by simpa using c,(gi _ _).1 b⟩
  ·exact PK (by simpa using b)
 ·rintro ⟨s,e,f,g⟩;refine⟨(PT.1 e).1,?_⟩;unfold d9;rw[e];simp only[Bool.and_eq_true];refine⟨f,?_⟩;unfold jp;rcases g with ⟨k,m⟩ | k
  ·rw[PJ (by rw[k];rfl)];exact(gi _ _).2 m
  ·rw[PG (by rw[k];decide),k];rfl
theorem mn:b∈bX w n ↔ b∈symsAt w n∨∃(h:Nat) (s:St),w[h]?=XK s/\s.kind=3/\bZ w h n=XL/\b∈s.Ub:=by
 unfold bX dg;rw[Qe,Rt];refine or_congr Iff.rfl ⟨?_,?_⟩
 ·rintro ⟨h,c,d⟩;rw[QA,PV]at c;have a:=c.2;unfold jM at a;unfold symsAt at d;rw[Px c.1]at a d;simp only[Bool.and_eq_true]at a;exact⟨h,w[h],Px c.1,by simpa using a.1,a.2,d⟩
 ·rintro ⟨h,s,e,g,f,i⟩;refine⟨h,?_,by unfold symsAt;rw[e];exact i⟩;rw[QA,PV];refine⟨(PT.1 e).1,?_⟩;unfold jM;rw[e];simp[g,f]
theorem nE(h:w[n]?=XK D):w.getD n dJ=D:=by rw[Py,h];rfl
theorem mo(N:Nm P d)(i:d.Us[n]?=XK D)(b:D.kind=2):D.Ub=[ax D,ak D]/\ak D=AI D/\ax D∈d.Ud:=by
 have o:=N.Us D (Qf i);have a:=o.two b;obtain⟨c,r,e,g⟩:=o.code (by omega);obtain⟨v,rfl⟩:∃v,r=[v]:=by
  rw[e]at a
  match r,a with
  | [v],_=>exact⟨v,rfl⟩
 have t:ax D=c:=by unfold ax;rw[e];rfl
 have j:AI D=v:=by unfold AI;rw[e];rfl
 have f:ak D=AI D:=by unfold ak AI;rw[PJ ⟨by rw[b];rfl,by omega⟩]
 exact⟨by rw[f,j,t,e],f,by rw[t];exact(gi _ _).1 g⟩
theorem wY:b∈eP w n ↔ ∃(a:Nat) (s:St),w[a]?=XK s/\bZ w a n=XL/\s.kind=2/\ak s=b/\b∈bX w n:=by
 unfold eP jR;rw[Rg];constructor
 ·rintro ⟨a,g,e⟩;obtain⟨s,c,f,d⟩:=gz.1 g;rw[nE c]at e;rcases d with ⟨k,m⟩ | k
  ·rw[k,PG (by decide)]at e;have e:=Qo e;exact⟨a,s,c,f,k,e,e ▸ m⟩
  ·rw[k,PJ (by decide)]at e;cases e
 ·rintro ⟨a,s,c,f,d,e,m⟩;refine⟨a,gz.2 ⟨s,c,f,PI ⟨d,e ▸ m⟩⟩,?_⟩;rw[nE c,d,PG (by decide),e]
theorem MM(N:Nm P d)(V:Vr d)(e:fD d.Us n=XL)(c:OQ d.Us n b):b∈d.Ud∨b∈eP d.Us n:=by
 have f:∀{m:Nat} {s:St},d.Us[m]?=XK s->3<=s.kind->b∈s.Ub->(m=n∨(jl s.kind=XM/\bZ d.Us m n=XL))->b∈bX d.Us n->b∈d.Ud∨b∈eP d.Us n:=by
  intro m s a q p x l;have o:=N.Us s (Qf a);have w:=o.kind;rcases V.st m s a (by omega) b p with h | ⟨-,h⟩
  ·exact PI h
  ·obtain⟨k,u,r,g,t,y,v⟩:=h (by omega);refine PK (wY.2 ⟨k,u,g,?_,t,?_,l⟩)
   ·rcases x with rfl | ⟨e,i⟩
    ·exact(iD g).2 ⟨r,v⟩
    ·exact vb V r g a e v i
   ·rw[(mo N g t).2.1];exact y
 rcases c with c | ⟨h,i,c⟩
 ·unfold fD at e;cases a:d.Us[n]? with
  | none=>rw[a]at e;cases e
  | some s =>
   rw[a]at e;simp only at e;rw[nE a]at c;have k:s.kind=4∨s.kind=5:=by unfold jl at e;simpa using e
   exact f a (by omega) c (PI rfl) (mn.2 (PI (by unfold symsAt;rw[a];exact c)))
 ·obtain⟨s,a,j,q⟩:=gz.1 i;rw[nE a]at c;rcases q with ⟨k,m⟩ | k
  ·obtain⟨z,B,A⟩:=mo N a k;rw[z]at c;simp only[List.mem_cons,List.not_mem_nil,or_false]at c;rcases c with rfl | rfl
   ·exact PI A
   ·exact PK (wY.2 ⟨h,s,a,j,k,rfl,m⟩)
  ·exact f a (by omega) c (PK ⟨by rw[k];rfl,j⟩) (mn.2 (PK ⟨h,s,a,k,j,c⟩))
theorem Nn(N:Nm P d)(V:Vr d)(b:d.Us[n]?=XK D)(a:D.kind=2):ak D∈d.Ue:=by
 rw[(mo N b a).2.1];exact V.fl n D b a
theorem wZ(N:Nm P d)(V:Vr d)(h:b∈eP d.Us n):b∈d.Ue:=by
 obtain⟨e,s,c,-,a,rfl,-⟩:=wY.1 h;exact Nn N V c a
theorem Nk(N:Nm P d)(V:Vr d)(a:d.Us[o]?=XK D)(b:d.Us[M]?=XK z7)(f:D.kind=2)(g:z7.kind=2)(i:bZ d.Us o n=XL)(j:bZ d.Us M n=XL)(e:ak D=ak z7):o=M:=by
 rw[(mo N a f).2.1,(mo N b g).2.1]at e;rw[iD a]at i;rw[iD b]at j;rcases R0 o M with c | c | c
 ·exact absurd e (V.ds o M D z7 a b f g c (by omega))
 ·exact c
 ·exact absurd e.symm (V.ds M o z7 D b a g f c (by omega))
theorem nF:(al l f).Pairwise (· < ·):=by
 unfold al cI;exact List.pairwise_lt_range.filter _
theorem G5(N:Nm P d)(V:Vr d)(q:fD d.Us n=XL):NZ d.Us n:=by
 have p:∀{m:Nat} {s:St},d.Us[m]?=XK s->2<=s.kind/\s.kind<=5->s.Ub≠[]/\aZ (eP d.Us n) (ax s)=XJ:=by
  intro m s a f;obtain⟨c,r,e,T⟩:=(N.Us s (Qf a)).code f;refine⟨by rw[e];simp,?_⟩;have t:ax s=c:=by unfold ax;rw[e];rfl
  rw[t,dU];intro l;exact V.cv c ((gi _ _).1 T) (wZ N V l)
 have b:∀h∈al d.Us n,∃s,d.Us[h]?=XK s/\bZ d.Us h n=XL/\(s.kind=2∨s.kind=3):=fun h g=>by
  obtain⟨s,a,v,f⟩:=gz.1 g;exact⟨s,a,v,f.imp (·.1) id⟩
 obtain⟨sa,o,Y⟩:∃s,d.Us[n]?=XK s/\(s.kind=4∨s.kind=5):=by
  unfold fD at q;cases a:d.Us[n]? with
  | none=>rw[a]at q;cases q
  | some s=>rw[a]at q;exact⟨s,rfl,by unfold jl at q;simpa using q⟩
 have own:=p o (by omega);refine⟨⟨?_,?_,?_,?_,?_⟩,by rw[nE o];exact own.1,by rw[nE o];exact own.2⟩
 ·intro h g w;obtain⟨s,a,-,f⟩:=b h g;rw[nE a]at w ⊢;have D:s.kind=2:=f.resolve_right (fun e=>by rw[e]at w;cases w);exact(mo N a D).1
 ·intro h g;obtain⟨s,a,-,f⟩:=b h g;rw[nE a];exact(p a (by omega)).1
 ·intro h g;obtain⟨s,a,-,f⟩:=b h g;rw[nE a];exact(p a (by omega)).2
 ·unfold jR List.Nodup;rw[List.pairwise_filterMap];refine(nF d.Us n).imp_of_mem ?_;intro i j U X W x A y B H;obtain⟨s,a,v,f⟩:=b i U;obtain⟨u,L,l,Z⟩:=b j X;rw[nE a]at A;rw[nE L]at B;have M:s.kind=2:=f.resolve_right (fun e=>by rw[e,PJ (by decide)]at A;cases A);have D:u.kind=2:=Z.resolve_right (fun e=>by rw[e,PJ (by decide)]at B;cases B);rw[M,PG (by decide)]at A;rw[D,PG (by decide)]at B;have:=Nk N V a L M D v l (by rw[Qo A,Qo B,H]);omega
 ·intro S h bs e w x G K;have g:h∈al d.Us n:=by rw[e];simp
  obtain⟨s,a,v,f⟩:=b h g;rw[nE a]at w G;have C:s.kind=3:=by simpa using w
  rw[dU];intro l;have F:x∈eP d.Us n:=by
   unfold eP;rw[e];unfold jR at l ⊢;rw[QP,QD];rw[Qe]
   right
   split
   ·exact l
   ·exact Qk _ l
  rcases V.st h s a (by omega) x G with c | ⟨-,c⟩
  ·exact V.cv x c (wZ N V F)
  ·obtain⟨k,u,q1,E,J,q4,q5⟩:=c (by omega);have qh:=vb V q1 E a (by rw[C];rfl) q5 v;have R:ak u=x:=(by rw[(mo N E J).2.1];exact q4);have Q:k∈al d.Us n:=gz.2 ⟨u,E,qh,PI ⟨J,by rw[R];exact mn.2 (PK ⟨h,s,a,C,v,G⟩)⟩⟩;have O:=nF d.Us n;rw[e]at Q O;have I:k∈S:=by
    rcases Qe.1 Q with z | z
    ·exact z
    ·rcases QT.1 z with z | z
     ·omega
     ·have:=(List.pairwise_cons.1 (List.pairwise_append.1 O).2.1).1 k z;omega
   rw[dU]at K;apply K;unfold jR;rw[Rg];exact⟨k,I,by rw[nE E,J,PG (by decide),R]⟩
end
end Go.Proofs.YtnbalopedcgpcaaGreat
