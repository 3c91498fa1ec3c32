import Derived.Test.YtnbalopedcgpcaaGreatG31
import Derived.Test.YtnbalopedcgpcaaGreatG33
namespace Go.Proofs.YtnbalopedcgpcaaGreat
open Go.RowKit Tryz
open Value renaming int->Xx,string->Xy,slice->Xz,pointer->XA,bool->XC,tuple->XD
open Obj renaming cells->XE
open IntKind renaming i64->XF
open Ending renaming returned->XH
open World renaming cell?->XI
open Option renaming none->XJ,some->XK
open Bool renaming true->XL,false->XM
open Go.RowKit renaming Hid->XN
open Go renaming Calls->XO,World->XP,Value->XQ
set_option maxHeartbeats 0
variable{w S:List St}{b v:ByteArray}{a m z6:List ByteArray}{n o M:Nat}{t u:XP}{y4:XQ}{y5:Fm}{y0:List Ex}{y1:Hd}{z2:Nat->Hd}{D z7:St}(T:List St)(z0 s:Nat)(k H:ByteArray)(z3:Option Nat)(z4:Fs)(c:XP)(y3:Nat)(L g:List ByteArray)(l:List St)(z1:List Nat)(z8:Nat->Bool)(I f:Nat)
def ld(l:List St):Prop:=∀s∈l,s.til<=l.length
theorem Mt(h:ld w)(y:Nat):ld (cH w y):=by
 intro s d;obtain⟨i,a⟩:=Ss d;rw[nE];rw[fI]at a;cases b:w[i]? with
 | none=>rw[b]at a;cases a
 | some e =>
  rw[b]at a;simp only[Option.map_some,Option.some.injEq]at a;have c:=h e (Qp b);subst a;split
  ·unfold dE;split
   ·exact PQ _
   ·exact c
  ·exact c
theorem Ay{d:Db}(h:ld d.UD)(x:ByteArray)(p:Pl):ld (aK d x p).2.UD:=by
 rcases pJ d x p with e | ⟨y,-,e⟩ | ⟨e,-⟩
 ·rw[e];exact h
 ·rw[e];exact Mt h y
 ·rw[e];intro s a;rw[Qa];rcases Qo.1 a with a | a
  ·have:=h s a;omega
  ·rw[Qn.1 a];simp
theorem J8(f:Nat):∀a d,ld d.UD->ld (cV k H f a d).2.UD:=by
 induction f with
 | zero=>intro a d h;exact h
 | succ f b =>
  intro a d h;rw[cV];split
  ·split
   ·exact b _ _ (Ay h _ _)
   ·exact Ay h _ _
  ·split
   ·split <;> exact h
   ·exact h
theorem LU:ld (aJ H).2.UD:=J8 _ _ _ 0 bB (by intro s a;simp[bB]at a)
theorem qa:bZ (l.map jh) I f=bZ l I f:=by
 unfold bZ;rw[Qt];cases l[I]? <;> rfl
theorem qB:symsAt (l.map jh) f=symsAt l f:=by
 unfold symsAt;rw[Qt];cases l[f]? <;> rfl
theorem Ii:jM (l.map jh) I f=jM l I f:=by
 unfold jM;rw[Qt,qa];cases l[f]? <;> rfl
theorem At:bX (l.map jh) f=bX l f:=by
 unfold bX dg;rw[qB,Qh];congr 1;rw[show jM (l.map jh) f=jM l f from funext (Ii l f),show symsAt (l.map jh)=symsAt l from funext (qB l)]
theorem Ft:d9 (T.map jh) g I f=d9 T g I f:=by
 unfold d9;rw[Qt,qa];cases T[f]? <;> rfl
theorem vc:al (l.map jh) f=al l f:=by
 unfold al cI;rw[At,Qh];rw[show d9 (l.map jh) (bX l f) f=d9 l (bX l f) f from funext (Ft l _ f)]
theorem GH:bt (l.map jh) z1=bt l z1:=by
 unfold bt;rw[show eK (l.map jh)=eK l from funext (fun n=>by unfold eK;rw[Qt];cases l[n]? <;> rfl)]
theorem EI:hZ (l.map jh) I f=hZ l I f:=by
 unfold hZ;rw[Qt,qa];cases l[f]? <;> rfl
theorem wV(k:Nat):bE (T.map jh) y3 g k=bE T y3 g k:=by
 induction k with
 | zero=>rfl
 | succ k a=>rw[bE,bE,a,EI,qB]
theorem vi:ce (l.map jh) f=ce l f:=by
 unfold ce;rw[Qt];cases l[f]? <;> rfl
theorem BU:aX (l.map jh) f=aX l f:=by
 unfold aX bN cT;rw[vc,GH,Qh,wV,vi,show ce (l.map jh)=ce l from funext (vi l)]
theorem fM:List.range (I+f)=List.range I++(List.range f).map (I + ·):=Ui
def oE(l:List St)(n:Nat):Bool:=match l[n]? with | some s=>(s.kind==3)&&(s.til==0) | none=>XM
def oS(l:List St):List ByteArray:=((List.range l.length).filter (oE l)).flatMap (symsAt l)
def oH(l:List St)(n:Nat):Bool:=match l[n]? with | some s=>(s.til==0)&&jp s (oS l) | none=>XM
def I2(l:List St):List Nat:=(List.range l.length).filter (oH l)
def oV(l:List St):List ByteArray:=bt l (I2 l)
def oD(l:List St)(n:Nat):Bool:=match l[n]? with | some s=>(s.kind==1)&&(s.til==0) | none=>XM
def oT(l:List St)(vs:List ByteArray)(i j:Nat):Bool:=(List.range l.length).any (fun n=>oD l n&&(aG vs (symsAt l n)).contains i&&(aG vs (symsAt l n)).contains j)
structure KC(T:ByteArray)(l:List St):Prop where
 til:ld l
 syms:∀s∈l,∀x∈s.Um,qF T x
def lq(z:ByteArray)(L:List ByteArray):Prop:=∀x∈L,∃a,x=nm z a
theorem NE(a:dV H):KC H (aJ H).2.UD:=⟨LU H,fun s b x c=>(((mF H a.size).UD s b).syms x c).2⟩
theorem DT(f:lx b v)(c:ByteArray)(d:qF b c)(a:List UInt8):((nm v a).toList==c.toList)=XM:=by
 cases e:((nm v a).toList==c.toList)
 ·rfl
 ·exact absurd (qF.pre (y:=ja a) (by have:=so e;unfold nm at this;rw[this];exact d)) f.fresh
theorem DI(g:lx b v)(c:ByteArray)(e:qF b c)(L:List ByteArray)(d:lq v L):aM L c=XM:=by
 unfold aM;rw[Rv];intro x f;obtain⟨a,rfl⟩:=d x f;rw[DT g c e a];simp
theorem sL(e:ld w)(n a:Nat)(b:n<w.length)(f:w.length<=a):bZ (w++S) n a=(w[n].til==0):=by
 unfold bZ;rw[PR b,PJ b];have:=e _ (PT b);have c:decide (n<a)=XL:=by simp;omega
 have d:decide (a<w[n].til)=XM:=by simp;omega
 simp only[c,d,Bool.true_and,Bool.or_false]
theorem Lg(d:ld w)(n a:Nat)(b:n<w.length)(c:w.length<=a):jM (w++S) a n=oE w n:=by
 unfold jM oE;rw[sL d n a b c,PR b,PJ b]
theorem If(d:ld w)(n a:Nat)(b:n<w.length)(c:w.length<=a):hZ (w++S) a n=oD w n:=by
 unfold hZ oD;rw[sL d n a b c,PR b,PJ b]
theorem tU(a:f<T.length):symsAt (T++l) f=symsAt T f:=by
 unfold symsAt;rw[PR a]
theorem oj:symsAt (T++l) (T.length+f)=symsAt l f:=by
 unfold symsAt;rw[Qb (by omega),QZ]
theorem xD(c:ld w)(a:Nat):bX (w++S) (w.length+a)=symsAt S a++(oS w++nS w S (w.length+a)):=by
 unfold bX dg;rw[oj,Qa,fM,QD,Q1];congr 2
 ·unfold oS;have e:(List.range w.length).filter (jM (w++S) (w.length+a))=(List.range w.length).filter (oE w):=RT (fun n b=>Lg c n _ (Qe.1 b) (by omega));rw[e];refine jk _ _ _ (fun n b=>?_);exact tU w S n (Qe.1 (QL.1 b).1)
 ·unfold nS;rw[SJ,TT];exact jk _ _ _ (fun n _=>oj w S n)
theorem lq.symsAt(h:∀s∈w,lq b s.Um)(j:Nat):lq b (symsAt w j):=by
 unfold Go.Proofs.YtnbalopedcgpcaaGreat.symsAt;cases e:w[j]? with
 | none=>intro x a;simp at a
 | some s=>exact h s (Qp e)
theorem lq.nS(h:∀s∈S,lq b s.Um)(a:Nat):lq b (nS w S a):=by
 intro x c;unfold Go.Proofs.YtnbalopedcgpcaaGreat.nS at c;obtain⟨j,-,d⟩:=RI.1 c;exact lq.symsAt h j x d
theorem Kc(h:KC b w)(s:St)(d:s∈w)(c:(s.kind==2)=XL)(a:2<=s.Um.length):qF b (ak s):=by
 unfold ak;rw[PZ ⟨c,a⟩];refine h.syms s d _ ?_;rw[PK,PJ (show 1<s.Um.length by omega)];exact PT _
def ou(l:List St):Prop:=∀s∈l,(s.kind==2)=XL->2<=s.Um.length
theorem BH(g:lx b v)(h:KC b w)(i:ou w)(d:∀s∈S,lq v s.Um)(c:Nat) :
  al (w++S) (w.length+c)=I2 w++((List.range S.length).filter (fun j=>d9 (w++S) (bX (w++S) (w.length+c)) (w.length+c) (w.length+j))).map (w.length + ·):=by
 unfold al cI;rw[Qa,fM,QD,SJ];congr 1;unfold I2;refine RT (fun n a=>?_);have a:=Qe.1 a;unfold d9 oH;rw[sL h.til n _ a (by omega),PR a,PJ a];simp only;congr 1;unfold jp;cases e:(w[n].kind==2)
 ·rfl
 ·simp only[if_true];have f:=Kc h _ (PT a) e (i _ (PT a) e);rw[xD h.til,i8,i8,DI g _ f _ (lq.symsAt d c),DI g _ f _ (lq.nS d _),Sd,Tb]
theorem Ji(h:∀y∈m,(y.toList==b.toList)=XM):aZ (a++m) b=aZ a b:=by
 unfold aZ;rw[Qa,fM,TH];have g:(List.range a.length).find? (fun i=>((a++m).getD i ⟨#[]⟩).toList==b.toList)=(List.range a.length).find? (fun i=>(a.getD i ⟨#[]⟩).toList==b.toList):=by
  have:∀(q:List Nat),(∀i∈q,i<a.length)->q.find? (fun i=>((a++m).getD i ⟨#[]⟩).toList==b.toList)=q.find? (fun i=>(a.getD i ⟨#[]⟩).toList==b.toList):=by
   intro q f
   induction q with
   | nil=>rfl
   | cons e q n =>
    have l:(a++m).getD e ⟨#[]⟩=a.getD e ⟨#[]⟩:=(by rw[PK,PK,PR (f e (by simp))]);simp only[List.find?_cons,l];rw[n (fun i c=>f i (Qv _ c))]
  exact this _ (fun i c=>Qe.1 c)
 have k:((List.range m.length).map (a.length + ·)).find? (fun i=>((a++m).getD i ⟨#[]⟩).toList==b.toList)=XJ:=by
  rw[Rc];intro i c;obtain⟨j,d,rfl⟩:=Qu.1 c;have d:=Qe.1 d;rw[PK,Qb (by omega),QZ,PJ d];have:=h _ (PT d);simpa using this
 rw[g,k];cases (List.range a.length).find? (fun i=>(a.getD i ⟨#[]⟩).toList==b.toList) <;> rfl
theorem FM(h:∀y∈a,(y.toList==b.toList)=XM):aZ (a++m) b=(aZ m b).map (a.length + ·):=by
 unfold aZ;rw[Qa,fM,TH];have d:(List.range a.length).find? (fun i=>((a++m).getD i ⟨#[]⟩).toList==b.toList)=XJ:=by
  rw[Rc];intro i c;have c:=Qe.1 c;rw[PK,PR c,PJ c];have:=h _ (PT c);simpa using this
 rw[d,Option.none_or,List.find?_map];congr 1;congr 1
 funext j
 simp only[Function.comp];rw[PK,PK,Qb (by omega),QZ]
theorem sH{α:Type}(l:List ByteArray)(p q:ByteArray->Option α)(h:∀x∈l,p x=q x):l.filterMap p=l.filterMap q:=by
 induction l with
 | nil=>rfl
 | cons a l c=>rw[QO,QO,h a (by simp),c (fun x b=>h x (Qv _ b))]
theorem tA(h:∀x∈z6,∀y∈m,(y.toList==x.toList)=XM):aG (a++m) z6=aG a z6:=by
 unfold aG;exact sH z6 _ _ (fun x b=>Ji (h x b))
theorem rt(h:∀x∈z6,∀y∈a,(y.toList==x.toList)=XM):aG (a++m) z6=(aG m z6).map (a.length + ·):=by
 unfold aG;rw[List.map_filterMap];exact sH z6 _ _ (fun x b=>FM (h x b))
theorem DC(h:f<L.length):gD (L++g) f=gD L f:=by
 unfold gD;rw[PK,PK,PR h]
theorem Iw:gD (L++g) (L.length+f)=gD g f:=by
 unfold gD;rw[PK,PK,Qb (by omega),QZ]
theorem FN(A B C:Nat->Nat->Bool)(e:∀i j,i<L.length->j<L.length->A i j=B i j)(f:∀i j,i<L.length->j<g.length->A i (L.length+j)=XM)(k:∀i j,i<g.length->j<g.length->A (L.length+i) (L.length+j)=C i j):LQ (L++g) A=LQ L B++LQ g C:=by
 unfold LQ;rw[Qa,fM,Q1];congr 1
 ·refine jk _ _ _ (fun i b=>?_);have b:=Qe.1 b;rw[QD,QA];have c:(List.range L.length).filter (fun j=>decide (i<j)&&A i j)=(List.range L.length).filter (fun j=>decide (i<j)&&B i j):=RT (fun j a=>by rw[e i j b (Qe.1 a)]);have d:((List.range g.length).map (L.length + ·)).filter (fun j=>decide (i<j)&&A i j)=[]:=by
   rw[Rx];intro q l;obtain⟨j,a,rfl⟩:=Qu.1 l;rw[f i j b (Qe.1 a)];simp
  rw[c,d,Tq,QK];apply QX;intro j a;have a:=Qe.1 (QL.1 a).1;rw[DC L g i b,DC L g j a]
 ·rw[TT];refine jk _ _ _ (fun i b=>?_);have b:=Qe.1 b;rw[QD,QA];have c:(List.range L.length).filter (fun j=>decide (L.length+i<j)&&A (L.length+i) j)=[]:=by
   rw[Rx];intro j a;have:=Qe.1 a;simp;omega
  rw[c,Tq,RV,SJ,R2]
  have d:(List.range g.length).filter ((fun j=>decide (L.length+i<j)&&A (L.length+i) j) ∘ (L.length + ·))=(List.range g.length).filter (fun j=>decide (i<j)&&C i j):=RT (fun j a=>by
   simp only[Function.comp];rw[k i j b (Qe.1 a)];congr 1
   exact decide_eq_decide.2 (by omega))
  rw[d];apply QX;intro j _;simp only[Function.comp,Iw]
theorem Cl(h:(aG a m).contains n=XL):n<a.length:=by
 have c:n∈aG a m:=RH.1 h;obtain⟨k,b,e⟩:=QN c;have:=kJ a m k b;rw[e]at this;exact this
theorem yA{vs:List ByteArray}{i:Nat}(h:vs.length<=i):(aG vs a).contains i=XM:=by
 cases e:(aG vs a).contains i
 ·rfl
 ·have:=Cl e;omega
theorem yB:((z1.map (I + ·)).contains (I+f))=z1.contains f:=by
 rw[SG,RH,RH,Qu];constructor
 ·rintro ⟨a,h,e⟩;have:a=f:=by omega
  rw[<-this];exact h
 ·intro h;exact⟨f,h,rfl⟩
theorem oL(h:f<I):((z1.map (I + ·)).contains f)=XM:=by
 cases e:(z1.map (I + ·)).contains f
 ·rfl
 ·obtain⟨a,-,b⟩:=Qu.1 (RH.1 e);omega
def nT(l N:List St)(a:Nat)(W:List ByteArray)(i j:Nat):Bool:=(List.range N.length).any (fun n=>hZ (l++N) a (l.length+n)&&(aG W (symsAt N n)).contains i&&(aG W (symsAt N n)).contains j)
theorem any_map{α β:Type}(l:List α)(f:α->β)(p:β->Bool):(l.map f).any p=l.any (fun x=>p (f x)):=by rw[List.any_map];rfl
theorem pY(l:List Nat)(p q:Nat->Bool)(h:∀x∈l,p x=q x):l.any p=l.any q:=by
 induction l with
 | nil=>rfl
 | cons a l c=>rw[R7,R7,h a (by simp),c (fun x b=>h x (Qv _ b))]
theorem oy(h:∀x∈z1,z8 x=XM):z1.any z8=XM:=by
 rw[Rv];intro x a;rw[h x a];simp
theorem GC(p:lx b v)(h:KC b w)(q:∀s∈S,lq v s.Um)(a:Nat)(z:w.length<=a)(V W:List ByteArray)(t:∀A∈V,qF b A)(u:lq v W) :
  (∀i j,i<V.length->j<V.length->rz (w++S) a (V++W) (w++S).length i j=oT w V i j)/\(∀i j,i<V.length->j<W.length->rz (w++S) a (V++W) (w++S).length i (V.length+j)=XM)/\(∀i j,i<W.length->j<W.length->rz (w++S) a (V++W) (w++S).length (V.length+i) (V.length+j)=nT w S a W i j):=by
 have r:∀n,n<w.length->aG (V++W) (symsAt w n)=aG V (symsAt w n):=fun n d=>tA (fun x g y m=>by
  obtain⟨f,rfl⟩:=u y m;refine DT p x ?_ f;unfold symsAt at g;rw[PJ d]at g;exact h.syms _ (PT d) x g)
 have l:∀n,aG (V++W) (symsAt S n)=(aG W (symsAt S n)).map (V.length + ·):=fun n=>rt (fun x g y m=>by
  obtain⟨f,rfl⟩:=lq.symsAt q n x g;have e:=DT p y (t y m) f;rw[show(y.toList==(nm v f).toList)=((nm v f).toList==y.toList) from BEq.comm];exact e)
 have c:∀i j,rz (w++S) a (V++W) (w++S).length i j=((List.range w.length).any (fun n=>oD w n&&(aG V (symsAt w n)).contains i&&(aG V (symsAt w n)).contains j)||(List.range S.length).any (fun n=>hZ (w++S) a (w.length+n)&&((aG W (symsAt S n)).map (V.length + ·)).contains i&&((aG W (symsAt S n)).map (V.length + ·)).contains j)):=by
  intro i j;unfold rz;rw[Qa,fM,SB,any_map];congr 1
  ·refine pY _ _ _ (fun n d=>?_);have d:=Qe.1 d;rw[If h.til n a d z,tU w S n d,r n d]
  ·refine pY _ _ _ (fun n d=>?_);rw[oj,l]
 refine⟨fun i j k o=>?_,fun i j k o=>?_,fun i j k o=>?_⟩
 ·rw[c,oy (List.range S.length) _ (fun n _=>by rw[oL _ _ i k];simp),Tb];rfl
 ·rw[c,oy (List.range w.length) _ (fun n _=>by rw[yA (vs:=V) (i:=V.length+j) (by omega)];simp),oy (List.range S.length) _ (fun n _=>by rw[oL _ _ i k];simp)];rfl
 ·rw[c,oy (List.range w.length) _ (fun n _=>by rw[yA (vs:=V) (i:=V.length+j) (by omega)];simp),Sd];unfold nT;exact pY _ _ _ (fun n _=>by rw[yB,yB])
def nH(l N:List St)(j0:Nat):List Nat:=(List.range N.length).filter (fun j=>d9 (l++N) (bX (l++N) (l.length+j0)) (l.length+j0) (l.length+j))
def oP(l:List St):List Pr:=LQ (oV l) (fun i j=>!(i==j)&&oT l (oV l) i j)
def nP(l N:List St)(j0:Nat):List Pr:=LQ (bt N (nH l N j0)) (fun i j=>!(i==j)&&nT l N (l.length+j0) (bt N (nH l N j0)) i j)
theorem C4(a:List Nat)(h:∀n∈z1,n<T.length):bt (T++l) (z1++a.map (T.length + ·))=bt T z1++bt l a:=by
 unfold bt;rw[Q0,List.filterMap_map];congr 1
 ·exact oX _ _ _ (fun n b=>by unfold eK;rw[PR (h n b)])
 ·refine oX _ _ _ (fun n _=>?_);simp only[Function.comp];unfold eK;rw[Qb (by omega),QZ]
theorem Mw(i:∀s∈w,lq b s.Um)(g:ou w)(k:List Nat):lq b (bt w k):=by
 intro x f;unfold bt at f;obtain⟨n,-,a⟩:=Rq.1 f;unfold eK at a;cases c:w[n]? with
 | none=>rw[c]at a;cases a
 | some s =>
  rw[c]at a;simp only at a;split at a
  ·next d =>
   cases a
   have e:=Qp c;have j:=g s e d;unfold ak;rw[PZ ⟨d,j⟩];refine i s e _ ?_;rw[PK,PJ (show 1<s.Um.length by omega)];exact PT _
  ·cases a
theorem OD(h:KC b w)(f:ou w):∀v∈oV w,qF b v:=by
 intro x e;unfold oV bt at e;obtain⟨n,-,a⟩:=Rq.1 e;unfold eK at a;cases c:w[n]? with
 | none=>rw[c]at a;cases a
 | some s =>
  rw[c]at a;simp only at a;split at a
  ·next d =>
   cases a
   exact Kc h s (Qp c) d (f s (Qp c) d)
  ·cases a
theorem zv(m:lx b v)(h:KC b w)(l:ou w)(f:∀s∈S,lq v s.Um)(p:ou S)(a:Nat) :
  al (w++S) (w.length+a)=I2 w++(nH w S a).map (w.length + ·) /\
  aX (w++S) (w.length+a)=((I2 w).map (ce w)++(nH w S a).map (ce S))++((oP w).map cB++(nP w S a).map cB)++[ce S a]:=by
 have g:=BH m h l f a;refine⟨g,?_⟩;have e:∀n∈I2 w,n<w.length:=fun n k=>Qe.1 (QL.1 k).1;have r:bt (w++S) (al (w++S) (w.length+a))=oV w++bt S (nH w S a):=by rw[g];exact C4 w S _ _ e
 have q:bN (w++S) (w.length+a)=oP w++nP w S a:=by
  unfold bN;rw[r,NH];obtain⟨t,u,x⟩:=GC m h f (w.length+a) (by omega) (oV w) (bt S (nH w S a)) (OD h l) (Mw f p _);refine FN _ _ _ _ _ (fun i j c d=>by rw[t i j c d]) (fun i j c d=>by rw[u i j c d];simp) (fun i j c d=>?_);rw[x i j c d];congr 1;congr 1;rw[SG];simp
 have o:ce (w++S) (w.length+a)=ce S a:=by unfold ce;rw[Qb (by omega),QZ]
 unfold aX;rw[q,g,QA,QA,R2,o];congr 3
 ·exact QX (fun n k=>by unfold ce;rw[PR (e n k)])
 ·refine QX (fun n _=>?_);simp only[Function.comp];unfold ce;rw[Qb (by omega),QZ]
def M1:St:=⟨0,⟨#[]⟩,[],[],db,0⟩
theorem rH(h:f<l.length):l.getD f M1=l[f]:=by
 rw[PK,PJ h];rfl
theorem Cp:(List.range l.length).map (fun j=>l.getD j M1)=l:=by
 apply TN
 ·simp
 ·intro i b a;rw[List.getElem_map,Ty,rH l i a]
theorem Ph(q:St->Bool)(e:∀j (a:j<T.length),z8 j=q T[j])(f:∀j,T.length<=j->z8 j=XM):((List.range (T++l).length).filter z8).map (fun j=>(T++l).getD j M1)=T.filter q:=by
 rw[Qa,fM,QD,QA];have b:((List.range l.length).map (T.length + ·)).filter z8=[]:=by
  rw[Rx];intro x g;obtain⟨j,-,rfl⟩:=Qu.1 g;rw[f _ (by omega)];simp
 have c:(List.range T.length).filter z8=(List.range T.length).filter (q ∘ (fun j=>T.getD j M1)):=RT (fun j a=>by
  have a:=Qe.1 a;rw[e j a];simp only[Function.comp];rw[rH T j a])
 rw[b,Tq,QK,c];have d:((List.range T.length).filter (q ∘ (fun j=>T.getD j M1))).map (fun j=>(T++l).getD j M1)=((List.range T.length).filter (q ∘ (fun j=>T.getD j M1))).map (fun j=>T.getD j M1):=by
  apply QX;intro j a;have a:=Qe.1 (QL.1 a).1;rw[rH T j a,rH _ j (by rw[Qa];omega),TJ a]
 rw[d,<-SJ,Cp]
theorem IF:bZ (T++l) (T.length+I) (T.length+f)=match l[I]? with | some s=>decide (I<f)&&(s.til==0||decide (T.length+f<s.til)) | none=>XM:=by
 unfold bZ;rw[Qb (by omega),QZ];cases l[I]? with
 | none=>rfl
 | some s =>
  simp only;congr 1;exact decide_eq_decide.2 (by omega)
theorem IY:(T++l)[T.length+f]?=l[f]?:=by rw[Qb (by omega),QZ]
theorem IW(h:∀j s,l[j]?=XK s->bZ (T++l) (T.length+j) (T.length+f)=XL->s.kind=4):nH T l f=[]:=by
 unfold nH;rw[Rx];intro j a;have a:=Qe.1 a;unfold d9;rw[IY,PJ a];simp only;cases b:bZ (T++l) (T.length+j) (T.length+f)
 ·simp
 ·have:=h j _ (PJ a) b;unfold jp;rw[this];simp
theorem zu{N:List St}(m:lx b v)(h:KC b w)(g:ou w)(k:∀s∈N,lq v s.Um)(i:ou N)(c:Nat)(l:∀j s,N[j]?=XK s->bZ (w++N) (w.length+j) (w.length+c)=XL->s.kind=4) :
  al (w++N) (w.length+c)=I2 w/\aX (w++N) (w.length+c)=(I2 w).map (ce w)++(oP w).map cB++[ce N c]:=by
 obtain⟨a,d⟩:=zv m h g k i c;have e:=IW w N c l;have f:nP w N c=[]:=by unfold nP LQ;rw[e];rfl
 rw[e]at a d;rw[f]at d;rw[a,d];simp
structure OW(l H:List St):Prop where
 held:∀s∈H,(s.til==0||decide (l.length+H.length<s.til))=XL
theorem Lx(g:lx b v)(h:KC b w)(f:ou w)(q:Pl) :
  al (w++[⟨4,v++ja [97],[v++ja [113]],[],q,0⟩]) w.length=I2 w/\aX (w++[⟨4,v++ja [97],[v++ja [113]],[],q,0⟩]) w.length=(I2 w).map (ce w)++(oP w).map cB++[nm v [97]++⟨#[32]⟩++⟨#[36,97]⟩++(⟨#[32]⟩++nm v [113])]:=by
 have:=zu (N:=[⟨4,v++ja [97],[v++ja [113]],[],q,0⟩]) g h f (fun s a=>by
  rw[Qn.1 a];intro x c;have c:x∈[v++ja [113]]:=c;exact⟨[113],Qn.1 c⟩) (fun s a e=>by rw[Qn.1 a]at e;cases e) 0 (fun j s a d=>by
  rw[IF,a]at d;simp at d)
 exact this
def io(T:ByteArray):List St:=(aJ T).2.UD.map jh
theorem Hb(e:dV b):KC b (io b)/\ou (io b):=by
 have h:=NE b e;refine⟨⟨fun s a=>?_,fun s a x g=>?_⟩,fun s a f=>?_⟩
 ·obtain⟨t,c,rfl⟩:=Qu.1 a;have:=h.til t c;unfold io;rw[Qh];exact this
 ·obtain⟨t,c,rfl⟩:=Qu.1 a;exact h.syms t c x g
 ·obtain⟨t,c,rfl⟩:=Qu.1 a;have d:t.kind=2:=Rr f;have:=((mF b e.size).UD t c).two d;show 2<=t.Um.length;omega
def N9(T:ByteArray):List ByteArray:=(I2 (io T)).map (ce (io T))
def Pi(T:ByteArray):List ByteArray:=(oP (io T)).map cB
theorem Cb:du (T.map jh) H f=du T H f:=by
 unfold du;rw[Qt];cases T[f]? <;> rfl
theorem Bs:da (T.map jh) H=da T H:=by
 unfold da;rw[Qh,show du (T.map jh) H=du T H from funext (Cb T H)]
theorem Io(e:n<w.length)(a:du w b n=XL)(c:∀m,m<n->du w b m=XM):da w b=XK n:=by
 unfold da;rw[TI];exact⟨a,Qe.2 e,fun j d=>by rw[c j d];rfl⟩
theorem Fw(i:dV b)(l:lx b v)(N:List St)(a:List UInt8)(m:Nat)(g:m<(io b).length):du (io b++N) (nm v a) m=XM:=by
 unfold du;rw[PR g,PJ g];simp only;obtain⟨t,k,e⟩:=Qu.1 (PT g);have c:=(mF b i.size).UD t k;cases d:jl (io b)[m].kind
 ·simp
 ·have d:jl t.kind=XL:=by
   have:(io b)[m].kind=t.kind:=(by rw[<-e];rfl);rw[<-this];exact d
  have f:2<=t.kind/\t.kind<=5:=c.kind.resolve_left (by intro e;rw[e]at d;revert d;decide);have j:(io b)[m].label=t.label:=by rw[<-e];rfl
  rw[j,show(t.label.toList==(nm v a).toList)=((nm v a).toList==t.label.toList) from BEq.comm,DT l _ (c.lab f).1.2 a];rfl
theorem vq(a:ByteArray)(j:Nat):du (T++l) a (T.length+j)=du l a j:=by
 unfold du;rw[IY]
theorem Ir(e:dV b)(f:lx b v)(N:List St)(a:List UInt8)(j:Nat)(g:j<N.length)(c:du N (nm v a) j=XL)(d:∀m,m<j->du N (nm v a) m=XM):da (io b++N) (nm v a)=XK ((io b).length+j):=by
 refine Io (by rw[Qa];omega) (by rw[vq];exact c) (fun m i=>?_);by_cases h:m<(io b).length
 ·exact Fw e f N a m h
 ·obtain⟨q,rfl⟩:∃q,m=(io b).length+q:=⟨m-(io b).length,by omega⟩
  rw[vq];exact d q (by omega)
def fW(T z:ByteArray):ByteArray:=T++cq ((10,kw 99) :: xf z)
structure Nb(U lab:ByteArray)(L:List ByteArray)(n:Nat):Prop where
 find:da (aJ U).2.UD lab=XK n
 lines:aX (aJ U).2.UD n=L
def MV(z:ByteArray):ByteArray:=nm z [97]++⟨#[32]⟩++⟨#[36,97]⟩++(⟨#[32]⟩++nm z [113])
theorem FF(d:dV b)(f:lx b v):cS (fW b v)=XM/\(aJ (fW b v)).1=(0,0)/\∃n,Nb (fW b v) (nm v [97]) (N9 b++Pi b++[MV v]) n/\(al (aJ (fW b v)).2.UD n).length=(N9 b).length:=by
 obtain⟨j,p,g,k,l⟩:=Cg b v d f;obtain⟨o,c⟩:=Hb d;have e:(aJ (fW b v)).2.UD.map jh=io b++[⟨4,v++ja [97],[v++ja [113]],[],db,0⟩]:=by
  unfold fW;rw[g];show j.UD.map jh=_;rw[k,QA];rfl
 obtain⟨a,i⟩:=Lx f o c db;refine⟨l,by unfold fW;rw[g],(io b).length,⟨?_,?_⟩,?_⟩
 ·rw[<-Bs,e];exact Ir d f _ [97] 0 (by simp) (by unfold du nm;simp[jl]) (fun m q=>by omega)
 ·rw[<-BU,e,i];rfl
 ·rw[<-vc,e,a];unfold N9;rw[Qh]
def cP(T z:ByteArray):List ByteArray:=N9 T++Pi T++[MV z]
structure Pt(w:XP)(n F g:Nat)(ao:Option Addr)(cap:Nat)(T z:ByteArray):Prop where
 c1:XI w ⟨F,1,XJ⟩=XK (Xz (XK ⟨g,0,XJ⟩) (cP T z).length (cP T z).length)
 c2:XI w ⟨F,2,XJ⟩=XK (Xz ao (N9 T).length cap)
 ls:ej w g (cP T z) (cP T z).length
 F:n<=F/\F<w.heap.size
 g:n<=g
 len:(cP T z).length<=200000000
theorem fQ.down(h:fQ t n o b y4 y5 y0 y1 z2)(c:M<=o):fQ t n M b y4 y5 y0 y1 z2 :=
 ⟨h.bag,⟨Qk c h.new.1,fun k f=>Qk c (h.new.2 k f)⟩,fun e d=>⟨(h.exs e d).1,fun x a=>Qk c ((h.exs e d).2 x a)⟩,h.ess,h.gl.1,fun x a=>⟨(h.gl.2 x a).1,(h.gl.2 x a).2.1,(h.gl.2 x a).2.2.1,Qk c (h.gl.2 x a).2.2.2⟩⟩
theorem fQ.UA{x:Nat}(h:fQ t n o b y4 y5 y0 y1 z2)(k:aa [x] t u)(j:x<o):fQ u n o b y4 y5 y0 y1 z2:=by
 have f:∀y,o<=y->y∉[x]:=fun y a c=>by have:=Qn.1 c;omega
 refine⟨h.bag.kept k (f n h.new.1) (fun y a=>f y (h.new.2 y a)),h.new,fun e g=>⟨?_,(h.exs e g).2⟩,h.ess,?_,fun y a=>⟨PY (h.gl.2 y a).1 k.size,(h.gl.2 y a).2⟩⟩
 ·obtain⟨d,i⟩:=h.exs e g;exact⟨d.view.kept k (fun y a=>f y (i y a)),d.adr,fun y a=>⟨PY (d.far y a).1 k.size,(d.far y a).2⟩⟩
 ·exact h.gl.1.kept k (fun y a=>f y (h.gl.2 y a).2.2.2)
def Og(b x:Nat)(T z:ByteArray)(o:Option Nat)(w:XP)(e:Ending)(w':XP):Prop :=
 (aa [x] w w'/\aR w' b x T o/\∃fs',br w' x fs'/\or 0 fs')/\(e=XH (XD #[XA XJ,XC XL])∨∃F g es hg Hf,e=XH (XD #[XA (XK ⟨F,0,XJ⟩),XC XL])/\fQ w' F w.heap.size (nm z [97]) (Xz (XK ⟨g,0,XJ⟩) (cP T z).length (cP T z).length) (cM (cP T z)) es hg Hf/\ej w' g (cP T z) (cP T z).length/\w.heap.size<=g/\(cM (cP T z)).hyps.length<=200000000)
set_option maxRecDepth 100000
theorem Ja(M:aR c z0 s k z3)(hV:br c s z4)(hM:or 0 z4)(hx:s≠z0)(hT:dV k)(hz:lx k H) :
  XO prog 61 #[XA (XK ⟨z0,0,XJ⟩),Xy H] c fun e f=>Og z0 s k H z3 c e f:=by
 have az:=hT.size;have a1:=M.lt;obtain⟨L,U,-⟩:=M.cells;have a5:=hz.size;have HU:XN _:=Ch k H;obtain⟨l,b,n,hF,B⟩:=FF hT hz;have P:XN _:=hF;have HH:XN _:=B;have I:(fW k H).size=k.size+3*H.size+18:=by
  unfold fW;rw[<-HU.out];simp only[ByteArray.size_append];rw[show(⟨#[10,36,99,32]⟩:ByteArray).size=4 from rfl,show(⟨#[113,32,36,46,32]⟩:ByteArray).size=5 from rfl,show(⟨#[97,32,36,97,32]⟩:ByteArray).size=5 from rfl,show(⟨#[113,32,36,46]⟩:ByteArray).size=4 from rfl];omega
 have HS:XN _:=I;have S:XN (k++cq ((10,kw 99) :: xf H)=fW k H):=rfl;have HZ:XN (H++⟨#[97]⟩=nm H [97]):=rfl;have R:XN _:=b;clear hF B I b;go_enter func61,ntmps61;go_wp2_with fail;rw[HU.out,S.out];by_cases hl:1024<(fW k H).size
 ·refine(tP z0 s k (fW k H) z3 z4 c M hV hx hl (by have:=HS.out;omega)).mono ?_;rintro e K ⟨rfl,a,o,j⟩;simp only[eG];go_wp2;go_ret2;have d:=(aa.refl [] K).alloc (XE #[Xz XJ 0 0,Xx XF 0,Xy ⟨#[]⟩,Xx XF 0,Xx XF 0,Xx XF 3] 87);exact⟨⟨j.trans (d.mono (by simp)),a.Ur d,z4,o.kept d (by simp),hM⟩,P0 rfl⟩
 ·refine(kM (N:=0) (by omega) z0 s k (fW k H) z3 z4 c M hV hx hl hM l).mono ?_;rintro e K ⟨⟨o',rfl,-,-,a,⟨W,o,ac⟩,j⟩,y⟩;have hr:((aJ (fW k H)).1.1==0)=XL:=by rw[R.out];rfl
  obtain⟨X,aq,gg,hR,-,-,av⟩:=y hr;unfold Aj;rw[PZ hr];obtain⟨T,n1,V,E⟩:=fw o' (bu (fW k H)).length;rw[E];simp only[eG];have ok:=(iB (fW k H) (by omega) l).ok;have J:=(jD (fW k H) (by omega)).szs;have D:=jD (fW k H) (by omega);obtain⟨hn,ha,C⟩:=sD P.out.find;have fr:=nk.of D ok n hn ha;obtain⟨u,v⟩:=oY fr;have A:XN (0<(cM (aX (aJ (fW k H)).2.UD n)).goal.length):=by
   have G:=D.UD _ (PT hn);have hk:2<=(aJ (fW k H)).2.UD[n].kind/\(aJ (fW k H)).2.UD[n].kind<=5:=G.kind.resolve_left (by intro e;rw[e]at ha;revert ha;decide);obtain⟨a6,rr,hc,-⟩:=G.code hk;show 0<_;rw[v,hc];simp
  have p:=fun d hk=>zt fr (nm H [97]) C d hk;have ah:XN ((cM (aX (aJ (fW k H)).2.UD n)).hyps.length=(N9 k).length):=by show _=_;rw[u,Qh,HH.out]
  have Z:=mC (aJ (fW k H)).2.UD n;have ag:=ia (aJ (fW k H)).2.UD n;have ai:=ok.len;have ao:(bN (aJ (fW k H)).2.UD n).length<=100000000:=xi _ _ (by have:=mz (aJ (fW k H)).2.UD (al (aJ (fW k H)).2.UD n);omega);have w:(aX (aJ (fW k H)).2.UD n).length<=200000000:=by omega
  have x:0<(aX (aJ (fW k H)).2.UD n).length:=by omega
  have m:XN (∀f,aa [] K f->XO prog 58 #[XA (XK ⟨s,0,XJ⟩),Xy (nm H [97])] f fun e t=>∃g,e=XH (XD #[Xz (XK ⟨g,0,XJ⟩) (aX (aJ (fW k H)).2.UD n).length (aX (aJ (fW k H)).2.UD n).length,Xx XF 0])/\ej t g (aX (aJ (fW k H)).2.UD n) (aX (aJ (fW k H)).2.UD n).length/\f.heap.size<=g/\aa [] f t):=fun f q=>by
   refine(uc s X _ aq gg (nm H [97]) f (hR.Ur q) ok J).mono ?_;rintro e t ⟨k1,h2⟩;rw[P.out.find]at h2;obtain⟨g',h3,h4,h5⟩:=h2;exact⟨g',h3,h4,h5,k1⟩
  have i:XN _:=P.out.lines;have i:XN (aX (aJ (fW k H)).2.UD n=cP k H):=i.out;rw[i.out]at m w x ah A;have p:XN (∀d (h:d<(cP k H).length),pT (nm H [97]) (decide (d+1=(cP k H).length)) (cP k H)[d]):=by
   have:=i.out;show ∀d (h:d<(cP k H).length),_;rw[<-this];exact p
  clear ao ag Z ai u v L U;have O:aa [] K (K.alloc (XE #[Xz T n1 V,Xx XF 0,Xy ⟨#[]⟩,Xx XF 0,Xx XF 0,Xx XF 0] 87)):=(aa.refl [] _).alloc _;have z:=a.Ur O;obtain⟨L,U,-⟩:=z.cells;have Q:XN _:=(uU z0 s (nm H [97]) (cP k H) _ L z.lt x w (fun f q=>m.out f (O.trans q)) p A);have a0:=a.lt;clear L U m;go_wp2_with fail;rw[HZ.out];refine PU Q.out ?_;rintro e w4 ⟨F,gl,es,ad,Hf,rfl,Y,am,⟨a2,-,-⟩,k4⟩;go_wp2;go_ret2;have r:=O.trans k4;have a3:=j.size;have a4:=O.size;have ap:(cM (cP k H)).hyps.length<=200000000:=by have:=Dz (cP k H) (cP k H).length (PQ _);have:=this.hy;unfold cM;omega
  exact⟨⟨j.trans (r.mono (by simp)),a.Ur r,W,o.kept r (by simp),ac⟩,P7 ⟨F,gl,es,ad,Hf,rfl,Y.down (by omega),am,by omega,ap⟩⟩
def Hg(z:ByteArray)(F:Nat)(fl:List ByteArray):Bk:=⟨z,XA (XK ⟨F,0,XJ⟩),⟨#[]⟩,⟨#[]⟩,⟨#[]⟩,fl,[],XM,XM,[],⟨#[]⟩,[],⟨#[]⟩,[],[],[],[],[],XM⟩
theorem KR(h:t.heap[n]?=XK (XE #[Xy b,XA (XK ⟨o,0,XJ⟩),Xy ⟨#[]⟩,Xy ⟨#[]⟩,Xy ⟨#[]⟩,Xz XJ 0 0,Xz XJ 0 0,XC XM,XC XM,Xz XJ 0 0,Xy ⟨#[]⟩,Xz XJ 0 0,Xy ⟨#[]⟩,Xz XJ 0 0,Xz XJ 0 0,Xz XJ 0 0,Xz XJ 0 0,Xz XJ 0 0,XC XM] 78)):mN t n (Hg b o []) fh:=by
 refine⟨h,fun i=>?_,fun i j _=>P0 rfl,fun i e=>by simp[fh,Hd.blk]at e⟩;rcases i with _|_|_|_|_|_|_|_|_|i <;> exact Qj _ _ _ _
theorem Hh:∀j,j≠0->nz (Hg H y3 L) j=nz (Hg H y3 g) j:=fun j a=>by
 have:=yn (Hg H y3 g) L ⟨#[]⟩ j a;exact this
theorem aB.UB{l:List XQ}{a rows':Nat->fe}(h:aB t n o l a z2)(c i:Nat)(b:Hd)(r:aE u b (rows' i))(g:fZ t u (z2 i) b)(d:∀j,j≠i->rows' j=a j)(f:XQ) :
  aB (u.setCell ⟨n,c,XJ⟩ f) n o (l.set c f) rows' (cX z2 i b)/\aj n t z2 (u.setCell ⟨n,c,XJ⟩ f) (cX z2 i b) :=
 h.put c i b r ⟨g.kept.os,g.kept.tape,g.kept.output,g.kept.size,fun k m q=>g.kept.block k m (fun p=>q (pd p).symm)⟩ (by
  rcases g.blk with e | e
  ·exact P7 (P0 e)
  ·exact P7 (P7 e)) d f
def M7(b x:Nat)(T:ByteArray)(o:Option Nat)(w:XP)(e:Ending)(w':XP):Prop :=
 (aa [x] w w'/\aR w' b x T o/\∃fs',br w' x fs'/\or 0 fs')/\(e=XH (XD #[XA XJ,XC XL])∨∃n B H F g es hg Hf,(n<=1024/\¬qF T (zF n))/\e=XH (XD #[XA (XK ⟨B,0,XJ⟩),XC XL])/\mN w' B (Hg (zF n) F (cM (cP T (zF n))).hyps) H/\(w.heap.size<=B/\∀y,cD H y->w.heap.size<=y)/\fQ w' F w.heap.size (nm (zF n) [97]) (Xz (XK ⟨g,0,XJ⟩) (cP T (zF n)).length (cP T (zF n)).length) (cM (cP T (zF n))) es hg Hf/\ej w' g (cP T (zF n)) (cP T (zF n)).length/\w.heap.size<=g/\(cM (cP T (zF n))).hyps.length<=200000000)
theorem KP{B F g:Nat}{z:Option Nat}{v m:XP}{f:Option Addr}{d:Nat}(D:M<=1024)(r:¬qF b (zF M))(C:aa [o] t u/\aR u n o b z/\∃j,br u o j/\or 0 j)(l:fQ u F t.heap.size (nm (zF M) [97]) (Xz (XK ⟨g,0,XJ⟩) (cP b (zF M)).length (cP b (zF M)).length) (cM (cP b (zF M))) y0 y1 z2/\ej u g (cP b (zF M)) (cP b (zF M)).length/\t.heap.size<=g)(q:t.heap.size<=B)(I:u.heap.size=B)(k:aa [] u v)(p:aB m B 78 ((Bb (Hg (zF M) F []) fh).set 5 (Xz f a.length d)) (nz (Hg (zF M) F a)) (cX fh 0 ⟨f,d⟩)/\aj B v fh m (cX fh 0 ⟨f,d⟩))(w:(cM (cP b (zF M))).hyps=a)(s:a.length<=200000000):M7 n o b z t (XH (XD #[XA (XK ⟨B,0,XJ⟩),XC XL])) m:=by
 have x:∀y,¬cD fh y:=by rintro y ⟨i,e⟩;simp[fh,Hd.blk]at e
 have K:aa [] u m:=k.turned p.2 (by omega) (fun y a=>absurd a (x y));obtain⟨A,E,j,G,H⟩:=C;refine⟨⟨A.trans (K.mono (by simp)),E.Ur K,j,G.kept K (by simp),H⟩,P7 ⟨M,B,cX fh 0 ⟨f,d⟩,F,g,y0,y1,z2,⟨D,r⟩,rfl,?_,⟨q,fun y a=>?_⟩,l.1.Ur K,l.2.1.kept K (by simp),l.2.2,by rw[w];exact s⟩⟩
 ·rw[w];exact p.1
 ·rcases p.2.2 y a with c | c
  ·exact absurd c (x y)
  ·have:=k.size;have:=A.size;omega
theorem Ez(hW:aR c z0 s H z3)(hV:br c s z4)(hM:or 0 z4)(hx:s≠z0)(hT:dV H) :
  XO prog 22 #[XA (XK ⟨z0,0,XJ⟩)] c fun e w'=>M7 z0 s H z3 c e w':=by
 obtain⟨iS,V,x,y,z⟩:=Qq ey;have I:XN _:=E0 z0 s H z3 c hW hT;go_enter func22,ntmps22;go_upto_region 2 with (go_at_call 60;refine PU I.out ?_;rintro e w1 ⟨n,hn,rfl,v,X⟩)
 have L:XN _:=(Ja z0 s H (zF n) z3 z4 w1 (hW.Ur X) (hV.kept X (by simp)) hM hx hT (Ko H n hn v));have P:XN _:=X;go_wp2_with fail;refine PU L.out ?_;rintro e b ⟨⟨k2,W2,S,V2,M2⟩,hc⟩;have D:XN (aa [s] c b/\aR b z0 s H z3/\∃t,br b s t/\or 0 t):=⟨(P.out.mono (by simp)).trans k2,W2,S,V2,M2⟩
 rcases hc with rfl | ⟨F,g,es,hg,d,rfl,C,hl,U,w⟩
 ·go_wp2;go_ret2;exact⟨D.out,P0 rfl⟩
 ·obtain⟨W,N⟩:∃W,XN (b.alloc (XE #[Xy (zF n),XA (XK ⟨F,0,XJ⟩),Xy ⟨#[]⟩,Xy ⟨#[]⟩,Xy ⟨#[]⟩,Xz XJ 0 0,Xz XJ 0 0,XC XM,XC XM,Xz XJ 0 0,Xy ⟨#[]⟩,Xz XJ 0 0,Xy ⟨#[]⟩,Xz XJ 0 0,Xz XJ 0 0,Xz XJ 0 0,Xz XJ 0 0,Xz XJ 0 0,XC XM] 78)=W):=⟨_,rfl⟩
  have kW:aa [] b W:=by rw[<-N.out];exact(aa.refl [] _).alloc _
  have p:mN W b.heap.size (Hg (zF n) F []) fh:=KR (by rw[<-N.out];exact PM _ _);have f:=C.Ur kW;obtain⟨B,q⟩:∃B,XN (b.heap.size=B):=⟨_,rfl⟩
  rw[q.out]at p;have z5:XI W ⟨B,5,XJ⟩=XK (Xz XJ 0 0):=by rw[p.cell];rfl
  have y2:XI W ⟨F,2,XJ⟩=XK (Xz (d 0).ao (cM (cP H (zF n))).hyps.length (d 0).cap):=by rw[f.bag.cell];rfl
  have ac:=p.lt;have ah:=f.bag.lt;have ai:∀i,W.frozen? ⟨B,i,XJ⟩=XM:=fun i=>p.free i;have ag:F≠B:=by have:=C.bag.lt;have:=q.out;omega
  obtain⟨a,O⟩:∃a,XN ((cM (cP H (zF n))).hyps=a):=⟨_,rfl⟩
  have Y:aE W (d 0) (au a):=by rw[<-O.out];exact f.bag.own 0
  rw[O.out]at y2 w;have HN:XN ((d 0).ao=XJ->a.length=0/\(d 0).cap=0):=fun e=>by
   rcases Y.UC with ⟨e0,h0,-⟩ | ⟨gg,R,o,-⟩
   ·exact⟨h0,by rw[e0]⟩
   ·rw[o]at e;cases e
  have HC:XN (∀Q,(d 0).ao=XK Q->∀j u,(strs a)[j]?=XK u->W.drew.cell? (Q.add j)=XK u):=fun Q e j u hj=>by
   have o1:=Y.Ur (aa.refl [] W).drew;rcases o1.UC with ⟨o,-,-⟩ | ⟨gg,R,o,-⟩
   ·rw[o]at e;cases e
   ·rw[o]at e;cases e
    rw[ba];exact o1.cell o j u hj
  have A:XN _:=aB.Ur p (aa.refl [] W).drew;have K:XN (aE W.drew (⟨XJ,0⟩:Hd) (au [])):=Qj _ _ _ _;have M:XN (∀h:Nat,(⟨(au []).e,(au []).size,(au []).n+a.length,(au []).xs++strs a⟩:fe)=au a):=fun _=>by simp[au,strs]
  have HZ:XN ((au []).n+a.length=a.length):=by show _=_;simp[au]
  have G:XN (fQ b F c.heap.size (nm (zF n) [97]) (Xz (XK ⟨g,0,XJ⟩) (cP H (zF n)).length (cP H (zF n)).length) (cM (cP H (zF n))) es hg d/\ej b g (cP H (zF n)) (cP H (zF n)).length/\c.heap.size<=g):=⟨C.down P.out.size,hl,Qk P.out.size U⟩;have E:XN (c.heap.size<=B):=by show _<=B;have:=q.out;have:=D.out.1.size;omega
  have J:XN (aa [] b W.drew):=kW.drew;have T:=A.out.lt;clear p f Y C hl W2 V2 M2 k2;go_upto_region 6 with fail
  rw[N.out,q.out];go_region_law (refine tR rfl (.tmp 27) (.tmp 31) 22 rfl iS (Xy ⟨#[]⟩) 16 ⟨XJ,0⟩ (au []) underlying22 V x y z rfl Qf (by simp[Act.eval] <;> rfl) K.out (d 0).ao a.length (d 0).cap (strs a) (by simp[Act.eval]) (by simp[au,strs]) HN.out HC.out (ij a) (by simp only[au];show 0+_<=_;omega) (by omega) ?_;intro r k w5 m l;rw[M.out 0]at m;rw[HZ.out];have HP:XN _:=aB.UB A.out (rows':=nz (Hg (zF n) F a)) 5 0 ⟨r,k⟩ m l (Hh _ _ _ _) (Xz r a.length k);have Z:=l.kept.block B T (by simp[Hd.blk]);have c5:XI w5 ⟨B,5,XJ⟩=XK (Xz XJ 0 0):=(Qy Z).trans (A.out.cell 5);have f5:∀i,w5.frozen? ⟨B,i,XJ⟩=XM:=fun i=>aw (Z.trans A.out.blk) i;clear m l Z)
  all_goals go_wp2
  all_goals go_ret2
  all_goals exact KP hn v D.out G.out E.out q.out J.out HP.out O.out w
section
variable {d:Db} {P:ByteArray->Prop}
theorem iE(a:w[n]?=XK D):bZ w n o=XL ↔ n<o/\(D.til=0∨o<D.til):=by
 unfold bZ;rw[a];simp
theorem vb(V:Vr d)(a:n<o)(e:d.UD[n]?=XK D)(b:d.UD[o]?=XK z7)(i:jl z7.kind=XM)(f:D.til=0∨o<D.til)(g:bZ d.UD o M=XL):bZ d.UD n M=XL:=by
 rw[iE b]at g;rw[iE e];refine⟨by omega,?_⟩;by_cases c:D.til=0
 ·exact P0 c
 ·have:=V.nest n o D z7 a e b i c (f.resolve_left c);omega
theorem gz:o∈al w n ↔ ∃s,w[o]?=XK s/\bZ w o n=XL/\((s.kind=2/\ak s∈bX w n)∨s.kind=3):=by
 unfold al cI;rw[QL,Qe];constructor
 ·rintro ⟨d,a⟩;unfold d9 at a;rw[PJ d]at a;simp only[Bool.and_eq_true]at a;refine⟨w[o],PJ d,a.1,?_⟩;have b:=a.2;unfold jp at b;split at b
  ·next c=>exact P0 ⟨by simpa using c,(gj _ _).1 b⟩
  ·exact P7 (by simpa using b)
 ·rintro ⟨s,e,f,g⟩;refine⟨(Qc.1 e).1,?_⟩;unfold d9;rw[e];simp only[Bool.and_eq_true];refine⟨f,?_⟩;unfold jp;rcases g with ⟨k,m⟩ | k
  ·rw[PZ (by rw[k];rfl)];exact(gj _ _).2 m
  ·rw[PV (by rw[k];decide),k];rfl
theorem mo:b∈bX w n ↔ b∈symsAt w n∨∃(h:Nat) (s:St),w[h]?=XK s/\s.kind=3/\bZ w h n=XL/\b∈s.Um:=by
 unfold bX dg;rw[Qo,RI];refine or_congr Iff.rfl ⟨?_,?_⟩
 ·rintro ⟨h,c,d⟩;rw[QL,Qe]at c;have a:=c.2;unfold jM at a;unfold symsAt at d;rw[PJ c.1]at a d;simp only[Bool.and_eq_true]at a;exact⟨h,w[h],PJ c.1,by simpa using a.1,a.2,d⟩
 ·rintro ⟨h,s,e,g,f,i⟩;refine⟨h,?_,by unfold symsAt;rw[e];exact i⟩;rw[QL,Qe];refine⟨(Qc.1 e).1,?_⟩;unfold jM;rw[e];simp[g,f]
theorem nF(h:w[n]?=XK D):w.getD n dJ=D:=by rw[PK,h];rfl
theorem mp(N:Nm P d)(i:d.UD[n]?=XK D)(b:D.kind=2):D.Um=[ax D,ak D]/\ak D=AI D/\ax D∈d.Uo:=by
 have o:=N.UD D (Qp i);have a:=o.two b;obtain⟨c,r,e,g⟩:=o.code (by omega);obtain⟨v,rfl⟩:∃v,r=[v]:=by
  rw[e]at a
  match r,a with
  | [v],_=>exact⟨v,rfl⟩
 have t:ax D=c:=by unfold ax;rw[e];rfl
 have j:AI D=v:=by unfold AI;rw[e];rfl
 have f:ak D=AI D:=by unfold ak AI;rw[PZ ⟨by rw[b];rfl,by omega⟩]
 exact⟨by rw[f,j,t,e],f,by rw[t];exact(gj _ _).1 g⟩
theorem wY:b∈eQ w n ↔ ∃(a:Nat) (s:St),w[a]?=XK s/\bZ w a n=XL/\s.kind=2/\ak s=b/\b∈bX w n:=by
 unfold eQ jR;rw[Rq];constructor
 ·rintro ⟨a,g,e⟩;obtain⟨s,c,f,d⟩:=gz.1 g;rw[nF c]at e;rcases d with ⟨k,m⟩ | k
  ·rw[k,PV (by decide)]at e;have e:=Qz e;exact⟨a,s,c,f,k,e,e ▸ m⟩
  ·rw[k,PZ (by decide)]at e;cases e
 ·rintro ⟨a,s,c,f,d,e,m⟩;refine⟨a,gz.2 ⟨s,c,f,P0 ⟨d,e ▸ m⟩⟩,?_⟩;rw[nF c,d,PV (by decide),e]
theorem MQ(N:Nm P d)(V:Vr d)(e:fE d.UD n=XL)(c:OX d.UD n b):b∈d.Uo∨b∈eQ d.UD n:=by
 have f:∀{m:Nat} {s:St},d.UD[m]?=XK s->3<=s.kind->b∈s.Um->(m=n∨(jl s.kind=XM/\bZ d.UD m n=XL))->b∈bX d.UD n->b∈d.Uo∨b∈eQ d.UD n:=by
  intro m s a q p x l;have o:=N.UD s (Qp a);have w:=o.kind;rcases V.st m s a (by omega) b p with h | ⟨-,h⟩
  ·exact P0 h
  ·obtain⟨k,u,r,g,t,y,v⟩:=h (by omega);refine P7 (wY.2 ⟨k,u,g,?_,t,?_,l⟩)
   ·rcases x with rfl | ⟨e,i⟩
    ·exact(iE g).2 ⟨r,v⟩
    ·exact vb V r g a e v i
   ·rw[(mp N g t).2.1];exact y
 rcases c with c | ⟨h,i,c⟩
 ·unfold fE at e;cases a:d.UD[n]? with
  | none=>rw[a]at e;cases e
  | some s =>
   rw[a]at e;simp only at e;rw[nF a]at c;have k:s.kind=4∨s.kind=5:=by unfold jl at e;simpa using e
   exact f a (by omega) c (P0 rfl) (mo.2 (P0 (by unfold symsAt;rw[a];exact c)))
 ·obtain⟨s,a,j,q⟩:=gz.1 i;rw[nF a]at c;rcases q with ⟨k,m⟩ | k
  ·obtain⟨z,B,A⟩:=mp N a k;rw[z]at c;simp only[List.mem_cons,List.not_mem_nil,or_false]at c;rcases c with rfl | rfl
   ·exact P0 A
   ·exact P7 (wY.2 ⟨h,s,a,j,k,rfl,m⟩)
  ·exact f a (by omega) c (P7 ⟨by rw[k];rfl,j⟩) (mo.2 (P7 ⟨h,s,a,k,j,c⟩))
theorem Nr(N:Nm P d)(V:Vr d)(b:d.UD[n]?=XK D)(a:D.kind=2):ak D∈d.Up:=by
 rw[(mp N b a).2.1];exact V.fl n D b a
theorem wZ(N:Nm P d)(V:Vr d)(h:b∈eQ d.UD n):b∈d.Up:=by
 obtain⟨e,s,c,-,a,rfl,-⟩:=wY.1 h;exact Nr N V c a
theorem Np(N:Nm P d)(V:Vr d)(a:d.UD[o]?=XK D)(b:d.UD[M]?=XK z7)(f:D.kind=2)(g:z7.kind=2)(i:bZ d.UD o n=XL)(j:bZ d.UD M n=XL)(e:ak D=ak z7):o=M:=by
 rw[(mp N a f).2.1,(mp N b g).2.1]at e;rw[iE a]at i;rw[iE b]at j;rcases Sc o M with c | c | c
 ·exact absurd e (V.ds o M D z7 a b f g c (by omega))
 ·exact c
 ·exact absurd e.symm (V.ds M o z7 D b a g f c (by omega))
theorem nG:(al l f).Pairwise (· < ·):=by
 unfold al cI;exact List.pairwise_lt_range.filter _
theorem G7(N:Nm P d)(V:Vr d)(q:fE d.UD n=XL):N5 d.UD n:=by
 have p:∀{m:Nat} {s:St},d.UD[m]?=XK s->2<=s.kind/\s.kind<=5->s.Um≠[]/\aZ (eQ d.UD n) (ax s)=XJ:=by
  intro m s a f;obtain⟨c,r,e,T⟩:=(N.UD s (Qp a)).code f;refine⟨by rw[e];simp,?_⟩;have t:ax s=c:=by unfold ax;rw[e];rfl
  rw[t,dU];intro l;exact V.cv c ((gj _ _).1 T) (wZ N V l)
 have b:∀h∈al d.UD n,∃s,d.UD[h]?=XK s/\bZ d.UD h n=XL/\(s.kind=2∨s.kind=3):=fun h g=>by
  obtain⟨s,a,v,f⟩:=gz.1 g;exact⟨s,a,v,f.imp (·.1) id⟩
 obtain⟨sa,o,Y⟩:∃s,d.UD[n]?=XK s/\(s.kind=4∨s.kind=5):=by
  unfold fE at q;cases a:d.UD[n]? with
  | none=>rw[a]at q;cases q
  | some s=>rw[a]at q;exact⟨s,rfl,by unfold jl at q;simpa using q⟩
 have own:=p o (by omega);refine⟨⟨?_,?_,?_,?_,?_⟩,by rw[nF o];exact own.1,by rw[nF o];exact own.2⟩
 ·intro h g w;obtain⟨s,a,-,f⟩:=b h g;rw[nF a]at w ⊢;have D:s.kind=2:=f.resolve_right (fun e=>by rw[e]at w;cases w);exact(mp N a D).1
 ·intro h g;obtain⟨s,a,-,f⟩:=b h g;rw[nF a];exact(p a (by omega)).1
 ·intro h g;obtain⟨s,a,-,f⟩:=b h g;rw[nF a];exact(p a (by omega)).2
 ·unfold jR List.Nodup;rw[List.pairwise_filterMap];refine(nG d.UD n).imp_of_mem ?_;intro i j U X W x A y B H;obtain⟨s,a,v,f⟩:=b i U;obtain⟨u,L,l,Z⟩:=b j X;rw[nF a]at A;rw[nF L]at B;have M:s.kind=2:=f.resolve_right (fun e=>by rw[e,PZ (by decide)]at A;cases A);have D:u.kind=2:=Z.resolve_right (fun e=>by rw[e,PZ (by decide)]at B;cases B);rw[M,PV (by decide)]at A;rw[D,PV (by decide)]at B;have:=Np N V a L M D v l (by rw[Qz A,Qz B,H]);omega
 ·intro S h bs e w x G K;have g:h∈al d.UD n:=by rw[e];simp
  obtain⟨s,a,v,f⟩:=b h g;rw[nF a]at w G;have C:s.kind=3:=by simpa using w
  rw[dU];intro l;have F:x∈eQ d.UD n:=by
   unfold eQ;rw[e];unfold jR at l ⊢;rw[Q0,QO];rw[Qo]
   right
   split
   ·exact l
   ·exact Qv _ l
  rcases V.st h s a (by omega) x G with c | ⟨-,c⟩
  ·exact V.cv x c (wZ N V F)
  ·obtain⟨k,u,q1,E,J,q4,q5⟩:=c (by omega);have qh:=vb V q1 E a (by rw[C];rfl) q5 v;have R:ak u=x:=(by rw[(mp N E J).2.1];exact q4);have Q:k∈al d.UD n:=gz.2 ⟨u,E,qh,P0 ⟨J,by rw[R];exact mo.2 (P7 ⟨h,s,a,C,v,G⟩)⟩⟩;have O:=nG d.UD n;rw[e]at Q O;have I:k∈S:=by
    rcases Qo.1 Q with z | z
    ·exact z
    ·rcases Q5.1 z with z | z
     ·omega
     ·have:=(List.pairwise_cons.1 (List.pairwise_append.1 O).2.1).1 k z;omega
   rw[dU]at K;apply K;unfold jR;rw[Rq];exact⟨k,I,by rw[nF E,J,PV (by decide),R]⟩
end
end Go.Proofs.YtnbalopedcgpcaaGreat
